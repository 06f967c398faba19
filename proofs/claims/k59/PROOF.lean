import PyProof.Rows.All
import Wide.All
import OpenK.AllK
import Wide.FinOn
import HandS.ForMost
import HandS.SortRule
import HandS.Deep
import HandS.DictTup
import HandS.Small
import HandS.MakeKwOnly
import HandS.IsInst
import HandS.FStr
import HandS.OwnEq
import HandS.Property
import HandS.Lambda
import HandS.Exc
import HandS.TryOnly
import KE.KTryMore
import HandS.ExcIs
import HandS.ExcField
import HandS.CallRecv
import KE.KExcIs
import KE.SortData
import HandS.Walk
import HandS.RaiseMore
import HandS.Conv
import PyProof.InstNe
import OpenK.KOwn
import PyProof.Rows.TmSorted
import HandS.SortInts
import HandS.Style
import HandS.More
import HandS.SetBool
import HandS.SetTxt0
import HandS.Comp
import HandS.TupSets
import HandS.SetFor
import HandS.Strs
import HandS.ExcInit
import KE.KExcInit
import PyProof.ExcBaseAll.ArithmeticError
import KE.DataEq
import KE.KNestM
import HandS.EndTab
import HandS.MakeKw
import KE.KCallOwn
import OpenK.KOps
import HandS.List
import PyProof.SliceSyntax
import HandS.HotCalls
import HandS.ExcOwn
import PyProof.SeqRoads2
import PySem.Challenge.RW_whichhouse_k59_whole_visits
set_option Elab.async false
set_option linter.all false
set_option maxRecDepth 100000
set_option maxHeartbeats 2000000
namespace Wh
open PySem L2
/-! ### heaps -/
/-- all that was tracked is as it was, but what stands at c -/
def But (c : Addr) (H H' : Hp) : Prop := ∀ b o, H b = some o → b ≠ c → H' b = some o
theorem But.refl (c : Addr) (H : Hp) : But c H H := fun _ _ h _ => h
theorem But.trans {c : Addr} {H H1 H2 : Hp} (a : But c H H1) (b : But c H1 H2) : But c H H2 := fun d o h n => b d o (a d o h n) n
theorem _root_.L2.Same.but {c : Addr} {H H' : Hp} (a : Same H H') : But c H H' := fun d o h _ => a d o h
theorem same_upd {H : Hp} {p : Addr} {o : HO} (h : H p = none) : Same H (upd H p o) := fun b x e => by
  rw [upd_ne (ne_of_none e h)]
  exact e
theorem _root_.L2.Same.put {H H' : Hp} {p : Addr} {o : HO} (s : Same H H') (h : H' p = none) : Same H (upd H' p o) := Same.trans s (same_upd h)
/-- an object of one's own, new since H, is written again -/
theorem _root_.L2.Same.own {H H' : Hp} {p : Addr} {o : HO} (s : Same H H') (h : H p = none) : Same H (upd H' p o) := fun b x e => by
  rw [upd_ne (ne_of_none e h)]
  exact s b x e
theorem But.put {c : Addr} {H H' : Hp} {p : Addr} {o : HO} (a : But c H H') (h : H' p = none) : But c H (upd H' p o) := fun d x e n => same_upd h d x (a d x e n)
theorem But.own {c : Addr} {H H' : Hp} {p : Addr} {o : HO} (a : But c H H') (h : H p = none) : But c H (upd H' p o) := fun d x e n => by
  rw [upd_ne (ne_of_none e h)]
  exact a d x e n
theorem But.at {c : Addr} {H H' : Hp} {o : HO} (a : But c H H') : But c H (upd H' c o) := fun d x e n => by
  rw [upd_ne n]
  exact a d x e n
theorem put_ne {H : Hp} {b c : Addr} {o u : HO} (e : H b = some o) (n : b ≠ c) : upd H c u b = some o := (upd_ne n).trans e
/-- what was there stands when a new object is laid -/
theorem put_old {H : Hp} {b p : Addr} {o u : HO} (e : H b = some o) (h : H p = none) : upd H p u b = some o := put_ne e (ne_of_none e h)
theorem ne_new {H : Hp} {c p : Addr} {o : HO} (h : upd H c o p = none) : c ≠ p := fun e => by
  rw [← e, upd_same] at h
  cases h
theorem new_of {H : Hp} {c p : Addr} {o : HO} (h : upd H c o p = none) : H p = none := (upd_ne (ne_new h).symm).symm.trans h
theorem _root_.L2.Room.u65 {k : Nat} {A : Around} (r : Room k A) : A.units + 65 < cLine := by
  have := r.un
  omega
/-- a cup: two ints -/
def Cup (H : Hp) (c : Addr) : Prop := ∃ (a : Int) (b : Int × Int), H c = some (.lst [.int a, .int b.1, .int b.2])
theorem Cup.same {H H' : Hp} {c : Addr} (h : Cup H c) (s : Same H H') : Cup H' c := by
  obtain ⟨a, b, e⟩ := h
  exact ⟨a, b, s _ _ e⟩
theorem Cup.put {H : Hp} {c p : Addr} {o : HO} (h : Cup H c) (n : H p = none) : Cup (upd H p o) c := h.same (same_upd n)
theorem Cup.ne {H : Hp} {c p : Addr} (h : Cup H c) (n : H p = none) : c ≠ p := by
  obtain ⟨a, b, e⟩ := h
  exact ne_of_none e n
/-! ### the ways of an expression are joined -/
def tMid (t : TE) : TE := fun σ H Q => ∃ Q0 : VK, t σ H Q0 ∧ ∀ x H1, Q0 x H1 → Q x H1
theorem pe_mid {X : Cx} {e : Expr} {t : TE} (h : PE X e t) : PE X e (tMid t) := ⟨fun pins s σ H Q I ⟨Q0, h0, hk⟩ =>
  thn (h.run pins s σ H Q0 I h0) fun _ _ ⟨v, H1, I1, r1, q1⟩ => ⟨v, H1, I1, r1, hk v H1 q1⟩⟩
/-! ### f-strings, their reading by a name -/
def tFs (ts : List TE) : TE := fun σ H Q => tJs ts Str.empty σ H fun out H1 => Q (.str out) H1
theorem pe_fs {X : Cx} {v1 v2 : Expr} {rest : List Expr} {ts : List TE} {pos : Pos} (h : PJ X (v1 :: v2 :: rest) ts) : PE X (.JoinedStr (v1 :: v2 :: rest) pos) (tFs ts) := pe_joined h
/-! ### rules over the written part by its name (within comprehensions of comprehensions) -/
section
variable {X : Cx}
theorem ix_listK (K : PySem.W.Frag) (h : X.K = K) : IxR X (rIxL K) := h ▸ ix_list
theorem ix_tupK (K : PySem.W.Frag) (h : X.K = K) : IxR X (rIxT K) := h ▸ ix_tup
theorem op_notInK (K : PySem.W.Frag) (h : X.K = K) : OpR X (compareOp .NotIn) (rIn K true) := h ▸ op_notIn_seq
theorem op_inK (K : PySem.W.Frag) (h : X.K = K) : OpR X (compareOp .In) (rIn K false) := h ▸ op_in_seq
def rJoin (K : PySem.W.Frag) : V → List V → Hp → VK → Prop := fun x xs H Q => ∃ a p, ∃ ys : List Str, x = .str a ∧ xs = [.ref p] ∧ (SqL K H p (ys.map V.str) ∨ SqT K H p (ys.map V.str)) ∧
    (ys.map (·.length)).sum + ys.length * a.length ≤ 16777216 ∧ Q (.str (Txt.join a ys)) H
theorem mt_joinK (K : PySem.W.Frag) (h : X.K = K) : MtR X "str.join" (rJoin K) := h ▸ mt_join
theorem pe_joinK (K : PySem.W.Frag) (h : X.K = K) {o e : Expr} {to te : TE} {apos pos : Pos} (ho : PE X o to) (he : PE X e te) (hs : starEach [e] X.env = [(false, eval e X.env)] := by rfl) (hbase : attributeBase o "join" X.env (eval o X.env) = eval o X.env := by rfl) (hline : (apos.endLine == pos.line) = true := by rfl) :
    PE X (.Call (.Attribute o "join" apos) [e] [] pos) (tM1 (rJoin K) to te) := pe_m1 PySem.F.slot_str_join PySem.F.type_str_join (mt_joinK K h) ho he hs hbase hline
theorem pg_tupK (K : PySem.W.Frag) (n : Nat) (hK : X.K = K) {es : List Expr} {k : Nat} {t : TGs} {pos : Pos} (hc : X.calm = true) (h : PGs X es t)
    (hn : (assignEach es X.env).length = n := by rfl) (hst : (assignEach es X.env).findIdx? (·.1) = none := by rfl) : PG X (.Tuple es k pos) (gTup K n t) := hK ▸ pg_tup hc h hn hst
theorem pi_listK (K : PySem.W.Frag) (h : X.K = K) {tg l : Expr} {tl : TE} (hl : PE X l tl) : PI X tg l (iList K tl) := h ▸ pi_list hl
theorem pi_tupK (K : PySem.W.Frag) (h : X.K = K) {tg l : Expr} {tl : TE} (hl : PE X l tl) : PI X tg l (iTup K tl) := h ▸ pi_tup hl
theorem sl_listK (K : PySem.W.Frag) (h : X.K = K) : SlR X (rSlL K) := h ▸ sl_list
end
end Wh

namespace Wh
open PySem PySem.Spec PyProof.Rows L2
/-! ### a first except clause with any test that says yes, and a name -/
/-- what stands stays: an error in flight stays so when objects are added -/
theorem fly_add {B h h' : Heap} {l : List Env} {e : Addr} {Z : Obj → Prop} (R : HandSPX.FlyingZ B l e Z h) (add : ∀ b o, h.get? b = some o → h'.get? b = some o) : HandSPX.FlyingZ B l e Z h' := by
  rcases R with ⟨keep, fresh, frames, oe, ws, tr, otr, trs, at_, isZ, fields, noctx, ne1, ne2, trAt, trFields, nofl⟩
  refine ⟨fun b o q => add b o (keep b o q), fresh, ?_, oe, ws, tr, otr, trs, add _ _ at_, isZ, fields, noctx, ne1, ne2, add _ _ trAt, trFields, nofl⟩
  exact frames.of_keeps fun b o q _ => ⟨o, add b o q, rfl⟩
/-- the test, asked while the error stands at a: it makes new objects at most, and says yes to errors of the classes that `yes` names -/
def Asks (X : Cx) (test : Expr) (yes : Value → Prop) : Prop := ∀ (a : Addr) (oe : Obj) (cls : Value) (pn pins : List (Addr × Obj)) (σ : L2.St) (H : Hp) (s : Shared), L2.Inv (X.suite a ((a, oe) :: pn)) pins σ H s → s.heap.get? a = some oe → oe.cls = cls → yes cls →
  ∀ {Q : Value → Shared → Prop} {E : Value → Shared → Prop}, (∀ (v : Value) (h' : Heap), (∀ b o, s.heap.get? b = some o → h'.get? b = some o) → PySem.W.Looks (model X.prog X.w) h' (excMatches (.ref a) v) true → Q v { s with heap := h' }) →
    wpAny (model X.prog X.w) (X.A.mark (some (.ref a))) (eval test X.env) Q E s
/-- the ends of a suite that holds an error by a name in slot i: behind it the slot is empty -/
def letGo (i : Nat) (D : Ends) : Ends where
  nx := fun τ G => D.nx (τ.set i none) G
  rt := D.rt
  bk := fun τ G => D.bk (τ.set i none) G
  ct := fun τ G => D.ct (τ.set i none) G
def wWhen (N : Nat) (yes : Value → Prop) (i : Nat) (ts : Addr → Value → Option Addr → TS) (D : Ends) : WX := fun cls d σ H => yes cls ∧ (σ.length = N → ∀ a, H a = none → ts a cls d (letGo i D) (σ.set i (some (.ref a))) H)
section
variable {X : Cx}
/-- an end of the tried body is an end of the whole -/
theorem sp_tried {pn : List (Addr × Obj)} {pins : List (Addr × Obj)} {xe : Value → Shared → Prop} {D : Ends} {f : Flow} {s : Shared} (ok : X.Ok) (q : SP (X.tr (pn ++ pins) xe) [] D f s) (e : pn = X.pn) : SP X pins D f s := by
  subst e
  match f, q with
  | .next, ⟨τ, G, J, z⟩ => exact ⟨τ, G, J.ofTry ok, z⟩
  | .brk, ⟨τ, G, J, z⟩ => exact ⟨τ, G, J.ofTry ok, z⟩
  | .cont, ⟨τ, G, J, z⟩ => exact ⟨τ, G, J.ofTry ok, z⟩
  | .ret _, ⟨v, τ, G, J, r, z⟩ => exact ⟨v, τ, G, J.ofTry ok, r, z⟩
/-- behind the suite its name goes -/
theorem sp_named {n : Str} {i : Nat} {a : Addr} {oe : Obj} {pins : List (Addr × Obj)} {p : Pos} {D : Ends} {f : Flow} {s : Shared} (ok : X.Ok) (nd : X.N.Nodup) (at_ : X.N[i]? = some n) (loc : X.env.kindOf n = some .local)
    (q : SP (X.suite a ((a, oe) :: (X.pn ++ pins))) [] (letGo i D) f s) : wpAny (model X.prog X.w) X.A (do bindName X.env n .none; unbindBehindTheSuite X.env n p) (fun _ s' => SP X pins D f s') X.xe s := by
  match f, q with
  | .next, ⟨τ, G, J, z⟩ => exact gone_ok (J.unsuite ok) nd at_ loc fun _ I => ⟨_, G, I, z⟩
  | .brk, ⟨τ, G, J, z⟩ => exact gone_ok (J.unsuite ok) nd at_ loc fun _ I => ⟨_, G, I, z⟩
  | .cont, ⟨τ, G, J, z⟩ => exact gone_ok (J.unsuite ok) nd at_ loc fun _ I => ⟨_, G, I, z⟩
  | .ret _, ⟨v, τ, G, J, r, z⟩ => exact gone_ok (J.unsuite ok) nd at_ loc fun _ I => ⟨v, _, G, I, r, z⟩
/-- an error's object is no frame -/
theorem err_noframe {B h : Heap} {l : List Env} {a : Addr} {o : Obj} {vs : Array Value} (fr : h.FunFrames B l) (at_ : h.get? a = some o) (fields : o.data = .fields vs) : a ∉ frs l := fun m => by
  obtain ⟨_, u, eu, no⟩ := fr.mem m
  cases at_.symm.trans eu
  exact no _ fields
theorem ps_try_when {test : Expr} {yes : Value → Prop} {n : Str} {i : Nat} {body suite : List Stmt} {b₀ : Stmt} {p p' : Pos} {rest : List ExceptHandler} {tb : WX → TS} {ts : Addr → Value → Option Addr → TS}
    (stk : X.stack = X.env :: X.outer) (frm : X.env.frame = some X.env.locals) (nd : X.N.Nodup) (at_ : X.N[i]? = some n) (loc : X.env.kindOf n = some .local) (ask : Asks X test yes)
    (bod : ∀ (W : WX) (pn : List (Addr × Obj)) (xe : Value → Shared → Prop), Takes (X.tr pn xe) W → PSs (X.tr pn xe) body (tb W))
    (sui : ∀ (a : Addr) (oe : Obj) (cls : Value) (d : Option Addr) (pn : List (Addr × Obj)), Zc cls d oe → (∃ vs, oe.data = .fields vs) → PSs (X.suite a ((a, oe) :: pn)) (b₀ :: suite) (ts a cls d)) :
    PS X (.Try body (.ExceptHandler (some test) (some n) (b₀ :: suite) p' :: rest) [] [] p) (fun D σ H => tb (wWhen X.N.length yes i ts D) D σ H) where
  run pins s σ H D I rd := by
    have ok := I.ok
    have top : X.A.frames = some (X.env :: X.outer) := ok.frames.trans (congrArg some stk)
    refine wpAny_Try_except ?_
    let caught : Value → Shared → Prop := fun e s₁ => wpAny (model X.prog X.w) X.A (noteFrame e X.env) (fun _ s₂ => wpAny (model X.prog X.w) X.A (setFlight e none) (fun _ s₃ => wpAny (model X.prog X.w) X.A (handleBy e X.env (.ExceptHandler (some test) (some n) (b₀ :: suite) p' :: rest)) (SP X pins D) X.xe s₃) X.xe s₂) X.xe s₁
    have takes : Takes (X.tr (X.pn ++ pins) caught) (wWhen X.N.length yes i ts D) := by
      rintro _ s' ⟨a, B, sI, pins', τ, G, cls, d, rfl, J0, nb, up, sky, na, os, bare, isYes, go⟩
      have J : L2.Inv X pins τ G sI := J0.ofTry ok
      have sky1 : Sky B (X.env :: X.outer) a (Zc cls d) X.env.locals s'.heap := stk ▸ sky
      refine Sky.land (A := X.A) (Q := fun _ s₃ => wpAny (model X.prog X.w) X.A (handleBy (.ref a) X.env (.ExceptHandler (some test) (some n) (b₀ :: suite) p' :: rest)) (SP X pins D) X.xe s₃) Zc.steady top frm sky1 fun g fly upg => ?_
      have Jg : L2.Inv X pins τ G { s' with heap := g } := J.landed nb fly.1 (up.trans upg) os bare
      obtain ⟨oe, vs, here, isZ, fields⟩ := fly.there
      have outF := err_noframe fly.2.2.1 here fields
      have notL : a ≠ X.env.locals := fun z => outF (List.mem_filterMap.mpr ⟨X.env, .head _, frm.trans (congrArg some z.symm)⟩)
      have notFs : a ∉ X.fs := fun m => by
        obtain ⟨e, he, q⟩ := List.mem_filterMap.mp m
        exact outF (List.mem_filterMap.mpr ⟨e, .tail _ he, q⟩)
      refine wpAny_handleBy_cons (codeAny_handlers_test (ask a oe cls (X.pn ++ pins) _ τ G _ (Jg.suite here fields na notL notFs) here isZ.1 isYes fun v g2 add says => says.here ?_)) (fun z => by cases z)
      refine codeAny_handlers_suite_as (HandSPX.lands_againZ (fly_add fly add) fun g3 fly3 up3 => ?_)
      have J3 : L2.Inv X pins τ G { s' with heap := g3 } := J.landed nb fly3.1 (((up.trans upg).trans (Heap.UpToSlots.of_keeps add)).trans up3) os bare
      obtain ⟨oe3, vs3, here3, isZ3, fields3⟩ := fly3.there
      refine store_ok (X := X.suite a ((a, oe3) :: (X.pn ++ pins))) (v := .ref a) (J3.suite here3 fields3 na notL notFs) nd at_ (.inl loc) rfl (fun s5 S5 => ?_) (.inr loc)
      exact wpAny_mono ((sui a oe3 cls d (X.pn ++ pins) isZ3 ⟨_, fields3⟩).run [] s5 _ G _ S5 (go J.len a na)) (fun f s6 q => sp_named ok nd at_ loc q) fun _ _ z => z.elim
    refine wpAny_mono ((bod _ _ _ takes).run [] s σ H D (I.toTry _) rd) (fun f s1 q => ?_) fun _ _ z => z
    have q' := sp_tried ok q rfl
    match f, q' with
    | .next, q' => exact wpAny_execs_nil q'
    | .brk, q' => exact q'
    | .cont, q' => exact q'
    | .ret _, q' => exact q'
/-- the test is a tuple of four names of classes -/
theorem asks4 {x1 x2 x3 x4 : Str} {c1 c2 c3 c4 : Value} {p1 p2 p3 p4 tp : Pos} {kk : Nat} (n1 : Names X x1 c1) (n2 : Names X x2 c2) (n3 : Names X x3 c3) (n4 : Names X x4 c4) :
    Asks X (.Tuple [.Name x1 p1, .Name x2 p2, .Name x3 p3, .Name x4 p4] kk tp) (fun cls => PySem.W.exmAny X.K cls [c1, c2, c3, c4] = some true) := by
  intro a oe cls pn pins σ H s S here isC yes Q E done
  have name : ∀ {x : Str} {q : Pos} {c : Value} {R : Value → Shared → Prop}, Names X x c → R c s → wpAny (model X.prog X.w) (X.A.mark (some (.ref a))) (eval (.Name x q) X.env) R E s := fun {x q c R} ⟨g, nb, k⟩ r => by
    rcases k with m | ⟨m, bt, nn⟩
    · exact ld_glob (X := X.suite a ((a, oe) :: pn)) S g m r nb
    · exact ld_blt (X := X.suite a ((a, oe) :: pn)) S g m bt r nn nb
  refine wpAny_Tuple (wpAny_items_cons (name n1 (wpAny_items_cons (name n2 (wpAny_items_cons (name n3 (wpAny_items_cons (name n4 (wpAny_items_nil ⟨by rw [sizeLine_eq]; exact (by decide : 4 ≤ 16777216), ?_⟩)))))))))
  have add : ∀ b o, s.heap.get? b = some o → (s.heap.push { cls := .type "tuple", data := .seq [c1, c2, c3, c4].toArray }).get? b = some o := fun _ _ q => Heap.get?_push_of_some _ q
  have ty : PySem.W.Looks (model X.prog X.w) s.heap (typeOf (.ref a)) cls := fun A R E' s' k r => wpAny_typeOf_ref (k _ _ here) (isC ▸ r)
  exact done _ _ add (PySem.W.exm_tup4 (M := model X.prog X.w) (S.kIn.keeps add) (ty.keeps add) (Heap.get?_push_size s.heap rfl) yes)
end
end Wh

namespace Wh
open PySem PySem.Spec PyProof.Rows L2
/-! ### isinstance(e, c), e the exception that the suite holds, with fields -/
def rIsD (K : PySem.W.Frag) (a : Addr) (cls : Value) (d : Option Addr) : List V → Hp → VK → Prop := fun xs H Q => ∃ (D : Addr) (c : V) (cv : Value) (b : Bool) (dd : Addr) (fs : List (Str × V)), cls = .ref D ∧ L2.ExcC K D ∧ d = some dd ∧ H dd = some (.xd fs) ∧
  xs = [.ref a, c] ∧ (∀ u, RelV c u → u = cv) ∧ PySem.W.kitOne K (.ref D) cv = some b ∧ Q (.bl b) H
theorem call_isD {X : Cx} {a : Addr} {cls : Value} {d : Option Addr} {oe : Obj} {pn : List (Addr × Obj)} (hz : Zc cls d oe) (hf : ∃ vs, oe.data = .fields vs) : CallR (X.suite a ((a, oe) :: pn)) (.builtin "isinstance") (rIsD X.K a cls d) := by
  intro pins s σ H xs us Q I r h
  obtain ⟨D, c, cv, b, dd, fs, ec, C, ed, hdd, rfl, hcv, e, q⟩ := h
  subst ec
  subst ed
  cases r with
  | cons rx rr =>
    cases rr with
    | cons rt rr =>
      cases rr
      cases rx
      have ec := hcv _ rt
      subst ec
      obtain ⟨hget, _⟩ := I.pin (a, oe) (List.mem_append.mpr (.inl List.mem_cons_self))
      obtain ⟨vs, hv⟩ := hf
      have hx : ObjOk X.prog X.w H s.heap dd (.xd fs) := I.hok dd _ hdd
      obtain ⟨mA, hns, hr⟩ := hx
      obtain ⟨od, ho, hl⟩ := lookIn_ns hns
      have J : PySem.W.InstAt s.heap a oe D (some od) := ⟨hget, hz.1, by unfold PySem.W.notCls; rw [hv] <;> rfl, by rw [hz.2]; exact ho⟩
      have hcl : (PySem.W.clsIn X.K D).isSome = true := by
        obtain ⟨cd, hc, _⟩ := PySem.W.any_some C.hd
        rw [hc]
        rfl
      exact PySem.W.kia_one (PySem.W.kitx_exc hcl C.hg C.hk C.hs C.ha C.hn C.ht C.hm) I.kIn J e (fun z => nomatch z) fun tk => ⟨.bl b, H, I.tok tk, rfl, q⟩
def rReprS : List V → Hp → VK → Prop := fun xs H Q => ∃ x, xs = [V.str x] ∧ (reprText x).length ≤ sizeLine ∧ Q (.str (reprText x)) H
theorem call_repr_str {X : Cx} : CallR X (.builtin "repr") rReprS := by
  intro pins s σ H xs us Q I r h
  obtain ⟨x, rfl, hz, q⟩ := h
  obtain ⟨u, rfl, rx⟩ := vals1 r
  obtain ⟨t, rfl⟩ := rx
  exact PySem.P.repr_of_str ⟨.str _, H, I.tok _, ⟨_, rfl⟩, q⟩ hz
end Wh

namespace Wh
open PySem L2 PySem.Spec PyProof.Rows
/-! ### sorted(xs) of data that are alike: the one stable arrangement -/
def rSortD (K : PySem.W.Frag) : List V → Hp → VK → Prop := fun vs H Q => ∃ (a : Addr) (bs : List (V × PyData)), vs = [V.ref a] ∧ SqL K H a (bs.map (·.1)) ∧ (∀ b ∈ bs, Dp K H b.1 b.2) ∧
  PySem.W.AllAlike (bs.map (·.2)) ∧ PySem.W.Sortable (bs.map (·.2)) ∧ (∀ b ∈ bs, b.2.depth ≤ 8) ∧
  ∀ p, H p = none → Q (.ref p) (upd H p (.lst ((bs.mergeSort (PySem.W.dataLe false (·.2))).map (·.1))))
theorem each_vals : ∀ {bs : List (V × PyData)} {us : List Value}, Vals (bs.map (·.1)) us → PySem.W.EachIs (fun (v : Value) (b : V × PyData) => RelV b.1 v) us bs
  | [], _, .nil => .nil
  | _ :: _, _, .cons r t => .cons r (each_vals t)
theorem vals_each : ∀ {bs : List (V × PyData)} {us : List Value}, PySem.W.EachIs (fun (v : Value) (b : V × PyData) => RelV b.1 v) us bs → Vals (bs.map (·.1)) us
  | _, _, .nil => .nil
  | _, _, .cons r t => .cons r (vals_each t)
theorem each_reads {X : Cx} {pins : List (Addr × Obj)} {σ : L2.St} {H : Hp} {s : Shared} (I : Inv X pins σ H s) : ∀ {bs : List (V × PyData)} {us : List Value}, Vals (bs.map (·.1)) us → (∀ b ∈ bs, Dp X.K H b.1 b.2) →
    PySem.W.EachIs (fun (v : Value) (b : V × PyData) => ∃ as, Reads s.heap v b.2 as) us bs
  | [], _, .nil, _ => .nil
  | b :: bs, _, .cons r t, h => .cons (Dp.reads I b.2 b.1 _ (h b List.mem_cons_self) r) (each_reads I t fun c hc => h c (List.mem_cons_of_mem _ hc))
section
variable {X : Cx}
theorem cr_sortD (hu : X.A.units + 64 < cLine) : CallR X (.builtin "sorted") (rSortD X.K) := by
  intro pins s σ H vs us Q I r h
  obtain ⟨a, bs, rfl, hs, hd, hal, hk, hdp, q⟩ := h
  obtain ⟨its, rv, hl, hz⟩ := I.list hs
  obtain ⟨u, rfl, ru⟩ := vals1 r
  obtain rfl : u = Value.ref a := ru
  have hlen : its.length = bs.length := by rw [← rv.length, List.length_map]
  refine PySem.W.sorted_data (vs := its) (bs := bs) (enc := (·.2)) (R := fun (v : Value) (b : V × PyData) => RelV b.1 v) hl.isList (each_vals rv) (each_reads I rv hd) hal hk (by rw [List.length_map] at hz; exact hz) (fun b hb => ?_) fun out ho he => ?_
  · have h1 := hdp b hb
    omega
  · obtain ⟨ep, he'⟩ := PyProof.Rows.sortedAll_at s.heap its (List.toArray out)
    refine ⟨.ref _, upd H (s.heap.objs.size + 1) (.lst ((bs.mergeSort (PySem.W.dataLe false (·.2))).map (·.1))), I.laid (t' := s.toks) (fun _ _ => PyProof.Rows.sortedAll_old) (Nat.le_succ _) ⟨?_, out, ep, vals_each he, he'⟩, rfl, q _ (I.hok.fresh (Nat.le_succ _))⟩
    rw [List.length_map, (List.mergeSort_perm bs _).length_eq]
    rw [List.length_map] at hz
    exact hz
end
end Wh

namespace Wh
open PySem L2
/-! ### pairs of houses, ties -/
abbrev Pr := Nat × Nat
def prV (p : Pr) : List V := [.int (p.1 : Int), .int (p.2 : Int)]
structure Tie where
  a : Nat
  m : Nat
  b : Nat
  o : Nat
  deriving DecidableEq
def sgn (c : Nat) : Str := ⟨#[c]⟩
def tieV (t : Tie) : List V := [.int (t.a : Int), .str (sgn t.m), .int (t.b : Int), .str (sgn t.o)]
/-- a row of new tuples -/
def At {α : Type} (f : α → List V) (H : Hp) (ps : List (Addr × α)) : Prop := ∀ p ∈ ps, H p.1 = some (.tup (f p.2))
def refs {α : Type} (ps : List (Addr × α)) : List V := ps.map fun p => V.ref p.1
theorem refs_app {α : Type} (ps qs : List (Addr × α)) : refs (ps ++ qs) = refs ps ++ refs qs := List.map_append
theorem refs_len {α : Type} (ps : List (Addr × α)) : (refs ps).length = ps.length := List.length_map _
theorem At.mono {α : Type} {f : α → List V} {H H' : Hp} {ps : List (Addr × α)} (h : At f H ps) (k : ∀ b xs, H b = some (.tup xs) → H' b = some (.tup xs)) : At f H' ps := fun p hp => k _ _ (h p hp)
theorem At.same {α : Type} {f : α → List V} {H H' : Hp} {ps : List (Addr × α)} (h : At f H ps) (s : Same H H') : At f H' ps := h.mono fun b xs e => s b _ e
theorem At.snoc {α : Type} {f : α → List V} {H : Hp} {ps : List (Addr × α)} {p : Addr} {x : α} (h : At f H ps) (e : H p = some (.tup (f x))) : At f H (ps ++ [(p, x)]) := fun q hq => by
  rcases List.mem_append.mp hq with z | z
  · exact h q z
  · rw [List.mem_singleton.mp z]
    exact e
/-- tuples are never at a list's address -/
theorem But.tup {c : Addr} {H H' : Hp} (h : But c H H') {ys : List V} (hc : H c = some (.lst ys)) : ∀ b xs, H b = some (.tup xs) → H' b = some (.tup xs) := fun b xs e => h b _ e (ne_of e hc (by intro z; cases z))
theorem Cup.tup {c : Addr} {H H' : Hp} (hc : Cup H c) (h : But c H H') : ∀ b xs, H b = some (.tup xs) → H' b = some (.tup xs) := by
  obtain ⟨x, y, e⟩ := hc
  exact h.tup e
theorem At.but {α : Type} {f : α → List V} {H H' : Hp} {ps : List (Addr × α)} {c : Addr} (h : At f H ps) (hc : Cup H c) (b : But c H H') : At f H' ps := h.mono (hc.tup b)
theorem upd_tup {H : Hp} {l : Addr} {ys : List V} {o : HO} (hl : H l = some (.lst ys)) : ∀ b xs, H b = some (.tup xs) → upd H l o b = some (.tup xs) := fun b xs e => put_ne e (ne_of e hl (by intro z; cases z))
theorem Cup.of_lst {H : Hp} {c l : Addr} {o : HO} (h : Cup H c) (n : c ≠ l) : Cup (upd H l o) c := by
  obtain ⟨x, y, e⟩ := h
  exact ⟨x, y, put_ne e n⟩
theorem At.perm {α : Type} {f : α → List V} {H : Hp} {ps qs : List (Addr × α)} (h : At f H ps) (p : ps.Perm qs) : At f H qs := fun q hq => h q (p.mem_iff.mpr hq)
/-! ### drawn pairs -/
structure PairsOk (n : Nat) (qs : List Pr) : Prop where
  lt : ∀ q ∈ qs, q.1 < q.2 ∧ q.2 < n
  hang : ∀ h, 1 ≤ h → h < n → ∃ q ∈ qs, q.2 = h
  nd : qs.Nodup
theorem pairsOk_first {n : Nat} {qs : List Pr} (h1 : qs.map (·.2) = List.range' 1 (n - 1)) (h2 : ∀ q ∈ qs, q.1 < q.2) : PairsOk n qs := by
  refine ⟨fun q hq => ⟨h2 q hq, ?_⟩, fun h a b => ?_, ?_⟩
  · have m : q.2 ∈ qs.map (·.2) := List.mem_map_of_mem hq
    rw [h1, List.mem_range'] at m
    obtain ⟨i, hi, e⟩ := m
    omega
  · have m : h ∈ List.range' 1 (n - 1) := by
      rw [List.mem_range']
      exact ⟨h - 1, by omega, by omega⟩
    rw [← h1, List.mem_map] at m
    exact m
  · have nd : (qs.map (·.2)).Nodup := by
      rw [h1]
      exact List.nodup_range'
    exact List.Pairwise.of_map _ (fun a b h e => h (congrArg _ e)) nd
theorem PairsOk.perm {n : Nat} {qs rs : List Pr} (h : PairsOk n qs) (p : qs.Perm rs) : PairsOk n rs :=
  ⟨fun q hq => h.lt q (p.mem_iff.mpr hq), fun x a b => let ⟨q, hq, e⟩ := h.hang x a b; ⟨q, p.mem_iff.mp hq, e⟩, p.nodup_iff.mp h.nd⟩
theorem PairsOk.snoc {n : Nat} {qs : List Pr} (h : PairsOk n qs) {p : Pr} (h1 : p.1 < p.2) (h2 : p.2 < n) (h3 : p ∉ qs) : PairsOk n (qs ++ [p]) := by
  refine ⟨fun q hq => ?_, fun x a b => ?_, ?_⟩
  · rcases List.mem_append.mp hq with z | z
    · exact h.lt q z
    · rw [List.mem_singleton.mp z]
      exact ⟨h1, h2⟩
  · obtain ⟨q, hq, e⟩ := h.hang x a b
    exact ⟨q, List.mem_append_left _ hq, e⟩
  · exact nd_snoc h.nd h3
/-! ### data: ints, texts, None; tuples of them -/
def vD : V → PyData
  | .int i => .int i
  | .str x => .str x
  | _ => .none
def nb : V → Bool
  | .int _ => true
  | .str x => strOkB x
  | .non => true
  | _ => false
where strOkB (x : Str) : Bool := PyData.canLay0 (.str x)
theorem nb_str {x : Str} (h : PyData.canLay0 (.str x) = true) : nb (.str x) = true := h
theorem vD_eqv : ∀ {x y : V}, nb x = true → nb y = true → PyData.eqv (vD x) (vD y) = decide (x = y) := by
  intro x y hx hy
  cases x <;> cases y <;> first | (simp [nb] at hx; done) | (simp [nb] at hy; done) | (simp [vD, PyData.eqv]; done) | skip
  · rename_i i j
    show (i == j) = _
    by_cases e : i = j <;> simp [e]
  · rename_i i j
    show (i == j) = _
    by_cases e : i = j <;> simp [e]
theorem vD_lay {x : V} (h : nb x = true) : (vD x).canLay0 = true := by
  cases x <;> first | (simp [nb] at h; done) | exact h | simp [vD, PyData.canLay0]
theorem vD_depth (x : V) : (vD x).depth = 0 := by
  cases x <;> simp [vD, PyData.depth]
theorem vDs_eqv : ∀ {xs ys : List V}, xs.all nb = true → ys.all nb = true → PyData.eqvAll (xs.map vD) (ys.map vD) = decide (xs = ys)
  | [], [], _, _ => by simp [PyData.eqvAll]
  | [], _ :: _, _, _ => by simp [PyData.eqvAll]
  | _ :: _, [], _, _ => by simp [PyData.eqvAll]
  | x :: xs, y :: ys, hx, hy => by
    rw [List.all_cons, Bool.and_eq_true] at hx hy
    rw [List.map_cons, List.map_cons, PyData.eqvAll, vD_eqv hx.1 hy.1, vDs_eqv hx.2 hy.2]
    by_cases e1 : x = y
    · by_cases e2 : xs = ys
      · simp [e1, e2]
      · simp [e2]
    · simp [e1]
theorem vDs_lay : ∀ {xs : List V}, xs.all nb = true → PyData.canLayAll0 (xs.map vD) = true
  | [], _ => by simp [PyData.canLayAll0]
  | x :: xs, h => by
    rw [List.all_cons, Bool.and_eq_true] at h
    rw [List.map_cons, PyData.canLayAll0, vD_lay h.1, vDs_lay h.2]
    rfl
theorem vDs_depth : ∀ (xs : List V), PyData.depthAll (xs.map vD) = 0
  | [] => by simp [PyData.depthAll]
  | x :: xs => by
    rw [List.map_cons, PyData.depthAll, vD_depth, vDs_depth xs]
    rfl
theorem vDs_dp (K : PySem.W.Frag) (H : Hp) : ∀ {xs : List V}, xs.all nb = true → DpAll K H xs (xs.map vD)
  | [], _ => .nil
  | x :: xs, h => by
    rw [List.all_cons, Bool.and_eq_true] at h
    refine .cons ?_ (vDs_dp K H h.2)
    have h1 := h.1
    cases x <;> first | (simp [nb] at h1; done) | constructor
/-- a flat tuple -/
def tD (xs : List V) : PyData := .tuple (xs.map vD)
theorem tD_lay {xs : List V} (h : xs.all nb = true) : (tD xs).canLay0 = true := by
  show PyData.canLay0 (.tuple (xs.map vD)) = true
  rw [PyData.canLay0]
  exact vDs_lay h
theorem tD_depth (xs : List V) : (tD xs).depth = 1 := by
  show PyData.depth (.tuple (xs.map vD)) = 1
  rw [PyData.depth, vDs_depth]
theorem tD_shaped {xs : List V} (h : xs.all nb = true) : SeqAt.shaped (tD xs) = true := by
  show ((tD xs).canLay0 && decide ((tD xs).depth ≤ 64)) = true
  rw [tD_lay h, tD_depth]
  rfl
theorem tD_eqv {xs ys : List V} (hx : xs.all nb = true) (hy : ys.all nb = true) : PyData.eqv (tD xs) (tD ys) = decide (xs = ys) := by
  show PyData.eqv (.tuple (xs.map vD)) (.tuple (ys.map vD)) = _
  rw [PyData.eqv]
  exact vDs_eqv hx hy
theorem tD_dp (K : PySem.W.Frag) {H : Hp} {p : Addr} {xs : List V} (h : xs.all nb = true) (e : H p = some (.tup xs)) : Dp K H (.ref p) (tD xs) := .tup (SqT.of e) (vDs_dp K H h)
/-- rows of flat tuples -/
def rowD {α : Type} (f : α → List V) (ps : List (Addr × α)) : List PyData := ps.map fun p => tD (f p.2)
theorem rowD_dp {α : Type} {f : α → List V} (K : PySem.W.Frag) {H : Hp} : ∀ {ps : List (Addr × α)}, (∀ p ∈ ps, (f p.2).all nb = true) → At f H ps → DpAll K H (refs ps) (rowD f ps)
  | [], _, _ => .nil
  | p :: ps, hn, h => .cons (tD_dp K (hn p List.mem_cons_self) (h p List.mem_cons_self)) (rowD_dp K (fun q hq => hn q (List.mem_cons_of_mem _ hq)) fun q hq => h q (List.mem_cons_of_mem _ hq))
theorem rowD_lay {α : Type} {f : α → List V} : ∀ {ps : List (Addr × α)}, (∀ p ∈ ps, (f p.2).all nb = true) → PyData.canLayAll0 (rowD f ps) = true
  | [], _ => by simp [rowD, PyData.canLayAll0]
  | p :: ps, hn => by
    show PyData.canLayAll0 (tD (f p.2) :: rowD f ps) = true
    rw [PyData.canLayAll0, tD_lay (hn p List.mem_cons_self), rowD_lay fun q hq => hn q (List.mem_cons_of_mem _ hq)]
    rfl
theorem rowD_depth {α : Type} {f : α → List V} : ∀ (ps : List (Addr × α)), PyData.depthAll (rowD f ps) ≤ 1
  | [] => by simp [rowD, PyData.depthAll]
  | p :: ps => by
    show PyData.depthAll (tD (f p.2) :: rowD f ps) ≤ 1
    have h := rowD_depth (f := f) ps
    rw [PyData.depthAll, tD_depth]
    omega
theorem rowD_shaped {α : Type} {f : α → List V} {ps : List (Addr × α)} (hn : ∀ p ∈ ps, (f p.2).all nb = true) : SeqAt.shaped (.list (rowD f ps)) = true := by
  show (PyData.canLay0 (.list (rowD f ps)) && decide (PyData.depth (.list (rowD f ps)) ≤ 64)) = true
  have h := rowD_depth (f := f) ps
  rw [PyData.canLay0, PyData.depth, rowD_lay hn, decide_eq_true (by omega)]
  rfl
theorem rowD_any {α : Type} [DecidableEq α] {f : α → List V} (inj : ∀ a b, f a = f b → a = b) (x : α) (hx : (f x).all nb = true) : ∀ {ps : List (Addr × α)}, (∀ p ∈ ps, (f p.2).all nb = true) →
    ((rowD f ps).any fun z => PyData.eqv z (tD (f x))) = decide (x ∈ ps.map (·.2))
  | [], _ => rfl
  | p :: ps, hn => by
    show (PyData.eqv (tD (f p.2)) (tD (f x)) || (rowD f ps).any fun z => PyData.eqv z (tD (f x))) = _
    rw [rowD_any inj x hx fun q hq => hn q (List.mem_cons_of_mem _ hq), tD_eqv (hn p List.mem_cons_self) hx, List.map_cons]
    by_cases e : f p.2 = f x
    · rw [decide_eq_true e, inj _ _ e]
      simp
    · have n : ¬ x = p.2 := fun z => e (by rw [z])
      rw [decide_eq_false e, Bool.false_or]
      simp [n]
theorem rowD_any_iff {α : Type} {f : α → List V} (inj : ∀ a b, f a = f b → a = b) (x : α) (hx : (f x).all nb = true) {ps : List (Addr × α)} (hn : ∀ p ∈ ps, (f p.2).all nb = true) :
    ((rowD f ps).any fun z => PyData.eqv z (tD (f x))) = true ↔ x ∈ ps.map (·.2) := by
  classical
  rw [rowD_any inj x hx hn, decide_eq_true_iff]
theorem prV_nb (q : Pr) : (prV q).all nb = true := rfl
theorem prV_inj (a b : Pr) (h : prV a = prV b) : a = b := by
  obtain ⟨a1, a2⟩ := a
  obtain ⟨b1, b2⟩ := b
  simp [prV] at h
  simp
  omega
end Wh

namespace Wh
open PySem L2
/-! ### marks at houses -/
def letters : List Nat := [97, 98, 99, 100, 101, 102, 103, 104, 105, 106, 107, 108]
theorem letters_nd : letters.Nodup := by decide
def sV (c : Nat) : V := .str (sgn c)
def Tie.pr (t : Tie) : Pr := (t.a, t.b)
def endsAt (h : Nat) (t : Tie) : List Nat := (if t.a = h then [t.m] else []) ++ (if t.b = h then [t.o] else [])
def marksAt (h : Nat) (ts : List Tie) : List Nat := ts.flatMap (endsAt h)
theorem marksAt_snoc (h : Nat) (ts : List Tie) (t : Tie) : marksAt h (ts ++ [t]) = marksAt h ts ++ endsAt h t := by
  unfold marksAt
  rw [List.flatMap_append, List.flatMap_singleton]
theorem marksAt_len (h : Nat) : ∀ {ts : List Tie}, (∀ t ∈ ts, t.a < t.b) → (marksAt h ts).length ≤ ts.length
  | [], _ => Nat.le_refl _
  | t :: ts, hl => by
    have ih := marksAt_len h (ts := ts) fun u hu => hl u (List.mem_cons_of_mem _ hu)
    have h1 := hl t List.mem_cons_self
    show (endsAt h t ++ marksAt h ts).length ≤ ts.length + 1
    rw [List.length_append]
    have h2 : (endsAt h t).length ≤ 1 := by
      unfold endsAt
      by_cases e1 : t.a = h
      · have e2 : ¬ t.b = h := by omega
        rw [if_pos e1, if_neg e2]
        exact Nat.le_refl _
      · rw [if_neg e1]
        split <;> simp
    omega
theorem nd_sub_len {α : Type} [DecidableEq α] : ∀ {l s : List α}, l.Nodup → (∀ x ∈ l, x ∈ s) → l.length ≤ s.length
  | [], s, _, _ => Nat.zero_le _
  | x :: l, s, hn, hs => by
    have hx : x ∈ s := hs x List.mem_cons_self
    have ih := nd_sub_len (l := l) (s := s.erase x) (List.nodup_cons.mp hn).2 fun y hy => by
      have ne : y ≠ x := fun e => (List.nodup_cons.mp hn).1 (e ▸ hy)
      exact (List.mem_erase_of_ne ne).mpr (hs y (List.mem_cons_of_mem _ hy))
    have e := List.length_erase_of_mem hx
    have p : 0 < s.length := List.length_pos_of_mem hx
    show l.length + 1 ≤ s.length
    omega
/-- the letters that are not yet marks -/
def notIn (ms : List Nat) (c : Nat) : Bool := !ms.contains c
def free (ms : List Nat) : List Nat := letters.filter (notIn ms)
theorem filt_yes {l : List Nat} {p : Nat → Bool} {z : Nat} (h : p z = true) : (l ++ [z]).filter p = l.filter p ++ [z] := by
  rw [List.filter_append, List.filter_cons_of_pos h]
  rfl
theorem filt_no {l : List Nat} {p : Nat → Bool} {z : Nat} (h : p z = false) : (l ++ [z]).filter p = l.filter p := by
  rw [List.filter_append, List.filter_cons_of_neg (by rw [h]; exact Bool.false_ne_true), List.filter_nil, List.append_nil]
theorem free_pos {ms : List Nat} (h : ms.length < 12) : 1 ≤ (free ms).length := by
  rcases Nat.eq_zero_or_pos (free ms).length with z | z
  · exfalso
    have h2 : ∀ x ∈ letters, x ∈ ms := fun x hx => by
      by_cases q : x ∈ ms
      · exact q
      · have m : x ∈ free ms := List.mem_filter.mpr ⟨hx, by simp [notIn, q]⟩
        rw [List.eq_nil_of_length_eq_zero z] at m
        cases m
    have := nd_sub_len letters_nd h2
    have e : letters.length = 12 := rfl
    omega
  · exact z
theorem free_mem {ms : List Nat} {c : Nat} (h : c ∈ free ms) : c ∈ letters ∧ c ∉ ms := by
  have q := List.mem_filter.mp h
  exact ⟨q.1, by simpa [notIn] using q.2⟩
theorem inV_sV (c : Nat) (ms : List Nat) : inV (sV c) (ms.map sV) = ms.contains c := by
  unfold inV
  rw [List.any_map]
  induction ms with
  | nil => rfl
  | cons m ms ih =>
    rw [List.any_cons, List.contains_cons, ih]
    have e : ((fun y => eqV y (sV c)) ∘ sV) m = (c == m) := by
      show (sgn m == sgn c) = (c == m)
      by_cases q : c = m
      · rw [q, beq_self_eq_true, beq_self_eq_true]
      · have n : ¬ sgn m = sgn c := fun z => q (by
          have z2 := congrArg (fun s : Str => s.cps.toList) z
          simp [sgn] at z2
          omega)
        rw [beq_eq_false_iff_ne.mpr n, beq_eq_false_iff_ne.mpr q]
    rw [e]
theorem flat_sV (ms : List Nat) : (ms.map sV).all flatV = true := by
  rw [List.all_map, List.all_eq_true]
  intro _ _
  rfl
theorem letters_str : ("abcdefghijkl" : Str).cps = #[97, 98, 99, 100, 101, 102, 103, 104, 105, 106, 107, 108] := by decide +kernel
/-- xs[:k], k a natural number -/
theorem cut_to {xs : List V} {k : Nat} : cutV xs none (some (k : Int)) = xs.take k := by
  unfold cutV
  rw [HT.sIx_none, List.drop_zero]
  rw [show HT.sIx xs.length xs.length (some (k : Int)) = min k xs.length from HT.sIx_nat xs.length xs.length k]
  rw [Nat.sub_zero]
  by_cases h : k ≤ xs.length
  · rw [Nat.min_eq_left h]
  · rw [Nat.min_eq_right (by omega), List.take_length, List.take_of_length_le (by omega)]
/-- the state of the drawing: the cup, the list of lists of used marks, the told ties -/
structure Wk (H : Hp) (c u tl : Addr) (us : List Addr) (n : Nat) (ts : List (Addr × Tie)) : Prop where
  cup : Cup H c
  hu : H u = some (.lst (us.map V.ref))
  ul : us.length = n
  nd : (c :: u :: tl :: us).Nodup
  ht : H tl = some (.lst (refs ts))
  hA : At tieV H ts
  hm : ∀ (h : Nat) (a : Addr), us[h]? = some a → H a = some (.lst ((marksAt h (ts.map (·.2))).map sV))
end Wh

namespace Wh
open PySem L2
/-! ### sorted(rows of flat tuples) -/
theorem sort_rows {α : Type} {K : PySem.W.Frag} {H : Hp} {a : Addr} {Q : VK} (f : α → List V) (le : α → α → Bool) {ps : List (Addr × α)} (hl : SqL K H a (refs ps)) (hA : At f H ps) (hn : ∀ p ∈ ps, (f p.2).all nb = true)
    (hal : ∀ x y : α, PySem.W.alike (tD (f x)) (tD (f y)) = true) (hne : ∀ x : α, ∃ v r, f x = v :: r) (hle : ∀ x y : α, (!PySem.W.dataLt (tD (f y)) (tD (f x))) = le x y)
    (h : ∀ z, H z = none → Q (.ref z) (upd H z (.lst (refs (ps.mergeSort fun p q => le p.2 q.2))))) : rSortD K [.ref a] H Q := by
  refine ⟨a, ps.map fun p => (V.ref p.1, tD (f p.2)), rfl, ?_, ?_, ?_, ?_, ?_, fun z nz => ?_⟩
  · rw [List.map_map]
    exact hl
  · intro b hb
    obtain ⟨p, hp, rfl⟩ := List.mem_map.mp hb
    exact tD_dp K (hn p hp) (hA p hp)
  · intro d hd d' hd'
    rw [List.map_map] at hd hd'
    obtain ⟨p, hp, rfl⟩ := List.mem_map.mp hd
    obtain ⟨q, hq, rfl⟩ := List.mem_map.mp hd'
    exact hal p.2 q.2
  · refine .inl fun d hd => ?_
    rw [List.map_map] at hd
    obtain ⟨p, hp, rfl⟩ := List.mem_map.mp hd
    obtain ⟨v, r, e⟩ := hne p.2
    exact ⟨vD v, r.map vD, by show PyData.tuple ((f p.2).map vD) = _; rw [e]; rfl⟩
  · intro b hb
    obtain ⟨p, hp, rfl⟩ := List.mem_map.mp hb
    show (tD (f p.2)).depth ≤ 8
    rw [tD_depth]
    decide
  · have e : ((ps.map fun p => (V.ref p.1, tD (f p.2))).mergeSort (PySem.W.dataLe false (·.2))).map (·.1) = refs (ps.mergeSort fun p q => le p.2 q.2) := by
      rw [← PySem.W.sort_maps (r := fun p q : Addr × α => le p.2 q.2) (s := PySem.W.dataLe false (·.2)) (fun p : Addr × α => (V.ref p.1, tD (f p.2))) (fun p _ q _ => ?_), List.map_map]
      · rfl
      · rw [PySem.W.dataLe_eq]
        exact (hle p.2 q.2).symm
    rw [e]
    exact h z nz
/-! ### pairs by order -/
def prLe (x y : Pr) : Bool := decide (x.1 < y.1 ∨ (x.1 = y.1 ∧ x.2 ≤ y.2))
theorem prLe_iff {x y : Pr} : prLe x y = true ↔ x.1 < y.1 ∨ (x.1 = y.1 ∧ x.2 ≤ y.2) := decide_eq_true_iff
theorem prLe_data (x y : Pr) : (!PySem.W.dataLt (tD (prV y)) (tD (prV x))) = prLe x y := by
  have h := congrFun (congrFun (PySem.W.dataLe_ii (β := Pr) (fun p => (p.1 : Int)) (fun p => (p.2 : Int))) x) y
  rw [PySem.W.dataLe_eq] at h
  refine Eq.trans h ?_
  unfold prLe
  congr 1
  simp only [eq_iff_iff]
  omega
theorem prLe_trans (a b c : Pr) (h1 : prLe a b = true) (h2 : prLe b c = true) : prLe a c = true := by
  rw [prLe_iff] at *
  omega
theorem prLe_total (a b : Pr) : (prLe a b || prLe b a) = true := by
  rw [Bool.or_eq_true, prLe_iff, prLe_iff]
  omega
theorem pr_alike (x y : Pr) : PySem.W.alike (tD (prV x)) (tD (prV y)) = true := by
  show PySem.W.alike (.tuple [.int _, .int _]) (.tuple [.int _, .int _]) = true
  simp [PySem.W.alike, PySem.W.alikeAll]
/-- x strictly ahead of y -/
def PrLt (x y : Pr) : Prop := x.1 < y.1 ∨ (x.1 = y.1 ∧ x.2 < y.2)
theorem sorted_prs (ps : List (Addr × Pr)) (hn : (ps.map (·.2)).Nodup) : ((ps.mergeSort fun p q => prLe p.2 q.2).map (·.2)).Pairwise PrLt ∧ (ps.mergeSort fun p q => prLe p.2 q.2).Perm ps := by
  have hp := List.mergeSort_perm ps fun p q => prLe p.2 q.2
  refine ⟨?_, hp⟩
  have hs := List.pairwise_mergeSort (le := fun p q : Addr × Pr => prLe p.2 q.2) (fun a b c => prLe_trans a.2 b.2 c.2) (fun a b => prLe_total a.2 b.2) ps
  have hn2 : ((ps.mergeSort fun p q => prLe p.2 q.2).map (·.2)).Nodup := (hp.map _).nodup_iff.mpr hn
  generalize (ps.mergeSort fun p q => prLe p.2 q.2) = qs at hs hn2
  rw [List.pairwise_map]
  have hn3 : qs.Pairwise fun a b => a.2 ≠ b.2 := List.pairwise_map.mp hn2
  refine (hs.and hn3).imp fun {a b} ⟨h1, h2⟩ => ?_
  rw [prLe_iff] at h1
  unfold PrLt
  have : ¬ (a.2.1 = b.2.1 ∧ a.2.2 = b.2.2) := fun ⟨e1, e2⟩ => h2 (Prod.ext e1 e2)
  omega
/-- a drawn web: its ties in the order of their houses -/
structure Told (n : Nat) (ts : List Tie) : Prop where
  n2 : 2 ≤ n
  n8 : n ≤ 8
  lt : ∀ t ∈ ts, t.a < t.b ∧ t.b < n
  hang : ∀ h, 1 ≤ h → h < n → ∃ t ∈ ts, t.b = h
  srt : (ts.map Tie.pr).Pairwise PrLt
  let_ : ∀ t ∈ ts, t.m ∈ letters ∧ t.o ∈ letters
  uniq : ∀ h, (marksAt h ts).Nodup
  len : ts.length ≤ 9
theorem refs_get {α : Type} {ps : List (Addr × α)} {k : Nat} {x : V} (h : (refs ps)[k]? = some x) : ∃ p, ps[k]? = some p ∧ x = V.ref p.1 := by
  unfold refs at h
  rw [List.getElem?_map] at h
  obtain ⟨p, hp, e⟩ := Option.map_eq_some_iff.mp h
  exact ⟨p, hp, e.symm⟩
/-- at a stands a list of some letters, none of ms, one at least -/
structure FreeAt (H : Hp) (c a : Addr) (xs ms : List Nat) : Prop where
  at_ : H a = some (.lst (xs.map sV))
  ne : a ≠ c
  pos : 1 ≤ xs.length
  most : xs.length ≤ 12
  mem : ∀ z ∈ xs, z ∈ letters ∧ z ∉ ms
theorem FreeAt.but {H H' : Hp} {c a : Addr} {xs ms : List Nat} (f : FreeAt H c a xs ms) (b : But c H H') : FreeAt H' c a xs ms := ⟨b _ _ f.at_ f.ne, f.ne, f.pos, f.most, f.mem⟩
theorem Wk.upd_new {H : Hp} {c u tl : Addr} {us : List Addr} {n : Nat} {ts : List (Addr × Tie)} {p : Addr} {o : HO} (w : Wk H c u tl us n ts) (np : H p = none) : Wk (upd H p o) c u tl us n ts :=
  ⟨w.cup.put np, put_old w.hu np, w.ul, w.nd, put_old w.ht np, w.hA.same (same_upd np), fun h a e => put_old (w.hm h a e) np⟩
theorem Wk.but {H H' : Hp} {c u tl : Addr} {us : List Addr} {n : Nat} {ts : List (Addr × Tie)} (w : Wk H c u tl us n ts) (b : But c H H') (hc : Cup H' c) : Wk H' c u tl us n ts := by
  have nd := w.nd
  rw [List.nodup_cons, List.nodup_cons, List.nodup_cons] at nd
  obtain ⟨h1, h2, h3, h4⟩ := nd
  have cu : u ≠ c := fun e => h1 (by simp [e])
  have ct : tl ≠ c := fun e => h1 (by simp [e])
  have cs : ∀ a ∈ us, a ≠ c := fun a ha e => h1 (by simp [← e, ha])
  exact ⟨hc, b _ _ w.hu cu, w.ul, w.nd, b _ _ w.ht ct, w.hA.but w.cup b, fun h a e => b _ _ (w.hm h a e) (cs a (List.mem_of_getElem? e))⟩
theorem Wk.dist {H : Hp} {c u tl : Addr} {us : List Addr} {n : Nat} {ts : List (Addr × Tie)} (w : Wk H c u tl us n ts) {h : Nat} {a : Addr} (e : us[h]? = some a) : a ≠ c ∧ a ≠ u ∧ a ≠ tl := by
  have nd := w.nd
  rw [List.nodup_cons, List.nodup_cons, List.nodup_cons] at nd
  obtain ⟨h1, h2, h3, h4⟩ := nd
  have m := List.mem_of_getElem? e
  exact ⟨fun z => h1 (by simp [← z, m]), fun z => h2 (by simp [← z, m]), fun z => h3 (by simp [← z, m])⟩
theorem Wk.us_nd {H : Hp} {c u tl : Addr} {us : List Addr} {n : Nat} {ts : List (Addr × Tie)} (w : Wk H c u tl us n ts) : us.Nodup ∧ c ≠ u ∧ c ≠ tl ∧ u ≠ tl := by
  have nd := w.nd
  rw [List.nodup_cons, List.nodup_cons, List.nodup_cons] at nd
  obtain ⟨h1, h2, h3, h4⟩ := nd
  exact ⟨h4, fun z => h1 (by simp [z]), fun z => h1 (by simp [z]), fun z => h2 (by simp [z])⟩
theorem endsAt_a {t : Tie} (h : t.a ≠ t.b) : endsAt t.a t = [t.m] := by
  unfold endsAt
  rw [if_pos rfl, if_neg (fun e => h e.symm)]
  rfl
theorem endsAt_b {t : Tie} (h : t.a ≠ t.b) : endsAt t.b t = [t.o] := by
  unfold endsAt
  rw [if_neg h, if_pos rfl]
  rfl
theorem endsAt_no {h : Nat} {t : Tie} (h1 : h ≠ t.a) (h2 : h ≠ t.b) : endsAt h t = [] := by
  unfold endsAt
  rw [if_neg (fun e => h1 e.symm), if_neg (fun e => h2 e.symm)]
  rfl
/-- one more tie is told -/
theorem Wk.step {H : Hp} {c u tl : Addr} {us : List Addr} {n : Nat} {ts : List (Addr × Tie)} (w : Wk H c u tl us n ts) (t : Tie) (ne : t.a ≠ t.b) {a1 a2 p : Addr} (h1 : us[t.a]? = some a1) (h2 : us[t.b]? = some a2)
    (np : (upd (upd H a1 (.lst ((marksAt t.a (ts.map (·.2))).map sV ++ [sV t.m]))) a2 (.lst ((marksAt t.b (ts.map (·.2))).map sV ++ [sV t.o]))) p = none) :
    Wk (upd (upd (upd (upd H a1 (.lst ((marksAt t.a (ts.map (·.2))).map sV ++ [sV t.m]))) a2 (.lst ((marksAt t.b (ts.map (·.2))).map sV ++ [sV t.o]))) p (.tup (tieV t))) tl (.lst (refs ts ++ [.ref p]))) c u tl us n (ts ++ [(p, t)]) := by
  obtain ⟨d1, d2, d3⟩ := w.dist h1
  obtain ⟨e1, e2, e3⟩ := w.dist h2
  obtain ⟨und, cu, ct, ut⟩ := w.us_nd
  have n12 : a1 ≠ a2 := fun z => ne (nd_ix und h1 (by rw [z]; exact h2))
  have np2 := new_of np
  have np3 := new_of np2
  have keep : ∀ {b o}, H b = some o → b ≠ a1 → b ≠ a2 → b ≠ tl → (upd (upd (upd (upd H a1 (.lst ((marksAt t.a (ts.map (·.2))).map sV ++ [sV t.m]))) a2 (.lst ((marksAt t.b (ts.map (·.2))).map sV ++ [sV t.o]))) p (.tup (tieV t))) tl (.lst (refs ts ++ [.ref p]))) b = some o := fun {b o} e x1 x2 x3 =>
    put_ne (put_ne (put_ne (put_ne e x1) x2) (ne_of_none e np3)) x3
  have ptl : p ≠ tl := (ne_of_none w.ht np3).symm
  refine ⟨?_, keep w.hu (fun z => d2 z.symm) (fun z => e2 z.symm) ut, w.ul, w.nd, ?_, ?_, fun h a e => ?_⟩
  · obtain ⟨x, y, e⟩ := w.cup
    exact ⟨x, y, keep e (fun z => d1 z.symm) (fun z => e1 z.symm) ct⟩
  · rw [upd_same, refs_app]
    rfl
  · refine At.snoc (fun q hq => ?_) (put_ne upd_same ptl)
    have e := w.hA q hq
    exact keep e (ne_of e (w.hm _ _ h1) (by intro z; cases z)) (ne_of e (w.hm _ _ h2) (by intro z; cases z)) (ne_of e w.ht (by intro z; cases z))
  · obtain ⟨f1, f2, f3⟩ := w.dist e
    rw [List.map_append, show [(p, t)].map (·.2) = [t] from rfl, marksAt_snoc, List.map_append]
    by_cases ha : h = t.a
    · have ea : a = a1 := Option.some.inj ((ha ▸ e).symm.trans h1)
      rw [ha, endsAt_a ne, ea]
      exact put_ne (put_ne (put_ne upd_same n12) (ne_new np2)) d3
    · by_cases hb : h = t.b
      · have eb : a = a2 := Option.some.inj ((hb ▸ e).symm.trans h2)
        rw [hb, endsAt_b ne, eb]
        exact put_ne (put_ne upd_same (ne_new np)) e3
      · rw [endsAt_no ha hb, List.map_nil, List.append_nil]
        exact keep (w.hm h a e) (fun z => ha (nd_ix und e (by rw [z]; exact h1))) (fun z => hb (nd_ix und e (by rw [z]; exact h2))) f3
end Wh

namespace Wh
open PySem L2
/-! ### the texts of ties -/
theorem num_str : ∀ a : Nat, a < 10 → ((toString (a : Int) : String) : Str) = sgn (48 + a) := by decide +kernel
theorem num_log {a : Nat} (h : a < 1000) : ((a : Int)).natAbs.log2 < 1920 := by
  have e : ((a : Int)).natAbs = a := rfl
  rw [e]
  by_cases z : a = 0
  · rw [z]
    decide
  · exact Nat.lt_of_le_of_lt (Nat.le_of_lt_succ (Nat.lt_succ_of_lt ((Nat.log2_lt z).mpr (Nat.lt_of_lt_of_le h (by decide : 1000 ≤ 2 ^ 10))))) (by decide)
def lineL (t : Tie) : List Nat := [48 + t.a, 32, t.m, 32, 48 + t.b, 32, t.o]
def lineS (t : Tie) : Str := SX.S (lineL t)
def textL (ts : List Tie) : List Nat := TL.joinL [10] (ts.map lineL)
def webS (ts : List Tie) : Str := SX.S (textL ts)
def partsS (t : Tie) : List Str := [sgn (48 + t.a), sgn t.m, sgn (48 + t.b), sgn t.o]
theorem line_join (t : Tie) : Txt.join (" " : Str) (partsS t) = lineS t := by
  have e : partsS t = [[48 + t.a], [t.m], [48 + t.b], [t.o]].map SX.S := rfl
  have e2 : (" " : Str) = SX.S [32] := by decide +kernel
  rw [e, e2, SX.join_S]
  rfl
theorem text_join (ts : List Tie) : Txt.join ("\n" : Str) (ts.map lineS) = webS ts := by
  have e : ts.map lineS = (ts.map lineL).map SX.S := by rw [List.map_map]; rfl
  have e2 : ("\n" : Str) = SX.S [10] := by decide +kernel
  rw [e, e2, SX.join_S]
  rfl
theorem lineS_len (t : Tie) : (lineS t).length = 7 := by
  unfold lineS
  rw [SX.S_len]
  rfl
theorem lines_sum : ∀ ts : List Tie, ((ts.map lineS).map (·.length)).sum = 7 * ts.length
  | [] => rfl
  | t :: ts => by
    rw [List.map_cons, List.map_cons, List.sum_cons, lines_sum ts, lineS_len, List.length_cons]
    omega
theorem textL_len : ∀ ts : List Tie, (textL ts).length ≤ 8 * ts.length
  | [] => Nat.le_refl _
  | [t] => by
    show (lineL t).length ≤ 8
    show 7 ≤ 8
    omega
  | t :: u :: r => by
    have ih := textL_len (u :: r)
    show (lineL t ++ ([10] ++ textL (u :: r))).length ≤ _
    rw [List.length_append, List.length_append]
    have e : (lineL t).length = 7 := rfl
    have e2 : ([10] : List Nat).length = 1 := rfl
    have e3 : (t :: u :: r).length = (u :: r).length + 1 := rfl
    omega
theorem webS_len (ts : List Tie) : (webS ts).length ≤ 8 * ts.length := by
  unfold webS
  rw [SX.S_len]
  exact textL_len ts
theorem no_nl {t : Tie} (ha : t.a < 10) (hb : t.b < 10) (hm : t.m ∈ letters) (ho : t.o ∈ letters) : 10 ∉ lineL t := by
  have big : ∀ z ∈ letters, 97 ≤ z ∧ z ≤ 108 := by decide
  have h1 := big _ hm
  have h2 := big _ ho
  unfold lineL
  simp only [List.mem_cons, List.not_mem_nil, or_false]
  omega
theorem text_split {ts : List Tie} (hne : ts ≠ []) (h : ∀ t ∈ ts, 10 ∉ lineL t) : Txt.split (webS ts) ("\n" : Str) = ts.map lineS := by
  rw [← text_join]
  have e2 : ("\n" : Str) = SX.S [10] := by decide +kernel
  rw [e2]
  refine TL.split_join (s := 10) (S := []) rfl (by decide +kernel) (by simpa using hne) fun p hp => ?_
  obtain ⟨t, ht, rfl⟩ := List.mem_map.mp hp
  exact h t ht
theorem line_split {t : Tie} (hm : t.m ∈ letters) (ho : t.o ∈ letters) : Txt.split (lineS t) (" " : Str) = partsS t := by
  have big : ∀ z ∈ letters, 97 ≤ z ∧ z ≤ 108 := by decide
  have h1 := big _ hm
  have h2 := big _ ho
  rw [← line_join]
  have e2 : (" " : Str) = SX.S [32] := by decide +kernel
  rw [e2]
  refine TL.split_join (s := 32) (S := []) rfl (by decide +kernel) (by simp [partsS]) fun p hp => ?_
  unfold partsS at hp
  simp only [List.mem_cons, List.not_mem_nil, or_false] at hp
  have sg : ∀ z : Nat, TL.tl (sgn z) = [z] := fun _ => rfl
  rcases hp with rfl | rfl | rfl | rfl <;> (rw [sg]; simp; omega)
theorem joinL_mem {x : Nat} : ∀ {ls : List (List Nat)}, x ∈ TL.joinL [10] ls → x = 10 ∨ ∃ l ∈ ls, x ∈ l
  | [], h => by cases h
  | [l], h => .inr ⟨l, List.mem_cons_self, h⟩
  | l :: m :: r, h => by
    have h' : x ∈ l ++ ([10] ++ TL.joinL [10] (m :: r)) := h
    rcases List.mem_append.mp h' with z | z
    · exact .inr ⟨l, List.mem_cons_self, z⟩
    · rcases List.mem_append.mp z with z | z
      · exact .inl (List.mem_singleton.mp z)
      · rcases joinL_mem z with z | ⟨k, hk, z⟩
        · exact .inl z
        · exact .inr ⟨k, List.mem_cons_of_mem _ hk, z⟩
theorem no_unread {ts : List Tie} (h : ∀ t ∈ ts, t.a < 10 ∧ t.b < 10 ∧ t.m ∈ letters ∧ t.o ∈ letters) : 63 ∉ (webS ts).cps.toList := fun z => by
  have big : ∀ z ∈ letters, 97 ≤ z ∧ z ≤ 108 := by decide
  have z' : 63 ∈ textL ts := z
  rcases joinL_mem z' with e | ⟨l, hl, e⟩
  · omega
  · obtain ⟨t, ht, rfl⟩ := List.mem_map.mp hl
    obtain ⟨ha, hb, hm, ho⟩ := h t ht
    have h1 := big _ hm
    have h2 := big _ ho
    unfold lineL at e
    simp only [List.mem_cons, List.not_mem_nil, or_false] at e
    omega
end Wh

namespace Wh
open PySem L2
/-! ### webs, their ties in any order -/
structure WebOk (n : Nat) (ts : List Tie) : Prop where
  n2 : 2 ≤ n
  n10 : n ≤ 10
  lt : ∀ t ∈ ts, t.a < t.b ∧ t.b < n
  hang : ∀ h, 1 ≤ h → h < n → ∃ t ∈ ts, t.b = h
  pnd : (ts.map Tie.pr).Nodup
  let_ : ∀ t ∈ ts, t.m ∈ letters ∧ t.o ∈ letters
  uniq : ∀ h, (marksAt h ts).Nodup
  len : ts.length ≤ 100
theorem prLt_ne {x y : Pr} (h : PrLt x y) : x ≠ y := fun e => by
  subst e
  unfold PrLt at h
  omega
theorem Told.ok {n : Nat} {ts : List Tie} (h : Told n ts) : WebOk n ts :=
  ⟨h.n2, by have := h.n8; omega, h.lt, h.hang, h.srt.imp prLt_ne, h.let_, h.uniq, by have := h.len; omega⟩
theorem marksAt_perm {ts us : List Tie} (p : ts.Perm us) (h : Nat) : (marksAt h ts).Perm (marksAt h us) := p.flatMap_right _
theorem WebOk.perm {n : Nat} {ts us : List Tie} (w : WebOk n ts) (p : ts.Perm us) : WebOk n us :=
  ⟨w.n2, w.n10, fun t ht => w.lt t (p.mem_iff.mpr ht), fun h a b => let ⟨t, ht, e⟩ := w.hang h a b; ⟨t, p.mem_iff.mp ht, e⟩, (p.map _).nodup_iff.mp w.pnd, fun t ht => w.let_ t (p.mem_iff.mpr ht), fun h => (marksAt_perm p h).nodup_iff.mp (w.uniq h), by rw [← p.length_eq]; exact w.len⟩
theorem WebOk.ne {n : Nat} {ts : List Tie} (w : WebOk n ts) : ts ≠ [] := fun e => by
  obtain ⟨t, ht, _⟩ := w.hang 1 (Nat.le_refl _) w.n2
  rw [e] at ht
  cases ht
theorem WebOk.top {n : Nat} {ts : List Tie} (w : WebOk n ts) : ∃ t ∈ ts, t.b + 1 = n := by
  have := w.n2
  obtain ⟨t, ht, e⟩ := w.hang (n - 1) (by omega) (by omega)
  exact ⟨t, ht, by omega⟩
theorem letters_big : ∀ z ∈ letters, 97 ≤ z ∧ z ≤ 108 := by decide
theorem tieV_nb {t : Tie} (hm : t.m ∈ letters) (ho : t.o ∈ letters) : (tieV t).all nb = true := by
  have h1 := letters_big _ hm
  have h2 := letters_big _ ho
  have e : ∀ z : Nat, z ≤ 108 → PyData.canLay0 (.str (sgn z)) = true := fun z hz => by
    rw [PyData.canLay0]
    show (sgn z).cps.all (· < 0x110000) = true
    simp [sgn]
    omega
  show (true && (nb (.str (sgn t.m)) && (true && (nb (.str (sgn t.o)) && true)))) = true
  rw [nb_str (e _ h1.2), nb_str (e _ h2.2)]
  rfl
theorem sgn_inj {a b : Nat} (h : sgn a = sgn b) : a = b := by
  have z := congrArg (fun s : Str => s.cps.toList) h
  simp [sgn] at z
  omega
theorem tieV_inj (x y : Tie) (h : tieV x = tieV y) : x = y := by
  obtain ⟨a, m, b, o⟩ := x
  obtain ⟨a2, m2, b2, o2⟩ := y
  unfold tieV at h
  injection h with h1 h
  injection h with h2 h
  injection h with h3 h
  injection h with h4 _
  injection h1 with h1
  injection h2 with h2
  injection h3 with h3
  injection h4 with h4
  have e2 := sgn_inj h2
  have e4 := sgn_inj h4
  have e1 : a = a2 := by
    have : (a : Int) = (a2 : Int) := h1
    omega
  have e3 : b = b2 := by
    have : (b : Int) = (b2 : Int) := h3
    omega
  subst e1 e2 e3 e4
  rfl
/-! ### doors: for each house a dict -/
def endsD (h : Nat) (t : Tie) : List (Nat × Nat) := (if t.a = h then [(t.m, t.b)] else []) ++ (if t.b = h then [(t.o, t.a)] else [])
def doorsAt (h : Nat) (ts : List Tie) : List (Nat × Nat) := ts.flatMap (endsD h)
def kD (d : Nat × Nat) : Key × V := (Sum.inr (sgn d.1), V.int (d.2 : Int))
def doorsK (h : Nat) (ts : List Tie) : List (Key × V) := (doorsAt h ts).map kD
theorem endsD_fst (h : Nat) (t : Tie) : (endsD h t).map (·.1) = endsAt h t := by
  unfold endsD endsAt
  rw [List.map_append]
  congr 1 <;> split <;> rfl
theorem doorsAt_fst (h : Nat) : ∀ ts : List Tie, (doorsAt h ts).map (·.1) = marksAt h ts
  | [] => rfl
  | t :: ts => by
    show (endsD h t ++ doorsAt h ts).map (·.1) = endsAt h t ++ marksAt h ts
    rw [List.map_append, endsD_fst, doorsAt_fst h ts]
theorem doorsAt_snoc (h : Nat) (ts : List Tie) (t : Tie) : doorsAt h (ts ++ [t]) = doorsAt h ts ++ endsD h t := by
  unfold doorsAt
  rw [List.flatMap_append, List.flatMap_singleton]
theorem doorsK_keys (h : Nat) (ts : List Tie) : (doorsK h ts).map (·.1) = (marksAt h ts).map fun m => (Sum.inr (sgn m) : Key) := by
  rw [← doorsAt_fst]
  unfold doorsK
  rw [List.map_map, List.map_map]
  rfl
theorem doorsK_len (h : Nat) (ts : List Tie) : (doorsK h ts).length = (marksAt h ts).length := by
  have e := congrArg List.length (doorsK_keys h ts)
  rw [List.length_map, List.length_map] at e
  exact e
theorem endsD_a {t : Tie} (h : t.a ≠ t.b) : endsD t.a t = [(t.m, t.b)] := by
  unfold endsD
  rw [if_pos rfl, if_neg (fun e => h e.symm)]
  rfl
theorem endsD_b {t : Tie} (h : t.a ≠ t.b) : endsD t.b t = [(t.o, t.a)] := by
  unfold endsD
  rw [if_neg h, if_pos rfl]
  rfl
theorem endsD_no {h : Nat} {t : Tie} (h1 : h ≠ t.a) (h2 : h ≠ t.b) : endsD h t = [] := by
  unfold endsD
  rw [if_neg (fun e => h1 e.symm), if_neg (fun e => h2 e.symm)]
  rfl
structure Dr (H : Hp) (dl : Addr) (ds : List Addr) (n : Nat) (ts : List Tie) : Prop where
  hl : H dl = some (.lst (ds.map V.ref))
  len : ds.length = n
  nd : (dl :: ds).Nodup
  hd : ∀ (h : Nat) (a : Addr), ds[h]? = some a → H a = some (.dK (doorsK h ts))
theorem Dr.same {H H' : Hp} {dl : Addr} {ds : List Addr} {n : Nat} {ts : List Tie} (d : Dr H dl ds n ts) (s : Same H H') : Dr H' dl ds n ts := ⟨s _ _ d.hl, d.len, d.nd, fun h a e => s _ _ (d.hd h a e)⟩
/-- a key that is not yet there is put behind -/
theorem put_mark {h : Nat} {ts : List Tie} {m : Nat} (v : V) (hm : m ∉ marksAt h ts) : putK (doorsK h ts) (Sum.inr (sgn m) : Key) v = doorsK h ts ++ [(Sum.inr (sgn m), v)] := by
  refine putK_new _ ?_
  cases e : valV (doorsK h ts) (Sum.inr (sgn m) : Key) with
  | none => rfl
  | some u =>
    have q := valV_in e
    rw [doorsK_keys, List.mem_map] at q
    obtain ⟨m2, h2, e2⟩ := q
    have e3 := sgn_inj (Sum.inr.inj e2)
    exact absurd (e3 ▸ h2) hm
theorem Dr.step {H : Hp} {dl : Addr} {ds : List Addr} {n : Nat} {ts : List Tie} (w : Dr H dl ds n ts) (t : Tie) (ne : t.a ≠ t.b) {a1 a2 : Addr} (h1 : ds[t.a]? = some a1) (h2 : ds[t.b]? = some a2) :
    Dr (upd (upd H a1 (.dK (doorsK t.a ts ++ [kD (t.m, t.b)]))) a2 (.dK (doorsK t.b ts ++ [kD (t.o, t.a)]))) dl ds n (ts ++ [t]) := by
  obtain ⟨h3, und⟩ := List.nodup_cons.mp w.nd
  have n12 : a1 ≠ a2 := fun z => ne (nd_ix und h1 (by rw [z]; exact h2))
  have d1 : dl ≠ a1 := fun z => h3 (z ▸ List.mem_of_getElem? h1)
  have d2 : dl ≠ a2 := fun z => h3 (z ▸ List.mem_of_getElem? h2)
  refine ⟨put_ne (put_ne w.hl d1) d2, w.len, w.nd, fun h a e => ?_⟩
  unfold doorsK
  rw [doorsAt_snoc, List.map_append]
  by_cases ha : h = t.a
  · have ea : a = a1 := Option.some.inj ((ha ▸ e).symm.trans h1)
    rw [ha, endsD_a ne, ea]
    exact put_ne upd_same n12
  · by_cases hb : h = t.b
    · have eb : a = a2 := Option.some.inj ((hb ▸ e).symm.trans h2)
      rw [hb, endsD_b ne, eb]
      exact upd_same
    · rw [endsD_no ha hb, List.map_nil, List.append_nil]
      exact put_ne (put_ne (w.hd h a e) (fun z => ha (nd_ix und e (by rw [z]; exact h1)))) (fun z => hb (nd_ix und e (by rw [z]; exact h2)))
theorem take_split {α : Type} {l : List α} {i : Nat} {t : α} (h : l[i]? = some t) : l = l.take i ++ t :: l.drop (i + 1) := by
  obtain ⟨hi, e⟩ := List.getElem?_eq_some_iff.mp h
  rw [← e, List.getElem_cons_drop, List.take_append_drop]
theorem marksAt_app (h : Nat) (ts us : List Tie) : marksAt h (ts ++ us) = marksAt h ts ++ marksAt h us := by
  unfold marksAt
  rw [List.flatMap_append]
theorem mark_new {ts : List Tie} {i : Nat} {t : Tie} (h : Nat) (hn : (marksAt h ts).Nodup) (hi : ts[i]? = some t) {m : Nat} (hm : m ∈ endsAt h t) : m ∉ marksAt h (ts.take i) := by
  rw [take_split hi, marksAt_app] at hn
  have h2 := (List.nodup_append.mp hn).2.2
  intro z
  exact h2 m z m (List.mem_append_left _ hm) rfl
theorem mark_new_a {ts : List Tie} {i : Nat} {t : Tie} (hn : ∀ h, (marksAt h ts).Nodup) (hi : ts[i]? = some t) (ne : t.a ≠ t.b) : t.m ∉ marksAt t.a (ts.take i) := mark_new _ (hn _) hi (by rw [endsAt_a ne]; exact List.mem_singleton.mpr rfl)
theorem mark_new_b {ts : List Tie} {i : Nat} {t : Tie} (hn : ∀ h, (marksAt h ts).Nodup) (hi : ts[i]? = some t) (ne : t.a ≠ t.b) : t.o ∉ marksAt t.b (ts.take i) := mark_new _ (hn _) hi (by rw [endsAt_b ne]; exact List.mem_singleton.mpr rfl)
theorem marksAt_take_len (h : Nat) {n : Nat} {ts : List Tie} (w : WebOk n ts) (i : Nat) : (marksAt h (ts.take i)).length ≤ 100 := by
  have h1 := marksAt_len h (ts := ts.take i) fun t ht => (w.lt t (List.mem_of_mem_take ht)).1
  have h2 := w.len
  rw [List.length_take] at h1
  omega
end Wh

namespace Wh
open PySem L2
/-! ### a mark at a house is changed -/
def chg (h m o : Nat) (t : Tie) : Tie := if t.a = h ∧ t.m = m then ⟨t.a, o, t.b, t.o⟩ else if t.b = h ∧ t.o = m then ⟨t.a, t.m, t.b, o⟩ else t
def ren (m o x : Nat) : Nat := if x = m then o else x
theorem chg_a (h m o : Nat) (t : Tie) : (chg h m o t).a = t.a := by
  unfold chg
  split
  · rfl
  · split <;> rfl
theorem chg_b (h m o : Nat) (t : Tie) : (chg h m o t).b = t.b := by
  unfold chg
  split
  · rfl
  · split <;> rfl
theorem chg_pr (h m o : Nat) (t : Tie) : (chg h m o t).pr = t.pr := by
  show ((chg h m o t).a, (chg h m o t).b) = (t.a, t.b)
  rw [chg_a, chg_b]
theorem chg_m (h m o : Nat) {t : Tie} (ne : t.a ≠ t.b) : (chg h m o t).m = if t.a = h then ren m o t.m else t.m := by
  unfold chg ren
  by_cases h1 : t.a = h <;> by_cases h2 : t.m = m <;> by_cases h3 : t.b = h ∧ t.o = m <;> simp [h1, h2, h3]
theorem chg_o (h m o : Nat) {t : Tie} (ne : t.a ≠ t.b) : (chg h m o t).o = if t.b = h then ren m o t.o else t.o := by
  unfold chg ren
  by_cases h1 : t.b = h
  · have h2 : ¬ t.a = h := fun e => ne (e.trans h1.symm)
    by_cases h3 : t.o = m <;> simp [h1, h2, h3]
  · by_cases h2 : t.a = h ∧ t.m = m <;> simp [h1, h2]
theorem endsAt_chg (h m o k : Nat) {t : Tie} (ne : t.a ≠ t.b) : endsAt k (chg h m o t) = if k = h then (endsAt h t).map (ren m o) else endsAt k t := by
  unfold endsAt
  rw [chg_a, chg_b, chg_m h m o ne, chg_o h m o ne]
  by_cases hk : k = h
  · subst hk
    rw [if_pos rfl]
    by_cases h1 : t.a = k
    · have h2 : ¬ t.b = k := fun e => ne (h1.trans e.symm)
      simp [h1, h2]
    · by_cases h2 : t.b = k <;> simp [h1, h2]
  · rw [if_neg hk]
    by_cases h1 : t.a = k
    · have h3 : ¬ t.a = h := fun e => hk (h1.symm.trans e)
      have h2 : ¬ t.b = k := fun e => ne (h1.trans e.symm)
      have h4 : ¬ k = h := hk
      simp [h1, h2, h4]
    · by_cases h2 : t.b = k
      · have h4 : ¬ k = h := hk
        simp [h1, h2, h4]
      · simp [h1, h2]
theorem marksAt_chg (h m o k : Nat) : ∀ {ts : List Tie}, (∀ t ∈ ts, t.a ≠ t.b) → marksAt k (ts.map (chg h m o)) = if k = h then (marksAt h ts).map (ren m o) else marksAt k ts
  | [], _ => by
    show ([] : List Nat) = _
    split <;> rfl
  | t :: ts, hn => by
    show endsAt k (chg h m o t) ++ marksAt k (ts.map (chg h m o)) = if k = h then (endsAt h t ++ marksAt h ts).map (ren m o) else endsAt k t ++ marksAt k ts
    rw [endsAt_chg h m o k (hn t List.mem_cons_self), marksAt_chg h m o k fun u hu => hn u (List.mem_cons_of_mem _ hu)]
    by_cases hk : k = h
    · rw [if_pos hk, if_pos hk, if_pos hk, List.map_append]
    · rw [if_neg hk, if_neg hk, if_neg hk]
theorem ren_nd {m o : Nat} : ∀ {xs : List Nat}, xs.Nodup → o ∉ xs → (xs.map (ren m o)).Nodup
  | [], _, _ => List.nodup_nil
  | x :: xs, hn, ho => by
    obtain ⟨h1, h2⟩ := List.nodup_cons.mp hn
    have ho2 : o ∉ xs := fun z => ho (List.mem_cons_of_mem _ z)
    have ho1 : o ≠ x := fun z => ho (z ▸ List.mem_cons_self)
    refine List.nodup_cons.mpr ⟨fun z => ?_, ren_nd h2 ho2⟩
    obtain ⟨y, hy, e⟩ := List.mem_map.mp z
    have yo : y ≠ o := fun z => ho2 (z ▸ hy)
    unfold ren at e
    by_cases c1 : y = m <;> by_cases c2 : x = m
    · exact h1 ((c2.trans c1.symm) ▸ hy)
    · rw [if_pos c1, if_neg c2] at e
      exact ho1 e
    · rw [if_neg c1, if_pos c2] at e
      exact yo e
    · rw [if_neg c1, if_neg c2] at e
      exact h1 (e ▸ hy)
theorem mem_ends {h : Nat} {t : Tie} {ts : List Tie} (ht : t ∈ ts) {x : Nat} (hx : x ∈ endsAt h t) : x ∈ marksAt h ts := List.mem_flatMap.mpr ⟨t, ht, hx⟩
theorem WebOk.lt2 {n : Nat} {ts : List Tie} (w : WebOk n ts) : ∀ t ∈ ts, t.a ≠ t.b := fun t ht e => by
  have := (w.lt t ht).1
  omega
theorem map_pr (h m o : Nat) (ts : List Tie) : (ts.map (chg h m o)).map Tie.pr = ts.map Tie.pr := by
  rw [List.map_map]
  exact List.map_congr_left fun t _ => chg_pr h m o t
theorem WebOk.chg {n : Nat} {ts : List Tie} (w : WebOk n ts) {h m o : Nat} (ho : o ∈ letters) (hn : o ∉ marksAt h ts) : WebOk n (ts.map (Wh.chg h m o)) := by
  refine ⟨w.n2, w.n10, fun t ht => ?_, fun k a b => ?_, by rw [map_pr]; exact w.pnd, fun t ht => ?_, fun k => ?_, by rw [List.length_map]; exact w.len⟩
  · obtain ⟨u, hu, rfl⟩ := List.mem_map.mp ht
    rw [chg_a, chg_b]
    exact w.lt u hu
  · obtain ⟨u, hu, e⟩ := w.hang k a b
    exact ⟨_, List.mem_map_of_mem hu, by rw [chg_b]; exact e⟩
  · obtain ⟨u, hu, rfl⟩ := List.mem_map.mp ht
    obtain ⟨h1, h2⟩ := w.let_ u hu
    have ne := w.lt2 u hu
    rw [chg_m h m o ne, chg_o h m o ne]
    unfold ren
    refine ⟨?_, ?_⟩
    · split
      · split
        · exact ho
        · exact h1
      · exact h1
    · split
      · split
        · exact ho
        · exact h2
      · exact h2
  · rw [marksAt_chg h m o k w.lt2]
    by_cases hk : k = h
    · rw [if_pos hk]
      exact ren_nd (w.uniq h) hn
    · rw [if_neg hk]
      exact w.uniq k
theorem chg_back1 {h m o : Nat} {t : Tie} (ne : t.a ≠ t.b) (hn : o ∉ endsAt h t) : chg h o m (chg h m o t) = t := by
  have h1 : t.a = h → t.m ≠ o := fun e z => hn (by
    unfold endsAt
    rw [if_pos e]
    exact List.mem_append_left _ (by rw [z]; exact List.mem_singleton.mpr rfl))
  have h2 : t.b = h → t.o ≠ o := fun e z => hn (by
    unfold endsAt
    rw [if_pos e]
    exact List.mem_append_right _ (by rw [z]; exact List.mem_singleton.mpr rfl))
  obtain ⟨a, m1, b, o1⟩ := t
  have ne' : (chg h m o ⟨a, m1, b, o1⟩).a ≠ (chg h m o ⟨a, m1, b, o1⟩).b := by
    rw [chg_a, chg_b]
    exact ne
  have e3 : (chg h o m (chg h m o ⟨a, m1, b, o1⟩)).m = m1 := by
    rw [chg_m h o m ne', chg_m h m o ne, chg_a]
    show (if a = h then ren o m (if a = h then ren m o m1 else m1) else if a = h then ren m o m1 else m1) = m1
    by_cases c : a = h
    · have := h1 c
      simp only [if_pos c]
      unfold ren
      by_cases d : m1 = m
      · rw [if_pos d, if_pos rfl, d]
      · rw [if_neg d, if_neg this]
    · simp only [if_neg c]
  have e4 : (chg h o m (chg h m o ⟨a, m1, b, o1⟩)).o = o1 := by
    rw [chg_o h o m ne', chg_o h m o ne, chg_b]
    show (if b = h then ren o m (if b = h then ren m o o1 else o1) else if b = h then ren m o o1 else o1) = o1
    by_cases c : b = h
    · have := h2 c
      simp only [if_pos c]
      unfold ren
      by_cases d : o1 = m
      · rw [if_pos d, if_pos rfl, d]
      · rw [if_neg d, if_neg this]
    · simp only [if_neg c]
  have e1 : (chg h o m (chg h m o ⟨a, m1, b, o1⟩)).a = a := by rw [chg_a, chg_a]
  have e2 : (chg h o m (chg h m o ⟨a, m1, b, o1⟩)).b = b := by rw [chg_b, chg_b]
  revert e1 e2 e3 e4
  generalize chg h o m (chg h m o ⟨a, m1, b, o1⟩) = u
  intro e1 e2 e3 e4
  obtain ⟨x1, x2, x3, x4⟩ := u
  simp only at e1 e2 e3 e4
  rw [e1, e2, e3, e4]
theorem chg_back {n : Nat} {ts : List Tie} (w : WebOk n ts) {h m o : Nat} (hn : o ∉ marksAt h ts) : (ts.map (chg h m o)).map (chg h o m) = ts := by
  rw [List.map_map]
  refine (List.map_congr_left fun t ht => ?_).trans (List.map_id _)
  exact chg_back1 (w.lt2 t ht) fun z => hn (mem_ends ht z)
/-- behind a change the mark is gone, the other letter is there -/
theorem chg_marks {n : Nat} {ts : List Tie} (w : WebOk n ts) (h m o : Nat) : marksAt h (ts.map (chg h m o)) = (marksAt h ts).map (ren m o) := by
  rw [marksAt_chg h m o h w.lt2, if_pos rfl]
theorem chg_has {n : Nat} {ts : List Tie} (w : WebOk n ts) {h m o : Nat} (hm : m ∈ marksAt h ts) : o ∈ marksAt h (ts.map (chg h m o)) := by
  rw [chg_marks w]
  exact List.mem_map.mpr ⟨m, hm, by unfold ren; rw [if_pos rfl]⟩
theorem chg_not {n : Nat} {ts : List Tie} (w : WebOk n ts) {h m o : Nat} (hmo : m ≠ o) : m ∉ marksAt h (ts.map (chg h m o)) := by
  rw [chg_marks w]
  intro z
  obtain ⟨y, _, e⟩ := List.mem_map.mp z
  unfold ren at e
  by_cases c : y = m
  · rw [if_pos c] at e
    exact hmo e.symm
  · rw [if_neg c] at e
    exact c e
end Wh

namespace Wh
open PySem L2
/-! ### houses and ends that stand apart -/
def kP (p : Pr) : List Key := [.inl (p.1 : Int), .inl (p.2 : Int)]
def kE (h m : Nat) : List Key := [.inl (h : Int), .inr (sgn m)]
def prK (ts : List Tie) : List (List Key × V) := ts.map fun t => (kP t.pr, .bl true)
def endK (ts : List Tie) : List (List Key × V) := ts.flatMap fun t => [(kE t.a t.m, .bl true), (kE t.b t.o, .bl true)]
theorem val_none {κ : Type} [DecidableEq κ] {kvs : List (κ × V)} {k : κ} (h : k ∉ kvs.map (·.1)) : valV kvs k = none := by
  cases e : valV kvs k with
  | none => rfl
  | some u => exact absurd (valV_in e) h
theorem kP_inj {p q : Pr} (h : kP p = kP q) : p = q := by
  obtain ⟨a, b⟩ := p
  obtain ⟨c, d⟩ := q
  unfold kP at h
  injection h with h1 h
  injection h with h2 _
  injection h1 with h1
  injection h2 with h2
  have e1 : (a : Int) = (c : Int) := h1
  have e2 : (b : Int) = (d : Int) := h2
  rw [show a = c by omega, show b = d by omega]
theorem kE_inj {h m h2 m2 : Nat} (e : kE h m = kE h2 m2) : h = h2 ∧ m = m2 := by
  unfold kE at e
  injection e with e1 e
  injection e with e2 _
  injection e1 with e1
  injection e2 with e2
  have e3 : (h : Int) = (h2 : Int) := e1
  exact ⟨by omega, sgn_inj e2⟩
theorem prK_no {ts : List Tie} {p : Pr} (h : p ∉ ts.map Tie.pr) : valV (prK ts) (kP p) = none := by
  refine val_none fun z => h ?_
  unfold prK at z
  rw [List.map_map] at z
  obtain ⟨t, ht, e⟩ := List.mem_map.mp z
  exact List.mem_map.mpr ⟨t, ht, kP_inj e⟩
theorem marks_of {h m : Nat} {ts : List Tie} {t : Tie} (ht : t ∈ ts) (hm : m ∈ endsAt h t) : m ∈ marksAt h ts := List.mem_flatMap.mpr ⟨t, ht, hm⟩
theorem endK_no {ts : List Tie} {h m : Nat} (hn : m ∉ marksAt h ts) : valV (endK ts) (kE h m) = none := by
  refine val_none fun z => hn ?_
  obtain ⟨kv, hkv, e⟩ := List.mem_map.mp z
  obtain ⟨t, ht, q⟩ := List.mem_flatMap.mp hkv
  simp only [List.mem_cons, List.not_mem_nil, or_false] at q
  refine marks_of ht ?_
  rcases q with rfl | rfl
  · obtain ⟨e1, e2⟩ := kE_inj e
    subst e1 e2
    unfold endsAt
    rw [if_pos rfl]
    exact List.mem_append_left _ (List.mem_singleton.mpr rfl)
  · obtain ⟨e1, e2⟩ := kE_inj e
    subst e1 e2
    unfold endsAt
    rw [if_pos (show t.b = t.b from rfl)]
    exact List.mem_append_right _ (List.mem_singleton.mpr rfl)
theorem prK_snoc (ts : List Tie) (t : Tie) : prK (ts ++ [t]) = prK ts ++ [(kP t.pr, .bl true)] := List.map_append
theorem endK_snoc (ts : List Tie) (t : Tie) : endK (ts ++ [t]) = endK ts ++ [(kE t.a t.m, .bl true)] ++ [(kE t.b t.o, .bl true)] := by
  unfold endK
  rw [List.flatMap_append, List.flatMap_singleton, List.append_assoc]
  rfl
theorem prK_len (ts : List Tie) : (prK ts).length = ts.length := List.length_map _
theorem endK_len : ∀ ts : List Tie, (endK ts).length = 2 * ts.length
  | [] => rfl
  | t :: ts => by
    show ([(kE t.a t.m, V.bl true), (kE t.b t.o, V.bl true)] ++ endK ts).length = _
    rw [List.length_append, endK_len ts]
    show 2 + 2 * ts.length = 2 * (ts.length + 1)
    omega
theorem pr_new {n : Nat} {ts : List Tie} (w : WebOk n ts) {i : Nat} {t : Tie} (hi : ts[i]? = some t) : t.pr ∉ (ts.take i).map Tie.pr := by
  have h := w.pnd
  rw [take_split hi, List.map_append, List.map_cons] at h
  intro z
  exact (List.nodup_append.mp h).2.2 _ z _ List.mem_cons_self rfl
/-- the other end too: its key is new, also behind the first -/
theorem endK_no2 {n : Nat} {ts : List Tie} (w : WebOk n ts) {i : Nat} {t : Tie} (hi : ts[i]? = some t) : valV (endK (ts.take i) ++ [(kE t.a t.m, .bl true)]) (kE t.b t.o) = none := by
  have ne : t.a ≠ t.b := by
    have := (w.lt t (List.mem_of_getElem? hi)).1
    omega
  refine val_none fun z => ?_
  rw [List.map_append] at z
  rcases List.mem_append.mp z with z | z
  · have h := endK_no (mark_new_b w.uniq hi ne)
    exact valV_not h z
  · have e := List.mem_singleton.mp z
    exact ne (kE_inj e).1.symm
/-! ### houses that are reached -/
def reachK (hs : List Nat) : List (Key × V) := hs.map fun (h : Nat) => (Sum.inl (h : Int), V.bl true)
theorem reach_mem {hs : List Nat} {h : Nat} : (Sum.inl (h : Int) : Key) ∈ (reachK hs).map (·.1) ↔ h ∈ hs := by
  unfold reachK
  rw [List.map_map, List.mem_map]
  constructor
  · rintro ⟨x, hx, e⟩
    have e2 : (x : Int) = (h : Int) := Sum.inl.inj e
    have e3 : x = h := by omega
    exact e3 ▸ hx
  · exact fun hh => ⟨h, hh, rfl⟩
theorem reach_val (hs : List Nat) (h : Nat) : (valV (reachK hs) (Sum.inl (h : Int) : Key)).isSome = decide (h ∈ hs) := by
  cases e : valV (reachK hs) (Sum.inl (h : Int) : Key) with
  | none =>
    have q := valV_not e
    rw [reach_mem] at q
    simp [q]
  | some u =>
    have q := valV_in e
    rw [reach_mem] at q
    simp [q]
def addH (hs : List Nat) (h : Nat) : List Nat := if h ∈ hs then hs else hs ++ [h]
theorem reach_put (hs : List Nat) (h : Nat) : putK (reachK hs) (Sum.inl (h : Int) : Key) (.bl true) = reachK (addH hs h) := by
  unfold addH
  by_cases hh : h ∈ hs
  · rw [if_pos hh]
    unfold putK
    have e : ((reachK hs).any fun kv => decide (kv.1 = (Sum.inl (h : Int) : Key))) = true := by
      rw [List.any_eq_true]
      exact ⟨(Sum.inl (h : Int), .bl true), List.mem_map.mpr ⟨h, hh, rfl⟩, by simp⟩
    rw [if_pos e]
    have e2 : ∀ kv ∈ reachK hs, (if kv.1 = (Sum.inl (h : Int) : Key) then (kv.1, V.bl true) else kv) = kv := by
      intro kv hkv
      obtain ⟨x, _, rfl⟩ := List.mem_map.mp hkv
      split <;> rfl
    rw [List.map_congr_left e2, List.map_id']
  · rw [if_neg hh, putK_new _ (val_none (fun z => hh (reach_mem.mp z)))]
    unfold reachK
    rw [List.map_append]
    rfl
theorem addH_mem {hs : List Nat} {h x : Nat} : x ∈ addH hs h ↔ x ∈ hs ∨ x = h := by
  unfold addH
  by_cases hh : h ∈ hs
  · rw [if_pos hh]
    exact ⟨.inl, fun z => z.elim id fun e => e ▸ hh⟩
  · rw [if_neg hh, List.mem_append, List.mem_singleton]
theorem addH_nd {hs : List Nat} (h : Nat) (n : hs.Nodup) : (addH hs h).Nodup := by
  unfold addH
  by_cases hh : h ∈ hs
  · rw [if_pos hh]
    exact n
  · rw [if_neg hh]
    exact nd_snoc n hh
theorem addH_len (hs : List Nat) (h : Nat) : hs.length ≤ (addH hs h).length ∧ ((addH hs h).length = hs.length → h ∈ hs) := by
  unfold addH
  by_cases hh : h ∈ hs
  · rw [if_pos hh]
    exact ⟨Nat.le_refl _, fun _ => hh⟩
  · rw [if_neg hh, List.length_append]
    exact ⟨Nat.le_add_right _ _, fun e => by simp at e⟩
/-- one pass over one tie -/
def passT (hs : List Nat) (t : Tie) : List Nat := if t.a ∈ hs ∨ t.b ∈ hs then addH (addH hs t.a) t.b else hs
structure Reach (n : Nat) (hs : List Nat) : Prop where
  nd : hs.Nodup
  lt : ∀ h ∈ hs, h < n
  zero : 0 ∈ hs
theorem Reach.len {n : Nat} {hs : List Nat} (r : Reach n hs) : hs.length ≤ n := by
  have := nd_sub_len (s := List.range n) r.nd fun x hx => List.mem_range.mpr (r.lt x hx)
  rwa [List.length_range] at this
theorem Reach.pass {n : Nat} {hs : List Nat} (r : Reach n hs) {t : Tie} (ha : t.a < n) (hb : t.b < n) : Reach n (passT hs t) ∧ hs.length ≤ (passT hs t).length ∧ ((passT hs t).length = hs.length → passT hs t = hs ∧ (t.a ∈ hs ↔ t.b ∈ hs)) := by
  unfold passT
  by_cases h : t.a ∈ hs ∨ t.b ∈ hs
  · rw [if_pos h]
    have l1 := addH_len hs t.a
    have l2 := addH_len (addH hs t.a) t.b
    refine ⟨⟨addH_nd _ (addH_nd _ r.nd), fun x hx => ?_, addH_mem.mpr (.inl (addH_mem.mpr (.inl r.zero)))⟩, by omega, fun e => ?_⟩
    · rcases addH_mem.mp hx with hx | rfl
      · rcases addH_mem.mp hx with hx | rfl
        · exact r.lt x hx
        · exact ha
      · exact hb
    · have m1 := l1.2 (by omega)
      have e1 : addH hs t.a = hs := by
        unfold addH
        rw [if_pos m1]
      rw [e1] at l2 e ⊢
      have m2 := l2.2 (by omega)
      refine ⟨?_, fun _ => m2, fun _ => m1⟩
      unfold addH
      rw [if_pos m2]
  · rw [if_neg h]
    exact ⟨r, Nat.le_refl _, fun _ => ⟨rfl, fun z => absurd (.inl z) h, fun z => absurd (.inr z) h⟩⟩
/-- nothing more is reached: all houses are -/
theorem reach_all {n : Nat} {ts : List Tie} (w : WebOk n ts) {hs : List Nat} (r : Reach n hs) (cl : ∀ t ∈ ts, t.a ∈ hs ↔ t.b ∈ hs) : hs.length = n := by
  have all : ∀ k, ∀ h, h ≤ k → h < n → h ∈ hs := by
    intro k
    induction k with
    | zero =>
      intro h hk _
      rw [show h = 0 by omega]
      exact r.zero
    | succ k ih =>
      intro h hk hn
      by_cases h0 : h = 0
      · rw [h0]
        exact r.zero
      · obtain ⟨t, ht, e⟩ := w.hang h (by omega) hn
        have l := (w.lt t ht).1
        have m := ih t.a (by omega) (by omega)
        rw [← e]
        exact (cl t ht).mp m
  have h1 := r.len
  have h2 := nd_sub_len (l := List.range n) (s := hs) List.nodup_range fun x hx => all n x (by have := List.mem_range.mp hx; omega) (List.mem_range.mp hx)
  rw [List.length_range] at h2
  omega
end Wh

namespace Wh
open PySem L2
/-! ### sorted rows: some arrangement by the order of the data -/
theorem sort_rows2 {α : Type} {K : PySem.W.Frag} {H : Hp} {a : Addr} {Q : VK} (f : α → List V) {ps : List (Addr × α)} (hl : SqL K H a (refs ps)) (hA : At f H ps) (hn : ∀ p ∈ ps, (f p.2).all nb = true)
    (hal : ∀ x y : α, PySem.W.alike (tD (f x)) (tD (f y)) = true) (hne : ∀ x : α, ∃ v r, f x = v :: r)
    (h : ∀ (z : Addr) (qs : List (Addr × α)), qs.Perm ps → qs.Pairwise (fun p q => (!PySem.W.dataLt (tD (f q.2)) (tD (f p.2))) = true) → H z = none → Q (.ref z) (upd H z (.lst (refs qs)))) : rSortD K [.ref a] H Q := by
  refine sort_rows f (fun x y => !PySem.W.dataLt (tD (f y)) (tD (f x))) hl hA hn hal hne (fun _ _ => rfl) fun z nz => h z _ (List.mergeSort_perm _ _) ?_ nz
  exact PySem.W.sort_pairwise (le := fun p q : Addr × α => !PySem.W.dataLt (tD (f q.2)) (tD (f p.2))) (PySem.W.sortLe_total (PyProof.Rows.listOrd PyProof.Rows.itemOrd) false fun p : Addr × α => PySem.W.keyToks (tD (f p.2))) ps
theorem tie_alike (x y : Tie) : PySem.W.alike (tD (tieV x)) (tD (tieV y)) = true := by
  show PySem.W.alike (.tuple [.int _, .str _, .int _, .str _]) (.tuple [.int _, .str _, .int _, .str _]) = true
  simp [PySem.W.alike, PySem.W.alikeAll]
/-! ### rows by the pairs of houses -/
def rowV (t : Tie) : List V := [.int (t.a : Int), .int (t.b : Int), .str (sgn t.m), .str (sgn t.o)]
theorem row_alike (x y : Tie) : PySem.W.alike (tD (rowV x)) (tD (rowV y)) = true := by
  show PySem.W.alike (.tuple [.int _, .int _, .str _, .str _]) (.tuple [.int _, .int _, .str _, .str _]) = true
  simp [PySem.W.alike, PySem.W.alikeAll]
theorem rowV_nb {t : Tie} (hm : t.m ∈ letters) (ho : t.o ∈ letters) : (rowV t).all nb = true := by
  have h := tieV_nb hm ho
  unfold tieV at h
  unfold rowV
  simp only [List.all_cons, List.all_nil, Bool.and_true, Bool.and_eq_true] at *
  exact ⟨h.1, h.2.2.1, h.2.1, h.2.2.2⟩
instance (x y : Pr) : Decidable (PrLt x y) := by unfold PrLt; infer_instance
theorem row_lt {x y : Tie} (h : x.pr ≠ y.pr) : PySem.W.dataLt (tD (rowV x)) (tD (rowV y)) = decide (PrLt x.pr y.pr) := by
  show PySem.W.dataLt (.tuple [.int (x.a : Int), .int (x.b : Int), .str (sgn x.m), .str (sgn x.o)]) (.tuple [.int (y.a : Int), .int (y.b : Int), .str (sgn y.m), .str (sgn y.o)]) = _
  have al : ∀ i j : Int, PySem.W.alike (.int i) (.int j) = true := fun _ _ => by simp [PySem.W.alike]
  rw [PySem.W.dataLt_tuple, PySem.W.dataLt_cons (al _ _), PySem.W.dataLt_cons (al _ _), PySem.W.dataLt_int, PySem.W.dataLt_int]
  have e1 : PyData.eqv (.int (x.a : Int)) (.int (y.a : Int)) = decide (x.a = y.a) := by
    rw [PyData.eqv]
    by_cases q : x.a = y.a
    · simp [q]
    · rw [decide_eq_false q, beq_eq_false_iff_ne]
      omega
  have e2 : PyData.eqv (.int (x.b : Int)) (.int (y.b : Int)) = decide (x.b = y.b) := by
    rw [PyData.eqv]
    by_cases q : x.b = y.b
    · simp [q]
    · rw [decide_eq_false q, beq_eq_false_iff_ne]
      omega
  rw [e1, e2]
  unfold PrLt Tie.pr
  by_cases q1 : x.a = y.a
  · have q2 : ¬ x.b = y.b := fun q2 => h (by unfold Tie.pr; rw [q1, q2])
    rw [if_pos (decide_eq_true q1), if_neg (by rw [decide_eq_false q2]; exact Bool.false_ne_true)]
    congr 1
    simp only [eq_iff_iff]
    omega
  · rw [if_neg (by rw [decide_eq_false q1]; exact Bool.false_ne_true)]
    congr 1
    simp only [eq_iff_iff]
    omega
theorem prLt_asym {x y : Pr} (h : PrLt x y) : ¬ PrLt y x := by
  unfold PrLt at *
  omega
theorem prLt_tri {x y : Pr} (h : x ≠ y) (h2 : ¬ PrLt y x) : PrLt x y := by
  obtain ⟨a, b⟩ := x
  obtain ⟨c, d⟩ := y
  unfold PrLt at *
  have : ¬ (a = c ∧ b = d) := fun ⟨e1, e2⟩ => h (by rw [e1, e2])
  simp only at *
  omega
/-- just one list is in order -/
theorem srt_uniq : ∀ {l m : List Tie}, (l.map Tie.pr).Pairwise PrLt → (m.map Tie.pr).Pairwise PrLt → l.Perm m → l = m
  | [], m, _, _, p => p.nil_eq
  | x :: l, [], _, _, p => absurd p.length_eq (by simp)
  | x :: l, y :: m, hl, hm, p => by
    rw [List.map_cons, List.pairwise_cons] at hl hm
    have e : x = y := by
      rcases List.mem_cons.mp (p.mem_iff.mp (List.mem_cons_self (a := x))) with e | hx
      · exact e
      · rcases List.mem_cons.mp (p.mem_iff.mpr (List.mem_cons_self (a := y))) with e | hy
        · exact e.symm
        · exact absurd (hl.1 _ (List.mem_map_of_mem hy)) (prLt_asym (hm.1 _ (List.mem_map_of_mem hx)))
    subst e
    rw [srt_uniq hl.2 hm.2 p.cons_inv]
/-- rows in order are ties in the order of their houses -/
theorem rows_srt {qs : List (Addr × Tie)} (hn : ((qs.map (·.2)).map Tie.pr).Nodup) (hs : qs.Pairwise (fun p q => (!PySem.W.dataLt (tD (rowV q.2)) (tD (rowV p.2))) = true)) : ((qs.map (·.2)).map Tie.pr).Pairwise PrLt := by
  rw [List.map_map] at hn ⊢
  rw [List.pairwise_map]
  have hn2 : qs.Pairwise fun a b => a.2.pr ≠ b.2.pr := List.pairwise_map.mp hn
  refine (hs.and hn2).imp fun {a b} ⟨h1, h2⟩ => ?_
  rw [row_lt (fun e => h2 e.symm), Bool.not_eq_true', decide_eq_false_iff_not] at h1
  exact prLt_tri h2 h1
/-! ### the pieces of a line -/
theorem line_app (t : Tie) : ((((((Str.empty ++ sgn (48 + t.a)) ++ (" " : Str)) ++ sgn t.m) ++ (" " : Str)) ++ sgn (48 + t.b)) ++ (" " : Str)) ++ sgn t.o = lineS t := by
  have e : (" " : Str) = SX.S [32] := by decide +kernel
  have e0 : Str.empty = SX.S [] := rfl
  have es : ∀ c : Nat, sgn c = SX.S [c] := fun _ => rfl
  rw [e, e0]
  simp only [es, SX.S_cat]
  rfl
theorem str_app (x y : Str) : (x ++ y).length = x.length + y.length := by
  rw [TL.len_tl (x ++ y), TL.len_tl x, TL.len_tl y, TL.tl_append, List.length_append]
theorem small_str {x : Str} (h : x.length ≤ 1000) : x.length ≤ sizeLine := Nat.le_of_lt (small1000 h)
theorem sgn_len (c : Nat) : (sgn c).length = 1 := rfl
theorem sp_len : (" " : Str).length = 1 := by decide +kernel
theorem emp_len : Str.empty.length = 0 := rfl
end Wh

namespace Wh
open PySem L2
/-! ### sorted ties: one row only -/
def tLt (x y : Tie) : Prop := x.a < y.a ∨ (x.a = y.a ∧ (x.m < y.m ∨ (x.m = y.m ∧ (x.b < y.b ∨ (x.b = y.b ∧ x.o < y.o)))))
instance (x y : Tie) : Decidable (tLt x y) := by unfold tLt; infer_instance
theorem int_eqv (i j : Nat) : PyData.eqv (.int (i : Int)) (.int (j : Int)) = decide (i = j) := by
  rw [PyData.eqv]
  by_cases q : i = j
  · simp [q]
  · rw [decide_eq_false q, beq_eq_false_iff_ne]
    omega
theorem sgn_eqv (i j : Nat) : PyData.eqv (.str (sgn i)) (.str (sgn j)) = decide (i = j) := by
  rw [PyData.eqv]
  by_cases q : i = j
  · simp [q]
  · rw [decide_eq_false q, beq_eq_false_iff_ne]
    exact fun e => q (sgn_inj e)
theorem sgn_lt (i j : Nat) : PySem.W.dataLt (.str (sgn i)) (.str (sgn j)) = decide (i < j) := by
  rw [PySem.W.dataLt_str]
  show decide ([i] < [j]) = decide (i < j)
  by_cases q : i < j
  · rw [decide_eq_true q]
    exact decide_eq_true (List.cons_lt_cons_iff.mpr (.inl q))
  · rw [decide_eq_false q]
    refine decide_eq_false fun e => ?_
    rcases List.cons_lt_cons_iff.mp e with z | ⟨_, z⟩
    · exact q z
    · exact absurd z (by simp)
theorem tie_lt (x y : Tie) : PySem.W.dataLt (tD (tieV x)) (tD (tieV y)) = decide (tLt x y) := by
  show PySem.W.dataLt (.tuple [.int (x.a : Int), .str (sgn x.m), .int (x.b : Int), .str (sgn x.o)]) (.tuple [.int (y.a : Int), .str (sgn y.m), .int (y.b : Int), .str (sgn y.o)]) = _
  have ai : ∀ i j : Int, PySem.W.alike (.int i) (.int j) = true := fun _ _ => by simp [PySem.W.alike]
  have as : ∀ i j : Str, PySem.W.alike (.str i) (.str j) = true := fun _ _ => by simp [PySem.W.alike]
  rw [PySem.W.dataLt_tuple, PySem.W.dataLt_cons (ai _ _), PySem.W.dataLt_cons (as _ _), PySem.W.dataLt_cons (ai _ _), PySem.W.dataLt_cons (as _ _), PySem.W.dataLt_int, PySem.W.dataLt_int, int_eqv, int_eqv, sgn_eqv, sgn_eqv, sgn_lt, sgn_lt]
  have il : ∀ i j : Nat, decide ((i : Int) < (j : Int)) = decide (i < j) := fun i j => by
    by_cases q : i < j
    · rw [decide_eq_true q]
      exact decide_eq_true (by omega)
    · rw [decide_eq_false q]
      exact decide_eq_false (by omega)
  rw [il, il]
  unfold tLt
  by_cases h1 : x.a = y.a <;> by_cases h2 : x.m = y.m <;> by_cases h3 : x.b = y.b <;> by_cases h4 : x.o = y.o <;> simp [h1, h2, h3, h4]
  exact PyProof.Rows.lex_irrefl _
theorem tLt_tri (x y : Tie) (h1 : ¬ tLt x y) (h2 : ¬ tLt y x) : x = y := by
  obtain ⟨a, m, b, o⟩ := x
  obtain ⟨a2, m2, b2, o2⟩ := y
  unfold tLt at h1 h2
  simp only at h1 h2
  have e1 : a = a2 := by omega
  have e2 : m = m2 := by omega
  have e3 : b = b2 := by omega
  have e4 : o = o2 := by omega
  subst e1 e2 e3 e4
  rfl
/-- two rows of the same ties, both sorted, are one -/
theorem ties_uniq : ∀ {l m : List Tie}, l.Pairwise (fun x y => ¬ tLt y x) → m.Pairwise (fun x y => ¬ tLt y x) → l.Perm m → l = m
  | [], _, _, _, p => p.nil_eq
  | x :: l, [], _, _, p => absurd p.length_eq (by simp)
  | x :: l, y :: m, hl, hm, p => by
    rw [List.pairwise_cons] at hl hm
    have e : x = y := by
      rcases List.mem_cons.mp (p.mem_iff.mp (List.mem_cons_self (a := x))) with e | hx
      · exact e
      · rcases List.mem_cons.mp (p.mem_iff.mpr (List.mem_cons_self (a := y))) with e | hy
        · exact e.symm
        · exact tLt_tri x y (hm.1 _ hx) (hl.1 _ hy)
    subst e
    rw [ties_uniq hl.2 hm.2 p.cons_inv]
theorem ties_srt {qs : List (Addr × Tie)} (h : qs.Pairwise (fun p q => (!PySem.W.dataLt (tD (tieV q.2)) (tD (tieV p.2))) = true)) : (qs.map (·.2)).Pairwise (fun x y => ¬ tLt y x) := by
  rw [List.pairwise_map]
  refine h.imp fun {p q} e => ?_
  rw [tie_lt] at e
  simpa using e
end Wh

namespace Wh
open PySem L2
/-! ### webs as objects -/
def webF (txt pl : Str) (l dl : Addr) : List (Str × V) := [("_text", .str txt), ("_plain", .str pl), ("_ties", .ref l), ("_doors", .ref dl)]
theorem putF_new (f : Str) (v : V) : putF f v [] = [(f, v)] := rfl
theorem putF_1 (v w : V) : putF ("_plain" : Str) w [(("_text" : Str), v)] = [(("_text" : Str), v), ("_plain", w)] := by
  unfold putF
  rw [if_neg (by decide +kernel)]
  rfl
theorem putF_2 (v w x : V) : putF ("_ties" : Str) x [(("_text" : Str), v), ("_plain", w)] = [(("_text" : Str), v), ("_plain", w), ("_ties", x)] := by
  unfold putF
  rw [if_neg (by decide +kernel)]
  unfold putF
  rw [if_neg (by decide +kernel)]
  rfl
theorem putF_3 (v w x y : V) : putF ("_doors" : Str) y [(("_text" : Str), v), ("_plain", w), ("_ties", x)] = [(("_text" : Str), v), ("_plain", w), ("_ties", x), ("_doors", y)] := by
  unfold putF
  rw [if_neg (by decide +kernel)]
  unfold putF
  rw [if_neg (by decide +kernel)]
  unfold putF
  rw [if_neg (by decide +kernel)]
  rfl
theorem ff_plain (t p : Str) (l d : Addr) : (webF t p l d).lookup ("_plain" : Str) = some (.str p) := by
  unfold webF
  rw [List.lookup_cons, show (("_plain" : Str) == ("_text" : Str)) = false by decide +kernel, List.lookup_cons, show (("_plain" : Str) == ("_plain" : Str)) = true by decide +kernel]
theorem ff_ties (t p : Str) (l d : Addr) : (webF t p l d).lookup ("_ties" : Str) = some (.ref l) := by
  unfold webF
  rw [List.lookup_cons, show (("_ties" : Str) == ("_text" : Str)) = false by decide +kernel, List.lookup_cons, show (("_ties" : Str) == ("_plain" : Str)) = false by decide +kernel, List.lookup_cons, show (("_ties" : Str) == ("_ties" : Str)) = true by decide +kernel]
theorem ff_doors (t p : Str) (l d : Addr) : (webF t p l d).lookup ("_doors" : Str) = some (.ref d) := by
  unfold webF
  rw [List.lookup_cons, show (("_doors" : Str) == ("_text" : Str)) = false by decide +kernel, List.lookup_cons, show (("_doors" : Str) == ("_plain" : Str)) = false by decide +kernel, List.lookup_cons, show (("_doors" : Str) == ("_ties" : Str)) = false by decide +kernel, List.lookup_cons, show (("_doors" : Str) == ("_doors" : Str)) = true by decide +kernel]
theorem ff_no (t p : Str) (l d : Addr) {f : Str} (h : (f == ("_text" : Str)) = false ∧ (f == ("_plain" : Str)) = false ∧ (f == ("_ties" : Str)) = false ∧ (f == ("_doors" : Str)) = false) : (webF t p l d).lookup f = none := by
  unfold webF
  rw [List.lookup_cons, h.1, List.lookup_cons, h.2.1, List.lookup_cons, h.2.2.1, List.lookup_cons, h.2.2.2]
  rfl
structure WebAt (C : Addr) (H : Hp) (x : Addr) (n : Nat) (ts : List Tie) : Prop where
  ex : ∃ (dx : Addr) (txt : Str) (l : Addr) (ps : List (Addr × Tie)) (dl : Addr) (ds : List Addr), H x = some (.ins C dx (webF txt (webS ts) l dl)) ∧ H l = some (.tup (refs ps)) ∧ At tieV H ps ∧ (ps.map (·.2)).Perm ts ∧ Dr H dl ds n (ps.map (·.2)) ∧ (ps.map (·.2)).Pairwise (fun x y => ¬ tLt y x)
  wk : WebOk n ts
  srt : (ts.map Tie.pr).Pairwise PrLt
theorem WebAt.same {C : Addr} {H H' : Hp} {x : Addr} {n : Nat} {ts : List Tie} (w : WebAt C H x n ts) (s : Same H H') : WebAt C H' x n ts := by
  obtain ⟨dx, txt, l, ps, dl, ds, h1, h2, h3, h4, h5, h6⟩ := w.ex
  exact ⟨⟨dx, txt, l, ps, dl, ds, s _ _ h1, s _ _ h2, h3.same s, h4, h5.same s, h6⟩, w.wk, w.srt⟩
theorem WebAt.isI {C : Addr} {H : Hp} {x : Addr} {n : Nat} {ts : List Tie} (w : WebAt C H x n ts) : ∃ dx fs, H x = some (.ins C dx fs) := by
  obtain ⟨dx, txt, l, ps, dl, ds, h1, _⟩ := w.ex
  exact ⟨dx, _, h1⟩
/-- what of the text the class Web must have -/
structure WebC (K : PySem.W.Frag) (C : Addr) : Prop where
  c : Cls K C
  n1 : NoAttr K C "_text"
  n2 : NoAttr K C "_plain"
  n3 : NoAttr K C "_ties"
  n4 : NoAttr K C "_doors"
theorem But.tupI {c : Addr} {H H' : Hp} (h : But c H H') {C dx : Addr} {fs : List (Str × V)} (hc : H c = some (.ins C dx fs)) : ∀ b xs, H b = some (.tup xs) → H' b = some (.tup xs) := fun b xs e => h b _ e (ne_of e hc (by intro z; cases z))
theorem At.butI {α : Type} {f : α → List V} {H H' : Hp} {ps : List (Addr × α)} {c : Addr} {C dx : Addr} {fs : List (Str × V)} (h : At f H ps) (hc : H c = some (.ins C dx fs)) (b : But c H H') : At f H' ps := h.mono (b.tupI hc)
/-! ### some texts of single letters -/
def sS (ms : List Nat) : Str := SX.S ms
theorem sS_len (ms : List Nat) : (sS ms).length = ms.length := SX.S_len ms
theorem sS_cps (ms : List Nat) : (sS ms).cps.toList = ms := rfl
theorem join_sgn (ms : List Nat) : Txt.join ("" : Str) (ms.map sgn) = sS ms := by
  have e2 : ("" : Str) = SX.S [] := by decide +kernel
  have e : ms.map sgn = (ms.map fun m => [m]).map SX.S := by rw [List.map_map]; rfl
  rw [e, e2, SX.join_S]
  unfold sS
  congr 1
  have : ∀ xs : List Nat, TL.joinL [] (xs.map fun m => [m]) = xs := by
    intro xs
    induction xs with
    | nil => rfl
    | cons x r ih =>
      cases r with
      | nil => rfl
      | cons y r =>
        show [x] ++ ([] ++ TL.joinL [] ((y :: r).map fun m => [m])) = _
        rw [ih]
        rfl
  exact this ms
theorem sgn_perm {ys : List Str} {ms : List Nat} (p : ys.Perm (ms.map sgn)) : ∃ ns : List Nat, ys = ns.map sgn ∧ ns.Perm ms := by
  refine ⟨ys.map fun y => y.cps.toList.headD 0, ?_, ?_⟩
  · rw [List.map_map]
    refine ((List.map_congr_left fun y hy => ?_).trans (List.map_id _)).symm
    obtain ⟨m, _, rfl⟩ := List.mem_map.mp (p.mem_iff.mp hy)
    rfl
  · have q := p.map fun y : Str => y.cps.toList.headD 0
    rw [List.map_map] at q
    have e : (List.map ((fun y : Str => y.cps.toList.headD 0) ∘ sgn) ms) = ms := (List.map_congr_left fun y hy => rfl).trans (List.map_id _)
    rw [e] at q
    exact q
theorem marks_let {n : Nat} {ts : List Tie} (w : WebOk n ts) (h : Nat) : ∀ x ∈ marksAt h ts, x ∈ letters := fun x hx => by
  obtain ⟨t, ht, hx⟩ := List.mem_flatMap.mp hx
  obtain ⟨h1, h2⟩ := w.let_ t ht
  unfold endsAt at hx
  rcases List.mem_append.mp hx with z | z
  · split at z
    · rw [List.mem_singleton.mp z]
      exact h1
    · cases z
  · split at z
    · rw [List.mem_singleton.mp z]
      exact h2
    · cases z
theorem marks12 {n : Nat} {ts : List Tie} (w : WebOk n ts) (h : Nat) : (marksAt h ts).length ≤ 12 := nd_sub_len (w.uniq h) (marks_let w h)
theorem sgn_sum : ∀ ns : List Nat, ((ns.map sgn).map (·.length)).sum = ns.length
  | [] => rfl
  | n :: ns => by
    rw [List.map_cons, List.map_cons, List.sum_cons, sgn_sum ns, sgn_len, List.length_cons]
    omega
end Wh

namespace Wh
open PySem PySem.Spec PyProof.Rows L2
/-! ### list(x), x a text -/
def rListS : List V → Hp → VK → Prop := fun xs H Q => ∃ x : Str, xs = [V.str x] ∧ x.length ≤ sizeLine ∧ ∀ p, H p = none → Q (.ref p) (upd H p (.lst (x.cps.toList.map fun c => V.str (sgn c))))
theorem call_list_S {X : Cx} (hc : X.calm = true) : CallR X (.type "list") rListS := by
  intro pins s σ H xs us Q I r h
  obtain ⟨x, e, hz, q⟩ := h
  subst e
  obtain ⟨u, eu, rx⟩ := vals1 r
  subst eu
  obtain ⟨t, rfl⟩ := rx
  refine call_list_str (I.ok.hd hc) x t (hn := hz) fun h' tk acc' c' hkeep hS hacc => ?_
  refine ⟨.ref s.heap.objs.size, upd H s.heap.objs.size (.lst (x.cps.toList.map fun c => V.str (sgn c))), I.laid hkeep (Nat.le_refl _) (show ObjOk X.prog X.w _ _ _ (.lst (x.cps.toList.map fun c => V.str (sgn c))) from ⟨?_, acc'.toList, c', ?_, ?_⟩), rfl, q _ (I.hok.fresh (Nat.le_refl _))⟩
  · rw [List.length_map]
    exact hz
  · refine vals_of_at (by rw [List.length_map]; simp [hacc.1]) fun j y w h1 h2 => ?_
    obtain ⟨c, u, hcv, hi⟩ := hacc.2 j w (by rw [← Array.getElem?_toList]; exact h2)
    rw [List.getElem?_map, Array.getElem?_toList, hcv] at h1
    cases h1
    exact ⟨u, hi⟩
  · simpa using hS
/-! ### x != y, own == , instances -/
structure NeF (K : PySem.W.Frag) (C f : Addr) : Prop where
  cls : ∃ nm q N bs hdct sn sub ab col dd k0 k1 k2 k3 k5 newId, K.lookup C = some (excClassObj nm q C N bs [.type "object"] hdct sn sub ab col dd k0 k1 k2 k3 k5 newId) ∧ PySem.W.nsOkIn K N = true ∧ PySem.W.nsIn K N "__eq__" = some (some (.ref f)) ∧ PySem.W.nsIn K N "__ne__" = some none
  fn : ∃ of, K.lookup f = some of ∧ of.cls = .type "function"
theorem obj_eq_name : typeLookup (.type "object") "__eq__" = pure (some (.builtin "object.__eq__")) := by rw [typeLookup_type, builtinLookup_eq_fast]; kernel_rfl
theorem ns_some_of {K : PySem.W.Frag} {h : Heap} {N : Addr} {mg : Str → Option Value} {n : Str} {v : Value} (X : K.In h) (G : h.Ns N mg) (e : PySem.W.nsIn K N n = some (some v)) : mg n = some v := by
  obtain ⟨o, es, ep, ho, hd, _, hf⟩ := G
  unfold PySem.W.nsIn at e
  split at e
  · rename_i c d es' n' sl q
    have := X _ _ q
    rw [ho] at this
    cases this
    cases hd
    split at e
    · rename_i en he
      cases e
      rw [← hf]
      unfold nsFind findBy
      rw [← Array.find?_toList, he]
      rfl
    · split at e <;> cases e
  · cases e
def rNeI (C : Addr) (sp : Sp) : R2 := fun x y H Q => ∃ a b dx dy fs gs, x = .ref a ∧ y = .ref b ∧ H a = some (.ins C dx fs) ∧ H b = some (.ins C dy gs) ∧ sp [.ref a, .ref b] H (fun v H' => ∃ c, v = .bl c ∧ Q (.bl (!c)) H') C8.E0
theorem op_neI {X : Cx} {n : Nat} {C f : Addr} {fd : FuncData} {ps : List Str} {sp : Sp} (F : FnOk X.prog X.w X.K X.mg X.base C8.CX0 n f fd ps sp) (T : NeF X.K C f) (hb : Binds X.K fd ps []) (hr : Room (n + 1) X.A) : OpR X (compareOp .NotEq) (rNeI C sp) := by
  intro pins s σ H x y v u Q I rx ry d
  obtain ⟨a, b, dx, dy, fs, gs, rfl, rfl, ha, hb', hsp⟩ := d
  cases rx
  cases ry
  obtain ⟨mA, J, _⟩ := ins_get I.hok ha
  obtain ⟨mB, J', _⟩ := ins_get I.hok hb'
  obtain ⟨od, J, _⟩ := J.look
  obtain ⟨od', J', _⟩ := J'.look
  obtain ⟨nm, q, N, bs, hdct, sn, sub, ab, col, dd, k0, k1, k2, k3, k5, newId, hC, hns, heq, hne⟩ := T.cls
  obtain ⟨of, hof, hofc⟩ := T.fn
  have KX := I.kIn
  have hN : s.heap.Ns N (s.heap.nsMap N) := .of_isNs (PySem.W.isNs_of_in KX hns)
  have OE : s.heap.OwnEqNoNe a C f "object" [.type "object"] := ⟨_, of, nm, q, N, bs, hdct, sn, sub, ab, col, dd, k0, k1, k2, k3, k5, newId, _, _, J.at_, J.cls, KX _ _ hC, hN, ns_some_of KX hN heq, KX _ _ hof, hofc, PySem.F.mro_object, obj_eq_name, PySem.W.ns_none_of KX hN hne⟩
  have r2 : Vals [V.ref a, V.ref b] [Value.ref a, Value.ref b] := .cons rfl (.cons rfl .nil)
  have hl := F.len _ _ _ _ hsp
  have e0 := I.env0.in1
  have hcall : wpAny (model X.prog X.w) X.A.in1 (call (.ref f) [.ref a, .ref b]) (fun v s' => ∃ c, v = .bool c ∧ EP X pins σ Q (.bool (!c)) s') X.xe s := by
    refine wpAny_call (codeAny_mono (F.run X.A.in1 X.stack s H ⟨[.ref a, .ref b], []⟩ [.ref a, .ref b] [.ref a, .ref b] _ C8.E0 hr.in1 e0 (by
      have := hb s [.ref a, .ref b] I.kIn (by simpa using hl)
      simpa using this) r2 hsp) fun r s' hq => ?_)
    cases r with
    | error e => exact hq.elim
    | ok fl =>
      cases fl with
      | ret w =>
        obtain ⟨z, H', I', rz, c, ez, q⟩ := I.after hq
        subst ez
        cases rz
        exact ⟨c, rfl, .bl (!c), H', I', rfl, q⟩
      | next => exact False.elim hq
      | brk => exact False.elim hq
      | cont => exact False.elim hq
  obtain ⟨hh, g, d', t, os⟩ := s
  exact compareOp_ne_ownEq PySem.F.cmp_object OE J'.at_ J'.cls (by have := hr.un; omega) hcall
/-! ### o.m(k = v, ..) -/
def tMethK (C : Addr) (m : Str) (sp : Sp) (gV : List V → List V → List V) (E : XK) (ta : TE) (tk : TA) : TE := fun σ H Q => ta σ H fun x H1 => ∃ a dx fs, x = .ref a ∧ H1 a = some (.ins C dx fs) ∧ fs.lookup m = none ∧ tk σ H1 fun zs H2 => sp (gV [x] zs) H2 Q E
theorem pe_methK0 {X : Cx} {CX : CXT} {k : Nat} {f C : Addr} {fd : FuncData} {ps ks : List Str} {sp : Sp} {E : XK} {m : Str} {pos apos : Pos} {o : Expr} {kws : List Keyword} {ta : TE} {tk : TA} {g : List Value → List Value → List Value} {gV : List V → List V → List V} {pl : Sem Bool}
    (he : PE X o ta) (c : Cls X.K C) (hm : Meth X.K C m f) (F : FnOk X.prog X.w X.K X.mg X.base CX k f fd ps sp) (hr : Room k X.A) (hb : KBinds X.K fd ps ks g gV) (hx : Passes CX X E) (hkw : PK X kws tk)
    (hall : (backToKw pos (keywordEach kws X.env)).all (·.1.isSome) = true := by rfl) (hks : (backToKw pos (keywordEach kws X.env)).filterMap (·.1) = ks := by rfl)
    (hpl : ((backTo pos (starEach [] X.env)).any (·.1) || (backToKw pos (keywordEach kws X.env)).any (·.1.isNone)) = false := by rfl)
    (ht : eval (.Call (.Attribute o m apos) [] kws pos) X.env = (do
      let ov ← eval o X.env
      standAt apos.atName
      let (f, first) ← holding [ov] (getMethod ov m pl)
      callWith pos f first (backTo pos (starEach [] X.env)) (backToKw pos (keywordEach kws X.env))) := by rfl) :
    PE X (.Call (.Attribute o m apos) [] kws pos) (tMethK C m sp gV E ta tk) := by
  refine ⟨fun pins s σ H Q I h => ?_⟩
  refine PySem.W.methodCall_KW (pl := pl) (thn (he.run pins s σ H _ I h) fun u s1 ⟨x, H1, I1, rx, a, dx, fs, ex, ea, l, q⟩ => ?_) ht
  subst ex
  obtain rfl : u = Value.ref a := rx
  refine getmeth_ok I1 ea c hm l ?_
  refine PySem.W.callWith_KW0 (first := [.ref a]) (h₀ := X.base) I.ok.mod.kin hm.kp hall ?_ hpl
  refine thn (hkw.run pos pins s1 σ H1 _ I1 q) fun ws s2 ⟨zs, H2, I2, rz, q2⟩ => ⟨I2.kIn, ?_⟩
  rw [hks]
  exact run_fnk (us := [.ref a]) (vs := [.ref a]) F hr hb hx I2 (.cons rfl .nil) rz q2
end Wh

namespace Wh
open PySem L2 LamX
/-- all that was tracked is as it was, but what stands at c, and the tables of code objects -/
def Kp (c : Addr) (H H' : Hp) : Prop := ∀ b o, H b = some o → b ≠ c → (∀ ps, o ≠ .tbl ps) → H' b = some o
theorem Kp.refl (c : Addr) (H : Hp) : Kp c H H := fun _ _ h _ _ => h
theorem Kp.trans {c : Addr} {H H1 H2 : Hp} (a : Kp c H H1) (b : Kp c H1 H2) : Kp c H H2 := fun d o h n t => b d o (a d o h n t) n t
theorem _root_.L2.Same.kp {c : Addr} {H H' : Hp} (s : Same H H') : Kp c H H' := fun b o h _ _ => s b o h
theorem But.kp {c : Addr} {H H' : Hp} (s : But c H H') : Kp c H H' := fun b o h n _ => s b o h n
theorem _root_.LamX.ExtN.kp {c : Addr} {H H' : Hp} (s : ExtN H H') : Kp c H H' := fun b o h _ t => s b o h t
theorem Cup.ne_refs {H : Hp} {c l : Addr} {ps : List Addr} (h : Cup H c) (e : H l = some (.lst (ps.map V.ref))) : l ≠ c := fun z => by
  obtain ⟨x, y, q⟩ := h
  rw [z, q] at e
  cases ps with
  | nil => cases e
  | cons p ps => cases e
theorem refs_eq {α : Type} (ps : List (Addr × α)) : refs ps = (ps.map (·.1)).map V.ref := by
  unfold refs
  rw [List.map_map]
  rfl
theorem Cup.ne_o {H : Hp} {c b : Addr} {o : HO} (h : Cup H c) (e : H b = some o) (n : ∀ xs, o ≠ .lst xs) : b ≠ c := fun z => by
  obtain ⟨x, y, q⟩ := h
  rw [z, q] at e
  exact n _ (Option.some.inj e).symm
theorem Cup.ext {H H' : Hp} {c : Addr} (h : Cup H c) (e : ExtN H H') : Cup H' c := by
  obtain ⟨x, y, q⟩ := h
  exact ⟨x, y, e _ _ q (fun ps z => by cases z)⟩
theorem Kp.tup {c : Addr} {H H' : Hp} (k : Kp c H H') (hc : Cup H c) {b : Addr} {xs : List V} (e : H b = some (.tup xs)) : H' b = some (.tup xs) := k _ _ e (hc.ne_o e fun ys z => by cases z) (fun ps z => by cases z)
theorem At.kp {α : Type} {f : α → List V} {H H' : Hp} {ps : List (Addr × α)} {c : Addr} (h : At f H ps) (k : Kp c H H') (hc : Cup H c) : At f H' ps := fun p hp => k.tup hc (h p hp)
theorem Kp.refs {c l : Addr} {H H' : Hp} {ps : List Addr} (k : Kp c H H') (hc : Cup H c) (e : H l = some (.lst (ps.map V.ref))) : H' l = some (.lst (ps.map V.ref)) := k _ _ e (hc.ne_refs e) (fun ps z => by cases z)
theorem Dr.kp {H H' : Hp} {dl c : Addr} {ds : List Addr} {n : Nat} {ts : List Tie} (d : Dr H dl ds n ts) (k : Kp c H H') (hc : Cup H c) : Dr H' dl ds n ts :=
  ⟨k.refs hc d.hl, d.len, d.nd, fun h a e => k _ _ (d.hd h a e) (hc.ne_o (d.hd h a e) fun ys z => by cases z) (fun ps z => by cases z)⟩
theorem WebAt.kp {C c : Addr} {H H' : Hp} {x : Addr} {n : Nat} {ts : List Tie} (w : WebAt C H x n ts) (k : Kp c H H') (hc : Cup H c) : WebAt C H' x n ts := by
  obtain ⟨dx, txt, l, ps, dl, ds, h1, h2, h3, h4, h5, h6⟩ := w.ex
  exact ⟨⟨dx, txt, l, ps, dl, ds, k _ _ h1 (hc.ne_o h1 fun ys z => by cases z) (fun ps z => by cases z), k.tup hc h2, h3.kp k hc, h4, h5.kp k hc, h6⟩, w.wk, w.srt⟩
theorem Tabs.but {T : List (Addr × Str)} {H H' : Hp} {c : Addr} (t : Tabs T H) (b : But c H H') (hc : Cup H c) : Tabs T H' := fun p hp => by
  obtain ⟨ps, h1, h2, h3⟩ := t p hp
  refine ⟨ps, b _ _ h1 (hc.ne_o h1 fun ys z => by cases z), h2, fun pos cv hcv => ?_⟩
  obtain ⟨d, e1, e2⟩ := h3 pos cv hcv
  exact ⟨d, e1, b _ _ e2 (hc.ne_o e2 fun ys z => by unfold CodeO at z; cases z)⟩
/-- within a turn: the cup, the tables, the web, what was told of it -/
structure St4 (C c : Addr) (T : List (Addr × Str)) (H0 H : Hp) (x l : Addr) (n : Nat) (ts : List Tie) : Prop where
  kp : Kp c H0 H
  cup : Cup H c
  tabs : Tabs T H
  web : WebAt C H x n ts
  told : ∃ ps, H l = some (.lst (refs ps)) ∧ At tieV H ps ∧ ps.map (·.2) = ts
section
variable {C c : Addr} {T : List (Addr × Str)} {H0 H H' : Hp} {x l : Addr} {n : Nat} {ts : List Tie}
theorem St4.step (s : St4 C c T H0 H x l n ts) (k : Kp c H H') (cu : Cup H' c) (tb : Tabs T H') : St4 C c T H0 H' x l n ts := by
  obtain ⟨ps, h1, h2, h3⟩ := s.told
  refine ⟨s.kp.trans k, cu, tb, s.web.kp k s.cup, ps, ?_, h2.kp k s.cup, h3⟩
  rw [refs_eq] at h1 ⊢
  exact k.refs s.cup h1
theorem St4.same (s : St4 C c T H0 H x l n ts) (e : Same H H') : St4 C c T H0 H' x l n ts := s.step e.kp (s.cup.same e) (s.tabs.ext e)
theorem St4.but (s : St4 C c T H0 H x l n ts) (e : But c H H') (cu : Cup H' c) : St4 C c T H0 H' x l n ts := s.step e.kp cu (Tabs.but s.tabs e s.cup)
theorem St4.ext (s : St4 C c T H0 H x l n ts) (e : ExtN H H') (tb : Tabs T H') : St4 C c T H0 H' x l n ts := s.step e.kp (s.cup.ext e) tb
end
theorem WebAt.fs {C : Addr} {H : Hp} {x : Addr} {n : Nat} {ts : List Tie} (w : WebAt C H x n ts) : ∃ dx fs, H x = some (.ins C dx fs) ∧ fs.lookup ("at" : Str) = none ∧ fs.lookup ("changed" : Str) = none := by
  obtain ⟨dx, txt, l, ps, dl, ds, h1, _⟩ := w.ex
  exact ⟨dx, _, h1, ff_no _ _ _ _ (by decide +kernel), ff_no _ _ _ _ (by decide +kernel)⟩
theorem marks_pos {n : Nat} {ts : List Tie} (w : WebOk n ts) {h : Nat} (hn : h < n) : 0 < (marksAt h ts).length := by
  have n2 := w.n2
  have ex : ∃ t ∈ ts, endsAt h t ≠ [] := by
    by_cases h0 : h = 0
    · obtain ⟨t, ht, e⟩ := w.hang 1 (Nat.le_refl _) (by omega)
      have := (w.lt t ht).1
      refine ⟨t, ht, ?_⟩
      unfold endsAt
      rw [if_pos (show t.a = h by omega)]
      intro z
      cases z
    · obtain ⟨t, ht, e⟩ := w.hang h (by omega) hn
      refine ⟨t, ht, ?_⟩
      unfold endsAt
      rw [if_pos e]
      intro z
      have := congrArg List.length z
      simp at this
  obtain ⟨t, ht, e⟩ := ex
  obtain ⟨y, hy⟩ := List.exists_mem_of_ne_nil _ e
  exact List.length_pos_of_mem (mem_ends ht hy)
/-! ### lists of flat data, equal -/
def lD (xs : List V) : PyData := .list (xs.map vD)
theorem lD_dp (K : PySem.W.Frag) {H : Hp} {p : Addr} {xs : List V} (h : xs.all nb = true) (e : H p = some (.lst xs)) : Dp K H (.ref p) (lD xs) := .lst (SqL.of e) (vDs_dp K H h)
theorem lD_shaped {xs : List V} (h : xs.all nb = true) : SeqAt.shaped (lD xs) = true := by
  show (PyData.canLay0 (.list (xs.map vD)) && decide (PyData.depth (.list (xs.map vD)) ≤ 64)) = true
  rw [PyData.canLay0, PyData.depth, vDs_lay h, vDs_depth]
  rfl
theorem lD_eqv {xs : List V} (h : xs.all nb = true) : PyData.eqv (lD xs) (lD xs) = true := by
  show PyData.eqv (.list (xs.map vD)) (.list (xs.map vD)) = true
  rw [PyData.eqv, vDs_eqv h h]
  exact decide_eq_true rfl
theorem rNeL {K : PySem.W.Frag} {H : Hp} {p q : Addr} {xs : List V} {Q : VK} (hp : H p = some (.lst xs)) (hq : H q = some (.lst xs)) (h : xs.all nb = true) (k : Q (.bl false) H) : rNeD K (.ref p) (.ref q) H Q :=
  ⟨_, _, lD_dp K h hp, lD_dp K h hq, lD_shaped h, lD_shaped h, by rw [lD_eqv h]; exact k⟩
theorem repr_nb : ∀ c ∈ letters, PyData.canLay0 (.str (reprText (sgn c))) = true := by
  intro c hc
  rw [PyData.canLay0]
  revert c
  decide +kernel
end Wh

namespace Wh
open PySem L2
/-! ### where a mark leads, where a word ends -/
def door (h m : Nat) (ts : List Tie) : Option Nat := ((doorsAt h ts).find? fun d => decide (d.1 = m)).map (·.2)
def walkN (ts : List Tie) : Nat → List Nat → Option Nat
  | h, [] => some h
  | h, m :: ms => (door h m ts).bind fun k => walkN ts k ms
theorem valV_door (h m : Nat) (ts : List Tie) : valV (doorsK h ts) (Sum.inr (sgn m) : Key) = (door h m ts).map (fun k : Nat => V.int (k : Int)) := by
  unfold valV doorsK door
  rw [List.find?_map]
  have e : ((fun kv : Key × V => decide (kv.1 = (Sum.inr (sgn m) : Key))) ∘ kD) = fun d => decide (d.1 = m) := by
    funext d
    show decide ((Sum.inr (sgn d.1) : Key) = Sum.inr (sgn m)) = decide (d.1 = m)
    by_cases c : d.1 = m
    · rw [c, decide_eq_true rfl, decide_eq_true rfl]
    · rw [decide_eq_false c, decide_eq_false fun z => c (sgn_inj (Sum.inr.inj z))]
  rw [e, Option.map_map, Option.map_map]
  rfl
theorem door_mem {h m k : Nat} {ts : List Tie} (e : door h m ts = some k) : (m, k) ∈ doorsAt h ts := by
  unfold door at e
  cases q : (doorsAt h ts).find? fun d => decide (d.1 = m) with
  | none =>
    rw [q] at e
    cases e
  | some d =>
    rw [q] at e
    have h1 := List.mem_of_find?_eq_some q
    have h2 : d.1 = m := of_decide_eq_true (List.find?_some (p := fun d : Nat × Nat => decide (d.1 = m)) q)
    have h3 : d.2 = k := Option.some.inj e
    obtain ⟨x, y⟩ := d
    simp only at h2 h3
    rw [h2, h3] at h1
    exact h1
theorem door_of {h m k : Nat} {ts : List Tie} (nd : (marksAt h ts).Nodup) (hm : (m, k) ∈ doorsAt h ts) : door h m ts = some k := by
  rw [← doorsAt_fst] at nd
  unfold door
  revert nd hm
  generalize doorsAt h ts = l
  intro nd hm
  induction l with
  | nil => cases hm
  | cons d l ih =>
    rw [List.map_cons] at nd
    obtain ⟨n1, n2⟩ := List.nodup_cons.mp nd
    rw [List.find?_cons]
    rcases List.mem_cons.mp hm with e | e
    · rw [← e]
      simp
    · have ne : d.1 ≠ m := fun z => n1 (List.mem_map.mpr ⟨(m, k), e, z.symm⟩)
      rw [decide_eq_false ne]
      exact ih n2 e
theorem doorsAt_perm {ts us : List Tie} (p : ts.Perm us) (h : Nat) : (doorsAt h ts).Perm (doorsAt h us) := p.flatMap_right _
theorem door_perm {n : Nat} {ts us : List Tie} (w : WebOk n ts) (p : ts.Perm us) (h m : Nat) : door h m ts = door h m us := by
  have pd := doorsAt_perm p h
  have nd2 : (marksAt h us).Nodup := (w.perm p).uniq h
  cases e : door h m ts with
  | some k => exact (door_of nd2 (pd.mem_iff.mp (door_mem e))).symm
  | none =>
    cases e2 : door h m us with
    | none => rfl
    | some k =>
      have := door_of (w.uniq h) (pd.mem_iff.mpr (door_mem e2))
      rw [e] at this
      cases this
theorem walkN_perm {n : Nat} {ts us : List Tie} (w : WebOk n ts) (p : ts.Perm us) : ∀ (ms : List Nat) (h : Nat), walkN ts h ms = walkN us h ms
  | [], _ => rfl
  | m :: ms, h => by
    show (door h m ts).bind _ = (door h m us).bind _
    rw [door_perm w p]
    cases door h m us with
    | none => rfl
    | some k => exact walkN_perm w p ms k
theorem door_lt {n h m k : Nat} {ts : List Tie} (w : WebOk n ts) (e : door h m ts = some k) : k < n := by
  have hm := door_mem e
  obtain ⟨t, ht, hm⟩ := List.mem_flatMap.mp hm
  have := w.lt t ht
  unfold endsD at hm
  rcases List.mem_append.mp hm with z | z
  · split at z
    · have e := List.mem_singleton.mp z
      injection e with e1 e2
      omega
    · cases z
  · split at z
    · have e := List.mem_singleton.mp z
      injection e with e1 e2
      omega
    · cases z
theorem walkN_app (ts : List Tie) : ∀ (xs ys : List Nat) (h : Nat), walkN ts h (xs ++ ys) = (walkN ts h xs).bind fun p => walkN ts p ys
  | [], _, _ => rfl
  | x :: xs, ys, h => by
    show (door h x ts).bind _ = ((door h x ts).bind _).bind _
    cases door h x ts with
    | none => rfl
    | some k => exact walkN_app ts xs ys k
theorem walk_step {ts : List Tie} {h p m : Nat} {ms : List Nat} {i : Nat} (hi : ms[i]? = some m) (hp : walkN ts h (ms.take i) = some p) : walkN ts h (ms.take (i + 1)) = door p m ts := by
  rw [List.take_succ, hi]
  show walkN ts h (ms.take i ++ [m]) = _
  rw [walkN_app, hp]
  show (door p m ts).bind _ = _
  cases door p m ts <;> rfl
theorem walk_stop {ts : List Tie} {h p m : Nat} {ms : List Nat} {i : Nat} (hi : ms[i]? = some m) (hp : walkN ts h (ms.take i) = some p) (hd : door p m ts = none) : walkN ts h ms = none := by
  rw [take_split hi, walkN_app, hp]
  show (door p m ts).bind _ = none
  rw [hd]
  rfl
def walkV : Option Nat → V
  | none => .non
  | some k => .int (k : Int)
end Wh

namespace Wh
open PySem L2
/-- a line's tie, the lesser house ahead -/
def nrm (t : Tie) : Tie := if t.a < t.b then t else ⟨t.b, t.o, t.a, t.m⟩
theorem nrm_id {t : Tie} (h : t.a < t.b) : nrm t = t := if_pos h
theorem nrm_map {ts : List Tie} (h : ∀ t ∈ ts, t.a < t.b) : ts.map nrm = ts := (List.map_congr_left fun t ht => nrm_id (h t ht)).trans (List.map_id _)
/-- a line that may be turned round -/
structure RawOk (t : Tie) : Prop where
  ne : t.a ≠ t.b
  a10 : t.a < 10
  b10 : t.b < 10
  lm : t.m ∈ letters
  lo : t.o ∈ letters
theorem raw_of {n : Nat} {ts : List Tie} (w : WebOk n (ts.map nrm)) : ∀ t ∈ ts, RawOk t := fun t ht => by
  have h1 := w.lt _ (List.mem_map_of_mem ht)
  have h2 := w.let_ _ (List.mem_map_of_mem ht)
  have h3 := w.n10
  unfold nrm at h1 h2
  by_cases c : t.a < t.b
  · rw [if_pos c] at h1 h2
    exact ⟨by omega, by omega, by omega, h2.1, h2.2⟩
  · rw [if_neg c] at h1 h2
    have h4 : t.b < t.a ∧ t.a < n := h1
    exact ⟨by omega, by omega, by omega, h2.2, h2.1⟩
/-- the text of a web, as it was given -/
def TextAt (C : Addr) (H : Hp) (x : Addr) (txt : Str) : Prop := ∃ (dx : Addr) (pl : Str) (l dl : Addr), H x = some (.ins C dx (webF txt pl l dl))
theorem TextAt.same {C : Addr} {H H' : Hp} {x : Addr} {txt : Str} (t : TextAt C H x txt) (s : Same H H') : TextAt C H' x txt := by
  obtain ⟨dx, pl, l, dl, h⟩ := t
  exact ⟨dx, pl, l, dl, s _ _ h⟩
theorem TextAt.kp {C c : Addr} {H H' : Hp} {x : Addr} {txt : Str} (t : TextAt C H x txt) (k : Kp c H H') (hc : Cup H c) : TextAt C H' x txt := by
  obtain ⟨dx, pl, l, dl, h⟩ := t
  exact ⟨dx, pl, l, dl, k _ _ h (hc.ne_o h fun ys z => by cases z) (fun ps z => by cases z)⟩
theorem ff_text (t p : Str) (l d : Addr) : (webF t p l d).lookup ("_text" : Str) = some (.str t) := by
  unfold webF
  rw [List.lookup_cons, show (("_text" : Str) == ("_text" : Str)) = true by decide +kernel]
end Wh

namespace Wh
open PySem PySem.Spec PyProof.Rows L2
/-! ### x == y, x an object with an own ==, y anything whose kind is known -/
def rEqI (K : PySem.W.Frag) (C : Addr) (sp : Sp) : R2 := fun x y H Q => ∃ (a dx : Addr) (fs : List (Str × V)) (t : Value), x = .ref a ∧ H a = some (.ins C dx fs) ∧ TyX K H y t ∧ PySem.W.notFirst K C t = true ∧ sp [.ref a, y] H (fun v H' => ∃ c, v = .bl c ∧ Q (.bl c) H') C8.E0
theorem op_eqI {X : Cx} {n : Nat} {C f : Addr} {fd : FuncData} {ps : List Str} {sp : Sp} (F : FnOk X.prog X.w X.K X.mg X.base C8.CX0 n f fd ps sp) (own : PySem.W.findIn X.K (.ref C) "__eq__" = some (some (.ref f))) (isF : PySem.W.isFn X.K (.ref f) = true) (bnd : Binds X.K fd ps []) (room : Room n X.A) : OpR X (compareOp .Eq) (rEqI X.K C sp) := by
  intro pins s σ H x y v u Q I rx ry d
  obtain ⟨a, dx, fs, t, rfl, ha, ty, first, hsp⟩ := d
  cases rx
  obtain ⟨mA, O, _⟩ := ins_get I.hok ha
  obtain ⟨od, at_, _⟩ := O.look
  obtain ⟨G, kit, g, _⟩ := kit_of I ry ty
  obtain ⟨m, fr⟩ := I.fr
  have vals : Vals [V.ref a, y] [Value.ref a, u] := .cons rfl (.cons ry .nil)
  have len := F.len _ _ _ _ hsp
  have bind : BindsTo s fd ⟨[.ref a, u], []⟩ (ps.zip [.ref a, u]) := by
    have z := bnd s [.ref a, u] I.kIn (by rw [List.append_nil]; exact len)
    rw [List.append_nil] at z
    exact z
  refine PySem.W.cmp_K (op := .Eq) (tb := t) room.units0 fr I.ok.mod.kin at_ (kit.ty _ _ I.kIn g) first own isF ?_
  refine wpAny_call (codeAny_mono (F.run X.A X.stack s H _ _ _ _ C8.E0 room I.env0 bind vals hsp) fun r s' end_ => ?_)
  match r, end_ with
  | .error _, z => exact z.elim
  | .ok .next, z => exact False.elim z
  | .ok .brk, z => exact False.elim z
  | .ok .cont, z => exact False.elim z
  | .ok (.ret w), z =>
    obtain ⟨o, H', I', ro, c, eo, q⟩ := I.after z
    subst eo
    cases ro
    exact ⟨.bl c, H', I', rfl, q⟩
/-! ### webs with one plain text are one -/
theorem lineS_inj {t u : Tie} (e : lineS t = lineS u) : t = u := by
  have z := congrArg (fun s : Str => s.cps.toList) e
  have z2 : lineL t = lineL u := z
  obtain ⟨a, m, b, o⟩ := t
  obtain ⟨a2, m2, b2, o2⟩ := u
  unfold lineL at z2
  simp only [List.cons.injEq] at z2
  obtain ⟨h1, _, h2, _, h3, _, h4, _⟩ := z2
  have e1 : a = a2 := by omega
  have e3 : b = b2 := by omega
  subst e1 e3 h2 h4
  rfl
theorem map_inj {α β : Type} {f : α → β} (h : ∀ x y, f x = f y → x = y) : ∀ {xs ys : List α}, xs.map f = ys.map f → xs = ys
  | [], [], _ => rfl
  | [], _ :: _, e => by cases e
  | _ :: _, [], e => by cases e
  | x :: xs, y :: ys, e => by
    rw [List.map_cons, List.map_cons] at e
    injection e with e1 e2
    rw [h x y e1, map_inj h e2]
theorem webS_inj {n m : Nat} {ts us : List Tie} (w1 : WebOk n ts) (w2 : WebOk m us) (e : webS ts = webS us) : ts = us := by
  have sp : ∀ {k : Nat} {rs : List Tie}, WebOk k rs → Txt.split (webS rs) ("\n" : Str) = rs.map lineS := fun {k rs} w => text_split w.ne fun t ht => by
    have h1 := w.lt t ht
    have h2 := w.n10
    exact no_nl (by omega) (by omega) (w.let_ t ht).1 (w.let_ t ht).2
  have z : ts.map lineS = us.map lineS := by rw [← sp w1, ← sp w2, e]
  exact map_inj (fun _ _ => lineS_inj) z
end Wh

namespace Wh
open PySem PySem.Spec L2 PyProof.Rows
/-! ### sorted letters: one row only -/
theorem lt_sgn (i j : Nat) : ltCps (sgn i).cps.toList (sgn j).cps.toList = decide (i < j) := by
  show ltCps [i] [j] = decide (i < j)
  unfold ltCps
  by_cases q : i < j
  · simp [q]
  · by_cases e : i = j
    · subst e
      simp [ltCps]
    · simp [q, e, ltCps]
theorem rising_all : ∀ (ns : List Nat) (p : Nat), risingS (sgn p) (ns.map sgn) = true → (∀ n ∈ ns, p ≤ n) ∧ ns.Pairwise (· ≤ ·)
  | [], _, _ => ⟨(fun _ h => by cases h), .nil⟩
  | n :: ns, p, h => by
    have h' : (!ltCps (sgn n).cps.toList (sgn p).cps.toList && risingS (sgn n) (ns.map sgn)) = true := h
    rw [lt_sgn, Bool.and_eq_true] at h'
    have h1 : ¬ n < p := by simpa using h'.1
    obtain ⟨h2, h3⟩ := rising_all ns n h'.2
    refine ⟨fun k hk => ?_, List.pairwise_cons.mpr ⟨h2, h3⟩⟩
    rcases List.mem_cons.mp hk with e | e
    · omega
    · have := h2 k e
      omega
theorem letters_srt : ∀ ns : List Nat, sortedS (ns.map sgn) = true → ns.Pairwise (· ≤ ·)
  | [], _ => .nil
  | n :: ns, h => by
    obtain ⟨h1, h2⟩ := rising_all ns n h
    exact List.pairwise_cons.mpr ⟨h1, h2⟩
theorem nat_uniq : ∀ {l m : List Nat}, l.Pairwise (· ≤ ·) → m.Pairwise (· ≤ ·) → l.Perm m → l = m
  | [], _, _, _, p => p.nil_eq
  | x :: l, [], _, _, p => absurd p.length_eq (by simp)
  | x :: l, y :: m, hl, hm, p => by
    rw [List.pairwise_cons] at hl hm
    have e : x = y := by
      rcases List.mem_cons.mp (p.mem_iff.mp (List.mem_cons_self (a := x))) with e | hx
      · exact e
      · rcases List.mem_cons.mp (p.mem_iff.mpr (List.mem_cons_self (a := y))) with e | hy
        · exact e.symm
        · have := hm.1 _ hx
          have := hl.1 _ hy
          omega
    subst e
    rw [nat_uniq hl.2 hm.2 p.cons_inv]
end Wh

namespace Wh
open PySem L2
def topS (i : Nat) : Stmt := PySem.Challenge.pw_whichhouse_k59_whole_visits.main.body.getD i (.Pass ⟨0, 0, 0, 0⟩)
/-- a purse: three ints, of which the last one counts what was taken -/
def Pur (k : Nat) (H : Hp) (c : Addr) : Prop := ∃ (a b : Int) (d : Nat), H c = some (.lst [.int a, .int b, .int (d : Int)]) ∧ d ≤ k
section
variable {k m : Nat} {H H' : Hp} {c p l : Addr} {o : HO}
theorem Pur.cup (h : Pur k H c) : Cup H c := by
  obtain ⟨a, b, d, e, _⟩ := h
  exact ⟨a, (b, (d : Int)), e⟩
theorem Pur.le (h : Pur k H c) (e : k ≤ m) : Pur m H c := by
  obtain ⟨a, b, d, e1, e2⟩ := h
  exact ⟨a, b, d, e1, Nat.le_trans e2 e⟩
theorem Pur.same (h : Pur k H c) (s : Same H H') : Pur k H' c := by
  obtain ⟨a, b, d, e1, e2⟩ := h
  exact ⟨a, b, d, s _ _ e1, e2⟩
theorem Pur.put (h : Pur k H c) (n : H p = none) : Pur k (upd H p o) c := h.same (same_upd n)
theorem Pur.of_lst (h : Pur k H c) (n : c ≠ l) : Pur k (upd H l o) c := by
  obtain ⟨a, b, d, e1, e2⟩ := h
  exact ⟨a, b, d, put_ne e1 n, e2⟩
theorem Pur.ne (h : Pur k H c) (n : H p = none) : c ≠ p := h.cup.ne n
end
/-! ### take -/
def spTake : Sp := fun vs H Q _ => ∃ (c : Addr) (top : Int) (k : Nat), vs = [.ref c, .int top] ∧ Pur k H c ∧ k < 1000000 ∧ 1 ≤ top ∧ top < 1000 ∧
  ∀ (r : Int) (H' : Hp), But c H H' → Pur (k + 1) H' c → 0 ≤ r → r < top → Q (.int r) H'
abbrev sTake : Stmt := topS 52
theorem scTake : FnScope ["purse", "many", "digit", "seed", "count", "factor"] ["purse", "many"] (defScope sTake) := ⟨rfl, rfl, rfl, by decide +kernel, rfl, by decide +kernel, by decide +kernel⟩
structure TTake (mg : Str → Option Value) : Prop where
  int : mg "int" = none
  divmod : mg "divmod" = none
  len : mg "len" = none
  abs : mg "abs" = none
section
variable {P : Program} {w : World} {K : PySem.W.Frag} {mg : Str → Option Value} {base : Heap}
theorem ok_take {f : Addr} {fd : FuncData} (F : Fun K "_law_take" "_law_take" sTake f fd) (T : TTake mg) : FnOk P w K mg base CX0 1 f fd ["purse", "many"] spTake := by
  refine F.ok scTake (fun vs H Q E h => ?_) (fun cdv A outer s H vs Q E hr h => ?_)
  · obtain ⟨c, top, k, rfl, _⟩ := h
    rfl
  · obtain ⟨c, top, k, rfl, ⟨a, b, d, hc, hd⟩, hk, ht1, ht2, kk⟩ := h
    refine ⟨_, (pss_cons (ps_asg (pe_op op_add (pe_ix ix_list (pv 0) pe_int (fun _ _ => rfl)) pe_int) (pg_sub (pv 0) pe_int set_list)) (pss_cons (ps_if (pt_cmpR op_gt (pe_ix ix_list (pv 0) pe_int (fun _ _ => rfl)) pe_int (nomark _)) (pss_cons (ps_asg (pe_callB call_divmod (by rfl) T.divmod (by decide +kernel) (pa_cons (pe_ix ix_list (pv 0) pe_int (fun _ _ => rfl)) (pa_cons (pv 1) pa_nil))) (pg_tup (by rfl) (pgs_cons (pg_sub (pv 0) pe_int set_list) (pgs_cons (pg_name (i := 2) scTake.nd rfl (.inl rfl)) pgs_nil)))) (pss_one (ps_ret (pv 2)))) pss_nil) (pss_cons (ps_par (i := 3) (j := 4) (by rfl) scTake.nd rfl rfl (by decide) rfl rfl (pa_cons (pe_callTy call_int1 (by rfl) T.int (by decide +kernel) (pa_cons (pe_ix ix_list (pv 0) pe_int (fun _ _ => rfl)) pa_nil)) (pa_cons (pe_ix ix_list (pv 0) pe_int (fun _ _ => rfl)) pa_nil)) (by rfl)) (pss_cons (ps_set (i := 5) scTake.nd rfl (.inl rfl) (pe_op op_add (pe_op op_mod (pe_callTy call_int1 (by rfl) T.int (by decide +kernel) (pa_cons (pe_op op_fdiv (pv 3) pe_int) pa_nil)) pe_int) pe_int)) (pss_cons (ps_asg (pe_op op_mod (pe_callTy call_int1 (by rfl) T.int (by decide +kernel) (pa_cons (pe_op op_add (pe_op op_add (pe_op op_mul (pv 3) (pv 5)) (pe_op op_mul (pe_op op_mul pe_int (pv 4)) (pv 4))) pe_int) pa_nil)) pe_int) (pg_sub (pv 0) pe_int set_list)) (pss_one (ps_ret (pe_op op_mod (pe_callTy call_int1 (by rfl) T.int (by decide +kernel) (pa_cons (pe_op op_fdiv (pe_ix ix_list (pv 0) pe_int (fun _ _ => rfl)) pe_int) pa_nil)) (pv 1))))))))), ?_⟩
    have d0 : (0 : Int) ≤ (d : Int) := Int.natCast_nonneg d
    have k2 : ∀ x y z : Int, atI [V.int x, V.int y, V.int z] 2 = some (V.int z) := fun _ _ _ => rfl
    have k1 : ∀ x y z : Int, atI [V.int x, V.int y, V.int z] 1 = some (V.int y) := fun _ _ _ => rfl
    have k0 : ∀ x y z : Int, atI [V.int x, V.int y, V.int z] 0 = some (V.int x) := fun _ _ _ => rfl
    refine ⟨_, rfl, c, _, _, _, rfl, rfl, SqL.of hc, k2 a b d, _, _, rfl, rfl, ?_⟩
    refine ⟨_, rfl, c, _, _, 2, rfl, rfl, hc, rfl, ?_⟩
    have e1 : upd H c (.lst (([V.int a, V.int b, V.int (d : Int)]).set 2 (V.int ((d : Int) + 1)))) = upd H c (.lst [.int a, .int b, .int ((d + 1 : Nat) : Int)]) := rfl
    rw [e1]
    refine ⟨_, rfl, c, _, _, _, rfl, rfl, SqL.of upd_same, k1 _ _ _, _, _, rfl, rfl, _, rfl, ?_⟩
    refine ite2 (fun _ => ?_) (fun _ => ?_)
    · refine ⟨_, rfl, c, _, _, _, rfl, rfl, SqL.of upd_same, k1 _ _ _, _, rfl, b, top, rfl, ⟨by omega, by omega⟩, fun p np => ?_⟩
      refine ⟨p, _, rfl, SqT.of upd_same, rfl, _, _, rfl, _, rfl, c, _, _, 1, rfl, rfl, put_ne upd_same (ne_new np), rfl, _, _, rfl, rfl, ?_⟩
      refine ⟨_, rfl, kk (b % top) _ (But.at (But.put (But.at (But.refl c H)) np)) ⟨_, _, _, upd_same, by omega⟩ (Int.emod_nonneg _ (by omega)) (Int.emod_lt_of_pos _ (by omega))⟩
    · refine ⟨_, rfl, c, _, _, _, rfl, rfl, SqL.of upd_same, k0 _ _ _, .inl ⟨_, rfl, _, rfl, c, _, _, _, rfl, rfl, SqL.of upd_same, k2 _ _ _, _, _, rfl, ?_⟩⟩
      refine ⟨_, rfl, _, _, rfl, rfl, ⟨by decide, by decide⟩, .inl ⟨_, rfl, _, _, rfl, rfl, (by show (0 : Int) < 39953; decide), _, _, rfl, rfl, ?_⟩⟩
      have f0 : 0 ≤ a / 29 % 39953 := Int.emod_nonneg _ (by decide)
      have f1 : a / 29 % 39953 < 39953 := Int.emod_lt_of_pos _ (by decide)
      refine ⟨_, rfl, _, rfl, _, _, rfl, rfl, .inr ⟨by show (-(2 ^ 64) : Int) < a / 29 % 39953 + 30113; omega, by show a / 29 % 39953 + 30113 < (2 ^ 64 : Int); omega⟩, ?_⟩
      refine ⟨_, rfl, _, _, rfl, rfl, .inl ⟨by decide, by decide⟩, _, rfl, _, _, rfl, rfl, .inr ⟨by show (-(2 ^ 64) : Int) < ((d + 1 : Nat) : Int); omega, by show ((d + 1 : Nat) : Int) < (2 ^ 64 : Int); omega⟩, ?_⟩
      refine ⟨_, _, rfl, rfl, _, _, rfl, rfl, .inl ⟨_, rfl, _, _, rfl, rfl, (by show (0 : Int) < 2147483087; decide), ?_⟩⟩
      refine ⟨_, rfl, c, _, _, 0, rfl, rfl, upd_same, rfl, ?_⟩
      refine ⟨_, rfl, c, _, _, _, rfl, rfl, SqL.of upd_same, k0 _ _ _, _, _, rfl, rfl, ⟨by decide, by decide⟩, .inl ⟨_, rfl, _, rfl, _, _, rfl, rfl, (by show (0 : Int) < top; omega), ?_⟩⟩
      exact kk _ _ (But.at (But.at (But.refl c H))) ⟨_, _, d + 1, upd_same, by omega⟩ (Int.emod_nonneg _ (by omega)) (Int.emod_lt_of_pos _ (by omega))
/-! ### one -/
def spOne (K : PySem.W.Frag) : Sp := fun vs H Q _ => ∃ (c t : Addr) (xs : List V) (k : Nat), vs = [.ref c, .ref t] ∧ Pur k H c ∧ k < 1000000 ∧ t ≠ c ∧ H t = some (.lst xs) ∧ 1 ≤ xs.length ∧ xs.length < 1000 ∧
  ∀ (i : Nat) (v : V) (H' : Hp), But c H H' → Pur (k + 1) H' c → xs[i]? = some v → Q v H'
/-! ### purse -/
abbrev sPurse : Stmt := topS 51
theorem scPurse : FnScope ["script", "k", "cell", "more", "figures"] ["script", "k"] (defScope sPurse) := ⟨rfl, rfl, rfl, by decide +kernel, rfl, by decide +kernel, by decide +kernel⟩
def spPurse (K : PySem.W.Frag) : Sp := fun vs H Q _ => ∃ (a : Addr) (ns : List Int) (spot : Nat), vs = [.ref a, .int (spot : Int)] ∧ SqL K H a (ns.map V.int) ∧ spot ≤ 1000 ∧
  ∀ (c : Addr) (H' : Hp), Same H H' → H c = none → Pur 0 H' c → Q (.ref c) H'
theorem cut_le (ns : List Int) (j : Int) : ∃ ms : List Int, cutV (ns.map V.int) none (some j) = ms.map V.int := by
  unfold cutV
  exact ⟨(ns.drop _).take _, by rw [List.map_take, List.map_drop]⟩
theorem ok_purse {f : Addr} {fd : FuncData} (F : Fun K "_law_purse" "_law_purse" sPurse f fd) (T : TTake mg) : FnOk P w K mg base CX0 1 f fd ["script", "k"] (spPurse K) := by
  refine F.ok scPurse (fun vs H Q E h => ?_) (fun cdv A outer s H vs Q E hr h => ?_)
  · obtain ⟨a, ns, spot, rfl, _⟩ := h
    rfl
  · obtain ⟨a, ns, spot, rfl, ha, hs, k⟩ := h
    refine ⟨_, (C8.pss_cut (ps_set (i := 2) scPurse.nd rfl (.inl rfl) (pe_ifExp (pt_cmpR op_lt (pv 1) (pe_callB call_len_seq (by rfl) T.len PySem.boot_len (pa_cons (pv 0) pa_nil)) (nomark _)) (pe_ix ix_list (pv 0) (pv 1) (fun _ _ => rfl)) (pe_op op_add (pe_op op_mul pe_int (pv 1)) pe_int))) (C8.pss_cut (ps_if (pt_cmpR op_ge (pv 1) (pe_callB call_len_seq (by rfl) T.len PySem.boot_len (pa_cons (pv 0) pa_nil)) (nomark _)) (pss_one (ps_for PassesOwn.never rfl (pi_list (pe_slice sl_list (pv 0) po_none (po_some pe_int))) (pg_name (i := 3) scPurse.nd rfl (.inl rfl)) (pss_one (ps_set (i := 2) scPurse.nd rfl (.inl rfl) (pe_op op_mod (pe_callTy call_int1 (by rfl) T.int (by decide +kernel) (pa_cons (pe_op op_add (pe_op op_mul (pv 2) pe_int) (pe_op op_mul (pv 3) (pe_op op_add (pv 1) pe_int))) pa_nil)) pe_int))))) pss_nil) (C8.pss_cut (ps_set (i := 4) scPurse.nd rfl (.inl rfl) (pe_ifExp (PW.pt (pw_or (pt_cmpR op_lt (pv 2) pe_int (nomark _)) (pw_or1 (pt_cmpR op_ge (pv 2) (pe_op op_pow pe_int pe_int) (nomark _))))) (pe_callB call_abs (by rfl) T.abs (by decide +kernel) (pa_cons (pv 2) pa_nil)) pe_int)) (pss_one (ps_ret (pe_lst (pa_cons (pe_op op_mod (pe_callTy call_int1 (by rfl) T.int (by decide +kernel) (pa_cons (pv 2) pa_nil)) pe_int) (pa_cons (pv 4) (pa_cons pe_int pa_nil))))))))), ?_⟩
    refine ⟨fun σ' H' => H' = H ∧ ∃ cell : Int, σ' = [some (.ref a), some (.int (spot : Int)), some (.int cell), none, none], ?_, ?_⟩
    · refine ⟨_, rfl, _, rfl, a, _, rfl, .inl ha, _, _, rfl, rfl, _, rfl, ?_⟩
      refine ite2 (fun hlt => ?_) (fun _ => ?_)
      · have hlt := of_decide_eq_true hlt
        rw [List.length_map] at hlt
        have hj : spot < ns.length := by omega
        exact ⟨_, rfl, _, rfl, a, _, _, .int ns[spot], rfl, rfl, ha, atI_nat (by rw [List.getElem?_map, List.getElem?_eq_getElem hj]; rfl), rfl, _, rfl⟩
      · exact ⟨_, rfl, _, _, rfl, rfl, .inl ⟨by decide, by decide⟩, _, _, rfl, rfl, rfl, _, rfl⟩
    rintro σ' H' ⟨rfl, cell, rfl⟩
    refine ⟨fun σ' H1 => Same H' H1 ∧ ∃ (cell : Int) (v : Option V), σ' = [some (.ref a), some (.int (spot : Int)), some (.int cell), v, none], ?_, ?_⟩
    · refine ⟨_, rfl, _, rfl, a, _, rfl, .inl ha, _, _, rfl, rfl, _, rfl, ?_⟩
      refine ite2 (fun _ => ?_) (fun _ => ?_)
      · obtain ⟨ms, e⟩ := cut_le ns 4
        refine ⟨_, rfl, _, rfl, a, _, rfl, ha, fun p np => ?_⟩
        have hp : (upd H' p (.lst (cutV (ns.map V.int) none (some 4)))) p = some (.lst (ms.map V.int)) := by rw [e]; exact upd_same
        have s1 : Same H' (upd H' p (.lst (cutV (ns.map V.int) none (some 4)))) := same_upd np
        generalize (upd H' p (.lst (cutV (ns.map V.int) none (some 4)))) = H1 at hp s1
        refine ⟨p, rfl, ⟨_, SqL.of hp⟩, for_list (K := K) (a := p) (xs := ms.map V.int) (fun i σ H2 => H2 = H1 ∧ ∃ (cell : Int) (o : Option V), σ = [some (.ref a), some (.int (spot : Int)), some (.int cell), o, none])
          ⟨rfl, cell, none, rfl⟩ (fun i σ H2 _ ⟨e, _⟩ => e ▸ SqL.of hp) ?_ ?_⟩
        · rintro i x σ H2 hi ⟨rfl, cell, o, rfl⟩
          obtain ⟨z, rfl⟩ : ∃ z, x = V.int z := by
            rw [List.getElem?_map] at hi
            cases e : ms[i]? with
            | none => rw [e] at hi; cases hi
            | some z => rw [e] at hi; exact ⟨z, (Option.some.inj hi).symm⟩
          refine ⟨_, rfl, _, _, rfl, rfl, .inr ⟨by decide, by decide⟩, _, rfl, _, rfl, _, _, rfl, rfl, _, _, rfl, rfl, .inr ⟨by show (-(2 ^ 64) : Int) < (spot : Int) + 15; omega, by show (spot : Int) + 15 < (2 ^ 64 : Int); omega⟩, _, _, rfl, rfl, .inl ⟨_, rfl, _, _, rfl, rfl, (by show (0 : Int) < 2147483123; decide), rfl, _, _, rfl⟩⟩
        · rintro σ H2 ⟨rfl, cell, o, rfl⟩
          exact ⟨s1, cell, _, rfl⟩
      · exact ⟨fun _ _ e => e, cell, _, rfl⟩
    rintro σ' H1 ⟨s1, cell, v, rfl⟩
    refine ⟨fun σ' H2 => H2 = H1 ∧ ∃ (fig : Int), σ' = [some (.ref a), some (.int (spot : Int)), some (.int cell), v, some (.int fig)], ?_, ?_⟩
    · refine ⟨_, rfl, _, _, rfl, rfl, _, rfl, ?_⟩
      refine ite2 (fun _ => ?_) (fun _ => ?_)
      · exact ⟨_, rfl, _, rfl, rfl, _, rfl⟩
      · refine ⟨_, rfl, _, _, rfl, rfl, ⟨by decide, by decide, by decide⟩, _, _, rfl, rfl, _, rfl, ?_⟩
        refine ite2 (fun _ => ?_) (fun _ => ?_)
        · exact ⟨_, rfl, _, rfl, rfl, _, rfl⟩
        · exact ⟨rfl, _, rfl⟩
    rintro σ' H2 ⟨rfl, fig, rfl⟩
    refine ⟨_, rfl, .inl ⟨_, rfl, _, _, rfl, rfl, (by show (0 : Int) < 2147483087; decide), _, rfl, by show 3 ≤ sizeLine; decide, fun p np => ?_⟩⟩
    exact k p _ (s1.put np) (s1.free np) ⟨_, _, 0, upd_same, Nat.le_refl 0⟩
end
end Wh

namespace Wh
open PySem L2
abbrev sEdges : Stmt := topS 53
theorem scEdges : FnScope ["purse", "many", "found", "k", "pair"] ["purse", "many"] (defScope sEdges) := ⟨rfl, rfl, rfl, by decide +kernel, rfl, by decide +kernel, by decide +kernel⟩
section
variable {P : Program} {w : World} {K : PySem.W.Frag} {mg : Str → Option Value} {base : Heap}
def spEdges : Sp := fun vs H Q _ => ∃ (c : Addr) (n k : Nat), vs = [.ref c, .int (n : Int)] ∧ Pur k H c ∧ k < 900000 ∧ 2 ≤ n ∧ n ≤ 10 ∧
  ∀ (l : Addr) (ps : List (Addr × Pr)) (H' : Hp), But c H H' → Pur (k + 40) H' c → H l = none → H' l = some (.lst (refs ps)) → At prV H' ps → PairsOk n (ps.map (·.2)) → (ps.map (·.2)).Pairwise PrLt → ps.length ≤ 18 → Q (.ref l) H'
theorem op_notInDK {X : Cx} (K : PySem.W.Frag) (h : X.K = K) (hu : X.A.units + 65 < cLine) : OpR X (compareOp .NotIn) (rNotInD K) := h ▸ op_notInD hu
theorem two_sorted {xs : List Int} {x y : Int} (p : xs.Perm [x, y]) (s : xs.Pairwise (· ≤ ·)) : ∃ lo hi : Int, xs = [lo, hi] ∧ lo ≤ hi ∧ ((lo = x ∧ hi = y) ∨ (lo = y ∧ hi = x)) := by
  match xs, p.length_eq with
  | [a, b], _ =>
    have h1 := (List.pairwise_cons.mp s).1 b (by simp)
    have ha : a ∈ [x, y] := p.mem_iff.mp (by simp)
    refine ⟨a, b, rfl, h1, ?_⟩
    rcases List.mem_cons.mp ha with e | e
    · subst e
      have p2 := (List.perm_cons _).mp p
      have hb : b ∈ [y] := p2.mem_iff.mp (by simp)
      exact .inl ⟨rfl, List.mem_singleton.mp hb⟩
    · have e := List.mem_singleton.mp e
      subst e
      have p2 := (List.perm_cons a).mp (p.trans (.swap a x []))
      have hb : b ∈ [x] := p2.mem_iff.mp (by simp)
      exact .inr ⟨rfl, List.mem_singleton.mp hb⟩
theorem ok_edges {f fT : Addr} {fd fdT : FuncData} (F : Fun K "_law_edges" "_law_edges" sEdges f fd) (mrange : mg "range" = none) (msorted : mg "sorted" = none) (mtuple : mg "tuple" = none)
    (GT : FnOk P w K mg base CX0 1 fT fdT ["purse", "many"] spTake) (FT : Fun K "_law_take" "_law_take" sTake fT fdT) (bT : Binds K fdT ["purse", "many"] []) (mT : mg "_law_take" = some (.ref fT)) :
    FnOk P w K mg base CX0 2 f fd ["purse", "many"] spEdges := by
  refine F.ok scEdges (fun vs H Q E h => ?_) (fun cdv A outer s H vs Q E hr h => ?_)
  · obtain ⟨c, n, k, rfl, _⟩ := h
    rfl
  · obtain ⟨c, n, k, rfl, hc, hk, n2, n10, kk⟩ := h
    have hr1 : Room 1 _ := hr
    refine ⟨_, (C8.pss_cut (ps_set (i := 2) scEdges.nd rfl (.inl rfl) (pe_lst pa_nil)) (C8.pss_cut (ps_for PassesOwn.never rfl (pi_range2 (by rfl) mrange (pa_cons pe_int (pa_cons (pv 1) pa_nil))) (pg_name (i := 3) scEdges.nd rfl (.inl rfl)) (pss_one (ps_expr (pe_bm PySem.F.plainAttrs_list PySem.F.slot_list_append PySem.F.type_list_append mt_append (pv 2) (pa_cons (pe_tup (pa_cons (pe_call GT hr1 (by rfl) mT FT.kp bT .nil pass0 (pa_cons (pv 0) (pa_cons (pv 3) pa_nil))) (pa_cons (pv 3) pa_nil))) pa_nil))))) (C8.pss_cut (ps_for PassesOwn.never rfl (pi_range1 (by rfl) mrange (pa_cons (pe_call GT hr1 (by rfl) mT FT.kp bT .nil pass0 (pa_cons (pv 0) (pa_cons (pv 1) pa_nil))) pa_nil)) (pg_name (i := 3) scEdges.nd rfl (.inl rfl)) (C8.pss_cut (ps_set (i := 4) scEdges.nd rfl (.inl rfl) (pe_callB cr_sortedI (by rfl) msorted (by decide +kernel) (pa_cons (pe_lst (pa_cons (pe_call GT hr1 (by rfl) mT FT.kp bT .nil pass0 (pa_cons (pv 0) (pa_cons (pv 1) pa_nil))) (pa_cons (pe_call GT hr1 (by rfl) mT FT.kp bT .nil pass0 (pa_cons (pv 0) (pa_cons (pv 1) pa_nil))) pa_nil))) pa_nil))) (pss_one (ps_if (PW.pt (pw_and (pt_cmpR op_ne (pe_ix ix_list (pv 4) pe_int (fun _ _ => rfl)) (pe_ix ix_list (pv 4) pe_int (fun _ _ => rfl)) (nomark _)) (pw_and1 (pt_cmpR (op_notInDK K rfl hr.u65) (pe_callTy call_tuple_of (by rfl) mtuple (by decide +kernel) (pa_cons (pv 4) pa_nil)) (pv 2) (by rfl))))) (pss_one (ps_expr (pe_bm PySem.F.plainAttrs_list PySem.F.slot_list_append PySem.F.type_list_append mt_append (pv 2) (pa_cons (pe_callTy call_tuple_of (by rfl) mtuple (by decide +kernel) (pa_cons (pv 4) pa_nil)) pa_nil)))) pss_nil)))) (pss_one (ps_ret (pe_callB (cr_sortD hr.units) (by rfl) msorted (by decide +kernel) (pa_cons (pv 2) pa_nil))))))), ?_⟩
    refine ⟨fun σ H' => Same H H' ∧ ∃ D : Addr, H D = none ∧ H' D = some (.lst []) ∧ σ = [some (.ref c), some (.int (n : Int)), some (.ref D), none, none], ?_, ?_⟩
    · exact ⟨Nat.zero_le _, fun D nD => ⟨same_upd nD, D, nD, upd_same, rfl⟩⟩
    rintro σ H1 ⟨s1, D, nD, hD, rfl⟩
    have hc1 := hc.same s1
    have ncD : c ≠ D := hc.ne nD
    refine ⟨fun σ H' => But c H H' ∧ Pur (k + n) H' c ∧ ∃ (ps : List (Addr × Pr)) (v : Option V), H' D = some (.lst (refs ps)) ∧ At prV H' ps ∧ PairsOk n (ps.map (·.2)) ∧ ps.length + 1 ≤ n ∧ σ = [some (.ref c), some (.int (n : Int)), some (.ref D), v, none], ?_, ?_⟩
    · refine ⟨_, rfl, 1, (n : Int), rfl, ⟨by omega, by omega, by omega, by omega⟩, ?_⟩
      refine for_range (lo := 1) (n := ((n : Int) - 1).toNat) (fun i σ H' => But c H H' ∧ Pur (k + i) H' c ∧ ∃ (ps : List (Addr × Pr)) (v : Option V), H' D = some (.lst (refs ps)) ∧ At prV H' ps ∧ (ps.map (·.2)).map (·.2) = List.range' 1 i ∧ (∀ p ∈ ps, p.2.1 < p.2.2) ∧
          σ = [some (.ref c), some (.int (n : Int)), some (.ref D), v, none])
        ⟨s1.but, hc1, [], none, hD, (fun p hp => by cases hp), rfl, (fun p hp => by cases hp), rfl⟩ ?_ ?_
      · rintro i σ H2 hi ⟨b2, c2, ps, v, hD, hA, hrg, hlt, rfl⟩
        refine ⟨_, rfl, .inl ⟨rfl, _, SqL.of hD⟩, _, rfl, _, rfl, c, _, k + i, rfl, c2, by omega, by omega, by omega, fun x H3 b3 c3 x0 x1 => ⟨_, rfl, (by show 2 ≤ sizeLine; decide), fun p np => ?_⟩⟩
        obtain ⟨y, rfl⟩ := Int.eq_ofNat_of_zero_le x0
        have hD3 : H3 D = some (.lst (refs ps)) := b3 _ _ hD ncD.symm
        have nDp : D ≠ p := ne_of_none hD3 np
        have el : ps.length = i := by
          have e := congrArg List.length hrg
          rw [List.length_map, List.length_map, List.length_range'] at e
          exact e
        refine ⟨_, _, _, rfl, rfl, put_ne hD3 nDp, (by rw [refs_len, el]; exact small1000 (by omega)), ((b2.trans b3).put np).own nD, (c3.put np).of_lst ncD, ps ++ [(p, (y, 1 + i))], _, ?_, ?_, ?_, ?_, rfl⟩
        · rw [upd_same, refs_app]
          all_goals rfl
        · refine At.snoc (((hA.but c2.cup b3).same (same_upd np)).mono (upd_tup (put_ne hD3 nDp))) ?_
          refine put_ne (upd_same.trans ?_) nDp.symm
          show some (HO.tup [V.int (y : Int), V.int ((1 : Int) + (i : Int))]) = some (HO.tup [V.int (y : Int), V.int (((1 + i : Nat)) : Int)])
          rw [show ((1 : Int) + (i : Int)) = (((1 + i : Nat)) : Int) by omega]
        · rw [List.map_append, List.map_append, hrg, List.range'_concat, Nat.one_mul]
          rfl
        · intro q hq
          rcases List.mem_append.mp hq with z | z
          · exact hlt q z
          · rw [List.mem_singleton.mp z]
            show y < 1 + i
            omega
      · rintro σ H2 ⟨b2, c2, ps, v, hD, hA, hrg, hlt, rfl⟩
        have en : ((n : Int) - 1).toNat = n - 1 := by omega
        rw [en] at hrg c2
        have el : ps.length = n - 1 := by
          have e := congrArg List.length hrg
          rw [List.length_map, List.length_map, List.length_range'] at e
          exact e
        exact ⟨b2, c2.le (by omega), ps, _, hD, hA, pairsOk_first hrg (fun q hq => by obtain ⟨p, hp, rfl⟩ := List.mem_map.mp hq; exact hlt p hp), by omega, rfl⟩
    rintro σ H2 ⟨b2, c2, ps, v, hD2, hA2, ok2, hlen2, rfl⟩
    refine ⟨fun σ H' => But c H H' ∧ Pur (k + 40) H' c ∧ ∃ (ps : List (Addr × Pr)) (v u : Option V), H' D = some (.lst (refs ps)) ∧ At prV H' ps ∧ PairsOk n (ps.map (·.2)) ∧ ps.length ≤ 18 ∧ σ = [some (.ref c), some (.int (n : Int)), some (.ref D), v, u], ?_, ?_⟩
    · refine ⟨_, rfl, _, rfl, c, (n : Int), k + n, rfl, c2, by omega, by omega, by omega, fun r H3 b3 c3 r0 r1 => ⟨r, rfl, by omega, by omega, ?_⟩⟩
      have ncD2 : D ≠ c := ncD.symm
      refine for_range (lo := 0) (n := r.toNat) (fun i σ H' => But c H H' ∧ Pur (k + n + 1 + 2 * i) H' c ∧ ∃ (ps : List (Addr × Pr)) (v u : Option V), H' D = some (.lst (refs ps)) ∧ At prV H' ps ∧ PairsOk n (ps.map (·.2)) ∧ ps.length + 1 ≤ n + i ∧
          σ = [some (.ref c), some (.int (n : Int)), some (.ref D), v, u])
        ⟨b2.trans b3, c3, ps, v, none, b3 _ _ hD2 ncD2, hA2.but c2.cup b3, ok2, hlen2, rfl⟩ ?_ ?_
      · rintro i σ H4 hi ⟨b4, c4, ps, v, u, hD, hA, ok, hlen, rfl⟩
        refine ⟨fun σ H' => But c H H' ∧ Pur (k + n + 1 + 2 * i + 2) H' c ∧ ∃ (q : Addr) (lo hi : Nat), H' D = some (.lst (refs ps)) ∧ At prV H' ps ∧ H' q = some (.lst [.int (lo : Int), .int (hi : Int)]) ∧ lo ≤ hi ∧ hi < n ∧ σ = [some (.ref c), some (.int (n : Int)), some (.ref D), some (.int ((0 : Int) + (i : Int))), some (.ref q)], ?_, ?_⟩
        · refine ⟨_, rfl, _, rfl, c, (n : Int), k + n + 1 + 2 * i, rfl, c4, by omega, by omega, by omega, fun x H5 b5 c5 x0 x1 => ⟨_, rfl, _, rfl, c, (n : Int), k + n + 1 + 2 * i + 1, rfl, c5, by omega, by omega, by omega, fun y H6 b6 c6 y0 y1 => ⟨by show 2 ≤ sizeLine; decide, fun L nL => ?_⟩⟩⟩
          refine ⟨L, [x, y], rfl, SqL.of upd_same, fun ns' p pm sr np => ?_⟩
          obtain ⟨lo, hi, rfl, hle, hxy⟩ := two_sorted pm sr
          obtain ⟨lo, rfl⟩ := Int.eq_ofNat_of_zero_le (show 0 ≤ lo by omega)
          obtain ⟨hi, rfl⟩ := Int.eq_ofNat_of_zero_le (show 0 ≤ hi by omega)
          have b46 := b5.trans b6
          have ss := (same_upd nL (o := .lst [.int x, .int y])).put np (o := .lst [.int (lo : Int), .int (hi : Int)])
          exact ⟨(b4.trans b46).trans ss.but, c6.same ss, p, lo, hi, ss _ _ (b46 _ _ hD ncD2), (hA.but c4.cup b46).same ss, upd_same, by omega, by omega, rfl⟩
        rintro σ H5 ⟨b5, c5, q, lo, hi, hD5, hA5, hq, lh, hn, rfl⟩
        have qc : q ≠ c := fun z => by
          obtain ⟨x, y, z2, e, _⟩ := c5
          rw [← z, hq] at e
          simp at e
        refine ⟨_, rfl, q, _, _, _, rfl, rfl, SqL.of hq, rfl, _, rfl, q, _, _, _, rfl, rfl, SqL.of hq, rfl, rfl, _, rfl, ?_⟩
        have stay : ∃ (ps : List (Addr × Pr)) (v u : Option V), H5 D = some (.lst (refs ps)) ∧ At prV H5 ps ∧ PairsOk n (ps.map (·.2)) ∧ ps.length + 1 ≤ n + (i + 1) ∧ [some (V.ref c), some (V.int (n : Int)), some (V.ref D), some (V.int ((0 : Int) + (i : Int))), some (V.ref q)] = [some (V.ref c), some (V.int (n : Int)), some (V.ref D), v, u] := ⟨ps, _, _, hD5, hA5, ok, by omega, rfl⟩
        refine ite2 (fun hne => ?_) (fun _ => ⟨b5, c5.le (by omega), stay⟩)
        have hne : ¬ lo = hi := fun e => absurd hne (by rw [e]; simp)
        have lt : lo < hi := by omega
        have ncq : c ≠ q := qc.symm
        refine ⟨_, rfl, q, _, rfl, .inl ⟨SqL.of hq, fun p np => ?_⟩⟩
        have s6 := same_upd np (o := .tup [.int (lo : Int), .int (hi : Int)])
        refine ⟨_, rfl, tD (prV (lo, hi)), rowD prV ps, tD_dp K (prV_nb (lo, hi)) upd_same, .lst (SqL.of (s6 _ _ hD5)) (rowD_dp K (fun _ _ => prV_nb _) (hA5.same s6)), tD_shaped (prV_nb (lo, hi)), rowD_shaped (fun _ _ => prV_nb _), _, rfl, ?_⟩
        have iff := rowD_any_iff prV_inj (lo, hi) (prV_nb _) (ps := ps) (fun _ _ => prV_nb _)
        refine ite2 (fun hno => ?_) (fun _ => ⟨b5.put np, (c5.put np).le (by omega), ps, _, _, s6 _ _ hD5, hA5.same s6, ok, by omega, rfl⟩)
        have hno : (lo, hi) ∉ ps.map (·.2) := fun z => by
          rw [iff.mpr z] at hno
          cases hno
        refine ⟨_, rfl, .inl ⟨rfl, _, SqL.of (s6 _ _ hD5)⟩, _, rfl, q, _, rfl, .inl ⟨SqL.of (s6 _ _ hq), fun p2 np2 => ?_⟩⟩
        have s7 := s6.put np2 (o := .tup [.int (lo : Int), .int (hi : Int)])
        have hD7 := s7 _ _ hD5
        refine ⟨_, _, _, rfl, rfl, hD7, (by rw [refs_len]; exact small1000 (by omega)), ((b5.trans s7.but).own nD), ((c5.same s7).of_lst ncD).le (by omega), ps ++ [(p2, (lo, hi))], _, _, ?_, ?_, ?_, ?_, rfl⟩
        · rw [upd_same, refs_app]
          rfl
        · exact At.snoc ((hA5.same s7).mono (upd_tup hD7)) (upd_tup hD7 _ _ upd_same)
        · rw [List.map_append]
          exact ok.snoc lt hn hno
        · rw [List.length_append]
          show ps.length + 1 + 1 ≤ _
          omega
      · rintro σ H4 ⟨b4, c4, ps, v, u, hD, hA, ok, hlen, rfl⟩
        exact ⟨b4, c4.le (by omega), ps, _, _, hD, hA, ok, by omega, rfl⟩
    rintro σ H3 ⟨b3, c3, ps, v, u, hD3, hA3, ok3, hlen3, rfl⟩
    obtain ⟨srt, perm⟩ := sorted_prs ps ok3.nd
    refine ⟨_, rfl, sort_rows prV prLe (SqL.of hD3) hA3 (fun _ _ => prV_nb _) pr_alike (fun x => ⟨_, _, rfl⟩) prLe_data fun sp nsp => ?_⟩
    generalize (ps.mergeSort fun p q => prLe p.2 q.2) = qs at srt perm
    have nH : H sp = none := by
      cases q : H sp with
      | none => rfl
      | some o =>
        have e : sp ≠ c := (c3.ne nsp).symm
        rw [b3 sp o q e] at nsp
        cases nsp
    exact kk sp qs _ (b3.put nsp) (c3.put nsp) nH upd_same ((At.same hA3 (same_upd nsp)).perm perm.symm) (ok3.perm (perm.map _).symm) srt (by rw [perm.length_eq]; exact hlen3)
end
end Wh

namespace Wh
open PySem L2
abbrev sFree : Stmt := topS 54
abbrev sTies3 : Stmt := topS 55
theorem scFree : FnScope ["purse", "used", "spread", "some", "letter"] ["purse", "used", "spread"] (defScope sFree) := ⟨rfl, rfl, rfl, by decide +kernel, rfl, by decide +kernel, by decide +kernel⟩
theorem scTies3 : FnScope ["purse", "many", "found", "used", "kind_here", "one", "two", "marks_here", "k"] ["purse", "many"] (defScope sTies3) := ⟨rfl, rfl, rfl, by decide +kernel, rfl, by decide +kernel, by decide +kernel⟩
section
variable {P : Program} {w : World} {K : PySem.W.Frag} {mg : Str → Option Value} {base : Heap}
/-! ### free -/
def spFree : Sp := fun vs H Q _ => ∃ (c a : Addr) (ms : List Nat) (sp : Int) (k : Nat), vs = [.ref c, .ref a, .int sp] ∧ Pur k H c ∧ k < 900000 ∧ H a = some (.lst (ms.map sV)) ∧ ms.length < 12 ∧ 1 ≤ sp ∧
  ∀ (z : Nat) (H' : Hp), But c H H' → Pur (k + 1) H' c → z ∈ letters → z ∉ ms → Q (sV z) H'
theorem ok_free {f fT : Addr} {fd fdT : FuncData} (F : Fun K "_law_free" "_law_free" sFree f fd) (mlen : mg "len" = none) (mmin : mg "min" = none)
    (GT : FnOk P w K mg base CX0 1 fT fdT ["purse", "many"] spTake) (FT : Fun K "_law_take" "_law_take" sTake fT fdT) (bT : Binds K fdT ["purse", "many"] []) (mT : mg "_law_take" = some (.ref fT)) :
    FnOk P w K mg base CX0 2 f fd ["purse", "used", "spread"] spFree := by
  refine F.ok scFree (fun vs H Q E h => ?_) (fun cdv A outer s H vs Q E hr h => ?_)
  · obtain ⟨c, a, ms, sp, k, rfl, _⟩ := h
    rfl
  · obtain ⟨c, a, ms, sp, k, rfl, hc, hk, ha, h12, hsp, kk⟩ := h
    have hr1 : Room 1 _ := hr
    refine ⟨_, (C8.pss_cut (ps_setLc (i := 3) (own := [("letter", 4)]) (g := gName 4) rfl scFree.nd rfl rfl (sw_true rfl rfl rfl (by decide +kernel)) (pi_str pe_str) (blkOk_by (N := ["purse", "used", "spread", "some", "letter"]) (own := [("letter", 4)]) (sc := defScope sFree) (by decide +kernel)) (fun _ _ _ _ _ => (pg_name (i := 4) scFree.nd rfl (.inl rfl))) (fun _ _ _ _ _ => (pts_one (pt_cmpR (op_notInK K rfl) (pv 4) (pv 1) (by rfl)))) (fun _ _ _ _ _ => (pv 4))) (pss_one (ps_ret (pe_ix ix_list (pv 3) (pe_call GT hr1 (by rfl) mT FT.kp bT .nil pass0 (pa_cons (pv 0) (pa_cons (pe_callB (call_min2 rfl) (by rfl) mmin (by decide +kernel) (pa_cons (pe_callB call_len_seq (by rfl) mlen PySem.boot_len (pa_cons (pv 3) pa_nil)) (pa_cons (pv 2) pa_nil))) pa_nil))) (fun _ _ => rfl))))), ?_⟩
    refine ⟨fun σ H' => Same H H' ∧ ∃ D : Addr, H D = none ∧ H' D = some (.lst ((free ms).map sV)) ∧ σ = [some (.ref c), some (.ref a), some (.int sp), some (.ref D), none], ?_, ?_⟩
    · refine ⟨"abcdefghijkl", rfl, fun D nD => ?_⟩
      refine lc_it walk_str (fun j H' => Same H H' ∧ H' D = some (.lst (((letters.take j).filter (notIn ms)).map sV))) ⟨same_upd nD, upd_same⟩ (fun _ _ _ _ => trivial) ?_ ?_
      · rintro j x H8 _ hj ⟨s8, hD8⟩ ⟨rfl, z, hz, rfl⟩
        have hj12 : j < 12 := by
          have e : ("abcdefghijkl" : Str).cps.size = 12 := by rw [letters_str]; rfl
          omega
        have hzl : letters[j]? = some z := by
          rw [letters_str] at hz
          have e : (#[97, 98, 99, 100, 101, 102, 103, 104, 105, 106, 107, 108] : Array Nat)[j]? = letters[j]? := by
            rw [← Array.getElem?_toList]
            rfl
          rw [← e]
          exact hz
        refine ⟨rfl, _, rfl, _, rfl, a, _, rfl, .inl (SqL.of (s8 _ _ ha)), rfl, flat_sV _, _, rfl, ?_⟩
        have ein : inV (.str ⟨#[z]⟩) (ms.map sV) = ms.contains z := inV_sV z _
        have etk : letters.take (j + 1) = letters.take j ++ [z] := by rw [List.take_succ, hzl]; rfl
        refine ite2 (fun hnot => ?_) (fun hnot => ?_)
        · refine ⟨_, rfl, _, hD8, ?_, s8.own nD, ?_⟩
          · rw [List.length_map]
            exact small1000 (Nat.le_trans (List.length_filter_le _ _) (by rw [List.length_take]; show min j 12 ≤ 1000; omega))
          · have hc : notIn ms z = true := by
              unfold notIn
              rw [← ein]
              exact hnot
            rw [upd_same, etk, filt_yes hc, List.map_append]
            rfl
        · refine ⟨s8, ?_⟩
          have hc : notIn ms z = false := by
            unfold notIn
            rw [← ein]
            exact Bool.eq_false_iff.mpr hnot
          rw [hD8, etk, filt_no hc]
      · rintro H8 ⟨s8, hD8⟩
        have e12 : ((letters.take ("abcdefghijkl" : Str).cps.size).filter (notIn ms)) = free ms := by
          rw [letters_str]
          rfl
        rw [e12] at hD8
        exact ⟨s8, D, nD, hD8, rfl⟩
    rintro σ H1 ⟨s1, D, nD, hD, rfl⟩
    have fpos := free_pos h12
    have f12 : (free ms).length ≤ 12 := List.length_filter_le _ _
    have nDc : D ≠ c := (hc.ne nD).symm
    refine ⟨_, rfl, _, rfl, _, rfl, _, _, rfl, .inl (SqL.of hD), _, rfl, _, _, rfl, ?_⟩
    rw [List.length_map]
    have hm1 : 1 ≤ (if sp < ((free ms).length : Int) then sp else ((free ms).length : Int)) := by split <;> omega
    have hm2 : (if sp < ((free ms).length : Int) then sp else ((free ms).length : Int)) ≤ ((free ms).length : Int) := by split <;> omega
    refine ⟨c, _, k, rfl, hc.same s1, by omega, hm1, by omega, fun r H2 b2 c2 r0 r1 => ?_⟩
    obtain ⟨j, rfl⟩ := Int.eq_ofNat_of_zero_le r0
    have hj : j < (free ms).length := by omega
    have fm := free_mem (List.getElem_mem hj)
    exact ⟨D, _, _, sV (free ms)[j], rfl, rfl, SqL.of (b2 _ _ hD nDc), atI_nat (by rw [List.getElem?_map, List.getElem?_eq_getElem hj]; rfl), kk _ H2 (s1.but.trans b2) c2 fm.1 fm.2⟩
end
end Wh

namespace Wh
open PySem L2
section
variable {P : Program} {w : World} {K : PySem.W.Frag} {mg : Str → Option Value} {base : Heap}
theorem letter_at : ∀ i : Nat, i < 12 → ("abcdefghijkl" : Str).cps.toList[i]? = some (97 + i) ∧ (97 + i) ∈ letters := by
  intro i hi
  rw [letters_str]
  have : ∀ i : Fin 12, ([97, 98, 99, 100, 101, 102, 103, 104, 105, 106, 107, 108] : List Nat)[i.val]? = some (97 + i.val) ∧ (97 + i.val) ∈ letters := by decide
  exact this ⟨i, hi⟩
theorem abc_len : ("abcdefghijkl" : Str).length ≤ sizeLine := by
  have e : ("abcdefghijkl" : Str).length = 12 := by decide +kernel
  rw [e]
  decide
def prOf (h k : Nat) : Pr := if h < k then (h, k) else (k, h)
theorem endsD_pr {h m k : Nat} {t : Tie} (lt : t.a < t.b) (e : (m, k) ∈ endsD h t) : t.pr = prOf h k ∧ h ≠ k := by
  unfold endsD at e
  unfold prOf Tie.pr
  rcases List.mem_append.mp e with z | z
  · split at z
    · have z := List.mem_singleton.mp z
      injection z with z1 z2
      subst z2
      rename_i z3
      subst z3
      rw [if_pos lt]
      exact ⟨rfl, by omega⟩
    · cases z
  · split at z
    · have z := List.mem_singleton.mp z
      injection z with z1 z2
      subst z2
      rename_i z3
      subst z3
      rw [if_neg (by omega)]
      exact ⟨rfl, by omega⟩
    · cases z
theorem endsD_few {h : Nat} {t : Tie} (lt : t.a < t.b) : ((endsD h t).map (·.2)).Nodup := by
  unfold endsD
  by_cases e1 : t.a = h
  · rw [if_pos e1, if_neg (by omega)]
    simp
  · rw [if_neg e1]
    split <;> simp
theorem doors_nd (h : Nat) : ∀ {ts : List Tie}, (∀ t ∈ ts, t.a < t.b) → (ts.map Tie.pr).Nodup → ((doorsAt h ts).map (·.2)).Nodup
  | [], _, _ => List.nodup_nil
  | t :: ts, lt, nd => by
    rw [List.map_cons] at nd
    obtain ⟨n1, n2⟩ := List.nodup_cons.mp nd
    have ih := doors_nd h (ts := ts) (fun u hu => lt u (List.mem_cons_of_mem _ hu)) n2
    have l1 := lt t List.mem_cons_self
    show ((endsD h t ++ doorsAt h ts).map (·.2)).Nodup
    rw [List.map_append]
    refine List.nodup_append.mpr ⟨endsD_few l1, ih, fun a ha b hb e => ?_⟩
    obtain ⟨⟨m, k⟩, h1, rfl⟩ := List.mem_map.mp ha
    obtain ⟨⟨m2, k2⟩, h2, rfl⟩ := List.mem_map.mp hb
    obtain ⟨u, hu, h3⟩ := List.mem_flatMap.mp h2
    have e : k = k2 := e
    subst e
    exact n1 (by rw [(endsD_pr l1 h1).1, ← (endsD_pr (lt u (List.mem_cons_of_mem _ hu)) h3).1]; exact List.mem_map_of_mem hu)
theorem marks_less {n h : Nat} {ts : List Tie} (lt : ∀ t ∈ ts, t.a < t.b ∧ t.b < n) (nd : (ts.map Tie.pr).Nodup) : (marksAt h ts).length ≤ n := by
  have nd := doors_nd h (fun t ht => (lt t ht).1) nd
  have hs : ∀ k ∈ (doorsAt h ts).map (·.2), k ∈ List.range n := fun k hk => by
    obtain ⟨⟨m, k⟩, h1, rfl⟩ := List.mem_map.mp hk
    obtain ⟨t, ht, h2⟩ := List.mem_flatMap.mp h1
    have ⟨l1, l2⟩ := lt t ht
    unfold endsD at h2
    rcases List.mem_append.mp h2 with z | z
    · split at z
      · have z := List.mem_singleton.mp z
        injection z with z1 z2
        exact List.mem_range.mpr (by show k < n; omega)
      · cases z
    · split at z
      · have z := List.mem_singleton.mp z
        injection z with z1 z2
        exact List.mem_range.mpr (by show k < n; omega)
      · cases z
  have := nd_sub_len nd hs
  rw [List.length_range, List.length_map] at this
  have e := congrArg List.length (doorsAt_fst h ts)
  rw [List.length_map] at e
  omega
/-- a mark that tells how much further the other house is -/
def numM (n : Nat) (t : Tie) : Prop := t.m = 97 + (t.b - t.a - 1) ∧ t.o = 97 + (n - 1 - (t.b - t.a))
theorem marks_mem {h m : Nat} {ts : List Tie} (e : m ∈ marksAt h ts) : ∃ t ∈ ts, (t.a = h ∧ t.m = m) ∨ (t.b = h ∧ t.o = m) := by
  obtain ⟨t, ht, e⟩ := List.mem_flatMap.mp e
  refine ⟨t, ht, ?_⟩
  unfold endsAt at e
  rcases List.mem_append.mp e with z | z
  · by_cases q : t.a = h
    · rw [if_pos q] at z
      exact .inl ⟨q, (List.mem_singleton.mp z).symm⟩
    · rw [if_neg q] at z
      cases z
  · by_cases q : t.b = h
    · rw [if_pos q] at z
      exact .inr ⟨q, (List.mem_singleton.mp z).symm⟩
    · rw [if_neg q] at z
      cases z
theorem num_new {n : Nat} {q : Pr} {ts : List Tie} (h1 : q.1 < q.2) (h2 : q.2 < n) (lt : ∀ t ∈ ts, t.a < t.b ∧ t.b < n) (nm : ∀ t ∈ ts, numM n t) (ne : ∀ t ∈ ts, t.pr ≠ q) :
    97 + (q.2 - q.1 - 1) ∉ marksAt q.1 ts ∧ 97 + (n - 1 - (q.2 - q.1)) ∉ marksAt q.2 ts := by
  refine ⟨fun e => ?_, fun e => ?_⟩
  · obtain ⟨t, ht, ⟨e1, e2⟩ | ⟨e1, e2⟩⟩ := marks_mem e
    · have ⟨l1, l2⟩ := lt t ht
      have := (nm t ht).1
      refine ne t ht (Prod.ext e1 ?_)
      show t.b = q.2
      omega
    · have ⟨l1, l2⟩ := lt t ht
      have := (nm t ht).2
      omega
  · obtain ⟨t, ht, ⟨e1, e2⟩ | ⟨e1, e2⟩⟩ := marks_mem e
    · have ⟨l1, l2⟩ := lt t ht
      have := (nm t ht).1
      omega
    · have ⟨l1, l2⟩ := lt t ht
      have := (nm t ht).2
      refine ne t ht (Prod.ext ?_ e1)
      show t.a = q.1
      omega
def spTies3 : Sp := fun vs H Q _ => ∃ (c : Addr) (n k : Nat), vs = [.ref c, .int (n : Int)] ∧ Pur k H c ∧ k < 800000 ∧ 2 ≤ n ∧ n ≤ 10 ∧
  ∀ (tl : Addr) (ts : List (Addr × Tie)) (H' : Hp), But c H H' → Pur (k + 100) H' c → H tl = none → H' tl = some (.lst (refs ts)) → At tieV H' ts → WebOk n (ts.map (·.2)) → ((ts.map (·.2)).map Tie.pr).Pairwise PrLt → ts.length ≤ 18 → Q (.ref tl) H'
set_option maxHeartbeats 1000000 in
theorem ok_ties3 {f fT fF fE : Addr} {fd fdT fdF fdE : FuncData} (F : Fun K "_law_ties" "_law_ties" sTies3 f fd) (mrange : mg "range" = none)
    (GT : FnOk P w K mg base CX0 1 fT fdT ["purse", "many"] spTake) (FT : Fun K "_law_take" "_law_take" sTake fT fdT) (bT : Binds K fdT ["purse", "many"] []) (mT : mg "_law_take" = some (.ref fT))
    (GF : FnOk P w K mg base CX0 2 fF fdF ["purse", "used", "spread"] spFree) (FF : Fun K "_law_free" "_law_free" sFree fF fdF) (bF : Binds K fdF ["purse", "used", "spread"] []) (mF : mg "_law_free" = some (.ref fF))
    (GE : FnOk P w K mg base CX0 2 fE fdE ["purse", "many"] spEdges) (FE : Fun K "_law_edges" "_law_edges" sEdges fE fdE) (bE : Binds K fdE ["purse", "many"] []) (mE : mg "_law_edges" = some (.ref fE)) :
    FnOk P w K mg base CX0 3 f fd ["purse", "many"] spTies3 := by
  refine F.ok scTies3 (fun vs H Q E h => ?_) (fun cdv A outer s H vs Q E hr h => ?_)
  · obtain ⟨c, n, k, rfl, _⟩ := h
    rfl
  · obtain ⟨c, n, k, rfl, hc, hk, n2, n10, kk⟩ := h
    have hr1 : Room 1 _ := hr.mono (by decide)
    have hr2 : Room 2 _ := hr
    refine ⟨_, (C8.pss_cut (ps_par3 (i := 2) (j := 3) (l := 4) (by rfl) scTies3.nd rfl rfl rfl (by decide) (by decide) (by decide) rfl rfl rfl (pa_cons (pe_lst pa_nil) (pa_cons (pe_lc (own := [("k", 8)]) (g := gName 8) (tt := tYes) rfl scTies3.nd (pi_range1 (by rfl) mrange (pa_cons (pv 1) pa_nil)) (blkOk_by (N := ["purse", "many", "found", "used", "kind_here", "one", "two", "marks_here", "k"]) (own := [("k", 8)]) (sc := defScope sTies3) (by decide +kernel)) (fun _ _ _ _ _ => (pg_name (i := 8) scTies3.nd rfl (.inl rfl))) (fun _ _ _ _ _ => pts_nil) (fun _ _ _ _ _ => (pe_lst pa_nil))) (pa_cons (pe_call GT hr1 (by rfl) mT FT.kp bT .nil pass0 (pa_cons (pv 0) (pa_cons pe_int pa_nil))) pa_nil))) (by rfl)) (C8.pss_cut (ps_for PassesOwn.never rfl (pi_list (pe_call GE hr2 (by rfl) mE FE.kp bE .nil pass0 (pa_cons (pv 0) (pa_cons (pv 1) pa_nil)))) (pg_tup (by rfl) (pgs_cons (pg_name (i := 5) scTies3.nd rfl (.inl rfl)) (pgs_cons (pg_name (i := 6) scTies3.nd rfl (.inl rfl)) pgs_nil))) (C8.pss_cut (ps_set (i := 7) scTies3.nd rfl (.inl rfl) (pe_lst (pa_cons (pe_ix ix_str pe_str (pe_op op_sub (pe_op op_sub (pv 6) (pv 5)) pe_int) (fun _ _ => rfl)) (pa_cons (pe_ix ix_str pe_str (pe_op op_add (pe_op op_sub (pe_op op_sub (pv 1) pe_int) (pv 6)) (pv 5)) (fun _ _ => rfl)) pa_nil)))) (C8.pss_cut (ps_if (pt_cmpR op_gt (pv 4) pe_int (nomark _)) (pss_one (ps_set (i := 7) scTies3.nd rfl (.inl rfl) (pe_lst (pa_cons (pe_call GF hr2 (by rfl) mF FF.kp bF .nil pass0 (pa_cons (pv 0) (pa_cons (pe_ix ix_list (pv 3) (pv 5) (fun _ _ => rfl)) (pa_cons (pv 4) pa_nil)))) (pa_cons (pe_call GF hr2 (by rfl) mF FF.kp bF .nil pass0 (pa_cons (pv 0) (pa_cons (pe_ix ix_list (pv 3) (pv 6) (fun _ _ => rfl)) (pa_cons (pv 4) pa_nil)))) pa_nil))))) pss_nil) (pss_cons (ps_expr (pe_bm PySem.F.plainAttrs_list PySem.F.slot_list_append PySem.F.type_list_append mt_append (pe_ix ix_list (pv 3) (pv 5) (fun _ _ => rfl)) (pa_cons (pe_ix ix_list (pv 7) pe_int (fun _ _ => rfl)) pa_nil))) (pss_cons (ps_expr (pe_bm PySem.F.plainAttrs_list PySem.F.slot_list_append PySem.F.type_list_append mt_append (pe_ix ix_list (pv 3) (pv 6) (fun _ _ => rfl)) (pa_cons (pe_ix ix_list (pv 7) pe_int (fun _ _ => rfl)) pa_nil))) (pss_one (ps_expr (pe_bm PySem.F.plainAttrs_list PySem.F.slot_list_append PySem.F.type_list_append mt_append (pv 2) (pa_cons (pe_tup (pa_cons (pv 5) (pa_cons (pe_ix ix_list (pv 7) pe_int (fun _ _ => rfl)) (pa_cons (pv 6) (pa_cons (pe_ix ix_list (pv 7) pe_int (fun _ _ => rfl)) pa_nil))))) pa_nil))))))))) (pss_one (ps_ret (pv 2))))), ?_⟩
    refine ⟨fun σ H' => But c H H' ∧ Pur (k + 1) H' c ∧ ∃ (u tl : Addr) (us : List Addr) (kd : Int), Wk H' c u tl us n [] ∧ H u = none ∧ H tl = none ∧ (∀ a ∈ us, H a = none) ∧ 0 ≤ kd ∧ kd < 4 ∧
      σ = [some (.ref c), some (.int (n : Int)), some (.ref tl), some (.ref u), some (.int kd), none, none, none, none], ?_, ?_⟩
    · refine ⟨Nat.zero_le _, fun tl ntl => ⟨_, rfl, (n : Int), rfl, by omega, by omega, fun u nu => ?_⟩⟩
      have hc1 := hc.put ntl (o := .lst [])
      have ncu : c ≠ u := hc1.ne nu
      have nct : c ≠ tl := hc.ne ntl
      have ntu : tl ≠ u := ne_of_none upd_same nu
      rw [show ((n : Int)).toNat = n from Int.toNat_natCast n]
      refine lc_range (lo := 0) (n := n) (fun i H' => Same (upd H tl (.lst [])) H' ∧ ∃ us : List Addr, H' u = some (.lst (us.map V.ref)) ∧ us.length = i ∧ us.Nodup ∧ u ∉ us ∧ ∀ a ∈ us, (upd H tl (.lst [])) a = none ∧ H' a = some (.lst []))
        ⟨same_upd nu, [], upd_same, rfl, List.nodup_nil, (fun z => by cases z), (fun a z => by cases z)⟩ ?_ ?_
      · rintro i H4 hi ⟨s4, us, hu4, ul, und, nuu, hus⟩
        refine ⟨rfl, Nat.zero_le _, fun q nq => ?_⟩
        have nuq : u ≠ q := ne_of_none hu4 nq
        refine ⟨us.map V.ref, put_ne hu4 nuq, (by rw [List.length_map, ul]; exact small1000 (by omega)), ((s4.put nq).own nu), us ++ [q], ?_, ?_, ?_, ?_, ?_⟩
        · rw [upd_same, List.map_append]
          rfl
        · rw [List.length_append, ul]
          rfl
        · exact nd_snoc und fun z => by
            rw [(hus q z).2] at nq
            cases nq
        · intro z
          rcases List.mem_append.mp z with z | z
          · exact nuu z
          · exact nuq (List.mem_singleton.mp z)
        · intro a z
          rcases List.mem_append.mp z with z | z
          · have nau : a ≠ u := fun e => nuu (e ▸ z)
            exact ⟨(hus a z).1, by rw [upd_ne nau]; exact put_old (hus a z).2 nq⟩
          · rw [List.mem_singleton.mp z]
            exact ⟨s4.free nq, put_ne upd_same nuq.symm⟩
      · rintro H4 ⟨s4, us, hu4, ul, und, nuu, hus⟩
        have cn : c ∉ us := fun z => by
          obtain ⟨x, y, z2, e, _⟩ := hc1
          rw [(hus c z).1] at e
          cases e
        have tn : tl ∉ us := fun z => by
          have := (hus tl z).1
          rw [upd_same] at this
          cases this
        refine ⟨_, rfl, c, 4, k, rfl, hc1.same s4, by omega, by decide, by decide, fun r H5 b5 c5 r0 r1 => ⟨_, _, _, rfl, ?_⟩⟩
        have ht4 : H4 tl = some (.lst []) := s4 _ _ upd_same
        have nd : (c :: u :: tl :: us).Nodup := List.nodup_cons.mpr ⟨by simp [ncu, nct, cn], List.nodup_cons.mpr ⟨by simp [ntu.symm, nuu], List.nodup_cons.mpr ⟨tn, und⟩⟩⟩
        have nH : ∀ a ∈ us, H a = none := fun a ha => by
          have := (hus a ha).1
          exact new_of this
        refine ⟨(Same.but (same_upd ntl)).trans (s4.but.trans b5), c5, u, tl, us, r, ⟨c5.cup, b5 _ _ hu4 ncu.symm, ul, nd, b5 _ _ ht4 nct.symm, (fun p hp => by cases hp), fun h a hh => ?_⟩, new_of nu, ntl, nH, r0, r1, rfl⟩
        have ma := List.mem_of_getElem? hh
        exact b5 _ _ (hus a ma).2 (fun e => cn (e ▸ ma))
    rintro σ H3 ⟨b3, c3, u, tl, us, kd, wk, nu, ntl, nus, kd0, kd4, rfl⟩
    refine ⟨fun σ H' => But c H H' ∧ Pur (k + 100) H' c ∧ ∃ (ts : List (Addr × Tie)) (v1 v2 v3 v4 : Option V), H' tl = some (.lst (refs ts)) ∧ At tieV H' ts ∧ WebOk n (ts.map (·.2)) ∧ ((ts.map (·.2)).map Tie.pr).Pairwise PrLt ∧ ts.length ≤ 18 ∧
      σ = [some (.ref c), some (.int (n : Int)), some (.ref tl), some (.ref u), some (.int kd), v1, v2, v3, v4], ?_, ?_⟩
    · refine ⟨_, rfl, _, rfl, c, n, k + 1, rfl, c3, by omega, n2, n10, fun sp qs H4 b4 c4 nsp hsp hAq okq srt lenq => ?_⟩
      have wk4 := wk.but b4 c4.cup
      have nown : sp ∉ c :: u :: tl :: us := by
        intro z
        rcases List.mem_cons.mp z with e | z
        · obtain ⟨x, y, d, e2, _⟩ := c3
          rw [← e, nsp] at e2
          cases e2
        rcases List.mem_cons.mp z with e | z
        · have e2 := wk.hu
          rw [← e, nsp] at e2
          cases e2
        rcases List.mem_cons.mp z with e | z
        · have e2 := wk.ht
          rw [← e, nsp] at e2
          cases e2
        · obtain ⟨i, hi⟩ := List.getElem?_of_mem z
          have e2 := wk.hm i sp hi
          rw [nsp] at e2
          cases e2
      refine ⟨sp, rfl, ⟨_, SqL.of hsp⟩, for_list (K := K) (a := sp) (xs := refs qs) (fun j σ H' => ∃ (ts : List (Addr × Tie)) (v1 v2 v3 : Option V), Wk H' c u tl us n ts ∧ Pur (k + 41 + 2 * j) H' c ∧ But c H H' ∧ H' sp = some (.lst (refs qs)) ∧ At prV H' qs ∧
          (ts.map (·.2)).map Tie.pr = (qs.map (·.2)).take j ∧ (∀ t ∈ ts.map (·.2), t.m ∈ letters ∧ t.o ∈ letters) ∧ (∀ h, (marksAt h (ts.map (·.2))).Nodup) ∧ (¬ 0 < kd → ∀ t ∈ ts.map (·.2), numM n t) ∧
          σ = [some (.ref c), some (.int (n : Int)), some (.ref tl), some (.ref u), some (.int kd), v1, v2, v3, none])
        ⟨[], none, none, none, wk4, c4, b3.trans b4, hsp, hAq, rfl, (fun t h => by cases h), (fun h => List.nodup_nil), (fun _ t h => by cases h), rfl⟩ (fun j σ H' _ ⟨_, _, _, _, _, _, _, e, _⟩ => SqL.of e) ?_ ?_⟩
      · rintro j x σ H6 hx ⟨ts, v1, v2, v3, wk6, c6, b6, hsp6, hA6, hpr, hlet, hun, hnum, rfl⟩
        obtain ⟨⟨p, q⟩, hkq, rfl⟩ := refs_get hx
        have hmq : (p, q) ∈ qs := List.mem_of_getElem? hkq
        have hp : H6 p = some (.tup (prV q)) := hA6 _ hmq
        obtain ⟨q12, qn⟩ := okq.lt q (List.mem_map_of_mem (f := (·.2)) hmq)
        have hj : j < qs.length := (List.getElem?_eq_some_iff.mp hkq).1
        have hlt : ∀ t ∈ ts.map (·.2), t.a < t.b ∧ t.b < n := fun t ht => by
          have m : t.pr ∈ (qs.map (·.2)).take j := by
            rw [← hpr]
            exact List.mem_map_of_mem ht
          exact okq.lt _ (List.mem_of_mem_take m)
        have hne : ∀ t ∈ ts.map (·.2), t.pr ≠ q := fun t ht e => by
          have m : t.pr ∈ (qs.map (·.2)).take j := by
            rw [← hpr]
            exact List.mem_map_of_mem ht
          obtain ⟨i, hi⟩ := List.getElem?_of_mem m
          have hi2 : i < j := by
            have := (List.getElem?_eq_some_iff.mp hi).1
            rw [List.length_take] at this
            omega
          rw [List.getElem?_take, if_pos hi2, e] at hi
          have g : (qs.map (·.2))[j]? = some q := by rw [List.getElem?_map, hkq]; rfl
          have := nd_ix okq.nd hi g
          omega
        have htl : (ts.map (·.2)).length = j := by
          have e := congrArg List.length hpr
          simp only [List.length_map, List.length_take] at e
          rw [List.length_map]
          omega
        have pnd : ((ts.map (·.2)).map Tie.pr).Nodup := by
          rw [hpr]
          exact okq.nd.sublist (List.take_sublist _ _)
        have few : ∀ h, (marksAt h (ts.map (·.2))).length < 12 := fun h => by
          have := marks_less (h := h) hlt pnd
          omega
        have hi1 : q.1 < us.length := by
          rw [wk6.ul]
          omega
        have hi2 : q.2 < us.length := by
          rw [wk6.ul]
          omega
        have g1 : us[q.1]? = some us[q.1] := List.getElem?_eq_getElem hi1
        have g2 : us[q.2]? = some us[q.2] := List.getElem?_eq_getElem hi2
        have at1 : ∀ {j : Nat} (hj : j < us.length), atI (us.map V.ref) (j : Int) = some (.ref us[j]) := fun {j} hj => atI_nat (by rw [List.getElem?_map, List.getElem?_eq_getElem hj]; rfl)
        refine ⟨p, _, rfl, SqT.of hp, rfl, _, _, rfl, _, _, rfl, rfl, ?_⟩
        refine ⟨fun σ H' => But c H6 H' ∧ Pur (k + 41 + 2 * j) H' c ∧ ∃ D : Addr, H' D = some (.lst [sV (97 + (q.2 - q.1 - 1)), sV (97 + (n - 1 - (q.2 - q.1)))]) ∧ D ≠ c ∧ H6 D = none ∧
          σ = [some (.ref c), some (.int (n : Int)), some (.ref tl), some (.ref u), some (.int kd), some (.int (q.1 : Int)), some (.int (q.2 : Int)), some (.ref D), none], ?_, ?_⟩
        · refine ⟨_, rfl, _, rfl, _, _, rfl, rfl, _, _, rfl, rfl, _, _, 97 + (q.2 - q.1 - 1), rfl, rfl, abc_len, (by rw [show ((q.2 : Int) - (q.1 : Int) - 1) = ((q.2 - q.1 - 1 : Nat) : Int) by omega]; exact atI_nat (letter_at _ (by omega)).1), ?_⟩
          refine ⟨_, rfl, _, _, rfl, rfl, _, rfl, _, _, rfl, rfl, _, rfl, _, _, rfl, rfl, _, _, 97 + (n - 1 - (q.2 - q.1)), rfl, rfl, abc_len, (by rw [show ((n : Int) - 1 - (q.2 : Int) + (q.1 : Int)) = ((n - 1 - (q.2 - q.1) : Nat) : Int) by omega]; exact atI_nat (letter_at _ (by omega)).1), ?_⟩
          exact ⟨by show 2 ≤ sizeLine; decide, fun D nD => ⟨(But.refl c H6).put nD, c6.put nD, D, upd_same, (c6.ne nD).symm, nD, rfl⟩⟩
        rintro σ H7 ⟨b7, c7, D, hD, nDc, nD6, rfl⟩
        have wk7 := wk6.but b7 c7.cup
        obtain ⟨f1, f2⟩ : (97 + (q.2 - q.1 - 1)) ∈ letters ∧ (97 + (n - 1 - (q.2 - q.1))) ∈ letters := ⟨(letter_at _ (by omega)).2, (letter_at _ (by omega)).2⟩
        refine ⟨fun σ H' => But c H6 H' ∧ Pur (k + 41 + 2 * (j + 1)) H' c ∧ ∃ (D : Addr) (z1 z2 : Nat), H' D = some (.lst [sV z1, sV z2]) ∧ H6 D = none ∧ z1 ∈ letters ∧ z2 ∈ letters ∧ z1 ∉ marksAt q.1 (ts.map (·.2)) ∧ z2 ∉ marksAt q.2 (ts.map (·.2)) ∧ (¬ 0 < kd → numM n ⟨q.1, z1, q.2, z2⟩) ∧
          σ = [some (.ref c), some (.int (n : Int)), some (.ref tl), some (.ref u), some (.int kd), some (.int (q.1 : Int)), some (.int (q.2 : Int)), some (.ref D), none], ?_, ?_⟩
        · refine ⟨_, rfl, _, _, rfl, rfl, _, rfl, ?_⟩
          refine ite2 (fun h0 => ?_) (fun h0 => ?_)
          · have h0 : 0 < kd := of_decide_eq_true h0
            refine ⟨_, rfl, _, rfl, _, rfl, u, _, _, _, rfl, rfl, SqL.of wk7.hu, at1 hi1, _, rfl, c, _, _, kd, k + 41 + 2 * j, rfl, c7, by omega, wk7.hm _ _ g1, few _, by omega, fun z1 H8 b8 c8 l1 m1 => ?_⟩
            have wk8 := wk7.but b8 c8.cup
            refine ⟨_, rfl, _, rfl, _, rfl, u, _, _, _, rfl, rfl, SqL.of wk8.hu, at1 hi2, _, rfl, c, _, _, kd, k + 41 + 2 * j + 1, rfl, c8, by omega, wk8.hm _ _ g2, few _, by omega, fun z2 H9 b9 c9 l2 m2 => ?_⟩
            refine ⟨by show 2 ≤ sizeLine; decide, fun D2 nD2 => ⟨((b7.trans b8).trans b9).put nD2, (c9.put nD2).le (by omega), D2, z1, z2, upd_same, ?_, l1, l2, m1, m2, fun z => absurd h0 z, rfl⟩⟩
            cases q2 : H6 D2 with
            | none => rfl
            | some o =>
              rw [((b7.trans b8).trans b9) D2 o q2 (c9.ne nD2).symm] at nD2
              cases nD2
          · have h0 : ¬ 0 < kd := fun z => h0 (decide_eq_true z)
            have nn := num_new q12 qn hlt (hnum h0) hne
            refine ⟨b7, c7.le (by omega), D, _, _, hD, ?_, f1, f2, nn.1, nn.2, fun _ => ⟨rfl, rfl⟩, rfl⟩
            exact nD6
        rintro σ H8 ⟨b8, c8, D, z1, z2, hD8, nD6, l1, l2, m1, m2, nm, rfl⟩
        have wk8 := wk6.but b8 c8.cup
        have h1 := wk8.hm _ _ g1
        have h2 := wk8.hm _ _ g2
        obtain ⟨und, cu, ct, ut⟩ := wk8.us_nd
        obtain ⟨d1, d2, d3⟩ := wk8.dist g1
        obtain ⟨e1, e2, e3⟩ := wk8.dist g2
        have n12 : us[q.1] ≠ us[q.2] := fun z => by
          have := nd_ix und g1 (by rw [z]; exact g2)
          omega
        have sz : ∀ h, ((marksAt h (ts.map (·.2))).map sV).length < sizeLine := fun h => by
          have := few h
          rw [List.length_map]
          exact small1000 (by omega)
        have nD1 : D ≠ us[q.1] := fun z => by
          rw [z, wk6.hm _ _ g1] at nD6
          cases nD6
        have nD2 : D ≠ us[q.2] := fun z => by
          rw [z, wk6.hm _ _ g2] at nD6
          cases nD6
        refine ⟨_, rfl, _, rfl, u, _, _, _, rfl, rfl, SqL.of wk8.hu, at1 hi1, .inl ⟨rfl, _, SqL.of h1⟩, _, rfl, D, _, _, _, rfl, rfl, SqL.of hD8, rfl, _, _, _, rfl, rfl, h1, sz _, ?_⟩
        have hu9 := put_ne (u := HO.lst ((marksAt q.1 (ts.map (·.2))).map sV ++ [sV z1])) wk8.hu (fun z => d2 z.symm)
        have m29 := put_ne (u := HO.lst ((marksAt q.1 (ts.map (·.2))).map sV ++ [sV z1])) h2 (fun z => n12 z.symm)
        have hD9 := put_ne (u := HO.lst ((marksAt q.1 (ts.map (·.2))).map sV ++ [sV z1])) hD8 nD1
        refine ⟨_, rfl, _, rfl, u, _, _, _, rfl, rfl, SqL.of hu9, at1 hi2, .inl ⟨rfl, _, SqL.of m29⟩, _, rfl, D, _, _, _, rfl, rfl, SqL.of hD9, rfl, _, _, _, rfl, rfl, m29, sz _, ?_⟩
        have ht9 := put_ne (u := HO.lst ((marksAt q.2 (ts.map (·.2))).map sV ++ [sV z2])) (put_ne (u := HO.lst ((marksAt q.1 (ts.map (·.2))).map sV ++ [sV z1])) wk8.ht (fun z => d3 z.symm)) (fun z => e3 z.symm)
        have hD10 := put_ne (u := HO.lst ((marksAt q.2 (ts.map (·.2))).map sV ++ [sV z2])) hD9 nD2
        refine ⟨_, rfl, .inl ⟨rfl, _, SqL.of ht9⟩, _, rfl, _, rfl, D, _, _, _, rfl, rfl, SqL.of hD10, rfl, _, rfl, _, rfl, D, _, _, _, rfl, rfl, SqL.of hD10, rfl, (by show 4 ≤ sizeLine; decide), fun p np => ?_⟩
        have ht10 := put_old (u := HO.tup [.int (q.1 : Int), sV z1, .int (q.2 : Int), sV z2]) ht9 np
        refine ⟨_, _, _, rfl, rfl, ht10, (by rw [refs_len]; rw [List.length_map] at htl; exact small1000 (by omega)), ?_⟩
        have wk9 := wk8.step ⟨q.1, z1, q.2, z2⟩ (by show q.1 ≠ q.2; omega) g1 g2 np
        have b9 : But c H _ := (((((b6.trans b8).own (nus _ (List.mem_of_getElem? g1))).own (nus _ (List.mem_of_getElem? g2))).put (o := .tup (tieV ⟨q.1, z1, q.2, z2⟩)) np).own (o := .lst (refs ts ++ [.ref p])) ntl)
        have nsp1 : sp ≠ us[q.1] := fun z => nown (by simp [z])
        have nsp2 : sp ≠ us[q.2] := fun z => nown (by simp [z])
        have nspt : sp ≠ tl := fun z => nown (by simp [z])
        have nspc : sp ≠ c := fun z => nown (by simp [z])
        have hsp9 := put_ne (u := HO.lst (refs ts ++ [.ref p])) (put_old (u := HO.tup [.int (q.1 : Int), sV z1, .int (q.2 : Int), sV z2]) (put_ne (u := HO.lst ((marksAt q.2 (ts.map (·.2))).map sV ++ [sV z2])) (put_ne (u := HO.lst ((marksAt q.1 (ts.map (·.2))).map sV ++ [sV z1])) (b8 _ _ hsp6 nspc) nsp1) nsp2) np) nspt
        have hA9 := (((((hA6.but wk6.cup b8).mono (upd_tup h1)).mono (upd_tup m29)).same (same_upd np)).mono (upd_tup (o := .lst (refs ts ++ [.ref p])) ht10))
        have c9 : Pur (k + 41 + 2 * (j + 1)) (upd (upd (upd (upd H8 us[q.1] (.lst ((marksAt q.1 (ts.map (·.2))).map sV ++ [sV z1]))) us[q.2] (.lst ((marksAt q.2 (ts.map (·.2))).map sV ++ [sV z2]))) p (.tup [.int (q.1 : Int), sV z1, .int (q.2 : Int), sV z2])) tl (.lst (refs ts ++ [.ref p]))) c :=
          (((c8.of_lst (fun z => d1 z.symm)).of_lst (fun z => e1 z.symm)).put np).of_lst ct
        refine ⟨ts ++ [(p, (⟨q.1, z1, q.2, z2⟩ : Tie))], _, _, _, wk9, c9, b9, hsp9, hA9, ?_, ?_, ?_, ?_, rfl⟩
        · rw [List.map_append, List.map_append, hpr, List.take_succ, List.getElem?_map, hkq]
          rfl
        · intro t ht
          rw [List.map_append] at ht
          rcases List.mem_append.mp ht with z | z
          · exact hlet t z
          · rw [List.mem_singleton.mp z]
            exact ⟨l1, l2⟩
        · intro h
          rw [List.map_append, show [(p, (⟨q.1, z1, q.2, z2⟩ : Tie))].map (·.2) = [⟨q.1, z1, q.2, z2⟩] from rfl, marksAt_snoc]
          have ne : (⟨q.1, z1, q.2, z2⟩ : Tie).a ≠ (⟨q.1, z1, q.2, z2⟩ : Tie).b := by show q.1 ≠ q.2; omega
          by_cases ha : h = q.1
          · have e := endsAt_a ne
            rw [ha]
            rw [show endsAt q.1 ⟨q.1, z1, q.2, z2⟩ = [z1] from e]
            exact nd_snoc (hun _) m1
          · by_cases hb : h = q.2
            · have e := endsAt_b ne
              rw [hb]
              rw [show endsAt q.2 ⟨q.1, z1, q.2, z2⟩ = [z2] from e]
              exact nd_snoc (hun _) m2
            · rw [endsAt_no (t := ⟨q.1, z1, q.2, z2⟩) ha hb, List.append_nil]
              exact hun h
        · intro hk0 t ht
          rw [List.map_append] at ht
          rcases List.mem_append.mp ht with z | z
          · exact hnum hk0 t z
          · rw [List.mem_singleton.mp z]
            exact nm hk0
      · rintro σ H6 ⟨ts, v1, v2, v3, wk6, c6, b6, hsp6, hA6, hpr, hlet, hun, hnum, rfl⟩
        rw [refs_len, List.take_of_length_le (by rw [List.length_map]; exact Nat.le_refl _)] at hpr
        have el : ts.length = qs.length := by
          have e := congrArg List.length hpr
          simp only [List.length_map] at e
          exact e
        refine ⟨b6, c6.le (by rw [refs_len]; omega), ts, _, _, _, _, wk6.ht, wk6.hA, ?_, by rw [hpr]; exact srt, by omega, rfl⟩
        have hmem : ∀ t ∈ ts.map (·.2), t.pr ∈ qs.map (·.2) := fun t ht => by
          rw [← hpr]
          exact List.mem_map_of_mem ht
        refine ⟨n2, by omega, fun t ht => okq.lt _ (hmem t ht), fun h h1 h2 => ?_, by rw [hpr]; exact okq.nd, hlet, hun, by rw [List.length_map]; omega⟩
        obtain ⟨q, hq, e⟩ := okq.hang h h1 h2
        rw [← hpr] at hq
        obtain ⟨t, ht, rfl⟩ := List.mem_map.mp hq
        exact ⟨t, ht, e⟩
    rintro σ H5 ⟨b5, c5, ts, v1, v2, v3, v4, htl, hts, wk, srt, len, rfl⟩
    exact ⟨_, rfl, kk tl ts H5 b5 c5 ntl htl hts wk srt len⟩
end
end Wh

namespace Wh
open PySem L2
abbrev sPlain3 : Stmt := topS 56
abbrev sText3 : Stmt := topS 57
theorem scPlain3 : FnScope ["ties_here", "one", "mark", "two", "back"] ["ties_here"] (defScope sPlain3) := ⟨rfl, rfl, rfl, by decide +kernel, rfl, by decide +kernel, by decide +kernel⟩
theorem scText3 : FnScope ["purse", "ties_here", "left", "found", "k", "one", "mark", "two", "back"] ["purse", "ties_here"] (defScope sText3) := ⟨rfl, rfl, rfl, by decide +kernel, rfl, by decide +kernel, by decide +kernel⟩
section
variable {P : Program} {w : World} {K : PySem.W.Frag} {mg : Str → Option Value} {base : Heap}
theorem space_S : (" " : Str) = SX.S [32] := by decide +kernel
/-- the ties stand in a list at l; the text is told -/
def spText (K : PySem.W.Frag) : Sp := fun vs H Q _ => ∃ (l : Addr) (ps : List (Addr × Tie)), vs = [.ref l] ∧ H l = some (.lst (refs ps)) ∧ At tieV H ps ∧ (∀ p ∈ ps, p.2.a < 10 ∧ p.2.b < 10) ∧ ps.length ≤ 100 ∧
  ∀ H', Same H H' → Q (.str (webS (ps.map (·.2)))) H'
theorem ok_plain3 {f : Addr} {fd : FuncData} (F : Fun K "_law_plain" "_law_plain" sPlain3 f fd) (mstr : mg "str" = none) : FnOk P w K mg base CX0 1 f fd ["ties_here"] (spText K) := by
  refine F.ok scPlain3 (fun vs H Q E h => ?_) (fun cdv A outer s H vs Q E hr h => ?_)
  · obtain ⟨l, ps, rfl, _⟩ := h
    rfl
  · obtain ⟨l, ps, rfl, hl, hA, hab, hlen, k⟩ := h
    refine ⟨_, (pss_one (ps_ret (pe_joinK K rfl pe_str (pe_lc (own := [("one", 1), ("mark", 2), ("two", 3), ("back", 4)]) (tt := tYes) rfl scPlain3.nd (pi_list (pv 0)) (blkOk_by (N := ["ties_here", "one", "mark", "two", "back"]) (own := [("one", 1), ("mark", 2), ("two", 3), ("back", 4)]) (sc := defScope sPlain3) (by decide +kernel)) (fun _ _ _ _ _ => (pg_tupK K 4 rfl (by rfl) (pgs_cons (pg_name (i := 1) scPlain3.nd rfl (.inl rfl)) (pgs_cons (pg_name (i := 2) scPlain3.nd rfl (.inl rfl)) (pgs_cons (pg_name (i := 3) scPlain3.nd rfl (.inl rfl)) (pgs_cons (pg_name (i := 4) scPlain3.nd rfl (.inl rfl)) pgs_nil)))))) (fun _ _ _ _ _ => pts_nil) (fun _ _ _ _ _ => (pe_op op_add_str (pe_op op_add_str (pe_op op_add_str (pe_op op_add_str (pe_op op_add_str (pe_op op_add_str (pe_callTy call_str_int (by rfl) mstr (by decide +kernel) (pa_cons (pv 1) pa_nil)) pe_str) (pv 2)) pe_str) (pe_callTy call_str_int (by rfl) mstr (by decide +kernel) (pa_cons (pv 3) pa_nil))) pe_str) (pv 4))))))), ?_⟩
    refine ⟨⟨_, rfl⟩, _, rfl, l, rfl, ⟨_, SqL.of hl⟩, fun D nD => ?_⟩
    refine lc_list (K := K) (a := l) (xs := refs ps) (fun i H' => Same H H' ∧ H' D = some (.lst (((ps.take i).map fun p => lineS p.2).map V.str))) ⟨same_upd nD, upd_same⟩ (fun i H' _ ⟨s, _⟩ => SqL.of (s _ _ hl)) ?_ ?_
    · rintro i x H1 hx ⟨s1, hD⟩
      obtain ⟨⟨p, t⟩, hk, rfl⟩ := refs_get hx
      have hp : H1 p = some (.tup (tieV t)) := s1 _ _ (hA _ (List.mem_of_getElem? hk))
      obtain ⟨ta, tb⟩ := hab _ (List.mem_of_getElem? hk)
      have ta : t.a < 10 := ta
      have tb : t.b < 10 := tb
      refine ⟨p, _, rfl, SqT.of hp, rfl, _, _, rfl, _, _, rfl, _, _, rfl, _, _, rfl, rfl, ?_⟩
      have sg : ∀ c : Nat, sgn c = SX.S [c] := fun _ => rfl
      have sz : ∀ a b : List Nat, a.length + b.length ≤ 100 → (SX.S a).length + (SX.S b).length ≤ sizeLine := fun a b h => by
        rw [SX.S_len, SX.S_len]
        exact Nat.le_of_lt (small1000 (by omega))
      refine ⟨rfl, _, rfl, _, rfl, num_log (by omega), ?_⟩
      rw [num_str _ ta, space_S, sg (48 + t.a)]
      refine ⟨_, _, rfl, rfl, sz _ _ (by simp), _, rfl, ?_⟩
      rw [SX.S_cat, sg t.m]
      refine ⟨_, _, rfl, rfl, sz _ _ (by simp), ?_⟩
      rw [SX.S_cat]
      refine ⟨_, _, rfl, rfl, sz _ _ (by simp), _, rfl, _, rfl, num_log (by omega), ?_⟩
      rw [SX.S_cat, num_str _ tb, sg (48 + t.b)]
      refine ⟨_, _, rfl, rfl, sz _ _ (by simp), ?_⟩
      rw [SX.S_cat]
      refine ⟨_, _, rfl, rfl, sz _ _ (by simp), _, rfl, ?_⟩
      rw [SX.S_cat, sg t.o]
      refine ⟨_, _, rfl, rfl, sz _ _ (by simp), ?_⟩
      rw [SX.S_cat]
      refine ⟨_, hD, ?_, s1.own nD, ?_⟩
      · rw [List.length_map, List.length_map, List.length_take]
        exact small1000 (by omega)
      · rw [upd_same, List.take_succ, hk, List.map_append, List.map_append]
        rfl
    · rintro H1 ⟨s1, hD⟩
      rw [refs_len, List.take_length] at hD
      have e : ps.map (fun p => lineS p.2) = (ps.map (·.2)).map lineS := by rw [List.map_map]; rfl
      rw [e] at hD
      refine ⟨_, _, _, rfl, rfl, .inl (SqL.of hD), ?_, ?_⟩
      · have e1 : ("\n" : Str).length = 1 := by decide +kernel
        rw [lines_sum, e1]
        simp only [List.length_map]
        omega
      · rw [text_join]
        exact k _ s1
/-- a tie turned round -/
def rev (t : Tie) : Tie := ⟨t.b, t.o, t.a, t.m⟩
theorem nrm_rev {t : Tie} (h : t.a < t.b) : nrm (rev t) = t := by
  unfold nrm rev
  rw [if_neg (show ¬ t.b < t.a by omega)]
theorem perm_erase {α : Type} : ∀ {xs : List α} {k : Nat} {y : α}, xs[k]? = some y → xs.Perm (y :: xs.eraseIdx k)
  | [], k, y, h => by cases h
  | x :: xs, 0, y, h => by
    obtain rfl := Option.some.inj h
    exact .refl _
  | x :: xs, k + 1, y, h => ((perm_erase (xs := xs) (k := k) h).cons x).trans (.swap y x _)
theorem refs_erase {α : Type} : ∀ (qs : List (Addr × α)) (k : Nat), (refs qs).eraseIdx k = refs (qs.eraseIdx k)
  | [], _ => rfl
  | _ :: _, 0 => rfl
  | q :: qs, k + 1 => by
    show V.ref q.1 :: (refs qs).eraseIdx k = V.ref q.1 :: refs (qs.eraseIdx k)
    rw [refs_erase qs k]
theorem sidx {k n : Nat} (h : k < n) : seqIndex? (k : Int) n = some k := by
  unfold seqIndex?
  have h1 : ¬ ((k : Int) < 0) := by omega
  rw [if_neg h1]
  have h2 : (decide (0 ≤ (k : Int)) && decide ((k : Int) < (n : Int))) = true := by
    rw [decide_eq_true (by omega), decide_eq_true (by omega)]
    rfl
  rw [if_pos h2]
  rfl
/-- what of the ties is left, what has been told as lines -/
structure Mx (H : Hp) (c L M : Addr) (qs ms : List (Addr × Tie)) (ts : List Tie) : Prop where
  cup : Cup H c
  hL : H L = some (.lst (refs qs))
  hM : H M = some (.lst (refs ms))
  aL : At tieV H qs
  aM : At tieV H ms
  pm : (qs.map (·.2) ++ (ms.map (·.2)).map nrm).Perm ts
def spText3 : Sp := fun vs H Q _ => ∃ (c l : Addr) (ps : List (Addr × Tie)) (n k : Nat), vs = [.ref c, .ref l] ∧ Pur k H c ∧ k < 800000 ∧ H l = some (.lst (refs ps)) ∧ At tieV H ps ∧ WebOk n (ps.map (·.2)) ∧
  ∀ (rs : List Tie) (H' : Hp), But c H H' → Pur (k + 200) H' c → (rs.map nrm).Perm (ps.map (·.2)) → Q (.str (webS rs)) H'
theorem ok_text3 {f fS fT : Addr} {fd fdS fdT : FuncData} (F : Fun K "_law_text" "_law_text" sText3 f fd) (mlist : mg "list" = none) (mrange : mg "range" = none) (mlen : mg "len" = none)
    (GT : FnOk P w K mg base CX0 1 fS fdS ["purse", "many"] spTake) (FT : Fun K "_law_take" "_law_take" sTake fS fdS) (bT : Binds K fdS ["purse", "many"] []) (mT : mg "_law_take" = some (.ref fS))
    (GP : FnOk P w K mg base CX0 1 fT fdT ["ties_here"] (spText K)) (FP : Fun K "_law_plain" "_law_plain" sPlain3 fT fdT) (bP : Binds K fdT ["ties_here"] []) (mP : mg "_law_plain" = some (.ref fT)) : FnOk P w K mg base CX0 2 f fd ["purse", "ties_here"] spText3 := by
  refine F.ok scText3 (fun vs H Q E h => ?_) (fun cdv A outer s H vs Q E hr h => ?_)
  · obtain ⟨c, l, ps, n, k, rfl, _⟩ := h
    rfl
  · obtain ⟨c, l, ps, n, k0, rfl, pu, hk0, hl, hA, wk, k⟩ := h
    have hr1 : Room 1 _ := hr
    have cu := pu.cup
    have len100 : ps.length ≤ 100 := by
      have := wk.len
      rw [List.length_map] at this
      exact this
    refine ⟨_, (C8.pss_cut (ps_par (i := 2) (j := 3) (by rfl) scText3.nd rfl rfl (by decide) rfl rfl (pa_cons (pe_callTy call_list_of (by rfl) mlist (by decide +kernel) (pa_cons (pv 1) pa_nil)) (pa_cons (pe_lst pa_nil) pa_nil)) (by rfl)) (C8.pss_cut (ps_for PassesOwn.never rfl (pi_range1 (by rfl) mrange (pa_cons (pe_callB call_len_seq (by rfl) mlen PySem.boot_len (pa_cons (pv 1) pa_nil)) pa_nil)) (pg_name (i := 4) scText3.nd rfl (.inl rfl)) (C8.pss_cut (ps_asg (pe_bm PySem.F.plainAttrs_list PySem.F.slot_list_pop PySem.F.type_list_pop mt_popAt (pv 2) (pa_cons (pe_call GT hr1 (by rfl) mT FT.kp bT .nil pass0 (pa_cons (pv 0) (pa_cons (pe_callB call_len_seq (by rfl) mlen PySem.boot_len (pa_cons (pv 2) pa_nil)) pa_nil))) pa_nil)) (pg_tup (by rfl) (pgs_cons (pg_name (i := 5) scText3.nd rfl (.inl rfl)) (pgs_cons (pg_name (i := 6) scText3.nd rfl (.inl rfl)) (pgs_cons (pg_name (i := 7) scText3.nd rfl (.inl rfl)) (pgs_cons (pg_name (i := 8) scText3.nd rfl (.inl rfl)) pgs_nil)))))) (pss_one (ps_expr (pe_bm PySem.F.plainAttrs_list PySem.F.slot_list_append PySem.F.type_list_append mt_append (pv 3) (pa_cons (pe_ifExp (pt_cmpR op_eq (pe_call GT hr1 (by rfl) mT FT.kp bT .nil pass0 (pa_cons (pv 0) (pa_cons pe_int pa_nil))) pe_int (nomark _)) (pe_tup (pa_cons (pv 5) (pa_cons (pv 6) (pa_cons (pv 7) (pa_cons (pv 8) pa_nil))))) (pe_tup (pa_cons (pv 7) (pa_cons (pv 8) (pa_cons (pv 5) (pa_cons (pv 6) pa_nil)))))) pa_nil)))))) (pss_one (ps_ret (pe_call GP hr1 (by rfl) mP FP.kp bP .nil pass0 (pa_cons (pv 3) pa_nil)))))), ?_⟩
    refine ⟨fun σ H' => Same H H' ∧ ∃ L M : Addr, H L = none ∧ H M = none ∧ L ≠ M ∧ Mx H' c L M ps [] (ps.map (·.2)) ∧ σ = [some (.ref c), some (.ref l), some (.ref L), some (.ref M), none, none, none, none, none], ?_, ?_⟩
    · refine ⟨_, rfl, l, _, rfl, .inl (SqL.of hl), fun L nL => ⟨Nat.zero_le _, fun M nM => ?_⟩⟩
      have s2 := (same_upd nL (o := .lst (refs ps))).put nM (o := .lst [])
      have nLM : L ≠ M := ne_of_none upd_same nM
      refine ⟨_, _, rfl, s2, L, M, nL, (same_upd nL).free nM, nLM, ⟨cu.same s2, put_old upd_same nM, upd_same, hA.same s2, (fun p hp => by cases hp), ?_⟩, rfl⟩
      rw [List.map_nil, List.map_nil, List.append_nil]
    rintro σ H1 ⟨s1, L, M, nL, nM, nLM, mx, rfl⟩
    refine ⟨fun σ H' => But c H H' ∧ Pur (k0 + 200) H' c ∧ ∃ (ms : List (Addr × Tie)) (v1 v2 v3 v4 v5 : Option V), Mx H' c L M [] ms (ps.map (·.2)) ∧ σ = [some (.ref c), some (.ref l), some (.ref L), some (.ref M), v1, v2, v3, v4, v5], ?_, ?_⟩
    · refine ⟨_, rfl, l, _, rfl, .inl (SqL.of (s1 _ _ hl)), ?_⟩
      rw [refs_len]
      refine ⟨_, rfl, by omega, by omega, ?_⟩
      rw [show ((ps.length : Int)).toNat = ps.length from Int.toNat_natCast _]
      refine for_range (lo := 0) (n := ps.length) (fun i σ H' => But c H H' ∧ Pur (k0 + 2 * i) H' c ∧ ∃ (qs ms : List (Addr × Tie)) (v1 v2 v3 v4 v5 : Option V), qs.length + i = ps.length ∧ Mx H' c L M qs ms (ps.map (·.2)) ∧ σ = [some (.ref c), some (.ref l), some (.ref L), some (.ref M), v1, v2, v3, v4, v5])
        ⟨s1.but, pu.same s1, ps, [], none, none, none, none, none, rfl, mx, rfl⟩ ?_ ?_
      · rintro i σ H2 hi ⟨b2, pu2, qs, ms, v1, v2, v3, v4, v5, hlen, mx, rfl⟩
        have qpos : 1 ≤ qs.length := by omega
        have nLc : L ≠ c := mx.cup.ne_refs (ps := qs.map (·.1)) (by rw [← refs_eq]; exact mx.hL)
        have nMc : M ≠ c := mx.cup.ne_refs (ps := ms.map (·.1)) (by rw [← refs_eq]; exact mx.hM)
        refine ⟨fun σ H' => But c H H' ∧ ∃ (qs' : List (Addr × Tie)) (t : Tie) (v1 : Option V), qs'.length + (i + 1) = ps.length ∧ Pur (k0 + 2 * i + 1) H' c ∧ H' L = some (.lst (refs qs')) ∧ H' M = some (.lst (refs ms)) ∧ At tieV H' qs' ∧ At tieV H' ms ∧
          (t :: (qs'.map (·.2) ++ (ms.map (·.2)).map nrm)).Perm (ps.map (·.2)) ∧ σ = [some (.ref c), some (.ref l), some (.ref L), some (.ref M), v1, some (.int (t.a : Int)), some (sV t.m), some (.int (t.b : Int)), some (sV t.o)], ?_, ?_⟩
        · refine ⟨_, rfl, .inl ⟨rfl, _, SqL.of mx.hL⟩, _, rfl, _, rfl, L, _, rfl, .inl (SqL.of mx.hL), ?_⟩
          rw [refs_len]
          refine ⟨c, (qs.length : Int), k0 + 2 * i, rfl, pu2, by omega, by omega, by omega, fun r H3 b3 pu3 r0 r1 => ?_⟩
          obtain ⟨k2, rfl⟩ := Int.eq_ofNat_of_zero_le r0
          have hk : k2 < qs.length := by omega
          obtain ⟨⟨p, t⟩, hpt⟩ : ∃ z, qs[k2]? = some z := ⟨_, List.getElem?_eq_getElem hk⟩
          have hL3 := b3 _ _ mx.hL nLc
          have hM3 := b3 _ _ mx.hM nMc
          have aL3 := mx.aL.but mx.cup b3
          have aM3 := mx.aM.but mx.cup b3
          refine ⟨L, _, _, k2, .ref p, rfl, rfl, hL3, by omega, by omega, ?_, ?_, ?_⟩
          · rw [refs_len]
            exact sidx hk
          · unfold refs
            rw [List.getElem?_map, hpt]
            rfl
          · rw [refs_erase]
            have pe := perm_erase hpt
            have hp : (upd H3 L (.lst (refs (qs.eraseIdx k2)))) p = some (.tup (tieV t)) := upd_tup hL3 _ _ (aL3 _ (List.mem_of_getElem? hpt))
            refine ⟨p, _, rfl, SqT.of hp, rfl, _, _, rfl, _, _, rfl, _, _, rfl, _, _, rfl, rfl, ?_⟩
            refine ⟨(b2.trans b3).own nL, qs.eraseIdx k2, t, _, ?_, ?_, upd_same, put_ne hM3 nLM.symm, ?_, aM3.mono (upd_tup hL3), ?_, rfl⟩
            · have := pe.length_eq
              rw [List.length_cons] at this
              omega
            · exact pu3.of_lst nLc.symm
            · exact fun z hz => upd_tup hL3 _ _ (aL3 z (pe.mem_iff.mpr (List.mem_cons_of_mem _ hz)))
            · refine ((pe.map (·.2)).append_right _).symm.trans mx.pm
        rintro σ H3 ⟨b3, qs', t, w1, hlen', pu3, hL3, hM3, aL3, aM3, pm3, rfl⟩
        have cu3 := pu3.cup
        have mt : t ∈ ps.map (·.2) := pm3.mem_iff.mp List.mem_cons_self
        have tab := (wk.lt t mt).1
        have lenM : ms.length ≤ 100 := by
          have := pm3.length_eq
          rw [List.length_cons, List.length_append, List.length_map, List.length_map, List.length_map, List.length_map] at this
          omega
        have fin : ∀ (H4 : Hp) (q : Addr) (u : Tie), But c H3 H4 → Pur (k0 + 2 * i + 2) H4 c → H4 q = some (.tup (tieV u)) → nrm u = t → But c H (upd H4 M (.lst (refs ms ++ [.ref q]))) ∧ Pur (k0 + 2 * (i + 1)) (upd H4 M (.lst (refs ms ++ [.ref q]))) c ∧ Mx (upd H4 M (.lst (refs ms ++ [.ref q]))) c L M qs' (ms ++ [(q, u)]) (ps.map (·.2)) := fun H4 q u b4 pu4 hq hu => by
          have cu4 := pu4.cup
          have hL4 := b4 _ _ hL3 nLc
          have hM4 := b4 _ _ hM3 nMc
          refine ⟨(b3.trans b4).own nM, (pu4.of_lst nMc.symm).le (by omega), cu4.of_lst nMc.symm, put_ne hL4 nLM, ?_, (aL3.but cu3 b4).mono (upd_tup hM4), ?_, ?_⟩
          · rw [upd_same, refs_app]
            rfl
          · exact At.snoc ((aM3.but cu3 b4).mono (upd_tup hM4)) (upd_tup hM4 _ _ hq)
          · rw [List.map_append, List.map_append, ← List.append_assoc]
            show ((qs'.map (·.2) ++ (ms.map (·.2)).map nrm) ++ [nrm u]).Perm _
            rw [hu]
            exact (List.perm_append_comm.trans (.refl _)).trans pm3
        refine ⟨_, rfl, .inl ⟨rfl, _, SqL.of hM3⟩, _, rfl, c, 2, k0 + 2 * i + 1, rfl, pu3, by omega, by decide, by decide, fun r H4 b4 pu4 r0 r1 => ⟨rfl, _, rfl, ?_⟩⟩
        have hM4 := b4 _ _ hM3 nMc
        refine ite2 (fun _ => ?_) (fun _ => ?_)
        · refine ⟨_, rfl, _, rfl, _, rfl, _, rfl, (by show 4 ≤ sizeLine; decide), fun q nq => ?_⟩
          obtain ⟨f1, f2, f3⟩ := fin (upd H4 q (.tup (tieV t))) q t (b4.put nq) (pu4.put nq) upd_same (nrm_id tab)
          exact ⟨_, _, _, rfl, rfl, put_old hM4 nq, (by rw [refs_len]; exact small1000 (by omega)), f1, f2, qs', _, _, _, _, _, _, hlen', f3, rfl⟩
        · refine ⟨_, rfl, _, rfl, _, rfl, _, rfl, (by show 4 ≤ sizeLine; decide), fun q nq => ?_⟩
          obtain ⟨f1, f2, f3⟩ := fin (upd H4 q (.tup (tieV (rev t)))) q (rev t) (b4.put nq) (pu4.put nq) upd_same (nrm_rev tab)
          exact ⟨_, _, _, rfl, rfl, put_old hM4 nq, (by rw [refs_len]; exact small1000 (by omega)), f1, f2, qs', _, _, _, _, _, _, hlen', f3, rfl⟩
      · rintro σ H2 ⟨b2, pu2, qs, ms, v1, v2, v3, v4, v5, hlen, mx, rfl⟩
        obtain rfl : qs = [] := List.eq_nil_of_length_eq_zero (by omega)
        exact ⟨b2, pu2.le (by omega), ms, _, _, _, _, _, mx, rfl⟩
    rintro σ H2 ⟨b2, pu2, ms, v1, v2, v3, v4, v5, mx, rfl⟩
    have pm : ((ms.map (·.2)).map nrm).Perm (ps.map (·.2)) := mx.pm
    have raw := raw_of (wk.perm pm.symm)
    refine ⟨_, rfl, M, ms, rfl, mx.hM, mx.aM, (fun p hp => ⟨(raw _ (List.mem_map_of_mem hp)).a10, (raw _ (List.mem_map_of_mem hp)).b10⟩), ?_, fun H3 s3 => k _ H3 (b2.trans s3.but) (pu2.same s3) pm⟩
    have := pm.length_eq
    rw [List.length_map, List.length_map, List.length_map] at this
    omega
end
end Wh

namespace Wh
open PySem L2
abbrev sCount : Stmt := topS 31
abbrev sDoors : Stmt := topS 35
theorem scCount : FnScope ["ties", "tie"] ["ties"] (defScope sCount) := ⟨rfl, rfl, rfl, by decide +kernel, rfl, by decide +kernel, by decide +kernel⟩
theorem scDoors : FnScope ["ties", "doors", "low", "mark", "high", "back", "_"] ["ties"] (defScope sDoors) := ⟨rfl, rfl, rfl, by decide +kernel, rfl, by decide +kernel, by decide +kernel⟩
/-- the greatest house -/
theorem max_top {n : Nat} {ps : List (Addr × Tie)} (w : WebOk n (ps.map (·.2))) {m : Int} (hm : m ∈ ps.map fun p => (p.2.b : Int)) (hle : ∀ y ∈ ps.map (fun p => (p.2.b : Int)), y ≤ m) : m + 1 = (n : Int) := by
  obtain ⟨p, hp, rfl⟩ := List.mem_map.mp hm
  obtain ⟨t, ht, e⟩ := w.top
  obtain ⟨q, hq, rfl⟩ := List.mem_map.mp ht
  have h1 := hle (q.2.b : Int) (List.mem_map.mpr ⟨q, hq, rfl⟩)
  have h2 := (w.lt p.2 (List.mem_map_of_mem hp)).2
  omega
section
variable {P : Program} {w : World} {K : PySem.W.Frag} {mg : Str → Option Value} {base : Heap}
def spCount (K : PySem.W.Frag) : Sp := fun vs H Q _ => ∃ (l : Addr) (ps : List (Addr × Tie)) (n : Nat), vs = [.ref l] ∧ H l = some (.lst (refs ps)) ∧ At tieV H ps ∧ WebOk n (ps.map (·.2)) ∧ ∀ H', Same H H' → Q (.int (n : Int)) H'
theorem ok_count {f : Addr} {fd : FuncData} (F : Fun K "count_houses" "count_houses" sCount f fd) (mmax : mg "max" = none) : FnOk P w K mg base CX0 1 f fd ["ties"] (spCount K) := by
  refine F.ok scCount (fun vs H Q E h => ?_) (fun cdv A outer s H vs Q E hr h => ?_)
  · obtain ⟨l, ps, n, rfl, _⟩ := h
    rfl
  · obtain ⟨l, ps, n, rfl, hl, hA, wk, k⟩ := h
    refine ⟨_, (pss_one (ps_ret (pe_op op_add (pe_callB (cr_max rfl) (by rfl) mmax (by decide +kernel) (pa_cons (pe_lc (own := [("tie", 1)]) (g := gName 1) (tt := tYes) rfl scCount.nd (pi_list (pv 0)) (blkOk_by (N := ["ties", "tie"]) (own := [("tie", 1)]) (sc := defScope sCount) (by decide +kernel)) (fun _ _ _ _ _ => (pg_name (i := 1) scCount.nd rfl (.inl rfl))) (fun _ _ _ _ _ => pts_nil) (fun _ _ _ _ _ => (pe_ix (ix_tupK K rfl) (pv 1) pe_int (fun _ _ => rfl)))) pa_nil)) pe_int))), ?_⟩
    refine ⟨_, rfl, l, rfl, ⟨_, SqL.of hl⟩, fun D nD => ?_⟩
    refine lc_list (K := K) (a := l) (xs := refs ps) (fun i H' => Same H H' ∧ H' D = some (.lst (((ps.map fun p => (p.2.b : Int)).take i).map V.int))) ⟨same_upd nD, upd_same⟩ (fun i H' _ ⟨s, _⟩ => SqL.of (s _ _ hl)) ?_ ?_
    · rintro i x H1 hx ⟨s1, hD⟩
      obtain ⟨⟨p, t⟩, hk, rfl⟩ := refs_get hx
      have hp : H1 p = some (.tup (tieV t)) := s1 _ _ (hA _ (List.mem_of_getElem? hk))
      refine ⟨rfl, _, rfl, p, _, _, _, rfl, rfl, SqT.of hp, rfl, _, hD, ?_, s1.own nD, ?_⟩
      · have := wk.len
        rw [List.length_map] at this
        rw [List.length_map, List.length_take, List.length_map]
        exact small1000 (by omega)
      · rw [upd_same, List.take_succ, List.getElem?_map, hk, List.map_append]
        rfl
    · rintro H1 ⟨s1, hD⟩
      rw [refs_len, List.take_of_length_le (by rw [List.length_map]; exact Nat.le_refl _)] at hD
      refine ⟨D, _, rfl, SqL.of hD, ?_, fun m hm hle => ?_⟩
      · have := wk.ne
        rw [List.length_map]
        exact List.length_pos_iff.mpr fun e => this (by rw [e]; rfl)
      · refine ⟨_, _, rfl, rfl, ?_⟩
        show Q (.int (m + 1)) H1
        rw [max_top wk hm hle]
        exact k H1 s1
def spDoors (K : PySem.W.Frag) : Sp := fun vs H Q _ => ∃ (l : Addr) (ps : List (Addr × Tie)) (n : Nat), vs = [.ref l] ∧ H l = some (.lst (refs ps)) ∧ At tieV H ps ∧ WebOk n (ps.map (·.2)) ∧
  ∀ (dl : Addr) (ds : List Addr) (H' : Hp), Same H H' → Dr H' dl ds n (ps.map (·.2)) → H dl = none → (∀ a ∈ ds, H a = none) → Q (.ref dl) H'
/-- the empty dicts -/
theorem rd_dicts {n : Nat} {H0 H1 : Hp} {σ : St} {vs : List Nat} {i : Nat} {D : Addr} {Qd : Hp → Prop} (s1 : Same H0 H1) (hn : n ≤ 10) (nD : H1 D = none)
    (k : ∀ (ds : List Addr) (H' : Hp), Same H0 H' → Dr H' D ds n [] → (∀ a ∈ ds, H0 a = none) → Qd H') (hw : ∀ v, wipe ((wipe σ vs).set i (some v)) vs = wipe σ vs) :
    ∃ W : Nat → Nat → Hp → Prop, (∃ m, W 0 m (upd H1 D (.lst []))) ∧ ∀ j m H, W j m H →
      ((Itr 0 n).stop j H ∧ Qd H) ∨ ((Itr 0 n).go j H ∧ ∃ Nx : Hp → Prop, (∀ H', Nx H' → ∃ m', m' < m ∧ W (j + 1) m' H') ∧ ∀ x H', (Itr 0 n).yld j H x H' → gName i x (wipe σ vs) H' fun σ2 H2 => wipe σ2 vs = wipe σ vs ∧ tYes σ2 H2 fun b H3 =>
        if b = true then tDNewK σ2 H3 fun y H4 => ∃ acc, H4 D = some (.lst acc) ∧ acc.length < sizeLine ∧ Nx (upd H4 D (.lst (acc ++ [y]))) else Nx H3) := by
  have nD0 : H0 D = none := s1.free nD
  refine lc_range (lo := 0) (n := n) (fun i H' => Same H0 H' ∧ ∃ us : List Addr, H' D = some (.lst (us.map V.ref)) ∧ us.length = i ∧ us.Nodup ∧ D ∉ us ∧ ∀ a ∈ us, H0 a = none ∧ H' a = some (.dK []))
    ⟨s1.put nD, [], upd_same, rfl, List.nodup_nil, (fun z => by cases z), (fun a z => by cases z)⟩ ?_ ?_
  · rintro i H4 hi ⟨s4, us, hu4, ul, und, nuu, hus⟩
    refine ⟨hw _, fun q nq => ?_⟩
    have nuq : D ≠ q := ne_of_none hu4 nq
    refine ⟨us.map V.ref, put_ne hu4 nuq, (by rw [List.length_map, ul]; exact small1000 (by omega)), ((s4.put nq).own nD0), us ++ [q], ?_, ?_, ?_, ?_, ?_⟩
    · rw [upd_same, List.map_append]
      rfl
    · rw [List.length_append, ul]
      rfl
    · exact nd_snoc und fun z => by
        rw [(hus q z).2] at nq
        cases nq
    · intro z
      rcases List.mem_append.mp z with z | z
      · exact nuu z
      · exact nuq (List.mem_singleton.mp z)
    · intro a z
      rcases List.mem_append.mp z with z | z
      · have nau : a ≠ D := fun e => nuu (e ▸ z)
        exact ⟨(hus a z).1, by rw [upd_ne nau]; exact put_old (hus a z).2 nq⟩
      · rw [List.mem_singleton.mp z]
        exact ⟨s4.free nq, put_ne upd_same nuq.symm⟩
  · rintro H4 ⟨s4, us, hu4, ul, und, nuu, hus⟩
    exact k us H4 s4 ⟨hu4, ul, List.nodup_cons.mpr ⟨nuu, und⟩, fun h a e => (hus a (List.mem_of_getElem? e)).2⟩ fun a ha => (hus a ha).1
theorem ok_doors {f fC : Addr} {fd fdC : FuncData} (F : Fun K "doors_of" "doors_of" sDoors f fd) (mmax : mg "max" = none) (mrange : mg "range" = none) (FC : Fun K "count_houses" "count_houses" sCount fC fdC) (bC : Binds K fdC ["ties"] []) (mC : mg "count_houses" = some (.ref fC)) :
    FnOk P w K mg base CX0 2 f fd ["ties"] (spDoors K) := by
  have GC : FnOk P w K mg base CX0 1 fC fdC ["ties"] (spCount K) := ok_count FC mmax
  refine F.ok scDoors (fun vs H Q E h => ?_) (fun cdv A outer s H vs Q E hr h => ?_)
  · obtain ⟨l, ps, n, rfl, _⟩ := h
    rfl
  · obtain ⟨l, ps, n, rfl, hl, hA, wk, k⟩ := h
    refine ⟨_, (C8.pss_cut (ps_setLc (i := 1) (own := [("_", 6)]) (g := gName 6) (tt := tYes) rfl scDoors.nd rfl rfl (sw_true rfl rfl rfl (by decide +kernel)) (pi_range1 (by rfl) mrange (pa_cons (pe_call GC hr (by rfl) mC FC.kp bC .nil pass0 (pa_cons (pv 0) pa_nil)) pa_nil)) (blkOk_by (N := ["ties", "doors", "low", "mark", "high", "back", "_"]) (own := [("_", 6)]) (sc := defScope sDoors) (by decide +kernel)) (fun _ _ _ _ _ => (pg_name (i := 6) scDoors.nd rfl (.inl rfl))) (fun _ _ _ _ _ => pts_nil) (fun _ _ _ _ _ => pe_dnewK)) (C8.pss_cut (ps_for PassesOwn.never rfl (pi_list (pv 0)) (pg_tup (by rfl) (pgs_cons (pg_name (i := 2) scDoors.nd rfl (.inl rfl)) (pgs_cons (pg_name (i := 3) scDoors.nd rfl (.inl rfl)) (pgs_cons (pg_name (i := 4) scDoors.nd rfl (.inl rfl)) (pgs_cons (pg_name (i := 5) scDoors.nd rfl (.inl rfl)) pgs_nil))))) (pss_cons (ps_dput (hu_of hr) (pe_ix ix_list (pv 1) (pv 2) (fun _ _ => rfl)) (pv 3) (pv 4) rfl) (pss_one (ps_dput (hu_of hr) (pe_ix ix_list (pv 1) (pv 4) (fun _ _ => rfl)) (pv 5) (pv 2) rfl)))) (pss_one (ps_ret (pv 1))))), ?_⟩
    refine ⟨fun σ H' => Same H H' ∧ ∃ (dl : Addr) (ds : List Addr), Dr H' dl ds n [] ∧ H dl = none ∧ (∀ a ∈ ds, H a = none) ∧ σ = [some (.ref l), some (.ref dl), none, none, none, none, none], ?_, ?_⟩
    · refine ⟨_, rfl, l, ps, n, rfl, hl, hA, wk, fun H1 s1 => ⟨(n : Int), rfl, by omega, by have := wk.n10; omega, fun D nD => ?_⟩⟩
      rw [show ((n : Int)).toNat = n from Int.toNat_natCast n]
      exact rd_dicts s1 wk.n10 nD (fun ds H' s2 d hn => ⟨s2, D, ds, d, s1.free nD, hn, rfl⟩) fun _ => rfl
    rintro σ H1 ⟨s1, dl, ds, dr, ndl, nds, rfl⟩
    refine ⟨fun σ H' => Same H H' ∧ Dr H' dl ds n (ps.map (·.2)) ∧ ∃ w2 w3 w4 w5 : Option V, σ = [some (.ref l), some (.ref dl), w2, w3, w4, w5, none], ?_, ?_⟩
    · refine ⟨_, rfl, l, rfl, ⟨_, SqL.of (s1 _ _ hl)⟩, for_list (K := K) (a := l) (xs := refs ps) (fun i σ H' => Same H H' ∧ Dr H' dl ds n ((ps.map (·.2)).take i) ∧ ∃ w2 w3 w4 w5 : Option V, σ = [some (.ref l), some (.ref dl), w2, w3, w4, w5, none])
        ⟨s1, dr, none, none, none, none, rfl⟩ (fun i σ H' _ ⟨s, _⟩ => SqL.of (s _ _ hl)) ?_ ?_⟩
      · rintro i x σ H2 hx ⟨s2, d2, w2, w3, w4, w5, rfl⟩
        obtain ⟨⟨p, t⟩, hk, rfl⟩ := refs_get hx
        have hp : H2 p = some (.tup (tieV t)) := s2 _ _ (hA _ (List.mem_of_getElem? hk))
        have hkt : (ps.map (·.2))[i]? = some t := by rw [List.getElem?_map, hk]; rfl
        obtain ⟨tab, tbn⟩ := wk.lt t (List.mem_of_getElem? hkt)
        have ne : t.a ≠ t.b := by omega
        have hi1 : t.a < ds.length := by rw [d2.len]; omega
        have hi2 : t.b < ds.length := by rw [d2.len]; omega
        have g1 : ds[t.a]? = some ds[t.a] := List.getElem?_eq_getElem hi1
        have g2 : ds[t.b]? = some ds[t.b] := List.getElem?_eq_getElem hi2
        have at1 : ∀ {j : Nat} (hj : j < ds.length), atI (ds.map V.ref) (j : Int) = some (.ref ds[j]) := fun {j} hj => atI_nat (by rw [List.getElem?_map, List.getElem?_eq_getElem hj]; rfl)
        obtain ⟨h3, und⟩ := List.nodup_cons.mp d2.nd
        have n12 : ds[t.a] ≠ ds[t.b] := fun z => ne (nd_ix und g1 (by rw [z]; exact g2))
        have sz : ∀ h, (doorsK h ((ps.map (·.2)).take i)).length < sizeLine := fun h => by
          rw [doorsK_len]
          exact small1000 (by have := marksAt_take_len h wk i; omega)
        refine ⟨p, _, rfl, SqT.of hp, rfl, _, _, rfl, _, _, rfl, _, _, rfl, _, _, rfl, rfl, ?_⟩
        refine ⟨_, rfl, _, rfl, _, rfl, dl, _, _, _, rfl, rfl, SqL.of d2.hl, at1 hi1, _, rfl, _, _, rfl, DPut.k (k := Sum.inr (sgn t.m)) (d2.hd _ _ g1) (sz _), ?_⟩
        rw [put_mark _ (mark_new_a wk.uniq hkt ne)]
        have hl2 := put_ne (u := HO.dK (doorsK t.a ((ps.map (·.2)).take i) ++ [(Sum.inr (sgn t.m), V.int (t.b : Int))])) d2.hl (fun z => h3 (z ▸ List.mem_of_getElem? g1))
        have hd2 := put_ne (u := HO.dK (doorsK t.a ((ps.map (·.2)).take i) ++ [(Sum.inr (sgn t.m), V.int (t.b : Int))])) (d2.hd _ _ g2) (fun z => n12 z.symm)
        refine ⟨_, rfl, _, rfl, _, rfl, dl, _, _, _, rfl, rfl, SqL.of hl2, at1 hi2, _, rfl, _, _, rfl, DPut.k (k := Sum.inr (sgn t.o)) hd2 (sz _), ?_⟩
        rw [put_mark _ (mark_new_b wk.uniq hkt ne)]
        refine ⟨((s2.own (nds _ (List.mem_of_getElem? g1))).own (nds _ (List.mem_of_getElem? g2))), ?_, _, _, _, _, rfl⟩
        rw [List.take_succ, hkt]
        exact d2.step t ne g1 g2
      · rintro σ H2 ⟨s2, d2, w2, w3, w4, w5, rfl⟩
        rw [refs_len, List.take_of_length_le (by rw [List.length_map]; exact Nat.le_refl _)] at d2
        exact ⟨s2, d2, _, _, _, _, rfl⟩
    rintro σ H2 ⟨s2, d2, w2, w3, w4, w5, rfl⟩
    exact ⟨_, rfl, k dl ds H2 s2 d2 ndl nds⟩
end
end Wh
namespace Wh
open PySem L2
abbrev sInt : Stmt := topS 14
abbrev sHouse : Stmt := topS 17
abbrev sMark : Stmt := topS 18
abbrev sRHouse : Stmt := topS 27
abbrev sRNum : Stmt := topS 28
abbrev sBetw : Stmt := topS 25
abbrev sCountK : Stmt := topS 15
abbrev sIndex : Stmt := topS 16
abbrev sLine : Stmt := topS 24
abbrev sMay : Stmt := topS 26
theorem scInt : FnScope ["value"] ["value"] (defScope sInt) := ⟨rfl, rfl, rfl, by decide +kernel, rfl, by decide +kernel, by decide +kernel⟩
theorem scHouse : FnScope ["value", "houses"] ["value", "houses"] (defScope sHouse) := ⟨rfl, rfl, rfl, by decide +kernel, rfl, by decide +kernel, by decide +kernel⟩
theorem scMark : FnScope ["value"] ["value"] (defScope sMark) := ⟨rfl, rfl, rfl, by decide +kernel, rfl, by decide +kernel, by decide +kernel⟩
theorem scCountK : FnScope ["value"] ["value"] (defScope sCountK) := ⟨rfl, rfl, rfl, by decide +kernel, rfl, by decide +kernel, by decide +kernel⟩
theorem scIndex : FnScope ["value", "many"] ["value", "many"] (defScope sIndex) := ⟨rfl, rfl, rfl, by decide +kernel, rfl, by decide +kernel, by decide +kernel⟩
theorem scRNum : FnScope ["part", "most", "number"] ["part", "most"] (defScope sRNum) := ⟨rfl, rfl, rfl, by decide +kernel, rfl, by decide +kernel, by decide +kernel⟩
theorem scBetw : FnScope ["house", "mark", "other", "back"] ["house", "mark", "other", "back"] (defScope sBetw) := ⟨rfl, rfl, rfl, by decide +kernel, rfl, by decide +kernel, by decide +kernel⟩
theorem scRHouse : FnScope ["part"] ["part"] (defScope sRHouse) := ⟨rfl, rfl, rfl, by decide +kernel, rfl, by decide +kernel, by decide +kernel⟩
theorem scLine : FnScope ["line", "parts", "house", "other", "mark", "back"] ["line"] (defScope sLine) := ⟨rfl, rfl, rfl, by decide +kernel, rfl, by decide +kernel, by decide +kernel⟩
theorem scMay : FnScope ["part"] ["part"] (defScope sMay) := ⟨rfl, rfl, rfl, by decide +kernel, rfl, by decide +kernel, by decide +kernel⟩
section
variable {P : Program} {w : World} {K : PySem.W.Frag} {mg : Str → Option Value} {base : Heap}
/-! ### is_integer, is_house, is_mark -/
def spInt : Sp := fun vs H Q _ => ∃ z : Int, vs = [.int z] ∧ Q (.bl true) H
theorem ok_isint {f : Addr} {fd : FuncData} (F : Fun K "is_integer" "is_integer" sInt f fd) (misi : mg "isinstance" = none) (mint : mg "int" = none) (mbool : mg "bool" = none) : FnOk P w K mg base CX0 1 f fd ["value"] spInt := by
  refine F.ok scInt (fun vs H Q E h => ?_) (fun cdv A outer s H vs Q E hr h => ?_)
  · obtain ⟨z, rfl, _⟩ := h
    rfl
  · obtain ⟨z, rfl, k⟩ := h
    refine ⟨_, (pss_one (ps_ret (pe_and (pe_callB call_isi (by rfl) misi (by decide +kernel) (pa_cons (pv 0) (pa_cons (pe_bltn (by rfl) mint (by decide +kernel) (show RelV (.ty "int") _ from rfl)) pa_nil))) (pe_one (pe_not (pe_callB call_isi (by rfl) misi (by decide +kernel) (pa_cons (pv 0) (pa_cons (pe_bltn (by rfl) mbool (by decide +kernel) (show RelV (.ty "bool") _ from rfl)) pa_nil)))))))), ?_⟩
    refine ⟨_, rfl, _, _, _, _, true, rfl, .ty "int", .base (.int z), kit_ty (by decide +kernel), true, rfl, ?_⟩
    refine iteT ⟨_, rfl, _, _, _, _, false, rfl, .ty "bool", .base (.int z), kit_ty (by decide +kernel), false, rfl, k⟩
def spHouse : Sp := fun vs H Q _ => ∃ z n : Int, vs = [.int z, .int n] ∧ Q (.bl (decide (0 ≤ z ∧ z < n))) H
def spCountK : Sp := fun vs H Q _ => ∃ z : Int, vs = [.int z] ∧ Q (.bl (decide (0 ≤ z))) H
theorem ok_iscount {f fI : Addr} {fd fdI : FuncData} (F : Fun K "is_count" "is_count" sCountK f fd)
    (GI : FnOk P w K mg base CX0 1 fI fdI ["value"] spInt) (FI : Fun K "is_integer" "is_integer" sInt fI fdI) (bI : Binds K fdI ["value"] []) (mI : mg "is_integer" = some (.ref fI)) : FnOk P w K mg base CX0 2 f fd ["value"] spCountK := by
  refine F.ok scCountK (fun vs H Q E h => ?_) (fun cdv A outer s H vs Q E hr h => ?_)
  · obtain ⟨z, rfl, _⟩ := h
    rfl
  · obtain ⟨z, rfl, k⟩ := h
    refine ⟨_, (pss_one (ps_ret (pe_and (pe_call GI hr (by rfl) mI FI.kp bI .nil pass0 (pa_cons (pv 0) pa_nil)) (pe_one (pe_cmpR op_ge (pv 0) pe_int (nomark _)))))), ?_⟩
    refine ⟨_, rfl, z, rfl, true, rfl, ?_⟩
    refine iteT ⟨_, rfl, _, _, rfl, rfl, ?_⟩
    exact k
def spIndex : Sp := fun vs H Q _ => ∃ z n : Int, vs = [.int z, .int n] ∧ Q (.bl (decide (0 ≤ z ∧ z < n))) H
theorem ok_isindex {f fC : Addr} {fd fdC : FuncData} (F : Fun K "is_index" "is_index" sIndex f fd)
    (GC : FnOk P w K mg base CX0 2 fC fdC ["value"] spCountK) (FC : Fun K "is_count" "is_count" sCountK fC fdC) (bC : Binds K fdC ["value"] []) (mC : mg "is_count" = some (.ref fC)) : FnOk P w K mg base CX0 3 f fd ["value", "many"] spIndex := by
  refine F.ok scIndex (fun vs H Q E h => ?_) (fun cdv A outer s H vs Q E hr h => ?_)
  · obtain ⟨z, n, rfl, _⟩ := h
    rfl
  · obtain ⟨z, n, rfl, k⟩ := h
    refine ⟨_, (pss_one (ps_ret (pe_and (pe_call GC hr (by rfl) mC FC.kp bC .nil pass0 (pa_cons (pv 0) pa_nil)) (pe_one (pe_cmpR op_lt (pv 0) (pv 1) (nomark _)))))), ?_⟩
    refine ⟨_, rfl, z, rfl, _, rfl, ?_⟩
    refine ite2 (fun h0 => ?_) (fun h0 => ?_)
    · have h0 := of_decide_eq_true h0
      refine ⟨_, rfl, _, rfl, _, _, rfl, rfl, ?_⟩
      have e : decide (z < n) = decide (0 ≤ z ∧ z < n) := by
        by_cases q : z < n <;> simp [q, h0]
      show Q (.bl (decide (z < n))) H
      rw [e]
      exact k
    · have e : decide (0 ≤ z ∧ z < n) = false := decide_eq_false fun q => h0 (decide_eq_true q.1)
      rw [e] at k
      exact k
theorem ok_ishouse {f fI : Addr} {fd fdI : FuncData} (F : Fun K "is_house" "is_house" sHouse f fd)
    (GI : FnOk P w K mg base CX0 3 fI fdI ["value", "many"] spIndex) (FI : Fun K "is_index" "is_index" sIndex fI fdI) (bI : Binds K fdI ["value", "many"] []) (mI : mg "is_index" = some (.ref fI)) :
    FnOk P w K mg base CX0 4 f fd ["value", "houses"] spHouse := by
  refine F.ok scHouse (fun vs H Q E h => ?_) (fun cdv A outer s H vs Q E hr h => ?_)
  · obtain ⟨z, n, rfl, _⟩ := h
    rfl
  · obtain ⟨z, n, rfl, k⟩ := h
    refine ⟨_, (pss_one (ps_ret (pe_call GI hr (by rfl) mI FI.kp bI .nil pass0 (pa_cons (pv 0) (pa_cons (pv 1) pa_nil))))), ?_⟩
    exact ⟨_, rfl, _, rfl, z, n, rfl, k⟩
def spMark : Sp := fun vs H Q _ => ∃ c : Nat, vs = [.str (sgn c)] ∧ Q (.bl (decide (c ∈ letters))) H
theorem ok_ismark {f : Addr} {fd : FuncData} (F : Fun K "is_mark" "is_mark" sMark f fd) (misi : mg "isinstance" = none) (mstr : mg "str" = none) (mlen : mg "len" = none) {tM : Tok} (mM : mg "MARKS" = some (.str "abcdefghijkl" tM)) : FnOk P w K mg base CX0 1 f fd ["value"] spMark := by
  refine F.ok scMark (fun vs H Q E h => ?_) (fun cdv A outer s H vs Q E hr h => ?_)
  · obtain ⟨z, rfl, _⟩ := h
    rfl
  · obtain ⟨c, rfl, k⟩ := h
    refine ⟨_, (pss_one (ps_ret (pe_and (pe_callB call_isi (by rfl) misi (by decide +kernel) (pa_cons (pv 0) (pa_cons (pe_bltn (by rfl) mstr (by decide +kernel) (show RelV (.ty "str") _ from rfl)) pa_nil))) (pe_and (pe_cmpR op_eq (pe_callB call_len_str (by rfl) mlen PySem.boot_len (pa_cons (pv 0) pa_nil)) pe_int (nomark _)) (pe_one (pe_cmpR op_in_sign (pv 0) (pe_glob (v := .str "abcdefghijkl") rfl mM ⟨_, rfl⟩) (by rfl))))))), ?_⟩
    refine ⟨_, rfl, _, _, _, _, true, rfl, .ty "str", .base (.str _), kit_ty (by decide +kernel), true, rfl, ?_⟩
    refine iteT ⟨_, rfl, _, rfl, (by show 1 ≤ sizeLine; decide), rfl, _, rfl, ?_⟩
    refine iteT ⟨_, rfl, c, _, rfl, rfl, ?_⟩
    have e : decide (c ∈ ("abcdefghijkl" : Str).cps.toList) = decide (c ∈ letters) := by
      rw [letters_str]
      rfl
    rw [e]
    exact k
/-! ### may_be_mark: a letter, or one that is unread -/
def mayB (c : Nat) : Bool := decide (c ∈ letters) || decide (c = 63)
theorem unread_sgn : ("?" : Str) = sgn 63 := by decide +kernel
def spMay : Sp := fun vs H Q _ => ∃ c : Nat, vs = [.str (sgn c)] ∧ Q (.bl (mayB c)) H
theorem ok_may {f fM : Addr} {fd fdM : FuncData} (F : Fun K "may_be_mark" "may_be_mark" sMay f fd) {tU : Tok} (mU : mg "UNREAD" = some (.str "?" tU))
    (GM : FnOk P w K mg base CX0 1 fM fdM ["value"] spMark) (FM : Fun K "is_mark" "is_mark" sMark fM fdM) (bM : Binds K fdM ["value"] []) (mM : mg "is_mark" = some (.ref fM)) : FnOk P w K mg base CX0 2 f fd ["part"] spMay := by
  refine F.ok scMay (fun vs H Q E h => ?_) (fun cdv A outer s H vs Q E hr h => ?_)
  · obtain ⟨z, rfl, _⟩ := h
    rfl
  · obtain ⟨c, rfl, k⟩ := h
    refine ⟨_, (pss_one (ps_ret (pe_or (pe_call GM (hr.mono (by decide)) (by rfl) mM FM.kp bM .nil pass0 (pa_cons (pv 0) pa_nil)) (pe_one (pe_cmpR op_eq (pv 0) (pe_glob (v := .str "?") rfl mU ⟨_, rfl⟩) (nomark _)))))), ?_⟩
    refine ⟨_, rfl, c, rfl, _, rfl, ?_⟩
    by_cases h1 : c ∈ letters
    · have e : mayB c = true := by unfold mayB; rw [decide_eq_true h1]; rfl
      rw [e] at k
      rw [decide_eq_true h1]
      exact iteT k
    · rw [decide_eq_false h1]
      refine iteF ⟨_, rfl, rfl, ?_⟩
      have e : decide (V.str (sgn c) = V.str ("?" : Str)) = mayB c := by
        unfold mayB
        rw [decide_eq_false h1, Bool.false_or]
        by_cases h2 : c = 63
        · rw [decide_eq_true h2, h2]
          exact decide_eq_true (by rw [unread_sgn])
        · rw [decide_eq_false h2]
          refine decide_eq_false fun z => h2 (sgn_inj ?_)
          rw [← unread_sgn]
          exact V.str.inj z
      rw [e]
      exact k
/-! ### read_house, read_line -/
def spRHouse : Sp := fun vs H Q _ => ∃ a : Nat, a < 10 ∧ vs = [.str (sgn (48 + a))] ∧ Q (.int (a : Int)) H
def spRNum : Sp := fun vs H Q _ => ∃ a : Nat, a < 10 ∧ vs = [.str (sgn (48 + a)), .int 9] ∧ Q (.int (a : Int)) H
theorem ok_rnum {f : Addr} {fd : FuncData} (F : Fun K "read_number" "read_number" sRNum f fd) (mrange : mg "range" = none) (mstr : mg "str" = none) : FnOk P w K mg base CX0 1 f fd ["part", "most"] spRNum := by
  refine F.ok scRNum (fun vs H Q E h => ?_) (fun cdv A outer s H vs Q E hr h => ?_)
  · obtain ⟨a, ha, rfl, _⟩ := h
    rfl
  · obtain ⟨a, ha, rfl, k⟩ := h
    refine ⟨_, (pss_cons (ps_for PassesOwn.never rfl (pi_range1 (by rfl) mrange (pa_cons (pe_op op_add (pv 1) pe_int) pa_nil)) (pg_name (i := 2) scRNum.nd rfl (.inl rfl)) (pss_one (ps_if (pt_cmpR op_eq (pv 0) (pe_callTy call_str_int (by rfl) mstr (by decide +kernel) (pa_cons (pv 2) pa_nil)) (nomark _)) (pss_one (ps_ret (pv 2))) pss_nil))) (pss_one (ps_ret pe_non))), ?_⟩
    refine ⟨_, rfl, _, _, rfl, rfl, (10 : Int), rfl, by decide, by decide, for_range (lo := 0) (n := 10) (fun i σ H' => H' = H ∧ i ≤ a ∧ ∃ o : Option V, σ = [some (.str (sgn (48 + a))), some (.int 9), o]) ⟨rfl, Nat.zero_le _, none, rfl⟩ ?_ ?_⟩
    · rintro i σ H' hi ⟨rfl, hia, o, rfl⟩
      have e0 : (0 : Int) + (i : Int) = ((i : Nat) : Int) := Int.zero_add _
      rw [e0]
      refine ⟨_, rfl, _, rfl, _, rfl, num_log (by omega), rfl, _, rfl, ?_⟩
      rw [num_str i hi]
      refine ite2 (fun q => ?_) (fun q => ?_)
      · have q := of_decide_eq_true q
        have e : sgn (48 + a) = sgn (48 + i) := V.str.inj q
        have e2 := sgn_inj e
        refine ⟨_, rfl, ?_⟩
        have e3 : i = a := by omega
        rw [e3]
        exact k
      · have ne : a ≠ i := fun e => q (decide_eq_true (by rw [e]))
        exact ⟨rfl, by omega, _, rfl⟩
    · rintro σ H' ⟨rfl, hia, o, rfl⟩
      omega
theorem ok_rhouse {f fN : Addr} {fd fdN : FuncData} (F : Fun K "read_house" "read_house" sRHouse f fd) {tH : Tok} (mH : mg "MOST_HOUSES" = some (.int 10 tH))
    (GN : FnOk P w K mg base CX0 1 fN fdN ["part", "most"] spRNum) (FN : Fun K "read_number" "read_number" sRNum fN fdN) (bN : Binds K fdN ["part", "most"] []) (mN : mg "read_number" = some (.ref fN)) : FnOk P w K mg base CX0 2 f fd ["part"] spRHouse := by
  refine F.ok scRHouse (fun vs H Q E h => ?_) (fun cdv A outer s H vs Q E hr h => ?_)
  · obtain ⟨a, ha, rfl, _⟩ := h
    rfl
  · obtain ⟨a, ha, rfl, k⟩ := h
    refine ⟨_, (pss_one (ps_ret (pe_call GN hr (by rfl) mN FN.kp bN .nil pass0 (pa_cons (pv 0) (pa_cons (pe_op op_sub (pe_glob (v := .int 10) rfl mH ⟨_, rfl⟩) pe_int) pa_nil))))), ?_⟩
    exact ⟨_, rfl, _, _, rfl, rfl, a, ha, rfl, k⟩
/-- the tie of two houses in any order -/
def spBetw : Sp := fun vs H Q _ => ∃ t : Tie, vs = [.int (t.a : Int), sV t.m, .int (t.b : Int), sV t.o] ∧
  ∀ (p : Addr) (H' : Hp), Same H H' → H p = none → H' p = some (.tup (tieV (nrm t))) → Q (.ref p) H'
theorem ok_betw {f : Addr} {fd : FuncData} (F : Fun K "tie_between" "tie_between" sBetw f fd) : FnOk P w K mg base CX0 1 f fd ["house", "mark", "other", "back"] spBetw := by
  refine F.ok scBetw (fun vs H Q E h => ?_) (fun cdv A outer s H vs Q E hr h => ?_)
  · obtain ⟨t, rfl, _⟩ := h
    rfl
  · obtain ⟨t, rfl, k⟩ := h
    refine ⟨_, (pss_cons (ps_if (pt_cmpR op_lt (pv 0) (pv 2) (nomark _)) (pss_one (ps_ret (pe_tup (pa_cons (pv 0) (pa_cons (pv 1) (pa_cons (pv 2) (pa_cons (pv 3) pa_nil))))))) pss_nil) (pss_one (ps_ret (pe_tup (pa_cons (pv 2) (pa_cons (pv 3) (pa_cons (pv 0) (pa_cons (pv 1) pa_nil)))))))), ?_⟩
    refine ⟨_, rfl, _, rfl, _, _, rfl, rfl, _, rfl, ?_⟩
    by_cases c : t.a < t.b
    · rw [decide_eq_true (show (t.a : Int) < (t.b : Int) by omega)]
      rw [nrm_id c] at k
      exact iteT ⟨_, rfl, _, rfl, _, rfl, _, rfl, (by show 4 ≤ sizeLine; decide), fun q nq => k q _ (same_upd nq) nq upd_same⟩
    · rw [decide_eq_false (show ¬ (t.a : Int) < (t.b : Int) by omega)]
      have e : nrm t = ⟨t.b, t.o, t.a, t.m⟩ := if_neg c
      rw [e] at k
      exact iteF ⟨_, rfl, _, rfl, _, rfl, _, rfl, (by show 4 ≤ sizeLine; decide), fun q nq => k q _ (same_upd nq) nq upd_same⟩
def spLine (K : PySem.W.Frag) : Sp := fun vs H Q _ => ∃ t : Tie, vs = [.str (lineS t)] ∧ RawOk t ∧
  ∀ (p : Addr) (H' : Hp), Same H H' → H p = none → H' p = some (.tup (tieV (nrm t))) → Q (.ref p) H'
theorem ok_line {f fH fY fB : Addr} {fd fdH fdY fdB : FuncData} (F : Fun K "read_line" "read_line" sLine f fd) (mlen : mg "len" = none)
    (GH : FnOk P w K mg base CX0 2 fH fdH ["part"] spRHouse) (FH : Fun K "read_house" "read_house" sRHouse fH fdH) (bH : Binds K fdH ["part"] []) (mH : mg "read_house" = some (.ref fH))
    (GY : FnOk P w K mg base CX0 2 fY fdY ["part"] spMay) (FY : Fun K "may_be_mark" "may_be_mark" sMay fY fdY) (bY : Binds K fdY ["part"] []) (mY : mg "may_be_mark" = some (.ref fY))
    (GB : FnOk P w K mg base CX0 1 fB fdB ["house", "mark", "other", "back"] spBetw) (FB : Fun K "tie_between" "tie_between" sBetw fB fdB) (bB : Binds K fdB ["house", "mark", "other", "back"] []) (mB : mg "tie_between" = some (.ref fB)) :
    FnOk P w K mg base CX0 3 f fd ["line"] (spLine K) := by
  refine F.ok scLine (fun vs H Q E h => ?_) (fun cdv A outer s H vs Q E hr h => ?_)
  · obtain ⟨t, rfl, _⟩ := h
    rfl
  · obtain ⟨t, rfl, ⟨tab, ta, tb, tm, to⟩, k⟩ := h
    have hr1 : Room 1 _ := hr.mono (by decide)
    have hr2 : Room 2 _ := hr
    have may : ∀ c ∈ letters, mayB c = true := fun c hc => by unfold mayB; rw [decide_eq_true hc]; rfl
    refine ⟨_, (C8.pss_cut (ps_set (i := 1) scLine.nd rfl (.inl rfl) (pe_split (pv 0) pe_str)) (pss_cons (ps_if (pt_cmpR op_ne (pe_callB call_len_seq (by rfl) mlen PySem.boot_len (pa_cons (pv 1) pa_nil)) pe_int (nomark _)) (pss_one (ps_ret pe_non)) pss_nil) (C8.pss_cut (ps_par (i := 2) (j := 3) (by rfl) scLine.nd rfl rfl (by decide) rfl rfl (pa_cons (pe_call GH hr2 (by rfl) mH FH.kp bH .nil pass0 (pa_cons (pe_ix ix_list (pv 1) pe_int (fun _ _ => rfl)) pa_nil)) (pa_cons (pe_call GH hr2 (by rfl) mH FH.kp bH .nil pass0 (pa_cons (pe_ix ix_list (pv 1) pe_int (fun _ _ => rfl)) pa_nil)) pa_nil)) (by rfl)) (C8.pss_cut (ps_par (i := 4) (j := 5) (by rfl) scLine.nd rfl rfl (by decide) rfl rfl (pa_cons (pe_ix ix_list (pv 1) pe_int (fun _ _ => rfl)) (pa_cons (pe_ix ix_list (pv 1) pe_int (fun _ _ => rfl)) pa_nil)) (by rfl)) (pss_cons (ps_if (PW.pt (pw_or (pt_cmpR op_isN (pv 2) pe_non (nomark _)) (pw_or (pt_cmpR op_isN (pv 3) pe_non (nomark _)) (pw_or1 (pt_cmpR op_eq (pv 2) (pv 3) (nomark _)))))) (pss_one (ps_ret pe_non)) pss_nil) (pss_cons (ps_if (PW.pt (pw_or (pt_not (pt_val (pe_call GY hr2 (by rfl) mY FY.kp bY .nil pass0 (pa_cons (pv 4) pa_nil)))) (pw_or1 (pt_not (pt_val (pe_call GY hr2 (by rfl) mY FY.kp bY .nil pass0 (pa_cons (pv 5) pa_nil))))))) (pss_one (ps_ret pe_non)) pss_nil) (pss_one (ps_ret (pe_call GB hr1 (by rfl) mB FB.kp bB .nil pass0 (pa_cons (pv 2) (pa_cons (pv 4) (pa_cons (pv 3) (pa_cons (pv 5) pa_nil))))))))))))), ?_⟩
    refine ⟨fun σ H' => ∃ p : Addr, H p = none ∧ H' = upd H p (.lst ((partsS t).map V.str)) ∧ σ = [some (.str (lineS t)), some (.ref p), none, none, none, none], ?_, ?_⟩
    · refine ⟨_, rfl, ⟨_, rfl⟩, _, _, rfl, rfl, (by decide +kernel), (by rw [lineS_len]; show 9 ≤ sizeLine; decide), fun p np => ⟨p, np, ?_, rfl⟩⟩
      rw [line_split tm to]
    rintro σ H1 ⟨p, np, rfl, rfl⟩
    have hp : (upd H p (.lst ((partsS t).map V.str))) p = some (.lst ((partsS t).map V.str)) := upd_same
    generalize hH1 : upd H p (.lst ((partsS t).map V.str)) = H1 at hp
    have s1 : Same H H1 := hH1 ▸ same_upd np
    refine ⟨_, rfl, p, _, rfl, .inl (SqL.of hp), rfl, _, rfl, ?_⟩
    refine iteF ?_
    refine ⟨fun σ H' => H1 = H' ∧ σ = [some (.str (lineS t)), some (.ref p), some (.int (t.a : Int)), some (.int (t.b : Int)), none, none], ?_, ?_⟩
    · exact ⟨_, rfl, p, _, _, _, rfl, rfl, SqL.of hp, (rfl : atI ((partsS t).map V.str) 0 = some (.str (sgn (48 + t.a)))), t.a, by omega, rfl, _, rfl, p, _, _, _, rfl, rfl, SqL.of hp, (rfl : atI ((partsS t).map V.str) 2 = some (.str (sgn (48 + t.b)))), t.b, tb, rfl, _, _, rfl, rfl, rfl⟩
    rintro σ H' ⟨rfl, rfl⟩
    refine ⟨fun σ H' => H1 = H' ∧ σ = [some (.str (lineS t)), some (.ref p), some (.int (t.a : Int)), some (.int (t.b : Int)), some (sV t.m), some (sV t.o)], ?_, ?_⟩
    · exact ⟨_, rfl, p, _, _, _, rfl, rfl, SqL.of hp, (rfl : atI ((partsS t).map V.str) 1 = some (sV t.m)), _, rfl, p, _, _, _, rfl, rfl, SqL.of hp, (rfl : atI ((partsS t).map V.str) 3 = some (sV t.o)), _, _, rfl, rfl, rfl⟩
    rintro σ H' ⟨rfl, rfl⟩
    refine ⟨_, rfl, rfl, _, rfl, ?_⟩
    refine iteF ⟨_, rfl, rfl, _, rfl, ?_⟩
    refine iteF ⟨_, rfl, _, rfl, rfl, _, rfl, ?_⟩
    have nab : ¬ (V.int (t.a : Int) = V.int (t.b : Int)) := fun e => by
      have := V.int.inj e
      omega
    rw [decide_eq_false nab]
    refine iteF ?_
    refine ⟨_, rfl, t.m, rfl, _, rfl, ?_⟩
    rw [may _ tm]
    refine iteF ⟨_, rfl, t.o, rfl, _, rfl, ?_⟩
    rw [may _ to]
    refine iteF ?_
    exact ⟨_, rfl, _, rfl, _, rfl, _, rfl, t, rfl, fun p H' s' np hp => k p H' (Same.trans s1 s') (s1.free np) hp⟩
end
end Wh

namespace Wh
open PySem L2
abbrev sApart : Stmt := topS 29
abbrev sHang : Stmt := topS 30
theorem scApart : FnScope ["ties", "pairs", "ends", "low", "mark", "high", "back", "house", "letter"] ["ties"] (defScope sApart) := ⟨rfl, rfl, rfl, by decide +kernel, rfl, by decide +kernel, by decide +kernel⟩
theorem scHang : FnScope ["ties", "reached", "before", "tie"] ["ties"] (defScope sHang) := ⟨rfl, rfl, rfl, by decide +kernel, rfl, by decide +kernel, by decide +kernel⟩
section
variable {P : Program} {w : World} {K : PySem.W.Frag} {mg : Str → Option Value} {base : Heap}
def spApart (K : PySem.W.Frag) : Sp := fun vs H Q _ => ∃ (l : Addr) (ps : List (Addr × Tie)) (n : Nat), vs = [.ref l] ∧ H l = some (.lst (refs ps)) ∧ At tieV H ps ∧ WebOk n (ps.map (·.2)) ∧ ∀ H', Same H H' → Q (.bl true) H'
theorem upd_dT {H : Hp} {d : Addr} {kvs : List (List Key × V)} {o : HO} (hd : H d = some (.dT kvs)) {b : Addr} {xs : List V} (e : H b = some (.tup xs)) : upd H d o b = some (.tup xs) := put_ne e (ne_of e hd (by intro z; cases z))
theorem ok_apart {f : Addr} {fd : FuncData} (F : Fun K "are_apart" "are_apart" sApart f fd) {tU : Tok} (mU : mg "UNREAD" = some (.str "?" tU)) : FnOk P w K mg base CX0 1 f fd ["ties"] (spApart K) := by
  refine F.ok scApart (fun vs H Q E h => ?_) (fun cdv A outer s H vs Q E hr h => ?_)
  · obtain ⟨l, ps, n, rfl, _⟩ := h
    rfl
  · obtain ⟨l, ps, n, rfl, hl, hA, wk, k⟩ := h
    refine ⟨_, (C8.pss_cut (ps_set (i := 1) scApart.nd rfl (.inl rfl) pe_dnewT) (C8.pss_cut (ps_set (i := 2) scApart.nd rfl (.inl rfl) pe_dnewT) (pss_cons (ps_for PassesOwn.never rfl (pi_list (pv 0)) (pg_tup (by rfl) (pgs_cons (pg_name (i := 3) scApart.nd rfl (.inl rfl)) (pgs_cons (pg_name (i := 4) scApart.nd rfl (.inl rfl)) (pgs_cons (pg_name (i := 5) scApart.nd rfl (.inl rfl)) (pgs_cons (pg_name (i := 6) scApart.nd rfl (.inl rfl)) pgs_nil))))) (C8.pss_cut (ps_if (PW.pt (pw_or (pt_cmp (pc_din (hu_of hr) (pe_tup (pa_cons (pv 3) (pa_cons (pv 5) pa_nil))) (pv 1))) (pw_or (pt_cmp (pc_din (hu_of hr) (pe_tup (pa_cons (pv 3) (pa_cons (pv 4) pa_nil))) (pv 2))) (pw_or1 (pt_cmp (pc_din (hu_of hr) (pe_tup (pa_cons (pv 5) (pa_cons (pv 6) pa_nil))) (pv 2))))))) (pss_one (ps_ret pe_bl)) pss_nil) (C8.pss_cut (ps_dput (hu_of hr) (pv 1) (pe_tup (pa_cons (pv 3) (pa_cons (pv 5) pa_nil))) pe_bl rfl) (pss_one (ps_for PassesOwn.never rfl (pi_tup (pe_tup (pa_cons (pe_tup (pa_cons (pv 3) (pa_cons (pv 4) pa_nil))) (pa_cons (pe_tup (pa_cons (pv 5) (pa_cons (pv 6) pa_nil))) pa_nil)))) (pg_tup (by rfl) (pgs_cons (pg_name (i := 7) scApart.nd rfl (.inl rfl)) (pgs_cons (pg_name (i := 8) scApart.nd rfl (.inl rfl)) pgs_nil))) (pss_one (ps_if (pt_cmpR op_ne (pv 8) (pe_glob (v := .str "?") rfl mU ⟨_, rfl⟩) (nomark _)) (pss_one (ps_dput (hu_of hr) (pv 2) (pe_tup (pa_cons (pv 7) (pa_cons (pv 8) pa_nil))) pe_bl rfl)) pss_nil))))))) (pss_one (ps_ret pe_bl))))), ?_⟩
    refine ⟨fun σ H' => Same H H' ∧ ∃ d1 : Addr, H d1 = none ∧ H' d1 = some (.dT []) ∧ σ = [some (.ref l), some (.ref d1), none, none, none, none, none, none, none], ?_, ?_⟩
    · exact fun d1 n1 => ⟨same_upd n1, d1, n1, upd_same, rfl⟩
    rintro σ H1 ⟨s1, d1, n1, e1, rfl⟩
    refine ⟨fun σ H' => Same H H' ∧ ∃ d2 : Addr, H d2 = none ∧ d1 ≠ d2 ∧ H' d1 = some (.dT []) ∧ H' d2 = some (.dT []) ∧ σ = [some (.ref l), some (.ref d1), some (.ref d2), none, none, none, none, none, none], ?_, ?_⟩
    · exact fun d2 n2 => ⟨s1.put n2, d2, s1.free n2, ne_of_none e1 n2, put_old e1 n2, upd_same, rfl⟩
    rintro σ H2 ⟨s2, d2, n2, n12, e1, e2, rfl⟩
    refine ⟨_, rfl, l, rfl, ⟨_, SqL.of (s2 _ _ hl)⟩, for_list (K := K) (a := l) (xs := refs ps) (fun i σ H' => Same H H' ∧ H' d1 = some (.dT (prK ((ps.map (·.2)).take i))) ∧ H' d2 = some (.dT (endK ((ps.map (·.2)).take i))) ∧
        ∃ w3 w4 w5 w6 w7 w8 : Option V, σ = [some (.ref l), some (.ref d1), some (.ref d2), w3, w4, w5, w6, w7, w8])
      ⟨s2, e1, e2, none, none, none, none, none, none, rfl⟩ (fun i σ H' _ ⟨s, _⟩ => SqL.of (s _ _ hl)) ?_ ?_⟩
    · rintro i x σ H3 hx ⟨s3, e1, e2, w3, w4, w5, w6, w7, w8, rfl⟩
      obtain ⟨⟨p, t⟩, hk, rfl⟩ := refs_get hx
      have hp : H3 p = some (.tup (tieV t)) := s3 _ _ (hA _ (List.mem_of_getElem? hk))
      have hkt : (ps.map (·.2))[i]? = some t := by rw [List.getElem?_map, hk]; rfl
      obtain ⟨tab, tbn⟩ := wk.lt t (List.mem_of_getElem? hkt)
      have ne : t.a ≠ t.b := by omega
      have lenT : ((ps.map (·.2)).take i).length ≤ 100 := by
        have := wk.len
        rw [List.length_take]
        omega
      have v1 := prK_no (pr_new wk hkt)
      have v2 := endK_no (mark_new_a wk.uniq hkt ne)
      have v3 := endK_no (mark_new_b wk.uniq hkt ne)
      have v4 := endK_no2 wk hkt
      refine ⟨p, _, rfl, SqT.of hp, rfl, _, _, rfl, _, _, rfl, _, _, rfl, _, _, rfl, rfl, ?_⟩
      have sz1 : (prK ((ps.map (·.2)).take i)).length < sizeLine := by
        rw [prK_len]
        exact small1000 (by omega)
      have sz2 : (endK ((ps.map (·.2)).take i)).length < sizeLine := by
        rw [endK_len]
        exact small1000 (by omega)
      have sz3 : (endK ((ps.map (·.2)).take i) ++ [(kE t.a t.m, V.bl true)]).length < sizeLine := by
        rw [List.length_append, endK_len]
        exact small1000 (by show 2 * ((ps.map (·.2)).take i).length + 1 ≤ 1000; omega)
      refine ⟨fun σ H' => Same H H' ∧ H' d1 = some (.dT (prK ((ps.map (·.2)).take i))) ∧ H' d2 = some (.dT (endK ((ps.map (·.2)).take i))) ∧
        σ = [some (.ref l), some (.ref d1), some (.ref d2), some (.int (t.a : Int)), some (sV t.m), some (.int (t.b : Int)), some (sV t.o), w7, w8], ?_, ?_⟩
      · refine ⟨_, rfl, _, rfl, (by show 2 ≤ sizeLine; decide), fun q1 m1 => ?_⟩
        have u1 := put_old (u := HO.tup [.int (t.a : Int), .int (t.b : Int)]) e1 m1
        have u2 := put_old (u := HO.tup [.int (t.a : Int), .int (t.b : Int)]) e2 m1
        refine ⟨_, rfl, d1, _, rfl, DGet.t (k := kP t.pr) u1 upd_same, _, rfl, ?_⟩
        rw [v1]
        refine iteF ⟨_, rfl, _, rfl, (by show 2 ≤ sizeLine; decide), fun q2 m2 => ?_⟩
        have u3 := put_old (u := HO.tup [.int (t.a : Int), sV t.m]) u1 m2
        have u4 := put_old (u := HO.tup [.int (t.a : Int), sV t.m]) u2 m2
        refine ⟨_, rfl, d2, _, rfl, DGet.t (k := kE t.a t.m) u4 upd_same, _, rfl, ?_⟩
        rw [v2]
        refine iteF ⟨_, rfl, _, rfl, (by show 2 ≤ sizeLine; decide), fun q3 m3 => ?_⟩
        have u5 := put_old (u := HO.tup [.int (t.b : Int), sV t.o]) u3 m3
        have u6 := put_old (u := HO.tup [.int (t.b : Int), sV t.o]) u4 m3
        refine ⟨_, rfl, d2, _, rfl, DGet.t (k := kE t.b t.o) u6 upd_same, _, rfl, ?_⟩
        rw [v3]
        exact iteF ⟨((s3.put m1).put m2).put m3, u5, u6, rfl⟩
      rintro σ H6 ⟨s6, u5, u6, rfl⟩
      refine ⟨fun σ H' => Same H H' ∧ H' d1 = some (.dT (prK ((ps.map (·.2)).take i) ++ [(kP t.pr, .bl true)])) ∧ H' d2 = some (.dT (endK ((ps.map (·.2)).take i))) ∧
        σ = [some (.ref l), some (.ref d1), some (.ref d2), some (.int (t.a : Int)), some (sV t.m), some (.int (t.b : Int)), some (sV t.o), w7, w8], ?_, ?_⟩
      · refine ⟨_, rfl, _, rfl, _, rfl, (by show 2 ≤ sizeLine; decide), fun q4 m4 => ⟨d1, _, rfl, DPut.t (k := kP t.pr) (put_old u5 m4) upd_same sz1, ?_⟩⟩
        rw [putK_new _ v1]
        exact ⟨(s6.put m4).own n1, upd_same, put_ne (put_old u6 m4) n12.symm, rfl⟩
      rintro σ H8 ⟨s8, f1, f2, rfl⟩
      -- the two ends, one behind the other
      have nU : ∀ c ∈ letters, ¬ (V.str (sgn c) = V.str ("?" : Str)) := fun c hc e => by
        rw [unread_sgn] at e
        have := sgn_inj (V.str.inj e)
        have := letters_big _ hc
        omega
      obtain ⟨lm, lo⟩ := wk.let_ t (List.mem_of_getElem? hkt)
      refine ⟨_, rfl, _, rfl, (by show 2 ≤ sizeLine; decide), fun q5 m5 => ⟨_, rfl, _, rfl, (by show 2 ≤ sizeLine; decide), fun q6 m6 => ⟨(by show 2 ≤ sizeLine; decide), fun q7 m7 => ?_⟩⟩⟩
      have hq5 := put_old (put_old upd_same m6 : (upd (upd H8 q5 (.tup [.int (t.a : Int), sV t.m])) q6 (.tup [.int (t.b : Int), sV t.o])) q5 = some (.tup [.int (t.a : Int), sV t.m])) m7 (u := HO.tup [.ref q5, .ref q6])
      have hq6 := put_old (upd_same : (upd (upd H8 q5 (.tup [.int (t.a : Int), sV t.m])) q6 (.tup [.int (t.b : Int), sV t.o])) q6 = some (.tup [.int (t.b : Int), sV t.o])) m7 (u := HO.tup [.ref q5, .ref q6])
      have s9 := L2.Same.put (o := HO.tup [V.ref q5, V.ref q6]) ((s8.put m5).put m6) m7
      have g1 := put_old (put_old (put_old f1 m5) m6) m7 (u := HO.tup [.ref q5, .ref q6])
      have g2 := put_old (put_old (put_old f2 m5) m6) m7 (u := HO.tup [.ref q5, .ref q6])
      have hq7 : (upd (upd (upd H8 q5 (.tup [.int (t.a : Int), sV t.m])) q6 (.tup [.int (t.b : Int), sV t.o])) q7 (.tup [.ref q5, .ref q6])) q7 = some (.tup [.ref q5, .ref q6]) := upd_same
      revert hq5 hq6 s9 g1 g2 hq7
      generalize (upd (upd (upd H8 q5 (.tup [.int (t.a : Int), sV t.m])) q6 (.tup [.int (t.b : Int), sV t.o])) q7 (.tup [.ref q5, .ref q6])) = H9
      intro hq5 hq6 s9 g1 g2 hq7
      refine ⟨q7, rfl, ⟨_, SqT.of hq7⟩, for_tup (K := K) (a := q7) (xs := [.ref q5, .ref q6]) (fun j σ H' => (Same H H' ∧ H' d1 = some (.dT (prK ((ps.map (·.2)).take i) ++ [(kP t.pr, .bl true)])) ∧ H' q5 = some (.tup [.int (t.a : Int), sV t.m]) ∧ H' q6 = some (.tup [.int (t.b : Int), sV t.o]) ∧ H' q7 = some (.tup [.ref q5, .ref q6])) ∧
          H' d2 = some (.dT (endK ((ps.map (·.2)).take i) ++ ([(kE t.a t.m, V.bl true), (kE t.b t.o, .bl true)]).take j)) ∧
          ∃ w7 w8 : Option V, σ = [some (.ref l), some (.ref d1), some (.ref d2), some (.int (t.a : Int)), some (sV t.m), some (.int (t.b : Int)), some (sV t.o), w7, w8])
        ⟨⟨s9, g1, hq5, hq6, hq7⟩, (by rw [List.take_zero, List.append_nil]; exact g2), _, _, rfl⟩ (fun j σ H' _ ⟨⟨_, _, _, _, e⟩, _⟩ => SqT.of e) ?_ ?_⟩
      · rintro j x σ H10 hj ⟨⟨s10, g1, hq5, hq6, hq7⟩, g2, w7, w8, rfl⟩
        match j, hj, g2 with
        | 0, hj, g2 =>
          obtain rfl := Option.some.inj hj
          rw [List.take_zero, List.append_nil] at g2
          refine ⟨q5, _, rfl, SqT.of hq5, rfl, _, _, rfl, _, _, rfl, rfl, ?_⟩
          refine ⟨_, rfl, rfl, true, congrArg V.bl (show (!decide (V.str (sgn t.m) = V.str ("?" : Str))) = true by rw [decide_eq_false (nU _ lm)]; rfl), ?_⟩
          refine iteT ⟨_, rfl, _, rfl, _, rfl, (by show 2 ≤ sizeLine; decide), fun q8 m8 => ⟨d2, _, rfl, DPut.t (k := kE t.a t.m) (put_old g2 m8) upd_same sz2, ?_⟩⟩
          rw [putK_new _ v2]
          refine ⟨⟨(s10.put m8).own n2, put_ne (put_old g1 m8) n12, upd_dT (put_old g2 m8) (put_old hq5 m8), upd_dT (put_old g2 m8) (put_old hq6 m8), upd_dT (put_old g2 m8) (put_old hq7 m8)⟩, upd_same, _, _, rfl⟩
        | 1, hj, g2 =>
          obtain rfl := Option.some.inj hj
          refine ⟨q6, _, rfl, SqT.of hq6, rfl, _, _, rfl, _, _, rfl, rfl, ?_⟩
          refine ⟨_, rfl, rfl, true, congrArg V.bl (show (!decide (V.str (sgn t.o) = V.str ("?" : Str))) = true by rw [decide_eq_false (nU _ lo)]; rfl), ?_⟩
          refine iteT ⟨_, rfl, _, rfl, _, rfl, (by show 2 ≤ sizeLine; decide), fun q8 m8 => ⟨d2, _, rfl, DPut.t (k := kE t.b t.o) (put_old g2 m8) upd_same sz3, ?_⟩⟩
          rw [show ([(kE t.a t.m, V.bl true), (kE t.b t.o, .bl true)]).take 1 = [(kE t.a t.m, V.bl true)] from rfl, putK_new _ v4]
          refine ⟨⟨(s10.put m8).own n2, put_ne (put_old g1 m8) n12, upd_dT (put_old g2 m8) (put_old hq5 m8), upd_dT (put_old g2 m8) (put_old hq6 m8), upd_dT (put_old g2 m8) (put_old hq7 m8)⟩, ?_, _, _, rfl⟩
          rw [List.append_assoc]
          exact upd_same
        | j + 2, hj, _ => cases hj
      · rintro σ H10 ⟨⟨s10, g1, _, _, _⟩, g2, w7, w8, rfl⟩
        refine ⟨s10, ?_, ?_, _, _, _, _, _, _, rfl⟩
        · rw [List.take_succ, hkt]
          exact g1.trans (by rw [show (some t).toList = [t] from rfl, prK_snoc])
        · rw [List.take_succ, hkt]
          exact g2.trans (by rw [show (some t).toList = [t] from rfl, endK_snoc, List.append_assoc]; rfl)
    · rintro σ H3 ⟨s3, e1, e2, w3, w4, w5, w6, w7, w8, rfl⟩
      exact k H3 s3
theorem ok_hang {f fC : Addr} {fd fdC : FuncData} (F : Fun K "hang_together" "hang_together" sHang f fd) (mlen : mg "len" = none) (mmax : mg "max" = none) (FC : Fun K "count_houses" "count_houses" sCount fC fdC) (bC : Binds K fdC ["ties"] []) (mC : mg "count_houses" = some (.ref fC)) :
    FnOk P w K mg base CX0 2 f fd ["ties"] (spApart K) := by
  have GC : FnOk P w K mg base CX0 1 fC fdC ["ties"] (spCount K) := ok_count FC mmax
  refine F.ok scHang (fun vs H Q E h => ?_) (fun cdv A outer s H vs Q E hr h => ?_)
  · obtain ⟨l, ps, n, rfl, _⟩ := h
    rfl
  · obtain ⟨l, ps, n, rfl, hl, hA, wk, k⟩ := h
    have n2 := wk.n2
    have n10 := wk.n10
    refine ⟨_, (C8.pss_cut (ps_set (i := 1) scHang.nd rfl (.inl rfl) (pe_disp (pps_cons pe_int pe_bl pps_nil) (by rfl) (by rfl) (fun z => by cases z) (by decide))) (pss_cons (ps_set (i := 2) scHang.nd rfl (.inl rfl) pe_int) (C8.pss_cut (ps_while PassesOwn.never (pt_cmpR op_lt (pv 2) (pe_callB call_lenD (by rfl) mlen PySem.boot_len (pa_cons (pv 1) pa_nil)) (nomark _)) (pss_cons (ps_set (i := 2) scHang.nd rfl (.inl rfl) (pe_callB call_lenD (by rfl) mlen PySem.boot_len (pa_cons (pv 1) pa_nil))) (pss_one (ps_for PassesOwn.never rfl (pi_list (pv 0)) (pg_name (i := 3) scHang.nd rfl (.inl rfl)) (pss_one (ps_if (PW.pt (pw_or (pt_cmp (pc_din (hu_of hr) (pe_ix ix_tup (pv 3) pe_int (fun _ _ => rfl)) (pv 1))) (pw_or1 (pt_cmp (pc_din (hu_of hr) (pe_ix ix_tup (pv 3) pe_int (fun _ _ => rfl)) (pv 1)))))) (pss_cons (ps_dput (hu_of hr) (pv 1) (pe_ix ix_tup (pv 3) pe_int (fun _ _ => rfl)) pe_bl rfl) (pss_one (ps_dput (hu_of hr) (pv 1) (pe_ix ix_tup (pv 3) pe_int (fun _ _ => rfl)) pe_bl rfl))) pss_nil)))))) (pss_one (ps_ret (pe_cmpR op_eq (pe_callB call_lenD (by rfl) mlen PySem.boot_len (pa_cons (pv 1) pa_nil)) (pe_call GC hr (by rfl) mC FC.kp bC .nil pass0 (pa_cons (pv 0) pa_nil)) (nomark _))))))), ?_⟩
    refine ⟨fun σ H' => Same H H' ∧ ∃ d : Addr, H d = none ∧ H' d = some (.dK (reachK [0])) ∧ σ = [some (.ref l), some (.ref d), none, none], ?_, ?_⟩
    · refine fun d nd => ⟨upd_same, [(Sum.inl 0, .bl true)], rfl, by decide, ?_⟩
      exact ⟨(same_upd nd).own nd, d, nd, upd_same, rfl⟩
    rintro σ H1 ⟨s1, d, nd, e1, rfl⟩
    refine ⟨fun σ H' => Same H H' ∧ ∃ (hs : List Nat) (w2 w3 : Option V), H' d = some (.dK (reachK hs)) ∧ hs.length = n ∧ σ = [some (.ref l), some (.ref d), w2, w3], ?_, ?_⟩
    · refine ⟨fun m σ H' => Same H H' ∧ ∃ (hs : List Nat) (before : Nat) (w3 : Option V), H' d = some (.dK (reachK hs)) ∧ Reach n hs ∧ before ≤ hs.length ∧ m = n - before ∧ (before = hs.length → ∀ t ∈ ps.map (·.2), t.a ∈ hs ↔ t.b ∈ hs) ∧
          σ = [some (.ref l), some (.ref d), some (.int (before : Int)), w3],
        ⟨n, s1, [0], 0, none, e1, ⟨by simp, fun h hh => by rw [List.mem_singleton.mp hh]; omega, by simp⟩, by simp, rfl, (fun e => by simp at e), rfl⟩, ?_⟩
      rintro m σ H2 ⟨s2, hs, before, w3, e2, rc, hb, rfl, cl, rfl⟩
      refine ⟨_, rfl, _, rfl, d, _, rfl, e2, _, _, rfl, rfl, _, rfl, ?_⟩
      have el : (reachK hs).length = hs.length := List.length_map _
      have rlen := rc.len
      refine ite2 (fun hlt => ?_) (fun hlt => ?_)
      · have hlt := of_decide_eq_true hlt
        rw [el] at hlt
        refine ⟨fun σ H' => Same H H' ∧ ∃ (hs2 : List Nat) (w3 : Option V), H' d = some (.dK (reachK hs2)) ∧ Reach n hs2 ∧ hs.length ≤ hs2.length ∧ (hs.length = hs2.length → ∀ t ∈ ps.map (·.2), t.a ∈ hs2 ↔ t.b ∈ hs2) ∧
            σ = [some (.ref l), some (.ref d), some (.int (hs.length : Int)), w3], ?_, ?_⟩
        · rintro σ' H' ⟨s3, hs2, w3, e3, rc3, hb3, cl3, rfl⟩
          exact ⟨n - hs.length, by omega, s3, hs2, hs.length, w3, e3, rc3, hb3, rfl, cl3, rfl⟩
        · -- before = len(reached); for tie in ties
          refine ⟨_, rfl, d, _, rfl, e2, ?_⟩
          rw [el]
          refine ⟨_, rfl, l, rfl, ⟨_, SqL.of (s2 _ _ hl)⟩, for_list (K := K) (a := l) (xs := refs ps) (fun i σ H' => Same H H' ∧ ∃ (hs2 : List Nat) (w3 : Option V), H' d = some (.dK (reachK hs2)) ∧ Reach n hs2 ∧ hs.length ≤ hs2.length ∧
              (hs.length = hs2.length → ∀ t ∈ (ps.map (·.2)).take i, t.a ∈ hs2 ↔ t.b ∈ hs2) ∧ σ = [some (.ref l), some (.ref d), some (.int (hs.length : Int)), w3])
            ⟨s2, hs, w3, e2, rc, Nat.le_refl _, (fun _ t ht => by cases ht), rfl⟩ (fun i σ H' _ ⟨s, _⟩ => SqL.of (s _ _ hl)) ?_ ?_⟩
          · rintro i x σ H3 hx ⟨s3, hs2, w3, e3, rc3, hb3, cl3, rfl⟩
            obtain ⟨⟨p, t⟩, hk, rfl⟩ := refs_get hx
            have hp : H3 p = some (.tup (tieV t)) := s3 _ _ (hA _ (List.mem_of_getElem? hk))
            have hkt : (ps.map (·.2))[i]? = some t := by rw [List.getElem?_map, hk]; rfl
            obtain ⟨tab, tbn⟩ := wk.lt t (List.mem_of_getElem? hkt)
            obtain ⟨rp, lp, cp⟩ := rc3.pass (t := t) (by omega) tbn
            have fin : ∀ H', Same H H' → H' d = some (.dK (reachK (passT hs2 t))) → Same H H' ∧ ∃ (hs2 : List Nat) (w3 : Option V), H' d = some (.dK (reachK hs2)) ∧ Reach n hs2 ∧ hs.length ≤ hs2.length ∧
                (hs.length = hs2.length → ∀ t ∈ (ps.map (·.2)).take (i + 1), t.a ∈ hs2 ↔ t.b ∈ hs2) ∧ [some (V.ref l), some (.ref d), some (.int (hs.length : Int)), some (.ref p)] = [some (.ref l), some (.ref d), some (.int (hs.length : Int)), w3] := fun H' s' e' => by
              refine ⟨s', passT hs2 t, _, e', rp, by omega, fun e u hu => ?_, rfl⟩
              obtain ⟨c1, c2⟩ := cp (by omega)
              rw [c1] at e ⊢
              rw [List.take_succ, hkt] at hu
              rcases List.mem_append.mp hu with z | z
              · exact cl3 e u z
              · have : u = t := by simpa using z
                rw [this]
                exact c2
            have atA : atI (tieV t) 0 = some (.int (t.a : Int)) := rfl
            have atB : atI (tieV t) 2 = some (.int (t.b : Int)) := rfl
            have g1 : DGet H3 d (.int (t.a : Int)) _ := DGet.k (k := Sum.inl (t.a : Int)) e3
            have g2 : DGet H3 d (.int (t.b : Int)) _ := DGet.k (k := Sum.inl (t.b : Int)) e3
            have sz : ∀ hs : List Nat, Reach n hs → (reachK hs).length < sizeLine := fun hs r => by
              have h1 : (reachK hs).length = hs.length := List.length_map _
              have h2 := r.len
              rw [h1]
              exact small1000 (by omega)
            have both : t.a ∈ hs2 ∨ t.b ∈ hs2 → passT hs2 t = addH (addH hs2 t.a) t.b := fun h => if_pos h
            have none_ : ¬ (t.a ∈ hs2 ∨ t.b ∈ hs2) → passT hs2 t = hs2 := fun h => if_neg h
            have rc4 : Reach n (addH hs2 t.a) := ⟨addH_nd _ rc3.nd, fun x hx => (addH_mem.mp hx).elim (rc3.lt x) fun e => by rw [e]; omega, addH_mem.mpr (.inl rc3.zero)⟩
            refine ⟨_, rfl, p, _, _, _, rfl, rfl, SqT.of hp, atA, _, rfl, d, _, rfl, g1, _, rfl, ?_⟩
            rw [reach_val]
            refine ite2 (fun h => ?_) (fun h => ?_)
            · have h := of_decide_eq_true h
              refine iteT ?_
              refine ⟨_, rfl, _, rfl, p, _, _, _, rfl, rfl, SqT.of hp, atA, d, _, rfl, DPut.k (k := Sum.inl (t.a : Int)) e3 (sz _ rc3), ?_⟩
              rw [reach_put]
              refine ⟨_, rfl, _, rfl, p, _, _, _, rfl, rfl, SqT.of (put_ne hp (ne_of hp e3 (by intro z; cases z))), atB, d, _, rfl, DPut.k (k := Sum.inl (t.b : Int)) upd_same (sz _ rc4), ?_⟩
              rw [reach_put]
              exact fin _ ((s3.own nd).own nd) (upd_same.trans (by rw [both (.inl h)]))
            · have h := fun z => h (decide_eq_true z)
              refine ⟨_, rfl, p, _, _, _, rfl, rfl, SqT.of hp, atB, _, rfl, d, _, rfl, g2, _, rfl, ?_⟩
              rw [reach_val]
              refine ite2 (fun h2 => ?_) (fun h2 => ?_)
              · have h2 := of_decide_eq_true h2
                refine ⟨_, rfl, _, rfl, p, _, _, _, rfl, rfl, SqT.of hp, atA, d, _, rfl, DPut.k (k := Sum.inl (t.a : Int)) e3 (sz _ rc3), ?_⟩
                rw [reach_put]
                refine ⟨_, rfl, _, rfl, p, _, _, _, rfl, rfl, SqT.of (put_ne hp (ne_of hp e3 (by intro z; cases z))), atB, d, _, rfl, DPut.k (k := Sum.inl (t.b : Int)) upd_same (sz _ rc4), ?_⟩
                rw [reach_put]
                exact fin _ ((s3.own nd).own nd) (upd_same.trans (by rw [both (.inr h2)]))
              · have h2 := fun z => h2 (decide_eq_true z)
                exact fin _ s3 (by rw [none_ (fun z => z.elim h h2)]; exact e3)
          · rintro σ H3 ⟨s3, hs2, w3, e3, rc3, hb3, cl3, rfl⟩
            rw [refs_len, List.take_of_length_le (by rw [List.length_map]; exact Nat.le_refl _)] at cl3
            exact ⟨s3, hs2, w3, e3, rc3, hb3, cl3, rfl⟩
      · have hge : ¬ ((before : Int) < ((reachK hs).length : Int)) := fun z => hlt (decide_eq_true z)
        rw [el] at hge
        exact ⟨s2, hs, _, _, e2, reach_all wk rc (cl (by omega)), rfl⟩
    rintro σ H2 ⟨s2, hs, w2, w3, e2, hn, rfl⟩
    refine ⟨_, rfl, d, _, rfl, e2, _, rfl, l, ps, n, rfl, s2 _ _ hl, hA.same s2, wk, fun H3 s3 => ⟨rfl, ?_⟩⟩
    have el : (reachK hs).length = hs.length := List.length_map _
    rw [el, hn]
    rw [decide_eq_true rfl]
    exact k H3 (Same.trans s2 s3)
end
end Wh

namespace Wh
open PySem L2
abbrev sPlain : Stmt := topS 32
abbrev sTies : Stmt := topS 22
abbrev sTorn : Stmt := topS 23
theorem scPlain : FnScope ["ties", "rows", "low", "mark", "high", "back"] ["ties"] (defScope sPlain) := ⟨rfl, rfl, rfl, by decide +kernel, rfl, by decide +kernel, by decide +kernel⟩
theorem scTies : FnScope ["text"] ["text"] (defScope sTies) := ⟨rfl, rfl, rfl, by decide +kernel, rfl, by decide +kernel, by decide +kernel⟩
theorem scTorn : FnScope ["text", "ties", "line", "tie"] ["text"] (defScope sTorn) := ⟨rfl, rfl, rfl, by decide +kernel, rfl, by decide +kernel, by decide +kernel⟩
section
variable {P : Program} {w : World} {K : PySem.W.Frag} {mg : Str → Option Value} {base : Heap}
/-- the ties of a list in any order: the text of them in order -/
def spPlain (K : PySem.W.Frag) : Sp := fun vs H Q _ => ∃ (l : Addr) (ps : List (Addr × Tie)) (n : Nat), vs = [.ref l] ∧ H l = some (.lst (refs ps)) ∧ At tieV H ps ∧ WebOk n (ps.map (·.2)) ∧
  ∀ (ts : List Tie) (H' : Hp), Same H H' → ts.Perm (ps.map (·.2)) → (ts.map Tie.pr).Pairwise PrLt → Q (.str (webS ts)) H'
theorem ok_plain {f : Addr} {fd : FuncData} (F : Fun K "plain_text" "plain_text" sPlain f fd) (msorted : mg "sorted" = none) : FnOk P w K mg base CX0 1 f fd ["ties"] (spPlain K) := by
  refine F.ok scPlain (fun vs H Q E h => ?_) (fun cdv A outer s H vs Q E hr h => ?_)
  · obtain ⟨l, ps, n, rfl, _⟩ := h
    rfl
  · obtain ⟨l, ps, n, rfl, hl, hA, wk, k⟩ := h
    have len100 : ps.length ≤ 100 := by
      have := wk.len
      rw [List.length_map] at this
      exact this
    refine ⟨_, (C8.pss_cut (ps_set (i := 1) scPlain.nd rfl (.inl rfl) (pe_mid (pe_callB (cr_sortD hr.units) (by rfl) msorted (by decide +kernel) (pa_cons (pe_lc (own := [("low", 2), ("mark", 3), ("high", 4), ("back", 5)]) (tt := tYes) rfl scPlain.nd (pi_list (pv 0)) (blkOk_by (N := ["ties", "rows", "low", "mark", "high", "back"]) (own := [("low", 2), ("mark", 3), ("high", 4), ("back", 5)]) (sc := defScope sPlain) (by decide +kernel)) (fun _ _ _ _ _ => (pg_tupK K 4 rfl (by rfl) (pgs_cons (pg_name (i := 2) scPlain.nd rfl (.inl rfl)) (pgs_cons (pg_name (i := 3) scPlain.nd rfl (.inl rfl)) (pgs_cons (pg_name (i := 4) scPlain.nd rfl (.inl rfl)) (pgs_cons (pg_name (i := 5) scPlain.nd rfl (.inl rfl)) pgs_nil)))))) (fun _ _ _ _ _ => pts_nil) (fun _ _ _ _ _ => (pe_tup (pa_cons (pv 2) (pa_cons (pv 4) (pa_cons (pv 3) (pa_cons (pv 5) pa_nil))))))) pa_nil)))) (pss_one (ps_ret (pe_joinK K rfl pe_str (pe_lc (own := [("low", 2), ("high", 4), ("mark", 3), ("back", 5)]) (tt := tYes) rfl scPlain.nd (pi_list (pv 1)) (blkOk_by (N := ["ties", "rows", "low", "mark", "high", "back"]) (own := [("low", 2), ("high", 4), ("mark", 3), ("back", 5)]) (sc := defScope sPlain) (by decide +kernel)) (fun _ _ _ _ _ => (pg_tupK K 4 rfl (by rfl) (pgs_cons (pg_name (i := 2) scPlain.nd rfl (.inl rfl)) (pgs_cons (pg_name (i := 4) scPlain.nd rfl (.inl rfl)) (pgs_cons (pg_name (i := 3) scPlain.nd rfl (.inl rfl)) (pgs_cons (pg_name (i := 5) scPlain.nd rfl (.inl rfl)) pgs_nil)))))) (fun _ _ _ _ _ => pts_nil) (fun _ _ _ _ _ => (pe_fs (PJ.cons (pe_fmt (pv 2)) (PJ.cons pe_str (PJ.cons (pe_fmt (pv 3)) (PJ.cons pe_str (PJ.cons (pe_fmt (pv 4)) (PJ.cons pe_str (PJ.cons (pe_fmt (pv 5)) PJ.nil)))))))))))))), ?_⟩
    refine ⟨fun σ H' => Same H H' ∧ ∃ (r : Addr) (qs : List (Addr × Tie)), H' r = some (.lst (refs qs)) ∧ At rowV H' qs ∧ (qs.map (·.2)).Perm (ps.map (·.2)) ∧ qs.Pairwise (fun p q => (!PySem.W.dataLt (tD (rowV q.2)) (tD (rowV p.2))) = true) ∧
      σ = [some (.ref l), some (.ref r), none, none, none, none], ?_, ?_⟩
    · refine ⟨fun v H' => Same H H' ∧ ∃ (r : Addr) (qs : List (Addr × Tie)), v = .ref r ∧ H' r = some (.lst (refs qs)) ∧ At rowV H' qs ∧ (qs.map (·.2)).Perm (ps.map (·.2)) ∧ qs.Pairwise (fun p q => (!PySem.W.dataLt (tD (rowV q.2)) (tD (rowV p.2))) = true), ?_, ?_⟩
      · refine ⟨_, rfl, l, rfl, ⟨_, SqL.of hl⟩, fun D nD => ?_⟩
        refine lc_list (K := K) (a := l) (xs := refs ps) (fun i H' => Same H H' ∧ ∃ qs : List (Addr × Tie), H' D = some (.lst (refs qs)) ∧ At rowV H' qs ∧ qs.map (·.2) = (ps.map (·.2)).take i) ⟨same_upd nD, [], upd_same, (fun p hp => by cases hp), rfl⟩ (fun i H' _ ⟨s, _⟩ => SqL.of (s _ _ hl)) ?_ ?_
        · rintro i x H1 hx ⟨s1, qs, hD, hQ, hq⟩
          obtain ⟨⟨p, t⟩, hk, rfl⟩ := refs_get hx
          have hp : H1 p = some (.tup (tieV t)) := s1 _ _ (hA _ (List.mem_of_getElem? hk))
          have hkt : (ps.map (·.2))[i]? = some t := by rw [List.getElem?_map, hk]; rfl
          refine ⟨p, _, rfl, SqT.of hp, rfl, _, _, rfl, _, _, rfl, _, _, rfl, _, _, rfl, rfl, rfl, ?_⟩
          refine ⟨_, rfl, _, rfl, _, rfl, _, rfl, (by show 4 ≤ sizeLine; decide), fun q nq => ?_⟩
          have hDq := put_old (u := HO.tup (rowV t)) hD nq
          have eql : qs.length = ((ps.map (·.2)).take i).length := by
            rw [← hq, List.length_map]
          refine ⟨_, hDq, ?_, ((s1.put nq).own nD), qs ++ [(q, t)], ?_, ?_, ?_⟩
          · rw [refs_len, eql, List.length_take, List.length_map]
            exact small1000 (by omega)
          · rw [upd_same, refs_app]
            rfl
          · exact At.snoc ((hQ.same (same_upd nq)).mono (upd_tup hDq)) (put_ne upd_same (ne_of_none hD nq).symm)
          · rw [List.map_append, hq, List.take_succ, hkt]
            rfl
        · rintro H1 ⟨s1, qs, hD, hQ, hq⟩
          rw [refs_len, List.take_of_length_le (by rw [List.length_map]; exact Nat.le_refl _)] at hq
          have hnb : ∀ p ∈ qs, (rowV p.2).all nb = true := fun p hp => by
            have m : p.2 ∈ ps.map (·.2) := by
              rw [← hq]
              exact List.mem_map_of_mem hp
            exact rowV_nb (wk.let_ _ m).1 (wk.let_ _ m).2
          have hs : rSortD K [.ref D] H1 (fun v H' => Same H H' ∧ ∃ (r : Addr) (qs : List (Addr × Tie)), v = .ref r ∧ H' r = some (.lst (refs qs)) ∧ At rowV H' qs ∧ (qs.map (·.2)).Perm (ps.map (·.2)) ∧ qs.Pairwise (fun p q => (!PySem.W.dataLt (tD (rowV q.2)) (tD (rowV p.2))) = true)) :=
            sort_rows2 rowV (SqL.of hD) hQ hnb row_alike (fun x => ⟨_, _, rfl⟩) fun z rs hp hw nz => ⟨s1.put nz, z, rs, rfl, upd_same, (hQ.same (same_upd nz)).perm hp.symm, by rw [← hq]; exact hp.map _, hw⟩
          exact hs
      · rintro _ H1 ⟨s1, r, qs, rfl, h1, h2, h3, h4⟩
        exact ⟨s1, r, qs, h1, h2, h3, h4, rfl⟩
    rintro σ H1 ⟨s1, r, qs, hr1, hQ, hperm, hpw, rfl⟩
    have srt := rows_srt ((hperm.map Tie.pr).nodup_iff.mpr wk.pnd) hpw
    have qlen : qs.length ≤ 100 := by
      have := hperm.length_eq
      rw [List.length_map, List.length_map] at this
      omega
    refine ⟨⟨_, rfl⟩, _, rfl, r, rfl, ⟨_, SqL.of hr1⟩, fun D nD => ?_⟩
    refine lc_list (K := K) (a := r) (xs := refs qs) (fun i H' => Same H1 H' ∧ H' D = some (.lst ((((qs.map (·.2)).take i).map lineS).map V.str))) ⟨same_upd nD, upd_same⟩ (fun i H' _ ⟨s, _⟩ => SqL.of (s _ _ hr1)) ?_ ?_
    · rintro i x H2 hx ⟨s2, hD⟩
      obtain ⟨⟨p, t⟩, hk, rfl⟩ := refs_get hx
      have hp : H2 p = some (.tup (rowV t)) := s2 _ _ (hQ _ (List.mem_of_getElem? hk))
      have hkt : (qs.map (·.2))[i]? = some t := by rw [List.getElem?_map, hk]; rfl
      have mt : t ∈ ps.map (·.2) := hperm.mem_iff.mp (List.mem_of_getElem? hkt)
      obtain ⟨tab, tbn⟩ := wk.lt t mt
      have n10 := wk.n10
      refine ⟨p, _, rfl, SqT.of hp, rfl, _, _, rfl, _, _, rfl, _, _, rfl, _, _, rfl, rfl, rfl, ?_⟩
      have ta : t.a < 10 := by omega
      have tb : t.b < 10 := by omega
      refine ⟨_, rfl, .inr ⟨_, rfl, num_log (by omega), ?_⟩⟩
      rw [num_str _ ta]
      refine ⟨_, rfl, small_str (by simp only [str_app, sgn_len, sp_len, emp_len]; omega), ?_⟩
      refine ⟨_, rfl, small_str (by simp only [str_app, sgn_len, sp_len, emp_len]; omega), ?_⟩
      refine ⟨_, rfl, .inl ⟨_, rfl, (by show 1 ≤ sizeLine; decide), _, rfl, small_str (by simp only [str_app, sgn_len, sp_len, emp_len]; omega), ?_⟩⟩
      refine ⟨_, rfl, small_str (by simp only [str_app, sgn_len, sp_len, emp_len]; omega), ?_⟩
      refine ⟨_, rfl, .inr ⟨_, rfl, num_log (by omega), ?_⟩⟩
      rw [num_str _ tb]
      refine ⟨_, rfl, small_str (by simp only [str_app, sgn_len, sp_len, emp_len]; omega), ?_⟩
      refine ⟨_, rfl, small_str (by simp only [str_app, sgn_len, sp_len, emp_len]; omega), ?_⟩
      refine ⟨_, rfl, .inl ⟨_, rfl, (by show 1 ≤ sizeLine; decide), _, rfl, small_str (by simp only [str_app, sgn_len, sp_len, emp_len]; omega), ?_⟩⟩
      refine ⟨_, hD, ?_, s2.own nD, ?_⟩
      · rw [List.length_map, List.length_map, List.length_take, List.length_map]
        exact small1000 (by omega)
      · rw [upd_same, List.take_succ, hkt, List.map_append, List.map_append, line_app]
        rfl
    · rintro H2 ⟨s2, hD⟩
      rw [refs_len, List.take_of_length_le (by rw [List.length_map]; exact Nat.le_refl _)] at hD
      refine ⟨_, _, _, rfl, rfl, .inl (SqL.of hD), ?_, ?_⟩
      · have e1 : ("\n" : Str).length = 1 := by decide +kernel
        rw [lines_sum, e1]
        simp only [List.length_map]
        omega
      · rw [text_join]
        exact k _ _ (Same.trans s1 s2) hperm srt
/-! ### read_torn, read_ties -/
def spTies (K : PySem.W.Frag) : Sp := fun vs H Q _ => ∃ (ts : List Tie) (n : Nat), vs = [.str (webS ts)] ∧ WebOk n (ts.map nrm) ∧
  ∀ (l : Addr) (ps : List (Addr × Tie)) (H' : Hp), Same H H' → H l = none → H' l = some (.lst (refs ps)) → At tieV H' ps → (ps.map (·.2)).Perm (ts.map nrm) → (ps.map (·.2)).Pairwise (fun x y => ¬ tLt y x) → Q (.ref l) H'
theorem ok_torn {f fL fA fHg : Addr} {fd fdL fdA fdHg : FuncData} (F : Fun K "read_torn" "read_torn" sTorn f fd) (msorted : mg "sorted" = none)
    (GL : FnOk P w K mg base CX0 3 fL fdL ["line"] (spLine K)) (FL : Fun K "read_line" "read_line" sLine fL fdL) (bL : Binds K fdL ["line"] []) (mL : mg "read_line" = some (.ref fL))
    (GA : FnOk P w K mg base CX0 1 fA fdA ["ties"] (spApart K)) (FA : Fun K "are_apart" "are_apart" sApart fA fdA) (bA : Binds K fdA ["ties"] []) (mA : mg "are_apart" = some (.ref fA))
    (GH : FnOk P w K mg base CX0 2 fHg fdHg ["ties"] (spApart K)) (FH : Fun K "hang_together" "hang_together" sHang fHg fdHg) (bH : Binds K fdHg ["ties"] []) (mHg : mg "hang_together" = some (.ref fHg)) :
    FnOk P w K mg base CX0 4 f fd ["text"] (spTies K) := by
  refine F.ok scTorn (fun vs H Q E h => ?_) (fun cdv A outer s H vs Q E hr h => ?_)
  · obtain ⟨ts, n, rfl, _⟩ := h
    rfl
  · obtain ⟨ts, n, rfl, wk, k⟩ := h
    have hr1 : Room 1 _ := hr.mono (by decide)
    have hr2 : Room 2 _ := hr.mono (by decide)
    have hr3 : Room 3 _ := hr
    have len100 := wk.len
    rw [List.length_map] at len100
    have raw := raw_of wk
    have tsne : ts ≠ [] := fun e => wk.ne (by rw [e]; rfl)
    have n10 := wk.n10
    refine ⟨_, (C8.pss_cut (ps_set (i := 1) scTorn.nd rfl (.inl rfl) (pe_lst pa_nil)) (C8.pss_cut (ps_for PassesOwn.never rfl (pi_list (pe_split (pv 0) pe_str)) (pg_name (i := 2) scTorn.nd rfl (.inl rfl)) (C8.pss_cut (ps_set (i := 3) scTorn.nd rfl (.inl rfl) (pe_call GL hr3 (by rfl) mL FL.kp bL .nil pass0 (pa_cons (pv 2) pa_nil))) (pss_cons (ps_if (pt_cmpR op_isN (pv 3) pe_non (nomark _)) (pss_one (ps_ret pe_non)) pss_nil) (pss_one (ps_expr (pe_bm PySem.F.plainAttrs_list PySem.F.slot_list_append PySem.F.type_list_append mt_append (pv 1) (pa_cons (pv 3) pa_nil))))))) (pss_cons (ps_if (PW.pt (pw_or (pt_not (pt_val (pe_call GA hr1 (by rfl) mA FA.kp bA .nil pass0 (pa_cons (pv 1) pa_nil)))) (pw_or1 (pt_not (pt_val (pe_call GH hr2 (by rfl) mHg FH.kp bH .nil pass0 (pa_cons (pv 1) pa_nil))))))) (pss_one (ps_ret pe_non)) pss_nil) (pss_one (ps_ret (pe_callB (cr_sortD hr.units) (by rfl) msorted (by decide +kernel) (pa_cons (pv 1) pa_nil))))))), ?_⟩
    refine ⟨fun σ H' => Same H H' ∧ ∃ l : Addr, H l = none ∧ H' l = some (.lst []) ∧ σ = [some (.str (webS ts)), some (.ref l), none, none], ?_, ?_⟩
    · exact ⟨Nat.zero_le _, fun l nl => ⟨same_upd nl, l, nl, upd_same, rfl⟩⟩
    rintro σ H1 ⟨s1, l, nl, hl, rfl⟩
    refine ⟨fun σ H' => Same H H' ∧ ∃ (ps : List (Addr × Tie)) (w2 w3 : Option V), H' l = some (.lst (refs ps)) ∧ At tieV H' ps ∧ ps.map (·.2) = ts.map nrm ∧ σ = [some (.str (webS ts)), some (.ref l), w2, w3], ?_, ?_⟩
    · have spl : Txt.split (webS ts) ("\n" : Str) = ts.map lineS := text_split tsne fun t ht => no_nl (raw t ht).a10 (raw t ht).b10 (raw t ht).lm (raw t ht).lo
      refine ⟨_, rfl, ⟨_, rfl⟩, _, _, rfl, rfl, (by decide +kernel), ?_, fun c nc => ?_⟩
      · have := webS_len ts
        have h1 := small1000 (n := 8 * ts.length + 2) (by omega)
        omega
      · have nlc : l ≠ c := ne_of_none hl nc
        refine ⟨c, rfl, ⟨_, SqL.of upd_same⟩, for_list (K := K) (a := c) (xs := (ts.map lineS).map V.str) (fun i σ H' => Same H H' ∧ H' c = some (.lst ((ts.map lineS).map V.str)) ∧ ∃ (ps : List (Addr × Tie)) (w2 w3 : Option V), H' l = some (.lst (refs ps)) ∧ At tieV H' ps ∧
            ps.map (·.2) = (ts.take i).map nrm ∧ σ = [some (.str (webS ts)), some (.ref l), w2, w3])
          ⟨s1.put nc, (upd_same.trans (by rw [spl])), [], none, none, put_old hl nc, (fun p hp => by cases hp), rfl, rfl⟩ (fun i σ H' _ ⟨_, e, _⟩ => SqL.of e) ?_ ?_⟩
        · rintro i x σ H2 hx ⟨s2, hc2, ps, w2, w3, hl2, hA2, hps, rfl⟩
          rw [List.getElem?_map, List.getElem?_map] at hx
          obtain ⟨y, hy, rfl⟩ := Option.map_eq_some_iff.mp hx
          obtain ⟨t, ht, rfl⟩ := Option.map_eq_some_iff.mp hy
          have mt := List.mem_of_getElem? ht
          refine ⟨fun σ H' => Same H2 H' ∧ ∃ p : Addr, H2 p = none ∧ H' p = some (.tup (tieV (nrm t))) ∧ σ = [some (.str (webS ts)), some (.ref l), some (.str (lineS t)), some (.ref p)], ?_, ?_⟩
          · exact ⟨_, rfl, t, rfl, raw t mt, fun p H' s' np hp => ⟨s', p, np, hp, rfl⟩⟩
          rintro σ H3 ⟨s3, p, np, hp, rfl⟩
          refine ⟨_, rfl, rfl, _, rfl, ?_⟩
          refine iteF ?_
          have hl3 := s3 _ _ hl2
          have lenp : ps.length ≤ 100 := by
            have e := congrArg List.length hps
            rw [List.length_map, List.length_map, List.length_take] at e
            omega
          refine ⟨_, rfl, .inl ⟨rfl, _, SqL.of hl3⟩, _, rfl, _, _, _, rfl, rfl, hl3, (by rw [refs_len]; exact small1000 (by omega)), ?_⟩
          refine ⟨(Same.trans s2 s3).own nl, put_ne (s3 _ _ hc2) nlc.symm, ps ++ [(p, nrm t)], _, _, (upd_same.trans (by rw [refs_app]; rfl)), ?_, ?_, rfl⟩
          · exact At.snoc ((hA2.same s3).mono (upd_tup hl3)) (put_ne hp (ne_of hp hl3 (by intro z; cases z)))
          · rw [List.map_append, hps, List.take_succ, ht, List.map_append]
            rfl
        · rintro σ H2 ⟨s2, hc2, ps, w2, w3, hl2, hA2, hps, rfl⟩
          rw [List.take_of_length_le (by simp)] at hps
          exact ⟨s2, ps, _, _, hl2, hA2, hps, rfl⟩
    rintro σ H2 ⟨s2, ps, w2, w3, hl2, hA2, hps, rfl⟩
    have wk2 : WebOk n (ps.map (·.2)) := hps.symm ▸ wk
    refine ⟨_, rfl, l, ps, n, rfl, hl2, hA2, wk2, fun H3 s3 => ⟨_, rfl, ?_⟩⟩
    refine iteF ⟨_, rfl, l, ps, n, rfl, s3 _ _ hl2, hA2.same s3, wk2, fun H4 s4 => ⟨_, rfl, ?_⟩⟩
    refine iteF ?_
    have s34 := Same.trans s3 s4
    refine ⟨_, rfl, ?_⟩
    have hnb : ∀ p ∈ ps, (tieV p.2).all nb = true := fun p hp => tieV_nb (wk2.let_ _ (List.mem_map_of_mem hp)).1 (wk2.let_ _ (List.mem_map_of_mem hp)).2
    have hs : rSortD K [.ref l] H4 Q := sort_rows2 tieV (SqL.of (s34 _ _ hl2)) (hA2.same s34) hnb tie_alike (fun x => ⟨_, _, rfl⟩) fun z qs hp hw nz =>
      k z qs _ ((Same.trans s2 s34).put nz) ((Same.trans s2 s34).free nz) upd_same (((hA2.same s34).same (same_upd nz)).perm hp.symm) (by rw [← hps]; exact hp.map _) (ties_srt hw)
    exact hs
theorem ok_ties {f fT : Addr} {fd fdT : FuncData} (F : Fun K "read_ties" "read_ties" sTies f fd) (misi : mg "isinstance" = none) (mstr : mg "str" = none) {tU : Tok} (mU : mg "UNREAD" = some (.str "?" tU))
    (GT : FnOk P w K mg base CX0 4 fT fdT ["text"] (spTies K)) (FT : Fun K "read_torn" "read_torn" sTorn fT fdT) (bT : Binds K fdT ["text"] []) (mT : mg "read_torn" = some (.ref fT)) :
    FnOk P w K mg base CX0 5 f fd ["text"] (spTies K) := by
  refine F.ok scTies (fun vs H Q E h => ?_) (fun cdv A outer s H vs Q E hr h => ?_)
  · obtain ⟨ts, n, rfl, _⟩ := h
    rfl
  · obtain ⟨ts, n, rfl, wk, k⟩ := h
    have raw := raw_of wk
    refine ⟨_, (pss_cons (ps_if (PW.pt (pw_or (pt_not (pt_val (pe_callB call_isi (by rfl) misi (by decide +kernel) (pa_cons (pv 0) (pa_cons (pe_bltn (by rfl) mstr (by decide +kernel) (show RelV (.ty "str") _ from rfl)) pa_nil))))) (pw_or1 (pt_cmpR op_in_sign (pe_glob (v := .str "?") rfl mU ⟨_, rfl⟩) (pv 0) (by rfl))))) (pss_one (ps_ret pe_non)) pss_nil) (pss_one (ps_ret (pe_call GT hr (by rfl) mT FT.kp bT .nil pass0 (pa_cons (pv 0) pa_nil))))), ?_⟩
    refine ⟨_, rfl, _, _, _, _, true, rfl, .ty "str", .base (.str _), kit_ty (by decide +kernel), true, rfl, ?_⟩
    refine iteF ⟨_, rfl, 63, webS ts, congrArg V.str unread_sgn, rfl, _, rfl, ?_⟩
    rw [decide_eq_false (no_unread fun t ht => ⟨(raw t ht).a10, (raw t ht).b10, (raw t ht).lm, (raw t ht).lo⟩)]
    exact iteF ⟨_, rfl, ts, n, rfl, wk, k⟩
end
end Wh

namespace Wh
open PySem L2
def clsB : Stmt → List Stmt
  | .ClassDef _ _ _ body _ _ _ _ _ _ _ => body
  | _ => []
def metS (i j : Nat) : Stmt := (clsB (topS i)).getD j (.Pass ⟨0, 0, 0, 0⟩)
abbrev sInit : Stmt := metS 34 0
abbrev sWPlain : Stmt := metS 34 2
abbrev sWHouses : Stmt := metS 34 3
abbrev sWAt : Stmt := metS 34 6
abbrev sWCheck : Stmt := metS 34 9
theorem scInit : FnScope ["self", "text", "ties"] ["self", "text"] (defScope sInit) := ⟨rfl, rfl, rfl, by decide +kernel, rfl, by decide +kernel, by decide +kernel⟩
theorem scWPlain : FnScope ["self"] ["self"] (defScope sWPlain) := ⟨rfl, rfl, rfl, by decide +kernel, rfl, by decide +kernel, by decide +kernel⟩
theorem scWHouses : FnScope ["self"] ["self"] (defScope sWHouses) := ⟨rfl, rfl, rfl, by decide +kernel, rfl, by decide +kernel, by decide +kernel⟩
theorem scWAt : FnScope ["self", "house"] ["self", "house"] (defScope sWAt) := ⟨rfl, rfl, rfl, by decide +kernel, rfl, by decide +kernel, by decide +kernel⟩
theorem scWCheck : FnScope ["self", "house"] ["self", "house"] (defScope sWCheck) := ⟨rfl, rfl, rfl, by decide +kernel, rfl, by decide +kernel, by decide +kernel⟩
section
variable {P : Program} {w : World} {K : PySem.W.Frag} {mg : Str → Option Value} {base : Heap} {C : Addr}
/-! ### Web.__init__ -/
def spInit (C : Addr) : Sp := fun vs H Q _ => ∃ (x dx : Addr) (rs ts : List Tie) (n : Nat), vs = [.ref x, .str (webS rs)] ∧ H x = some (.ins C dx []) ∧ (rs.map nrm).Perm ts ∧ WebOk n ts ∧ (ts.map Tie.pr).Pairwise PrLt ∧
  ∀ H', But x H H' → WebAt C H' x n ts → TextAt C H' x (webS rs) → Q .non H'
theorem ok_init {f fT fP fD : Addr} {fd fdT fdP fdD : FuncData} (F : Fun K "__init__" "Web.__init__" sInit f fd) (cW : WebC K C) (mtuple : mg "tuple" = none)
    (GT : FnOk P w K mg base CX0 5 fT fdT ["text"] (spTies K)) (FT : Fun K "read_ties" "read_ties" sTies fT fdT) (bT : Binds K fdT ["text"] []) (mT : mg "read_ties" = some (.ref fT))
    (GP : FnOk P w K mg base CX0 1 fP fdP ["ties"] (spPlain K)) (FP : Fun K "plain_text" "plain_text" sPlain fP fdP) (bP : Binds K fdP ["ties"] []) (mP : mg "plain_text" = some (.ref fP))
    (GD : FnOk P w K mg base CX0 2 fD fdD ["ties"] (spDoors K)) (FD : Fun K "doors_of" "doors_of" sDoors fD fdD) (bD : Binds K fdD ["ties"] []) (mD : mg "doors_of" = some (.ref fD)) :
    FnOk P w K mg base CX0 6 f fd ["self", "text"] (spInit C) := by
  refine F.ok scInit (fun vs H Q E h => ?_) (fun cdv A outer s H vs Q E hr h => ?_)
  · obtain ⟨x, dx, rs, ts, n, rfl, _⟩ := h
    rfl
  · obtain ⟨x, dx, rs, ts, n, rfl, hx, prs, wk, srt, k⟩ := h
    have hr1 : Room 1 _ := hr.mono (by decide)
    have hr2 : Room 2 _ := hr.mono (by decide)
    have hr5 : Room 5 _ := hr
    refine ⟨_, (C8.pss_cut (ps_set (i := 2) scInit.nd rfl (.inl rfl) (pe_call GT hr5 (by rfl) mT FT.kp bT .nil pass0 (pa_cons (pv 1) pa_nil))) (pss_cons (ps_if (pt_cmpR op_isN (pv 2) pe_non (nomark _)) pss_never pss_nil) (C8.pss_cut (ps_fld (pv 0) (pv 1) rfl) (C8.pss_cut (ps_fld (pv 0) (pe_call GP hr1 (by rfl) mP FP.kp bP .nil pass0 (pa_cons (pv 2) pa_nil)) rfl) (C8.pss_cut (ps_fld (pv 0) (pe_callTy call_tuple_of (by rfl) mtuple (by decide +kernel) (pa_cons (pv 2) pa_nil)) rfl) (pss_one (ps_fld (pv 0) (pe_call GD hr2 (by rfl) mD FD.kp bD .nil pass0 (pa_cons (pv 2) pa_nil)) rfl))))))), ?_⟩
    refine ⟨fun σ H' => Same H H' ∧ ∃ (l : Addr) (ps : List (Addr × Tie)), H' l = some (.lst (refs ps)) ∧ At tieV H' ps ∧ (ps.map (·.2)).Perm ts ∧ (ps.map (·.2)).Pairwise (fun x y => ¬ tLt y x) ∧ σ = [some (.ref x), some (.str (webS rs)), some (.ref l)], ?_, ?_⟩
    · exact ⟨_, rfl, rs, n, rfl, wk.perm prs.symm, fun l ps H' s' _ hl hA hp hs => ⟨s', l, ps, hl, hA, hp.trans prs, hs, rfl⟩⟩
    rintro σ H1 ⟨s1, l, ps, hl, hA, hperm, hsrt, rfl⟩
    have wkp : WebOk n (ps.map (·.2)) := wk.perm hperm.symm
    have hx1 := s1 _ _ hx
    have lx : l ≠ x := ne_of hl hx1 (by intro z; cases z)
    refine ⟨_, rfl, rfl, _, rfl, ?_⟩
    refine iteF ?_
    refine ⟨fun σ H' => But x H1 H' ∧ H' x = some (.ins C dx [(("_text" : Str), .str (webS rs))]) ∧ σ = [some (.ref x), some (.str (webS rs)), some (.ref l)], ?_, ?_⟩
    · exact ⟨_, rfl, _, rfl, x, C, dx, [], rfl, hx1, cW.c, cW.n1, (by decide), But.at (But.refl x H1), upd_same, rfl⟩
    rintro σ H2 ⟨b2, hx2, rfl⟩
    have hl2 := b2 _ _ hl lx
    have hA2 := hA.butI hx1 b2
    refine ⟨fun σ H' => But x H1 H' ∧ H' x = some (.ins C dx [(("_text" : Str), .str (webS rs)), ("_plain", .str (webS ts))]) ∧ σ = [some (.ref x), some (.str (webS rs)), some (.ref l)], ?_, ?_⟩
    · refine ⟨_, rfl, l, ps, n, rfl, hl2, hA2, wkp, fun ts' H' s' hp' srt' => ?_⟩
      have e : ts' = ts := srt_uniq srt' srt (hp'.trans hperm)
      subst e
      exact ⟨_, rfl, x, C, dx, _, rfl, s' _ _ hx2, cW.c, cW.n2, (by show 1 < 1000; decide), But.at (But.trans b2 s'.but), upd_same.trans (by rw [putF_1]), rfl⟩
    rintro σ H3 ⟨b3, hx3, rfl⟩
    have hl3 := b3 _ _ hl lx
    have hA3 := hA.butI hx1 b3
    refine ⟨fun σ H' => But x H1 H' ∧ ∃ l2 : Addr, H' x = some (.ins C dx [(("_text" : Str), .str (webS rs)), ("_plain", .str (webS ts)), ("_ties", .ref l2)]) ∧ H' l2 = some (.tup (refs ps)) ∧ σ = [some (.ref x), some (.str (webS rs)), some (.ref l)], ?_, ?_⟩
    · refine ⟨_, rfl, l, _, rfl, .inl ⟨SqL.of hl3, fun l2 n2 => ?_⟩⟩
      have x2 : l2 ≠ x := (ne_of_none hx3 n2).symm
      exact ⟨_, rfl, x, C, dx, _, rfl, put_old hx3 n2, cW.c, cW.n3, (by show 2 < 1000; decide), But.at (b3.put n2), l2, upd_same.trans (by rw [putF_2]), put_ne upd_same x2, rfl⟩
    rintro σ H4 ⟨b4, l2, hx4, hl24, rfl⟩
    have hl4 := b4 _ _ hl lx
    have hA4 := hA.butI hx1 b4
    have l2x : l2 ≠ x := ne_of hl24 hx4 (by intro z; cases z)
    refine ⟨_, rfl, l, ps, n, rfl, hl4, hA4, wkp, fun dl ds H' s' dr ndl nds => ?_⟩
    have hx5 := s' _ _ hx4
    refine ⟨_, rfl, x, C, dx, _, rfl, hx5, cW.c, cW.n4, (by show 3 < 1000; decide), k _ (But.at (But.trans (But.trans s1.but b4) s'.but)) ⟨⟨dx, webS rs, l2, ps, dl, ds, upd_same.trans (by rw [putF_3]; rfl), put_ne (s' _ _ hl24) l2x, ?_, hperm, ?_, hsrt⟩, wk, srt⟩ ⟨dx, webS ts, l2, dl, upd_same.trans (by rw [putF_3]; rfl)⟩⟩
    · exact (hA4.same s').mono fun b xs e => put_ne e (ne_of e hx5 (by intro z; cases z))
    · refine ⟨put_ne dr.hl (ne_of dr.hl hx5 (by intro z; cases z)), dr.len, dr.nd, fun h a e => put_ne (dr.hd h a e) (ne_of (dr.hd h a e) hx5 (by intro z; cases z))⟩
/-! ### plain, houses, _check_house, at -/
def spWPlain (C : Addr) : Sp := fun vs H Q _ => ∃ (x : Addr) (n : Nat) (ts : List Tie), vs = [.ref x] ∧ WebAt C H x n ts ∧ Q (.str (webS ts)) H
theorem ok_wplain {f : Addr} {fd : FuncData} (F : Fun K "plain" "Web.plain" sWPlain f fd) (cW : WebC K C) : FnOk P w K mg base CX0 1 f fd ["self"] (spWPlain C) := by
  refine F.ok scWPlain (fun vs H Q E h => ?_) (fun cdv A outer s H vs Q E hr h => ?_)
  · obtain ⟨x, n, ts, rfl, _⟩ := h
    rfl
  · obtain ⟨x, n, ts, rfl, wb, k⟩ := h
    obtain ⟨dx, txt, l, ps, dl, ds, h1, h2, h3, h4, h5, h6⟩ := wb.ex
    refine ⟨_, (pss_one (ps_ret (pe_fld (pv 0) rfl))), ?_⟩
    exact ⟨_, rfl, x, C, dx, _, _, rfl, h1, cW.c, cW.n2, ff_plain _ _ _ _, k⟩
def spWHouses (C : Addr) : Sp := fun vs H Q _ => ∃ (x : Addr) (n : Nat) (ts : List Tie), vs = [.ref x] ∧ WebAt C H x n ts ∧ Q (.int (n : Int)) H
theorem ok_whouses {f : Addr} {fd : FuncData} (F : Fun K "houses" "Web.houses" sWHouses f fd) (cW : WebC K C) (mlen : mg "len" = none) : FnOk P w K mg base CX0 1 f fd ["self"] (spWHouses C) := by
  refine F.ok scWHouses (fun vs H Q E h => ?_) (fun cdv A outer s H vs Q E hr h => ?_)
  · obtain ⟨x, n, ts, rfl, _⟩ := h
    rfl
  · obtain ⟨x, n, ts, rfl, wb, k⟩ := h
    obtain ⟨dx, txt, l, ps, dl, ds, h1, h2, h3, h4, h5, h6⟩ := wb.ex
    refine ⟨_, (pss_one (ps_ret (pe_callB call_len_seq (by rfl) mlen PySem.boot_len (pa_cons (pe_fld (pv 0) rfl) pa_nil)))), ?_⟩
    refine ⟨_, rfl, x, C, dx, _, _, rfl, h1, cW.c, cW.n4, ff_doors _ _ _ _, dl, _, rfl, .inl (SqL.of h5.hl), ?_⟩
    rw [List.length_map, h5.len]
    exact k
def spWCheck (C : Addr) : Sp := fun vs H Q _ => ∃ (x : Addr) (n : Nat) (ts : List Tie) (h : Nat), vs = [.ref x, .int (h : Int)] ∧ WebAt C H x n ts ∧ h < n ∧ Q .non H
theorem ok_wcheck {f fH : Addr} {fd fdH : FuncData} (F : Fun K "_check_house" "Web._check_house" sWCheck f fd) (cW : WebC K C) (mlen : mg "len" = none) (GH : FnOk P w K mg base CX0 4 fH fdH ["value", "houses"] spHouse) (FH : Fun K "is_house" "is_house" sHouse fH fdH) (bH : Binds K fdH ["value", "houses"] []) (mH : mg "is_house" = some (.ref fH)) :
    FnOk P w K mg base CX0 5 f fd ["self", "house"] (spWCheck C) := by
  refine F.ok scWCheck (fun vs H Q E h => ?_) (fun cdv A outer s H vs Q E hr h => ?_)
  · obtain ⟨x, n, ts, h, rfl, _⟩ := h
    rfl
  · obtain ⟨x, n, ts, h, rfl, wb, hn, k⟩ := h
    obtain ⟨dx, txt, l, ps, dl, ds, h1, h2, h3, h4, h5, h6⟩ := wb.ex
    have hr4 : Room 4 _ := hr
    refine ⟨_, (pss_one (ps_if (pt_not (pt_val (pe_call GH hr4 (by rfl) mH FH.kp bH .nil pass0 (pa_cons (pv 1) (pa_cons (pe_callB call_len_seq (by rfl) mlen PySem.boot_len (pa_cons (pe_fld (pv 0) rfl) pa_nil)) pa_nil))))) pss_never pss_nil)), ?_⟩
    refine ⟨_, rfl, _, rfl, x, C, dx, _, _, rfl, h1, cW.c, cW.n4, ff_doors _ _ _ _, dl, _, rfl, .inl (SqL.of h5.hl), _, _, rfl, ?_⟩
    rw [List.length_map, h5.len, decide_eq_true (show (0 : Int) ≤ (h : Int) ∧ (h : Int) < (n : Int) by omega)]
    exact ⟨_, rfl, iteF k⟩
def spWAt (C : Addr) : Sp := fun vs H Q _ => ∃ (x : Addr) (n : Nat) (ts : List Tie) (h : Nat), vs = [.ref x, .int (h : Int)] ∧ WebAt C H x n ts ∧ h < n ∧ ∀ (ms : List Nat) (H' : Hp), ms.Perm (marksAt h ts) → ms.Pairwise (· ≤ ·) → Same H H' → Q (.str (sS ms)) H'
theorem ok_wat {f fC : Addr} {fd fdC : FuncData} (F : Fun K "at" "Web.at" sWAt f fd) (cW : WebC K C) (msorted : mg "sorted" = none) (GC : FnOk P w K mg base CX0 5 fC fdC ["self", "house"] (spWCheck C)) (bC : Binds K fdC ["self", "house"] []) (mC : Meth K C "_check_house" fC) :
    FnOk P w K mg base CX0 6 f fd ["self", "house"] (spWAt C) := by
  refine F.ok scWAt (fun vs H Q E h => ?_) (fun cdv A outer s H vs Q E hr h => ?_)
  · obtain ⟨x, n, ts, h, rfl, _⟩ := h
    rfl
  · obtain ⟨x, n, ts, h, rfl, wb, hn, k⟩ := h
    obtain ⟨dx, txt, l, ps, dl, ds, h1, h2, h3, h4, h5, h6⟩ := wb.ex
    have hr5 : Room 5 _ := hr
    refine ⟨_, (C8.pss_cut (ps_expr (pe_meth (pv 0) cW.c mC GC hr5 bC .nil pass0 (pa_cons (pv 1) pa_nil))) (pss_one (ps_ret (pe_joinK K rfl pe_str (pe_callB (call_sortedD rfl) (by rfl) msorted (by decide +kernel) (pa_cons (pe_ix ix_list (pe_fld (pv 0) rfl) (pv 1) (fun _ _ => rfl)) pa_nil)))))), ?_⟩
    refine ⟨fun σ H' => H = H' ∧ σ = [some (.ref x), some (.int (h : Int))], ?_, ?_⟩
    · exact ⟨_, rfl, x, dx, _, rfl, h1, ff_no _ _ _ _ (by decide +kernel), _, rfl, x, n, ts, h, rfl, wb, hn, rfl, rfl⟩
    rintro σ H' ⟨rfl, rfl⟩
    have hi : h < ds.length := by rw [h5.len]; exact hn
    have hg : ds[h]? = some ds[h] := List.getElem?_eq_getElem hi
    have pm := marksAt_perm h4 h
    refine ⟨⟨_, rfl⟩, _, rfl, x, C, dx, _, _, rfl, h1, cW.c, cW.n4, ff_doors _ _ _ _, _, rfl, dl, _, _, _, rfl, rfl, SqL.of h5.hl, atI_nat (by rw [List.getElem?_map, hg]; rfl), ds[h], _, (marksAt h (ps.map (·.2))).map sgn, rfl, Rd.of (h5.hd h _ hg), ?_, ?_, ?_⟩
    · rw [doorsK_keys, List.map_map]
      rfl
    · rw [List.length_map]
      have := marks12 (wb.wk.perm h4.symm) h
      omega
    · intro ys p hys hso np
      obtain ⟨ns, rfl, hns⟩ := sgn_perm hys
      have lens := hns.length_eq
      refine ⟨_, _, _, rfl, rfl, .inl (SqL.of upd_same), ?_, ?_⟩
      · have := marks12 (wb.wk.perm h4.symm) h
        have e0 : ("" : Str).length = 0 := by decide +kernel
        rw [sgn_sum, e0]
        omega
      · rw [join_sgn]
        exact k ns _ (hns.trans pm) (letters_srt ns hso) (same_upd np)
end
end Wh

namespace Wh
open PySem L2
abbrev sWText : Stmt := metS 34 1
abbrev sWTies : Stmt := metS 34 5
abbrev sWStr : Stmt := metS 34 11
abbrev sWEq : Stmt := metS 34 10
theorem scWEq : FnScope ["self", "other"] ["self", "other"] (defScope sWEq) := ⟨rfl, rfl, rfl, by decide +kernel, rfl, by decide +kernel, by decide +kernel⟩
theorem scWText : FnScope ["self"] ["self"] (defScope sWText) := ⟨rfl, rfl, rfl, by decide +kernel, rfl, by decide +kernel, by decide +kernel⟩
theorem scWTies : FnScope ["self"] ["self"] (defScope sWTies) := ⟨rfl, rfl, rfl, by decide +kernel, rfl, by decide +kernel, by decide +kernel⟩
theorem scWStr : FnScope ["self"] ["self"] (defScope sWStr) := ⟨rfl, rfl, rfl, by decide +kernel, rfl, by decide +kernel, by decide +kernel⟩
structure WebI (K : PySem.W.Frag) (C : Addr) : Prop where
  ha : PySem.W.findIn K (.ref C) "__class__" = some (some (.builtin "object.__class__"))
  hn : PySem.W.specialIn K (.builtin "object.__class__") "__get__" = some (some (.builtin "getset_descriptor.__get__"))
  ht : PySem.W.takesIn K (.builtin "object.__class__") = some true
  hm : PySem.W.mroIn K C (.type "object") = some true
  kit : PySem.W.kitOne K (.ref C) (.ref C) = some true
section
variable {P : Program} {w : World} {K : PySem.W.Frag} {mg : Str → Option Value} {base : Heap} {C : Addr}
def spWEqA (K : PySem.W.Frag) (C : Addr) : Sp := fun vs H Q _ => ∃ (x : Addr) (y : V) (n : Nat) (ts : List Tie), vs = [.ref x, y] ∧ WebAt C H x n ts ∧
  ((∃ (b : Addr) (m : Nat) (us : List Tie), y = .ref b ∧ WebAt C H b m us ∧ Q (.bl (decide (ts = us))) H) ∨ ∃ t : Value, TyX K H y t ∧ PySem.W.kitOne K t (.ref C) = some false ∧ Q (.bl false) H)
theorem ok_weqA {f : Addr} {fd : FuncData} (F : Fun K "__eq__" "Web.__eq__" sWEq f fd) (cW : WebC K C) (I : WebI K C) (misi : mg "isinstance" = none) (mW : mg "Web" = some (.ref C)) : FnOk P w K mg base CX0 1 f fd ["self", "other"] (spWEqA K C) := by
  refine F.ok scWEq (fun vs H Q E h => ?_) (fun cdv A outer s H vs Q E hr h => ?_)
  · obtain ⟨x, y, n, ts, rfl, _⟩ := h
    rfl
  · obtain ⟨x, y, n, ts, rfl, wx, h⟩ := h
    obtain ⟨dx, txt, l, ps, dl, ds, h1, _⟩ := wx.ex
    refine ⟨_, (pss_one (ps_ret (pe_and (pe_callB call_isi (by rfl) misi (by decide +kernel) (pa_cons (pv 1) (pa_cons (pe_glob (v := .ref C) rfl mW rfl) pa_nil))) (pe_one (pe_cmpR op_eq (pe_fld (pv 0) rfl) (pe_fld (pv 1) rfl) (nomark _)))))), ?_⟩
    rcases h with ⟨b, m, us, rfl, wy, k⟩ | ⟨t, ty, no, k⟩
    · obtain ⟨dy, txt2, l2, ps2, dl2, ds2, h2, _⟩ := wy.ex
      refine ⟨_, rfl, _, _, _, _, true, rfl, .own C, .base (.ins h2 cW.c I.ha I.hn I.ht I.hm), I.kit, true, rfl, ?_⟩
      refine iteT ⟨_, rfl, x, C, dx, _, _, rfl, h1, cW.c, cW.n2, ff_plain _ _ _ _, _, rfl, b, C, dy, _, _, rfl, h2, cW.c, cW.n2, ff_plain _ _ _ _, rfl, ?_⟩
      have e : decide (V.str (webS ts) = V.str (webS us)) = decide (ts = us) := by
        by_cases c : ts = us
        · rw [c, decide_eq_true rfl, decide_eq_true rfl]
        · rw [decide_eq_false c, decide_eq_false fun z => c (webS_inj wx.wk wy.wk (V.str.inj z))]
      rw [e]
      exact k
    · exact ⟨_, rfl, _, _, _, _, false, rfl, .own C, ty, no, false, rfl, iteF k⟩
def spWEq (C : Addr) : Sp := fun vs H Q _ => ∃ (x y : Addr) (n m : Nat) (ts : List Tie), vs = [.ref x, .ref y] ∧ WebAt C H x n ts ∧ WebAt C H y m ts ∧ Q (.bl true) H
theorem ok_weq {f : Addr} {fd : FuncData} (G : FnOk P w K mg base CX0 1 f fd ["self", "other"] (spWEqA K C)) : FnOk P w K mg base CX0 1 f fd ["self", "other"] (spWEq C) :=
  G.imp fun vs H Q E ⟨x, y, n, m, ts, e, wx, wy, k⟩ => ⟨x, .ref y, n, ts, e, wx, .inl ⟨y, m, ts, rfl, wy, by rw [decide_eq_true rfl]; exact k⟩⟩
def spWText (C : Addr) : Sp := fun vs H Q _ => ∃ (x : Addr) (txt : Str), vs = [.ref x] ∧ TextAt C H x txt ∧ Q (.str txt) H
theorem ok_wtext {f : Addr} {fd : FuncData} (F : Fun K "text" "Web.text" sWText f fd) (cW : WebC K C) : FnOk P w K mg base CX0 1 f fd ["self"] (spWText C) := by
  refine F.ok scWText (fun vs H Q E h => ?_) (fun cdv A outer s H vs Q E hr h => ?_)
  · obtain ⟨x, txt, rfl, _⟩ := h
    rfl
  · obtain ⟨x, txt, rfl, ⟨dx, pl, l, dl, h1⟩, k⟩ := h
    exact ⟨_, (pss_one (ps_ret (pe_fld (pv 0) rfl))), _, rfl, x, C, dx, _, _, rfl, h1, cW.c, cW.n1, ff_text _ _ _ _, k⟩
def spWTies (C : Addr) : Sp := fun vs H Q _ => ∃ (x : Addr) (n : Nat) (ts : List Tie), vs = [.ref x] ∧ WebAt C H x n ts ∧ ∀ (l : Addr) (ps : List (Addr × Tie)), H l = some (.tup (refs ps)) → At tieV H ps → (ps.map (·.2)).Perm ts → (ps.map (·.2)).Pairwise (fun x y => ¬ tLt y x) → Q (.ref l) H
theorem ok_wties {f : Addr} {fd : FuncData} (F : Fun K "ties" "Web.ties" sWTies f fd) (cW : WebC K C) : FnOk P w K mg base CX0 1 f fd ["self"] (spWTies C) := by
  refine F.ok scWTies (fun vs H Q E h => ?_) (fun cdv A outer s H vs Q E hr h => ?_)
  · obtain ⟨x, n, ts, rfl, _⟩ := h
    rfl
  · obtain ⟨x, n, ts, rfl, wb, k⟩ := h
    obtain ⟨dx, txt, l, ps, dl, ds, h1, h2, h3, h4, h5, h6⟩ := wb.ex
    exact ⟨_, (pss_one (ps_ret (pe_fld (pv 0) rfl))), _, rfl, x, C, dx, _, _, rfl, h1, cW.c, cW.n3, ff_ties _ _ _ _, k l ps h2 h3 h4 h6⟩
def spWStr (C : Addr) : Sp := fun vs H Q _ => ∃ (x : Addr) (n : Nat) (ts : List Tie), vs = [.ref x] ∧ WebAt C H x n ts ∧ Q (.str (webS ts)) H
theorem ok_wstr {f : Addr} {fd : FuncData} (F : Fun K "__str__" "Web.__str__" sWStr f fd) (cW : WebC K C) (mstr : mg "str" = none) : FnOk P w K mg base CX0 1 f fd ["self"] (spWStr C) := by
  refine F.ok scWStr (fun vs H Q E h => ?_) (fun cdv A outer s H vs Q E hr h => ?_)
  · obtain ⟨x, n, ts, rfl, _⟩ := h
    rfl
  · obtain ⟨x, n, ts, rfl, wb, k⟩ := h
    obtain ⟨dx, txt, l, ps, dl, ds, h1, _⟩ := wb.ex
    exact ⟨_, (pss_one (ps_ret (pe_callTy SkE.call_str_str (by rfl) mstr (by decide +kernel) (pa_cons (pe_fld (pv 0) rfl) pa_nil)))), _, rfl, x, C, dx, _, _, rfl, h1, cW.c, cW.n2, ff_plain _ _ _ _, _, rfl, k⟩
end
end Wh

namespace Wh
open PySem L2
abbrev sCkRound : Stmt := topS 48
abbrev sWebOf : Stmt := topS 49
abbrev sRing : Stmt := topS 46
abbrev sBoard : Stmt := topS 47
theorem scCkRound : FnScope ["houses"] ["houses"] (defScope sCkRound) := ⟨rfl, rfl, rfl, by decide +kernel, rfl, by decide +kernel, by decide +kernel⟩
theorem scWebOf : FnScope ["ties"] ["ties"] (defScope sWebOf) := ⟨rfl, rfl, rfl, by decide +kernel, rfl, by decide +kernel, by decide +kernel⟩
theorem scRing : FnScope ["houses", "house"] ["houses"] (defScope sRing) := ⟨rfl, rfl, rfl, by decide +kernel, rfl, by decide +kernel, by decide +kernel⟩
theorem scBoard : FnScope ["wide", "high", "ties", "row", "place", "house"] ["wide", "high"] (defScope sBoard) := ⟨rfl, rfl, rfl, by decide +kernel, rfl, by decide +kernel, by decide +kernel⟩
/-! ### webs by looking -/
def webB (n : Nat) (ts : List Tie) : Bool := decide (2 ≤ n) && decide (n ≤ 10) && ts.all (fun t => decide (t.a < t.b) && decide (t.b < n)) && (List.range n).all (fun h => decide (h = 0) || ts.any fun t => decide (t.b = h)) &&
  decide (ts.map Tie.pr).Nodup && ts.all (fun t => decide (t.m ∈ letters) && decide (t.o ∈ letters)) && (List.range n).all (fun h => decide (marksAt h ts).Nodup) && decide (ts.length ≤ 100)
theorem marks_out {n h : Nat} {ts : List Tie} (lt : ∀ t ∈ ts, t.a < t.b ∧ t.b < n) (hn : n ≤ h) : marksAt h ts = [] := by
  unfold marksAt
  rw [List.flatMap_eq_nil_iff]
  intro t ht
  have ⟨l1, l2⟩ := lt t ht
  exact endsAt_no (by omega) (by omega)
theorem webB_ok {n : Nat} {ts : List Tie} (h : webB n ts = true) : WebOk n ts := by
  unfold webB at h
  simp only [Bool.and_eq_true, decide_eq_true_eq, List.all_eq_true, Bool.or_eq_true, List.any_eq_true, List.mem_range] at h
  obtain ⟨⟨⟨⟨⟨⟨⟨h1, h2⟩, h3⟩, h4⟩, h5⟩, h6⟩, h7⟩, h8⟩ := h
  refine ⟨h1, h2, h3, fun k k1 k2 => ?_, h5, h6, fun k => ?_, h8⟩
  · rcases h4 k k2 with e | ⟨t, ht, e⟩
    · omega
    · exact ⟨t, ht, e⟩
  · by_cases e : k < n
    · exact h7 k e
    · rw [marks_out h3 (by omega)]
      exact List.nodup_nil
/-! ### rings and the board -/
def ringT (n h : Nat) : Tie := nrm ⟨h, 97, (h + 1) % n, 98⟩
def ringL (n : Nat) : List Tie := (List.range n).map (ringT n)
theorem ring_web : ∀ n : Nat, 3 ≤ n → n ≤ 10 → WebOk n (ringL n) := fun n h1 h2 => webB_ok (by
  have : ∀ k : Fin 8, webB (k.val + 3) (ringL (k.val + 3)) = true := by decide +kernel
  have := this ⟨n - 3, by omega⟩
  rw [show n - 3 + 3 = n by omega] at this
  exact this)
def boardP (row at_ : Nat) : List Tie := [nrm ⟨3 * row + at_, 97, 3 * row + (at_ + 1) % 3, 98⟩, nrm ⟨3 * row + at_, 99, 3 * ((row + 1) % 3) + at_, 100⟩]
def boardL : List Tie := (List.range 3).flatMap fun r => (List.range 3).flatMap fun k => boardP r k
theorem board_web : WebOk 9 boardL := webB_ok (by decide +kernel)
section
variable {P : Program} {w : World} {K : PySem.W.Frag} {mg : Str → Option Value} {base : Heap} {C : Addr}
def spCkRound : Sp := fun vs H Q _ => ∃ n : Int, vs = [.int n] ∧ 3 ≤ n ∧ n ≤ 10 ∧ Q .non H
theorem ok_ckround {f fI : Addr} {fd fdI : FuncData} (F : Fun K "check_round" "check_round" sCkRound f fd) (GI : FnOk P w K mg base CX0 1 fI fdI ["value"] spInt) (FI : Fun K "is_integer" "is_integer" sInt fI fdI) (bI : Binds K fdI ["value"] []) (mI : mg "is_integer" = some (.ref fI))
    {tL tH : Tok} (mL : mg "LEAST_ROUND" = some (.int 3 tL)) (mH : mg "MOST_HOUSES" = some (.int 10 tH)) : FnOk P w K mg base CX0 2 f fd ["houses"] spCkRound := by
  refine F.ok scCkRound (fun vs H Q E h => ?_) (fun cdv A outer s H vs Q E hr h => ?_)
  · obtain ⟨n, rfl, _⟩ := h
    rfl
  · obtain ⟨n, rfl, h1, h2, k⟩ := h
    have hr1 : Room 1 _ := hr
    refine ⟨_, (pss_one (ps_if (PW.pt (pw_or (pt_not (pt_val (pe_call GI hr1 (by rfl) mI FI.kp bI .nil pass0 (pa_cons (pv 0) pa_nil)))) (pw_or1 (pt_not (pt_chain op_le op_le (pe_glob (v := .int 3) rfl mL ⟨_, rfl⟩) (pv 0) (pe_glob (v := .int 10) rfl mH ⟨_, rfl⟩)))))) pss_never pss_nil)), ?_⟩
    refine ⟨_, rfl, n, rfl, true, rfl, ?_⟩
    refine iteF ⟨_, rfl, _, _, rfl, rfl, _, rfl, ?_⟩
    rw [decide_eq_true h1]
    refine iteT ⟨_, _, rfl, rfl, _, rfl, ?_⟩
    rw [decide_eq_true h2]
    exact iteF k
/-- web_of -/
def spWebOf (C : Addr) : Sp := fun vs H Q _ => ∃ (l : Addr) (ps : List (Addr × Tie)) (n : Nat), vs = [.ref l] ∧ H l = some (.lst (refs ps)) ∧ At tieV H ps ∧ WebOk n (ps.map (·.2)) ∧
  ∀ (y : Addr) (ts : List Tie) (H' : Hp), Same H H' → ts.Perm (ps.map (·.2)) → WebAt C H' y n ts → Q (.ref y) H'
theorem make_same4 {H H3 : Hp} {x dx : Addr} {o1 o2 : HO} (b : But x (upd (upd H dx o1) x o2) H3) (nx : H x = none) (nd : H dx = none) : Same H H3 := fun a o e => by
  have n1 : a ≠ x := ne_of_none e nx
  have n2 : a ≠ dx := ne_of_none e nd
  exact b a o (by rw [upd_ne n1, upd_ne n2]; exact e) n1
theorem ok_webof {f fI fP : Addr} {fd fdI fdP : FuncData} (F : Fun K "web_of" "web_of" sWebOf f fd)
    (GI : FnOk P w K mg base CX0 6 fI fdI ["self", "text"] (spInit C)) (bI : Binds K fdI ["self", "text"] []) (MW : Mk K C fI) (mW : mg "Web" = some (.ref C))
    (GP : FnOk P w K mg base CX0 1 fP fdP ["ties"] (spPlain K)) (FP : Fun K "plain_text" "plain_text" sPlain fP fdP) (bP : Binds K fdP ["ties"] []) (mP : mg "plain_text" = some (.ref fP)) :
    FnOk P w K mg base CX0 8 f fd ["ties"] (spWebOf C) := by
  refine F.ok scWebOf (fun vs H Q E h => ?_) (fun cdv A outer s H vs Q E hr h => ?_)
  · obtain ⟨l, ps, n, rfl, _⟩ := h
    rfl
  · obtain ⟨l, ps, n, rfl, hl, hA, wk, k⟩ := h
    have hr1 : Room 1 _ := hr.mono (by decide)
    have hr7 : Room 7 _ := hr
    refine ⟨_, (pss_one (ps_ret (pe_make MW GI hr7 rfl mW bI .nil pass0 (pa_cons (pe_call GP hr1 (by rfl) mP FP.kp bP .nil pass0 (pa_cons (pv 0) pa_nil)) pa_nil)))), ?_⟩
    refine ⟨_, rfl, l, ps, n, rfl, hl, hA, wk, fun ts H2 s2 hp2 srt2 => ?_⟩
    have wkt : WebOk n ts := wk.perm hp2.symm
    refine fun y dy ny ndy ne => ⟨y, dy, _, _, n, rfl, upd_same, (by rw [nrm_map fun t ht => (wkt.lt t ht).1]), wkt, srt2, fun H3 b3 wb3 _ => ⟨rfl, k y ts H3 (Same.trans s2 (make_same4 b3 ny ndy)) hp2 wb3⟩⟩
def spRing (C : Addr) : Sp := fun vs H Q _ => ∃ n : Nat, vs = [.int (n : Int)] ∧ 3 ≤ n ∧ n ≤ 10 ∧ ∀ (y : Addr) (ts : List Tie) (H' : Hp), Same H H' → ts.Perm (ringL n) → WebAt C H' y n ts → Q (.ref y) H'
theorem ok_ring {f fC fW fB : Addr} {fd fdC fdW fdB : FuncData} (F : Fun K "ring" "ring" sRing f fd) (mrange : mg "range" = none)
    (GC : FnOk P w K mg base CX0 2 fC fdC ["houses"] spCkRound) (FC : Fun K "check_round" "check_round" sCkRound fC fdC) (bC : Binds K fdC ["houses"] []) (mC : mg "check_round" = some (.ref fC))
    (GW : FnOk P w K mg base CX0 8 fW fdW ["ties"] (spWebOf C)) (FW : Fun K "web_of" "web_of" sWebOf fW fdW) (bW : Binds K fdW ["ties"] []) (mW : mg "web_of" = some (.ref fW))
    (GB : FnOk P w K mg base CX0 1 fB fdB ["house", "mark", "other", "back"] spBetw) (FB : Fun K "tie_between" "tie_between" sBetw fB fdB) (bB : Binds K fdB ["house", "mark", "other", "back"] []) (mB : mg "tie_between" = some (.ref fB)) :
    FnOk P w K mg base CX0 9 f fd ["houses"] (spRing C) := by
  refine F.ok scRing (fun vs H Q E h => ?_) (fun cdv A outer s H vs Q E hr h => ?_)
  · obtain ⟨n, rfl, _⟩ := h
    rfl
  · obtain ⟨n, rfl, h1, h2, k⟩ := h
    have hr1 : Room 1 _ := hr.mono (by decide)
    have hr2 : Room 2 _ := hr.mono (by decide)
    have hr8 : Room 8 _ := hr
    refine ⟨_, (C8.pss_cut (ps_expr (pe_call GC hr2 (by rfl) mC FC.kp bC .nil pass0 (pa_cons (pv 0) pa_nil))) (pss_one (ps_ret (pe_call GW hr8 (by rfl) mW FW.kp bW .nil pass0 (pa_cons (pe_lc (own := [("house", 1)]) (g := gName 1) (tt := tYes) rfl scRing.nd (pi_range1 (by rfl) mrange (pa_cons (pv 0) pa_nil)) (blkOk_by (N := ["houses", "house"]) (own := [("house", 1)]) (sc := defScope sRing) (by decide +kernel)) (fun _ _ _ _ _ => (pg_name (i := 1) scRing.nd rfl (.inl rfl))) (fun _ _ _ _ _ => pts_nil) (fun _ _ _ _ _ => (pe_call GB hr1 (by rfl) mB FB.kp bB .nil pass0 (pa_cons (pv 1) (pa_cons pe_str (pa_cons (pe_op op_mod (pe_op op_add (pv 1) pe_int) (pv 0)) (pa_cons pe_str pa_nil))))))) pa_nil))))), ?_⟩
    refine ⟨fun σ H' => H = H' ∧ σ = [some (.int (n : Int)), none], ?_, ?_⟩
    · exact ⟨_, rfl, (n : Int), rfl, by omega, by omega, rfl, rfl⟩
    rintro σ H' ⟨rfl, rfl⟩
    refine ⟨_, rfl, (n : Int), rfl, by omega, by omega, fun D nD => ?_⟩
    rw [show ((n : Int)).toNat = n from Int.toNat_natCast n]
    refine lc_range (lo := 0) (n := n) (fun i H' => Same H H' ∧ ∃ ps : List (Addr × Tie), H' D = some (.lst (refs ps)) ∧ At tieV H' ps ∧ ps.map (·.2) = (List.range i).map (ringT n)) ⟨same_upd nD, [], upd_same, (fun p hp => by cases hp), rfl⟩ ?_ ?_
    · rintro i H2 hi ⟨s2, ps, hD, hP, hp⟩
      rw [show (0 : Int) + (i : Int) = (i : Int) from Int.zero_add _]
      refine ⟨rfl, _, rfl, _, rfl, _, _, rfl, rfl, _, rfl, _, _, rfl, rfl, (by show (0 : Int) < (n : Int); omega), ⟨i, 97, (i + 1) % n, 98⟩, ?_, fun p H3 s3 np hp3 => ?_⟩
      · rfl
      have hD3 := s3 _ _ hD
      have eql : ps.length = i := by
        have e := congrArg List.length hp
        rw [List.length_map, List.length_map, List.length_range] at e
        exact e
      refine ⟨_, hD3, ?_, ((Same.trans s2 s3).own nD), ps ++ [(p, ringT n i)], ?_, ?_, ?_⟩
      · rw [refs_len, eql]
        exact small1000 (by omega)
      · rw [upd_same, refs_app]
        rfl
      · exact At.snoc ((hP.same s3).mono (upd_tup hD3)) (upd_tup hD3 _ _ hp3)
      · rw [List.map_append, hp, List.range_succ, List.map_append]
        rfl
    · rintro H2 ⟨s2, ps, hD, hP, hp⟩
      have e : ps.map (·.2) = ringL n := hp
      exact ⟨D, ps, n, rfl, hD, hP, by rw [e]; exact ring_web n h1 h2, fun y ts H3 s3 pm wb => k y ts H3 (Same.trans s2 s3) (by rw [← e]; exact pm) wb⟩
def spBoard (C : Addr) : Sp := fun vs H Q _ => vs = [.int 3, .int 3] ∧ ∀ (y : Addr) (ts : List Tie) (H' : Hp), Same H H' → ts.Perm boardL → WebAt C H' y 9 ts → Q (.ref y) H'
theorem ok_board {f fC fW fB : Addr} {fd fdC fdW fdB : FuncData} (F : Fun K "board" "board" sBoard f fd) (mrange : mg "range" = none) {tH : Tok} (mH : mg "MOST_HOUSES" = some (.int 10 tH))
    (GC : FnOk P w K mg base CX0 2 fC fdC ["houses"] spCkRound) (FC : Fun K "check_round" "check_round" sCkRound fC fdC) (bC : Binds K fdC ["houses"] []) (mC : mg "check_round" = some (.ref fC))
    (GW : FnOk P w K mg base CX0 8 fW fdW ["ties"] (spWebOf C)) (FW : Fun K "web_of" "web_of" sWebOf fW fdW) (bW : Binds K fdW ["ties"] []) (mW : mg "web_of" = some (.ref fW))
    (GB : FnOk P w K mg base CX0 1 fB fdB ["house", "mark", "other", "back"] spBetw) (FB : Fun K "tie_between" "tie_between" sBetw fB fdB) (bB : Binds K fdB ["house", "mark", "other", "back"] []) (mB : mg "tie_between" = some (.ref fB)) :
    FnOk P w K mg base CX0 9 f fd ["wide", "high"] (spBoard C) := by
  refine F.ok scBoard (fun vs H Q E h => ?_) (fun cdv A outer s H vs Q E hr h => ?_)
  · obtain ⟨rfl, _⟩ := h
    rfl
  · obtain ⟨rfl, k⟩ := h
    have hr1 : Room 1 _ := hr.mono (by decide)
    have hr2 : Room 2 _ := hr.mono (by decide)
    have hr8 : Room 8 _ := hr
    refine ⟨_, (C8.pss_cut (ps_expr (pe_call GC hr2 (by rfl) mC FC.kp bC .nil pass0 (pa_cons (pv 0) pa_nil))) (C8.pss_cut (ps_expr (pe_call GC hr2 (by rfl) mC FC.kp bC .nil pass0 (pa_cons (pv 1) pa_nil))) (pss_cons (ps_if (pt_cmpR op_gt (pe_op op_mul (pv 0) (pv 1)) (pe_glob (v := .int 10) rfl mH ⟨_, rfl⟩) (nomark _)) pss_never pss_nil) (C8.pss_cut (ps_set (i := 2) scBoard.nd rfl (.inl rfl) (pe_lst pa_nil)) (C8.pss_cut (ps_for PassesOwn.never rfl (pi_range1 (by rfl) mrange (pa_cons (pv 1) pa_nil)) (pg_name (i := 3) scBoard.nd rfl (.inl rfl)) (pss_one (ps_for PassesOwn.never rfl (pi_range1 (by rfl) mrange (pa_cons (pv 0) pa_nil)) (pg_name (i := 4) scBoard.nd rfl (.inl rfl)) (C8.pss_cut (ps_set (i := 5) scBoard.nd rfl (.inl rfl) (pe_op op_add (pe_op op_mul (pv 3) (pv 0)) (pv 4))) (C8.pss_cut (ps_expr (pe_bm PySem.F.plainAttrs_list PySem.F.slot_list_append PySem.F.type_list_append mt_append (pv 2) (pa_cons (pe_call GB hr1 (by rfl) mB FB.kp bB .nil pass0 (pa_cons (pv 5) (pa_cons pe_str (pa_cons (pe_op op_add (pe_op op_mul (pv 3) (pv 0)) (pe_op op_mod (pe_op op_add (pv 4) pe_int) (pv 0))) (pa_cons pe_str pa_nil))))) pa_nil))) (pss_one (ps_expr (pe_bm PySem.F.plainAttrs_list PySem.F.slot_list_append PySem.F.type_list_append mt_append (pv 2) (pa_cons (pe_call GB hr1 (by rfl) mB FB.kp bB .nil pass0 (pa_cons (pv 5) (pa_cons pe_str (pa_cons (pe_op op_add (pe_op op_mul (pe_op op_mod (pe_op op_add (pv 3) pe_int) (pv 1)) (pv 0)) (pv 4)) (pa_cons pe_str pa_nil))))) pa_nil))))))))) (pss_one (ps_ret (pe_call GW hr8 (by rfl) mW FW.kp bW .nil pass0 (pa_cons (pv 2) pa_nil))))))))), ?_⟩
    refine ⟨fun σ H' => H = H' ∧ σ = [some (.int 3), some (.int 3), none, none, none, none], ⟨_, rfl, (3 : Int), rfl, by decide, by decide, rfl, rfl⟩, ?_⟩
    rintro σ H' ⟨rfl, rfl⟩
    refine ⟨fun σ H' => H = H' ∧ σ = [some (.int 3), some (.int 3), none, none, none, none], ⟨_, rfl, (3 : Int), rfl, by decide, by decide, rfl, rfl⟩, ?_⟩
    rintro σ H' ⟨rfl, rfl⟩
    refine ⟨_, rfl, _, rfl, _, _, rfl, rfl, .inl ⟨by decide, by decide⟩, _, _, rfl, rfl, _, rfl, ?_⟩
    refine iteF ?_
    refine ⟨fun σ H' => Same H H' ∧ ∃ D : Addr, H D = none ∧ H' D = some (.lst []) ∧ σ = [some (.int 3), some (.int 3), some (.ref D), none, none, none], ?_, ?_⟩
    · exact ⟨Nat.zero_le _, fun D nD => ⟨same_upd nD, D, nD, upd_same, rfl⟩⟩
    rintro σ H1 ⟨s1, D, nD, hD, rfl⟩
    refine ⟨fun σ H' => Same H H' ∧ ∃ (ps : List (Addr × Tie)) (v1 v2 v3 : Option V), H' D = some (.lst (refs ps)) ∧ At tieV H' ps ∧ ps.map (·.2) = boardL ∧ σ = [some (.int 3), some (.int 3), some (.ref D), v1, v2, v3], ?_, ?_⟩
    · refine ⟨_, rfl, (3 : Int), rfl, by decide, by decide, ?_⟩
      refine for_range (lo := 0) (n := 3) (fun i σ H' => Same H H' ∧ ∃ (ps : List (Addr × Tie)) (v1 v2 v3 : Option V), H' D = some (.lst (refs ps)) ∧ At tieV H' ps ∧ ps.map (·.2) = boardL.take (6 * i) ∧ σ = [some (.int 3), some (.int 3), some (.ref D), v1, v2, v3])
        ⟨s1, [], none, none, none, hD, (fun p hp => by cases hp), rfl, rfl⟩ ?_ ?_
      · rintro i σ H2 hi ⟨s2, ps, v1, v2, v3, hD2, hP, hp, rfl⟩
        rw [show (0 : Int) + (i : Int) = (i : Int) from Int.zero_add _]
        refine ⟨_, rfl, (3 : Int), rfl, by decide, by decide, ?_⟩
        refine for_range (lo := 0) (n := 3) (fun j σ H' => Same H H' ∧ ∃ (ps : List (Addr × Tie)) (v2 v3 : Option V), H' D = some (.lst (refs ps)) ∧ At tieV H' ps ∧ ps.map (·.2) = boardL.take (6 * i + 2 * j) ∧ σ = [some (.int 3), some (.int 3), some (.ref D), some (.int (i : Int)), v2, v3])
          ⟨s2, ps, v2, v3, hD2, hP, hp, rfl⟩ ?_ ?_
        · rintro j σ H3 hj ⟨s3, ps, v2, v3, hD3, hP3, hp3, rfl⟩
          rw [show (0 : Int) + (j : Int) = (j : Int) from Int.zero_add _]
          have sel : ∀ i : Fin 3, ∀ j : Fin 3, boardL.take (6 * i.val + 2 * j.val + 1) = boardL.take (6 * i.val + 2 * j.val) ++ [nrm ⟨3 * i.val + j.val, 97, 3 * i.val + (j.val + 1) % 3, 98⟩] ∧
              boardL.take (6 * i.val + 2 * (j.val + 1)) = boardL.take (6 * i.val + 2 * j.val + 1) ++ [nrm ⟨3 * i.val + j.val, 99, 3 * ((i.val + 1) % 3) + j.val, 100⟩] := by decide +kernel
          obtain ⟨e1, e2⟩ := sel ⟨i, hi⟩ ⟨j, hj⟩
          have pl : ps.length ≤ 18 := by
            have e := congrArg List.length hp3
            rw [List.length_map, List.length_take] at e
            have : boardL.length = 18 := by decide +kernel
            omega
          refine ⟨fun σ H' => H3 = H' ∧ σ = [some (.int 3), some (.int 3), some (.ref D), some (.int (i : Int)), some (.int (j : Int)), some (.int ((3 * i + j : Nat) : Int))], ?_, ?_⟩
          · refine ⟨_, rfl, _, rfl, _, _, rfl, rfl, .inr ⟨by decide, by decide⟩, _, rfl, _, _, rfl, rfl, rfl, ?_⟩
            rw [show ((3 * i + j : Nat) : Int) = (i : Int) * 3 + (j : Int) by omega]
            rfl
          rintro σ H' ⟨rfl, rfl⟩
          refine ⟨fun σ H' => Same H H' ∧ ∃ ps : List (Addr × Tie), H' D = some (.lst (refs ps)) ∧ At tieV H' ps ∧ ps.map (·.2) = boardL.take (6 * i + 2 * j + 1) ∧ σ = [some (.int 3), some (.int 3), some (.ref D), some (.int (i : Int)), some (.int (j : Int)), some (.int ((3 * i + j : Nat) : Int))], ?_, ?_⟩
          · refine ⟨_, rfl, .inl ⟨rfl, _, SqL.of hD3⟩, _, rfl, _, rfl, _, rfl, _, _, rfl, rfl, .inr ⟨by decide, by decide⟩, _, rfl, _, _, rfl, rfl, _, rfl, _, _, rfl, rfl, (by show (0 : Int) < 3; decide), _, _, rfl, rfl, ⟨3 * i + j, 97, 3 * i + (j + 1) % 3, 98⟩, ?_, fun p H4 s4 np hp4 => ?_⟩
            · show [V.int ((3 * i + j : Nat) : Int), V.str "a", V.int ((i : Int) * 3 + ((j : Int) + 1) % 3), V.str "b"] = [V.int ((3 * i + j : Nat) : Int), sV 97, V.int ((3 * i + (j + 1) % 3 : Nat) : Int), sV 98]
              rw [show ((i : Int) * 3 + ((j : Int) + 1) % 3) = ((3 * i + (j + 1) % 3 : Nat) : Int) by omega]
              rfl
            · have hD4 := s4 _ _ hD3
              refine ⟨_, _, _, rfl, rfl, hD4, (by rw [refs_len]; exact small1000 (by omega)), ((Same.trans s3 s4).own nD), ps ++ [(p, nrm ⟨3 * i + j, 97, 3 * i + (j + 1) % 3, 98⟩)], ?_, ?_, ?_, rfl⟩
              · rw [upd_same, refs_app]
                rfl
              · exact At.snoc ((hP3.same s4).mono (upd_tup hD4)) (upd_tup hD4 _ _ hp4)
              · rw [List.map_append, hp3]
                exact e1.symm
          rintro σ H4 ⟨s4, ps, hD4, hP4, hp4, rfl⟩
          have pl : ps.length ≤ 18 := by
            have e := congrArg List.length hp4
            rw [List.length_map, List.length_take] at e
            have : boardL.length = 18 := by decide +kernel
            omega
          refine ⟨_, rfl, .inl ⟨rfl, _, SqL.of hD4⟩, _, rfl, _, rfl, _, _, rfl, rfl, _, rfl, _, _, rfl, rfl, (by show (0 : Int) < 3; decide), _, rfl, _, _, rfl, rfl, .inr ⟨by decide, by decide⟩, _, rfl, _, _, rfl, rfl, ⟨3 * i + j, 99, 3 * ((i + 1) % 3) + j, 100⟩, ?_, fun p H5 s5 np hp5 => ?_⟩
          · show [V.int ((3 * i + j : Nat) : Int), V.str "c", V.int (((i : Int) + 1) % 3 * 3 + (j : Int)), V.str "d"] = [V.int ((3 * i + j : Nat) : Int), sV 99, V.int ((3 * ((i + 1) % 3) + j : Nat) : Int), sV 100]
            rw [show (((i : Int) + 1) % 3 * 3 + (j : Int)) = ((3 * ((i + 1) % 3) + j : Nat) : Int) by omega]
            rfl
          · have hD5 := s5 _ _ hD4
            refine ⟨_, _, _, rfl, rfl, hD5, (by rw [refs_len]; exact small1000 (by omega)), ((Same.trans s4 s5).own nD), ps ++ [(p, nrm ⟨3 * i + j, 99, 3 * ((i + 1) % 3) + j, 100⟩)], _, _, ?_, ?_, ?_, rfl⟩
            · rw [upd_same, refs_app]
              rfl
            · exact At.snoc ((hP4.same s5).mono (upd_tup hD5)) (upd_tup hD5 _ _ hp5)
            · rw [List.map_append, hp4]
              exact e2.symm
        · rintro σ H3 ⟨s3, ps, v2, v3, hD3, hP3, hp3, rfl⟩
          exact ⟨s3, ps, _, _, _, hD3, hP3, by rw [hp3, show 6 * i + 2 * 3 = 6 * (i + 1) by omega], rfl⟩
      · rintro σ H2 ⟨s2, ps, v1, v2, v3, hD2, hP, hp, rfl⟩
        exact ⟨s2, ps, _, _, _, hD2, hP, hp.trans (by decide +kernel), rfl⟩
    rintro σ H2 ⟨s2, ps, v1, v2, v3, hD2, hP, hp, rfl⟩
    exact ⟨_, rfl, D, ps, 9, rfl, hD2, hP, by rw [hp]; exact board_web, fun y ts H3 s3 pm wb => k y ts H3 (Same.trans s2 s3) (by rw [← hp]; exact pm) wb⟩
end
end Wh

namespace Wh
open PySem L2
/-! ### two houses walk by one word -/
def step2 (ts : List Tie) (q : Pr) (m : Nat) : Option Pr := (door q.1 m ts).bind fun a => (door q.2 m ts).map fun b => (a, b)
def walk2 (ts : List Tie) : Pr → List Nat → Option Pr
  | q, [] => some q
  | q, m :: ms => (step2 ts q m).bind fun r => walk2 ts r ms
theorem step2_some {ts : List Tie} {q r : Pr} {m : Nat} : step2 ts q m = some r ↔ door q.1 m ts = some r.1 ∧ door q.2 m ts = some r.2 := by
  unfold step2
  cases h1 : door q.1 m ts with
  | none => simp
  | some a =>
    cases h2 : door q.2 m ts with
    | none => simp
    | some b =>
      simp only [Option.bind_some, Option.map_some, Option.some.injEq]
      constructor
      · rintro rfl
        exact ⟨rfl, rfl⟩
      · rintro ⟨rfl, rfl⟩
        rfl
theorem walk2_some {ts : List Tie} : ∀ {ms : List Nat} {q r : Pr}, walk2 ts q ms = some r ↔ walkN ts q.1 ms = some r.1 ∧ walkN ts q.2 ms = some r.2
  | [], q, r => by
    show some q = some r ↔ some q.1 = some r.1 ∧ some q.2 = some r.2
    simp only [Option.some.injEq]
    exact Prod.ext_iff
  | m :: ms, q, r => by
    show (step2 ts q m).bind _ = some r ↔ (door q.1 m ts).bind _ = some r.1 ∧ (door q.2 m ts).bind _ = some r.2
    unfold step2
    cases h1 : door q.1 m ts with
    | none => simp
    | some a =>
      cases h2 : door q.2 m ts with
      | none => simp
      | some b => exact walk2_some (ms := ms) (q := (a, b))
theorem walk2_app (ts : List Tie) : ∀ (xs ys : List Nat) (q : Pr), walk2 ts q (xs ++ ys) = (walk2 ts q xs).bind fun r => walk2 ts r ys
  | [], _, _ => rfl
  | x :: xs, ys, q => by
    show (step2 ts q x).bind _ = ((step2 ts q x).bind _).bind _
    cases step2 ts q x with
    | none => rfl
    | some k => exact walk2_app ts xs ys k
theorem walk2_snoc {ts : List Tie} {q r s : Pr} {u : List Nat} {m : Nat} (h : walk2 ts q u = some r) (k : step2 ts r m = some s) : walk2 ts q (u ++ [m]) = some s := by
  rw [walk2_app, h]
  show (step2 ts r m).bind _ = some s
  rw [k]
  rfl
theorem walk2_last {ts : List Tie} {q s : Pr} {w : List Nat} (h : walk2 ts q w = some s) (ne : w ≠ []) : ∃ u m r, w = u ++ [m] ∧ walk2 ts q u = some r ∧ step2 ts r m = some s := by
  obtain ⟨u, m, rfl⟩ : ∃ u m, w = u ++ [m] := ⟨w.dropLast, w.getLast ne, (List.dropLast_concat_getLast ne).symm⟩
  rw [walk2_app] at h
  cases e : walk2 ts q u with
  | none =>
    rw [e] at h
    cases h
  | some r =>
    rw [e] at h
    refine ⟨u, m, r, rfl, e, ?_⟩
    have h : (step2 ts r m).bind (fun t => some t) = some s := h
    cases e2 : step2 ts r m with
    | none =>
      rw [e2] at h
      cases h
    | some t =>
      rw [e2] at h
      exact h
theorem step2_mark {ts : List Tie} {q r : Pr} {m : Nat} (h : step2 ts q m = some r) : m ∈ marksAt q.1 ts ∧ m ∈ marksAt q.2 ts := by
  obtain ⟨h1, h2⟩ := step2_some.mp h
  exact ⟨doorsAt_fst q.1 ts ▸ List.mem_map_of_mem (door_mem h1), doorsAt_fst q.2 ts ▸ List.mem_map_of_mem (door_mem h2)⟩
theorem step2_lt {n : Nat} {ts : List Tie} {q r : Pr} {m : Nat} (w : WebOk n ts) (h : step2 ts q m = some r) : r.1 < n ∧ r.2 < n := by
  obtain ⟨h1, h2⟩ := step2_some.mp h
  exact ⟨door_lt w h1, door_lt w h2⟩
/-! ### a walk through all, breadth first -/
abbrev En := Pr × List Nat
def qu (p0 : Pr) (es : List En) : List En := (p0, []) :: es
/-- what the queue holds: entries below i are done, entry i for the marks in done -/
structure Bfs (n : Nat) (ts : List Tie) (p0 : Pr) (es : List En) (i : Nat) (done : List Nat) : Prop where
  sound : ∀ e ∈ es, e.2 ≠ [] ∧ walk2 ts p0 e.2 = some e.1
  nd : (es.map (·.1)).Nodup
  lt : ∀ e ∈ es, e.1.1 < n ∧ e.1.2 < n
  lets : ∀ e ∈ es, ∀ m ∈ e.2, m ∈ letters
  closed : ∀ (k : Nat) (e : En), k < i → (qu p0 es)[k]? = some e → ∀ m r, step2 ts e.1 m = some r → ∃ f ∈ es, f.1 = r ∧ f.2.length ≤ e.2.length + 1
  part : ∀ e : En, (qu p0 es)[i]? = some e → ∀ m ∈ done, ∀ r, step2 ts e.1 m = some r → ∃ f ∈ es, f.1 = r ∧ f.2.length ≤ e.2.length + 1
  mono : ∀ (k l : Nat) (e f : En), k ≤ l → (qu p0 es)[k]? = some e → (qu p0 es)[l]? = some f → e.2.length ≤ f.2.length
  top : ∀ e : En, (qu p0 es)[i]? = some e → ∀ f ∈ es, f.2.length ≤ e.2.length + 1
  len : ∀ (k : Nat) (e : En), (qu p0 es)[k]? = some e → e.2.length ≤ k
theorem Bfs.init (n : Nat) (ts : List Tie) (p0 : Pr) : Bfs n ts p0 [] 0 [] := by
  refine ⟨(fun e h => by cases h), List.nodup_nil, (fun e h => by cases h), (fun e h => by cases h), (fun k e h => by omega), (fun e _ m h => by cases h), fun k l e f _ h1 h2 => ?_, (fun e _ f h => by cases h), fun k e h => ?_⟩
  · match k, l, h1, h2 with
    | 0, 0, h1, h2 =>
      rw [h1] at h2
      obtain rfl := Option.some.inj h2
      exact Nat.le_refl _
    | 0, l + 1, _, h2 => cases h2
    | k + 1, _, h1, _ => cases h1
  · match k, h with
    | 0, h =>
      obtain rfl := Option.some.inj h
      exact Nat.le_refl _
    | k + 1, h => cases h
theorem qu_len (p0 : Pr) (es : List En) : (qu p0 es).length = es.length + 1 := rfl
theorem qu_old {p0 : Pr} {es : List En} {x : En} {k : Nat} {e : En} (h : (qu p0 es)[k]? = some e) : (qu p0 (es ++ [x]))[k]? = some e := by
  have hk : k < (qu p0 es).length := (List.getElem?_eq_some_iff.mp h).1
  show ((p0, []) :: (es ++ [x]))[k]? = some e
  rw [show ((p0, ([] : List Nat)) :: (es ++ [x])) = qu p0 es ++ [x] from rfl, List.getElem?_append_left hk]
  exact h
theorem qu_cases {p0 : Pr} {es : List En} {x : En} {k : Nat} {e : En} (h : (qu p0 (es ++ [x]))[k]? = some e) : (qu p0 es)[k]? = some e ∨ (k = es.length + 1 ∧ e = x) := by
  have h' : (qu p0 es ++ [x])[k]? = some e := h
  by_cases hk : k < (qu p0 es).length
  · rw [List.getElem?_append_left hk] at h'
    exact .inl h'
  · rw [List.getElem?_append_right (by omega)] at h'
    have hl : (qu p0 es).length = es.length + 1 := rfl
    match e2 : k - (qu p0 es).length, h' with
    | 0, h' => exact .inr ⟨by omega, (Option.some.inj h').symm⟩
    | j + 1, h' => cases h'
theorem Bfs.skip {n : Nat} {ts : List Tie} {p0 : Pr} {es : List En} {i m : Nat} {done : List Nat} (B : Bfs n ts p0 es i done) (h : ∀ e, (qu p0 es)[i]? = some e → ∀ r, step2 ts e.1 m = some r → r ∈ es.map (·.1)) : Bfs n ts p0 es i (done ++ [m]) :=
  ⟨B.sound, B.nd, B.lt, B.lets, B.closed, fun e he k hk r hr => by
    rcases List.mem_append.mp hk with z | z
    · exact B.part e he k z r hr
    · have z : k = m := by simpa using z
      obtain ⟨f, hf, e1⟩ := List.mem_map.mp (h e he r (z ▸ hr))
      exact ⟨f, hf, e1, B.top e he f hf⟩, B.mono, B.top, B.len⟩
theorem Bfs.add {n : Nat} {ts : List Tie} {p0 : Pr} {es : List En} {i m : Nat} {done : List Nat} {e : En} {r : Pr} (wk : WebOk n ts) (B : Bfs n ts p0 es i done) (he : (qu p0 es)[i]? = some e) (hr : step2 ts e.1 m = some r) (new : r ∉ es.map (·.1)) :
    Bfs n ts p0 (es ++ [(r, e.2 ++ [m])]) i (done ++ [m]) := by
  have hw : walk2 ts p0 e.2 = some e.1 := by
    match i, he with
    | 0, he =>
      obtain rfl := Option.some.inj he
      rfl
    | i + 1, he => exact (B.sound e (List.mem_of_getElem? he)).2
  have hl : ∀ k ∈ e.2, k ∈ letters := by
    match i, he with
    | 0, he =>
      obtain rfl := Option.some.inj he
      exact fun k hk => by cases hk
    | i + 1, he => exact B.lets e (List.mem_of_getElem? he)
  have hi : i < (qu p0 es).length := (List.getElem?_eq_some_iff.mp he).1
  have hi2 : i ≤ es.length := by rw [qu_len] at hi; omega
  have lm : m ∈ letters := marks_let wk _ _ (step2_mark hr).1
  have len1 : (e.2 ++ [m]).length = e.2.length + 1 := by rw [List.length_append]; rfl
  have all : ∀ f ∈ es ++ [(r, e.2 ++ [m])], f.2.length ≤ e.2.length + 1 := fun f hf => by
    rcases List.mem_append.mp hf with z | z
    · exact B.top e he f z
    · rw [List.mem_singleton.mp z]
      exact Nat.le_of_eq len1
  have keep : ∀ {k : Nat} {f : En}, k ≤ i → (qu p0 (es ++ [(r, e.2 ++ [m])]))[k]? = some f → (qu p0 es)[k]? = some f := fun hk h => (qu_cases h).elim id fun z => by omega
  refine ⟨fun f hf => ?_, ?_, fun f hf => ?_, fun f hf => ?_, fun k f hk hf m2 r2 h2 => ?_, fun f hf m2 hm2 r2 h2 => ?_, fun k l f g hkl hf hg => ?_, fun f hf => ?_, fun k f hf => ?_⟩
  · rcases List.mem_append.mp hf with z | z
    · exact B.sound f z
    · rw [List.mem_singleton.mp z]
      exact ⟨by simp, walk2_snoc hw hr⟩
  · rw [List.map_append]
    exact nd_snoc B.nd new
  · rcases List.mem_append.mp hf with z | z
    · exact B.lt f z
    · rw [List.mem_singleton.mp z]
      exact step2_lt wk hr
  · rcases List.mem_append.mp hf with z | z
    · exact B.lets f z
    · rw [List.mem_singleton.mp z]
      intro k hk
      rcases List.mem_append.mp hk with y | y
      · exact hl k y
      · rw [List.mem_singleton.mp y]
        exact lm
  · obtain ⟨g, hg, e1⟩ := B.closed k f hk (keep (by omega) hf) m2 r2 h2
    exact ⟨g, List.mem_append_left _ hg, e1⟩
  · have hf' := keep (Nat.le_refl _) hf
    obtain rfl : f = e := Option.some.inj (hf'.symm.trans he)
    rcases List.mem_append.mp hm2 with z | z
    · obtain ⟨g, hg, e1⟩ := B.part f he m2 z r2 h2
      exact ⟨g, List.mem_append_left _ hg, e1⟩
    · have z : m2 = m := by simpa using z
      subst z
      obtain rfl := Option.some.inj (h2.symm.trans hr)
      exact ⟨_, List.mem_append_right _ (List.mem_singleton.mpr rfl), rfl, Nat.le_of_eq len1⟩
  · rcases qu_cases hf with hf' | ⟨ek, rfl⟩
    · rcases qu_cases hg with hg' | ⟨el, rfl⟩
      · exact B.mono k l f g hkl hf' hg'
      · show f.2.length ≤ (e.2 ++ [m]).length
        rw [len1]
        match k, hf' with
        | 0, hf' =>
          obtain rfl := Option.some.inj hf'
          exact Nat.zero_le _
        | k + 1, hf' => exact B.top e he f (List.mem_of_getElem? hf')
    · rcases qu_cases hg with hg' | ⟨el, rfl⟩
      · have := (List.getElem?_eq_some_iff.mp hg').1
        rw [qu_len] at this
        omega
      · exact Nat.le_refl _
  · obtain rfl : f = e := Option.some.inj ((keep (Nat.le_refl _) hf).symm.trans he)
    exact all
  · rcases qu_cases hf with hf' | ⟨ek, rfl⟩
    · exact B.len k f hf'
    · show (e.2 ++ [m]).length ≤ k
      have := B.len i e he
      rw [len1]
      omega
theorem Bfs.next {n : Nat} {ts : List Tie} {p0 : Pr} {es : List En} {i : Nat} {done : List Nat} {e : En} (B : Bfs n ts p0 es i done) (he : (qu p0 es)[i]? = some e) (all : ∀ m, m ∈ marksAt e.1.1 ts → m ∈ done) : Bfs n ts p0 es (i + 1) [] := by
  refine ⟨B.sound, B.nd, B.lt, B.lets, fun k f hk hf m r h => ?_, (fun f _ m h => by cases h), B.mono, fun f hf g hg => ?_, B.len⟩
  · by_cases z : k = i
    · subst z
      obtain rfl : f = e := Option.some.inj (hf.symm.trans he)
      exact B.part f he m (all m (step2_mark h).1) r h
    · exact B.closed k f (by omega) hf m r h
  · have h1 := B.mono i (i + 1) e f (Nat.le_succ i) he hf
    have h2 := B.top e he g hg
    omega
theorem pr_few {n : Nat} {l : List Pr} (nd : l.Nodup) (lt : ∀ q ∈ l, q.1 < n ∧ q.2 < n) : l.length ≤ n * n := by
  have h : ∀ q ∈ l, q ∈ (List.range n).flatMap fun a => (List.range n).map fun b => (a, b) := fun q hq => by
    obtain ⟨h1, h2⟩ := lt q hq
    exact List.mem_flatMap.mpr ⟨q.1, List.mem_range.mpr h1, List.mem_map.mpr ⟨q.2, List.mem_range.mpr h2, rfl⟩⟩
  have := nd_sub_len nd h
  have e : ((List.range n).flatMap fun a => (List.range n).map fun b => ((a, b) : Pr)).length = n * n := by
    rw [List.length_flatMap]
    have e2 : ((List.range n).map fun a => ((List.range n).map fun b => ((a, b) : Pr)).length) = List.replicate n n := by
      rw [List.eq_replicate_iff]
      refine ⟨by simp, fun x hx => ?_⟩
      obtain ⟨a, _, rfl⟩ := List.mem_map.mp hx
      simp
    rw [e2, List.sum_replicate_nat]
  omega
theorem Bfs.few {n : Nat} {ts : List Tie} {p0 : Pr} {es : List En} {i : Nat} {done : List Nat} (B : Bfs n ts p0 es i done) : es.length ≤ n * n := by
  have := pr_few B.nd (n := n) fun q hq => by
    obtain ⟨e, he, rfl⟩ := List.mem_map.mp hq
    exact B.lt e he
  rwa [List.length_map] at this
/-- the walk's end: each pair that a word leads to, with a shortest such word -/
structure Beside (n : Nat) (ts : List Tie) (p0 : Pr) (es : List En) : Prop where
  nd : (es.map (·.1)).Nodup
  sound : ∀ e ∈ es, e.2 ≠ [] ∧ walk2 ts p0 e.2 = some e.1
  lets : ∀ e ∈ es, ∀ m ∈ e.2, m ∈ letters
  short : ∀ w r, w ≠ [] → walk2 ts p0 w = some r → ∃ e ∈ es, e.1 = r ∧ e.2.length ≤ w.length
  len : ∀ e ∈ es, e.2.length ≤ n * n
theorem Bfs.end {n : Nat} {ts : List Tie} {p0 : Pr} {es : List En} {i : Nat} {done : List Nat} (B : Bfs n ts p0 es i done) (hi : es.length + 1 ≤ i) : Beside n ts p0 es := by
  have key : ∀ (k : Nat) (w : List Nat) (r : Pr), w.length = k → walk2 ts p0 w = some r → ∃ (j : Nat) (e : En), (qu p0 es)[j]? = some e ∧ e.1 = r ∧ e.2.length ≤ w.length ∧ (w ≠ [] → e ∈ es) := by
    intro k
    induction k with
    | zero =>
      intro w r hw h
      obtain rfl := List.eq_nil_of_length_eq_zero hw
      obtain rfl := Option.some.inj h
      exact ⟨0, (p0, []), rfl, rfl, Nat.le_refl _, fun z => absurd rfl z⟩
    | succ k ih =>
      intro w r hw h
      have ne : w ≠ [] := fun z => by
        rw [z] at hw
        cases hw
      obtain ⟨u, m, q, rfl, h1, h2⟩ := walk2_last h ne
      have lu : u.length = k := by
        rw [List.length_append] at hw
        exact Nat.succ.inj hw
      obtain ⟨j, e, hj, rfl, hl, _⟩ := ih u q lu h1
      have hj2 : j < (qu p0 es).length := (List.getElem?_eq_some_iff.mp hj).1
      rw [qu_len] at hj2
      obtain ⟨f, hf, e1, e2⟩ := B.closed j e (by omega) hj m r h2
      obtain ⟨l, hlf⟩ := List.mem_iff_getElem?.mp hf
      refine ⟨l + 1, f, hlf, e1, ?_, fun _ => hf⟩
      rw [List.length_append]
      show f.2.length ≤ u.length + 1
      omega
  refine ⟨B.nd, B.sound, B.lets, fun w r ne h => ?_, fun e he => ?_⟩
  · obtain ⟨j, e, _, e1, e2, e3⟩ := key _ w r rfl h
    exact ⟨e, e3 ne, e1, e2⟩
  · obtain ⟨l, hl⟩ := List.mem_iff_getElem?.mp he
    have h1 := B.len (l + 1) e hl
    have h2 := (List.getElem?_eq_some_iff.mp hl).1
    have h3 := B.few
    omega
/-! ### the same by edges -/
structure Lev (n : Nat) (ts : List Tie) (p0 tgt : Pr) (k : Nat) (edge seen : List Pr) : Prop where
  from_ : ∀ q ∈ edge, ∃ w, w.length = k ∧ walk2 ts p0 w = some q
  out : tgt ∉ seen
  closed : ∀ q ∈ seen, q ∈ edge ∨ ∀ m r, step2 ts q m = some r → r ∈ seen
  all : ∀ w r, w ≠ [] → w.length ≤ k → walk2 ts p0 w = some r → r ∈ seen
  one : k = 0 → p0 ∈ edge
  nde : edge.Nodup
  lte : ∀ q ∈ edge, q.1 < n ∧ q.2 < n
  nds : seen.Nodup
  lts : ∀ q ∈ seen, q.1 < n ∧ q.2 < n
theorem Lev.init {n : Nat} {ts : List Tie} {p0 : Pr} (tgt : Pr) (h1 : p0.1 < n) (h2 : p0.2 < n) : Lev n ts p0 tgt 0 [p0] [] := by
  refine ⟨fun q hq => ⟨[], rfl, by rw [List.mem_singleton.mp hq]; rfl⟩, (fun z => by cases z), (fun q z => by cases z), fun w r ne hl => absurd (List.eq_nil_of_length_eq_zero (Nat.le_zero.mp hl)) ne, fun _ => List.mem_singleton.mpr rfl, by simp, fun q hq => ?_, List.nodup_nil, (fun q z => by cases z)⟩
  rw [List.mem_singleton.mp hq]
  exact ⟨h1, h2⟩
theorem Lev.step {n : Nat} {ts : List Tie} {p0 tgt : Pr} {k : Nat} {edge seen later edge' : List Pr} (wk : WebOk n ts) (V : Lev n ts p0 tgt k edge seen) (hl : ∀ r, r ∈ later ↔ ∃ q ∈ edge, ∃ m, step2 ts q m = some r) (no : tgt ∉ later)
    (nd : edge'.Nodup) (he : ∀ r, r ∈ edge' ↔ r ∈ later ∧ r ∉ seen) : Lev n ts p0 tgt (k + 1) edge' (seen ++ edge') := by
  have into : ∀ r, r ∈ later → r ∈ seen ++ edge' := fun r h => by
    by_cases z : r ∈ seen
    · exact List.mem_append_left _ z
    · exact List.mem_append_right _ ((he r).mpr ⟨h, z⟩)
  have lt' : ∀ q ∈ edge', q.1 < n ∧ q.2 < n := fun r hr => by
    obtain ⟨q, _, m, h⟩ := (hl r).mp ((he r).mp hr).1
    exact step2_lt wk h
  refine ⟨fun r hr => ?_, fun z => ?_, fun q hq => ?_, fun w r ne hw h => ?_, fun z => by omega, nd, lt', ?_, fun q hq => ?_⟩
  · obtain ⟨q, hq, m, h⟩ := (hl r).mp ((he r).mp hr).1
    obtain ⟨w, e1, e2⟩ := V.from_ q hq
    exact ⟨w ++ [m], by rw [List.length_append, e1]; rfl, walk2_snoc e2 h⟩
  · rcases List.mem_append.mp z with z | z
    · exact V.out z
    · exact no ((he tgt).mp z).1
  · rcases List.mem_append.mp hq with z | z
    · rcases V.closed q z with y | y
      · exact .inr fun m r h => into r ((hl r).mpr ⟨q, y, m, h⟩)
      · exact .inr fun m r h => List.mem_append_left _ (y m r h)
    · exact .inl z
  · by_cases hk : w.length ≤ k
    · exact List.mem_append_left _ (V.all w r ne hk h)
    · obtain ⟨u, m, q, rfl, h1, h2⟩ := walk2_last h ne
      rw [List.length_append] at hk hw
      have lu : u.length = k := by
        have : ([m] : List Nat).length = 1 := rfl
        omega
      by_cases ue : u = []
      · subst ue
        have k0 : k = 0 := lu.symm
        obtain rfl := Option.some.inj h1
        exact into r ((hl r).mpr ⟨p0, V.one k0, m, h2⟩)
      · have hq := V.all u q ue (Nat.le_of_eq lu) h1
        rcases V.closed q hq with y | y
        · exact into r ((hl r).mpr ⟨q, y, m, h2⟩)
        · exact List.mem_append_left _ (y m r h2)
  · exact List.nodup_append.mpr ⟨V.nds, nd, fun a ha b hb e => ((he b).mp hb).2 (e ▸ ha)⟩
  · rcases List.mem_append.mp hq with z | z
    · exact V.lts q z
    · exact lt' q z
/-- how long a shortest word from pair to pair is; 0: no word of up to 39 marks -/
def ShortOk (ts : List Tie) (p0 tgt : Pr) (L : Nat) : Prop :=
  (L = 0 ∧ ∀ w, w ≠ [] → w.length ≤ 39 → walk2 ts p0 w ≠ some tgt) ∨ (1 ≤ L ∧ (∃ w, w.length = L ∧ walk2 ts p0 w = some tgt) ∧ ∀ w, w ≠ [] → walk2 ts p0 w = some tgt → L ≤ w.length)
theorem Lev.found {n : Nat} {ts : List Tie} {p0 tgt : Pr} {k : Nat} {edge seen later : List Pr} (V : Lev n ts p0 tgt k edge seen) (hl : ∀ r, r ∈ later ↔ ∃ q ∈ edge, ∃ m, step2 ts q m = some r) (h : tgt ∈ later) : ShortOk ts p0 tgt (k + 1) := by
  obtain ⟨q, hq, m, h1⟩ := (hl tgt).mp h
  obtain ⟨w, e1, e2⟩ := V.from_ q hq
  refine .inr ⟨by omega, ⟨w ++ [m], by rw [List.length_append, e1]; rfl, walk2_snoc e2 h1⟩, fun w' ne h' => ?_⟩
  rcases Nat.lt_or_ge k w'.length with z | z
  · exact z
  · exact absurd (V.all w' tgt ne z h') V.out
theorem Lev.never {n : Nat} {ts : List Tie} {p0 tgt : Pr} {edge seen : List Pr} (V : Lev n ts p0 tgt 39 edge seen) : ShortOk ts p0 tgt 0 :=
  .inl ⟨rfl, fun w ne hl h => V.out (V.all w tgt ne hl h)⟩
/-- what joined tells -/
def JoinOk (n : Nat) (ts : List Tie) (p0 tgt : Pr) (r : Option (List Nat)) : Prop := match r with
  | none => ∀ w, w ≠ [] → walk2 ts p0 w ≠ some tgt
  | some w => w ≠ [] ∧ w.length ≤ n * n ∧ (∀ m ∈ w, m ∈ letters) ∧ walk2 ts p0 w = some tgt ∧ ∀ w', w' ≠ [] → walk2 ts p0 w' = some tgt → w.length ≤ w'.length
theorem Beside.join {n : Nat} {ts : List Tie} {p0 tgt : Pr} {es : List En} (n10 : n ≤ 10) (B : Beside n ts p0 es) : JoinOk n ts p0 tgt ((es.find? fun e => decide (e.1 = tgt)).map (·.2)) := by
  cases h : es.find? fun e => decide (e.1 = tgt) with
  | none =>
    intro w ne hw
    obtain ⟨e, he, e1, _⟩ := B.short w tgt ne hw
    exact absurd (List.find?_eq_none.mp h e he) (by simp [e1])
  | some e =>
    have he := List.mem_of_find?_eq_some h
    have e1 : e.1 = tgt := of_decide_eq_true (List.find?_some (p := fun e : En => decide (e.1 = tgt)) h)
    obtain ⟨s1, s2⟩ := B.sound e he
    have h1 := B.len e he
    refine ⟨s1, (show e.2.length ≤ n * n by omega), B.lets e he, by rw [← e1]; exact s2, fun w' ne hw => ?_⟩
    obtain ⟨f, hf, f1, f2⟩ := B.short w' tgt ne hw
    have : f = e := by
      have e3 : f.1 = e.1 := f1.trans e1.symm
      obtain ⟨i, hi⟩ := List.mem_iff_getElem?.mp hf
      obtain ⟨j, hj⟩ := List.mem_iff_getElem?.mp he
      have i1 : (es.map (·.1))[i]? = some f.1 := by rw [List.getElem?_map, hi]; rfl
      have j1 : (es.map (·.1))[j]? = some f.1 := by rw [List.getElem?_map, hj, e3]; rfl
      have : i = j := nd_ix B.nd i1 j1
      subst this
      exact Option.some.inj (hi.symm.trans hj)
    rw [← this]
    exact f2
end Wh

namespace Wh
open PySem PySem.Spec PyProof.Rows L2 PySem.Froz
/-! ### sets of texts: the payload of SetTxt0, with what a walk asks of its table -/
section
variable {P : Program} {w : World}
/-- the table rises, and can be walked -/
def TabGo (w : World) (t : SetTable) : Prop := Ris t.place.toList ∧ (w.params.followText "set-order" = true ∨ t.led = true)
theorem tabGo_of {t u : SetTable} (hp : u.place = t.place) (hl : u.led = t.led) (g : TabGo w t) : TabGo w u := by
  unfold TabGo
  rw [hp, hl]
  exact g
theorem tabGo_tail {ep : Nat} {es : Array (Int × Value)} {t : SetTable} {b : Bool} (g : TabGo w t) : TabGo w (tailTx ep es t b).2.2 := by
  unfold tailTx
  split
  · exact ⟨relayAll_ris t es _, g.2.imp id fun e => (relayAll_led t es _).trans e⟩
  · exact g
theorem tabGo_add {h : Int} {v : Value} {D : SD} (g : TabGo w D.2.2) : TabGo w (addTx h v D).2.2 := by
  unfold addTx
  have g1 : TabGo w (layNew D.2.2 D.1 h v).2.1 := ⟨layNew_ris D.2.2 D.1 h v g.1, g.2.imp id fun e => (layNew_led D.2.2 D.1 h v).trans e⟩
  refine tabGo_tail ?_
  split
  · exact tabGo_of rfl rfl g1
  · exact g1
/-- the set at a holds the texts l -/
def TxAt (P : Program) (w : World) (h : Heap) (a : Addr) (l : List Str) : Prop := ∃ D : SD, h.get? a = some (sObj "set" D) ∧ TxOk P w D l ∧ l.Nodup ∧ l.length < scanBound ∧ TabGo w D.2.2
theorem TxAt.keep {h h' : Heap} {a : Addr} {l : List Str} (R : TxAt P w h a l) (k : ∀ o, h.get? a = some o → h'.get? a = some o) : TxAt P w h' a l := by
  obtain ⟨D, hD, r⟩ := R
  exact ⟨D, k _ hD, r⟩
theorem txAt_new {h : Heap} : TxAt P w (h.push { cls := .type "set", dict := none, data := .set #[] 0 (.fresh 0 0 (!w.params.followText "set-order")) }) h.objs.size [] := by
  refine ⟨(#[], 0, .fresh 0 0 (!w.params.followText "set-order")), Heap.get?_push_size _ rfl, TxOk.nil rfl, List.nodup_nil, by decide, List.Pairwise.nil, ?_⟩
  show _ ∨ (!w.params.followText "set-order") = true
  cases w.params.followText "set-order"
  · exact .inr rfl
  · exact .inl rfl
variable {A : Around} {E : Value → Shared → Prop} {s : Shared}
/-- a text that is there already -/
theorem txAt_same {a : Addr} {D : SD} {l : List Str} {k : Str} {u : Tok} {Q : Bool → Shared → Prop} (hD : s.heap.get? a = some (sObj "set" D)) (F : TxOk P w D l) (hk : k ∈ l) (hb : l.length < scanBound) (q : Q false s) :
    wpAny (model P w) A (setAddHashed a (.str k u) (hashStr w k)) Q E s := by
  obtain ⟨es, ep, t⟩ := D
  have dat : (sObj "set" (es, ep, t)).data = .set es ep t := rfl
  have few : es.size < scanBound := by rw [show es.size = l.length from F.sz]; exact hb
  have met : ∃ j, List.findIdx? (fun e => (PySem.strKind P w).is k e.2) es.toList = some j := by
    cases e : List.findIdx? (fun e => (PySem.strKind P w).is k e.2) es.toList with
    | some j => exact ⟨j, rfl⟩
    | none =>
      obtain ⟨x, hx, e2⟩ := (F.mem k).mp hk
      have e3 := List.findIdx?_eq_none_iff.mp e x hx
      rw [e2] at e3
      cases e3
  obtain ⟨j, hj⟩ := met
  unfold setAddHashed setAddHashedIn
  refine wpAny_holding (wpAny_bind (wpAny_setState_of hD dat F.fit ?_))
  show wpAny _ _ (if byScan (.str k u) es = true then _ else _) _ _ _
  rw [byScan_of (knd := PySem.strKind P w) rfl few F.el, if_pos rfl]
  unfold setAddByScan
  refine wpAny_bind (wpAny_bind (wpAny_rule (wpAny_bind (wpAny_setScan_of (knd := PySem.strKind P w) (k := k) (is_str k u) hD dat F.fit F.el ?_))))
  rw [hj]
  exact wpAny_pure (wpAny_pure q)
/-- found.add(k) -/
theorem txAt_add {a : Addr} {l : List Str} {k : Str} {u : Tok} {Q : Value → Shared → Prop} (R : TxAt P w s.heap a l) (room : l.length + 1 < scanBound)
    (q : ∀ h', Heap.SameBut a s.heap h' → TxAt P w h' a (if k ∈ l then l else k :: l) → Q .none { s with heap := h', toks := s.toks + 1 }) : wpAny (model P w) A (call (.builtin "set.add") [.ref a, .str k u]) Q E s := by
  obtain ⟨D, hD, ok, nd, hb, g⟩ := R
  have ty : s.TypeIs (.ref a) "set" := ⟨_, hD, rfl⟩
  refine wpAny_call_entry (T := "set") PySem.F.slot_set_add ty PySem.F.entry_set_add ?_ (PySem.F.args_set_add_2 _ _)
  delta Builtin.Frozenset.oneOther Builtin.«set.add»
  simp only [bind_assoc, List.isEmpty_nil]
  delta setAdd Builtin.Frozenset.addrOf
  refine wpAny_bind (wpAny_pure (wpAny_bind (wpAny_pure (wpAny_bind (wpAny_holding (wpAny_bind ((PySem.strKind P w).pyHash (is_str k u) ?_)))))))
  have fin : ∀ {b : Bool} {h' : Heap}, Heap.SameBut a s.heap h' → TxAt P w h' a (if k ∈ l then l else k :: l) → wpAny (model P w) A.in1 (ret Value.none) (fun fin s' => ∃ v, fin = Fin.done (Flow.ret v) ∧ Q v s') E { s with heap := h', toks := s.toks + 1 } := fun sb r => wpAny_pure ⟨_, rfl, q _ sb r⟩
  by_cases hk : k ∈ l
  · refine txAt_same (s := { s with toks := s.toks + 1 }) hD ok hk hb ?_
    refine fin (b := false) (Heap.SameBut.refl a s.heap) ?_
    rw [if_pos hk]
    exact ⟨D, hD, ok, nd, hb, g⟩
  · refine add_x (s := { s with toks := s.toks + 1 }) hD ok hk room ?_
    refine fin (b := true) (Heap.SameBut.update _ a _) ?_
    rw [if_neg hk]
    exact ⟨_, Heap.get?_update_self _ hD rfl, add_ok u ok, List.nodup_cons.mpr ⟨hk, nd⟩, room, tabGo_add g⟩
theorem strs_each : ∀ {es : List (Int × Value)}, ElemsOf (PySem.strKind P w) es → ∃ ks : List Str, StrsAre (es.map (·.2)) ks ∧ ∀ k, k ∈ ks ↔ ∃ e ∈ es, (PySem.strKind P w).is k e.2 = true
  | [], _ => ⟨[], .nil, fun k => by simp⟩
  | e :: es, h => by
    obtain ⟨ks, r, m⟩ := strs_each (es := es) h.tail
    obtain ⟨⟨k, hk, _⟩, _⟩ := h.head
    obtain ⟨tk, ev⟩ := Value.isStrOf_shape (x := k) (v := e.2) hk
    refine ⟨k :: ks, ?_, fun j => ?_⟩
    · rw [List.map_cons, ev]
      exact .cons k tk r
    · rw [List.mem_cons, m j]
      constructor
      · rintro (rfl | ⟨x, hx, q⟩)
        · exact ⟨e, List.mem_cons_self, hk⟩
        · exact ⟨x, List.mem_cons_of_mem _ hx, q⟩
      · rintro ⟨x, hx, q⟩
        rcases List.mem_cons.mp hx with rfl | hx
        · exact .inl ((PySem.strKind P w).inj x.2 j k q hk)
        · exact .inr ⟨x, hx, q⟩
theorem strs_len : ∀ {vs : List Value} {ks : List Str}, StrsAre vs ks → vs.length = ks.length
  | _, _, .nil => rfl
  | _, _, .cons _ _ r => congrArg (· + 1) (strs_len r)
theorem strs_perm {vs us : List Value} (p : vs.Perm us) : ∀ {ks : List Str}, StrsAre us ks → ∃ js, StrsAre vs js ∧ js.Perm ks := by
  induction p with
  | nil => exact fun r => ⟨_, r, .refl _⟩
  | cons x _ ih =>
    intro ks r
    cases r with
    | cons k tk r =>
      obtain ⟨js, h1, h2⟩ := ih r
      exact ⟨k :: js, .cons k tk h1, h2.cons k⟩
  | swap x y l =>
    intro ks r
    cases r with
    | cons k tk r =>
      cases r with
      | cons k2 tk2 r => exact ⟨_, .cons k2 tk2 (.cons k tk r), .swap _ _ _⟩
  | trans _ _ ih1 ih2 =>
    intro ks r
    obtain ⟨js, h1, h2⟩ := ih2 r
    obtain ⟨is, h3, h4⟩ := ih1 h1
    exact ⟨is, h3, h4.trans h2⟩
theorem nd_len_perm : ∀ {xs ys : List Str}, xs.Nodup → (∀ k ∈ xs, k ∈ ys) → ys.length ≤ xs.length → xs.Perm ys
  | [], ys, _, _, hl => by rw [List.eq_nil_of_length_eq_zero (Nat.le_zero.mp hl)]
  | x :: xs, ys, hn, hm, hl => by
    obtain ⟨n1, n2⟩ := List.nodup_cons.mp hn
    have hx := hm x List.mem_cons_self
    have e := List.length_erase_of_mem hx
    have z : 0 < ys.length := List.length_pos_of_mem hx
    have hl : ys.length ≤ xs.length + 1 := hl
    refine ((nd_len_perm n2 (fun k hk => ?_) (by omega)).cons x).trans (List.perm_cons_erase hx).symm
    have ne : k ≠ x := fun z => n1 (z ▸ hk)
    exact (List.mem_erase_of_ne ne).mpr (hm k (List.mem_cons_of_mem _ hk))
/-- sorted(found), fewer than 64 texts -/
theorem txAt_sorted {a : Addr} {l : List Str} {Q : Value → Shared → Prop} (R : TxAt P w s.heap a l) (hh : A.handled = none) (h64 : l.length < 64)
    (q : ∀ s' p (out : Array Value) (c : Nat) (ys : List Str), (∀ b o, s.heap.get? b = some o → s'.heap.get? b = some o) → s'.gens = s.gens → s'.os = s.os → s.heap.objs.size ≤ p → s'.heap.get? p = some (seqObj "list" out c) → StrsAre out.toList ys → ys.Perm l → sortedS ys = true → Q (.ref p) s') :
    wpAny (model P w) A (call (.builtin "sorted") [.ref a]) Q E s := by
  obtain ⟨D, hD, ok, nd, hb, g⟩ := R
  refine Calls.call_function_entry kind_sorted plain_sorted entry_sorted (args_sorted1 _) ?_
  delta Builtin.«sorted»
  have few : D.1.size < scanBound := by rw [ok.sz]; exact hb
  refine wpAny_bind (m := checkCount "sorted" 1 1 _) (wpAny_pure (wpAny_bind (collect_set (A := A.in1) hh ⟨_, hD, rfl, rfl⟩ ok.fit few g.1 g.2 fun s1 vs k1 hz g1 o1 pm => ?_)))
  obtain ⟨ks, r, m⟩ := strs_each ok.el
  obtain ⟨js, r2, pj⟩ := strs_perm pm r
  have lv : vs.length = l.length := by rw [pm.length_eq, List.length_map, Array.length_toList, ok.sz]
  have pl : l.Perm js := nd_len_perm nd (fun k hk => pj.mem_iff.mpr ((m k).mpr ((ok.mem k).mp hk))) (by rw [← strs_len r2, lv]; exact Nat.le_refl _)
  refine wpAny_bind (wpAny_newList ?_ (by rw [lv, sizeLine_eq]; omega))
  have at_ : (s1.heap.push (seqObj "list" vs.toArray 0)).get? s1.heap.objs.size = some (seqObj "list" vs.toArray 0) := Heap.get?_push_size _ rfl
  refine wpAny_bind (wpAny_holding (wpAny_call_entry slot_list_sort ⟨_, at_, rfl⟩ entry_list_sort (list_sort_treeK strKind_oneLt (s := { s1 with heap := s1.heap.push (seqObj "list" vs.toArray 0) }) at_ r2.keysOf (fun v₁ v₂ rest e => keyKind_strs (by rw [← e]; exact r2)) (by rw [lv]; exact h64) fun st' hp hs => ⟨_, rfl, ?_⟩) (args_list_sort _)))
  obtain ⟨ys, z1, z2, z3⟩ := sorted_out_str r2 hp hs
  obtain ⟨c, hc⟩ := sortedHeap_at (vs := vs) (out := (arrOf st').map (·.2)) at_
  refine wpAny_pure ⟨_, rfl, q _ s1.heap.objs.size _ c ys (fun b u e => ?_) g1 o1 hz hc z1 (z2.trans pl.symm) z3⟩
  have e1 := k1 b u e
  have lt := Heap.lt_size e1
  exact (sortedHeap_old (Nat.ne_of_lt lt) (by rw [size_push']; exact Nat.lt_succ_of_lt lt)).trans (Heap.get?_push_of_some _ e1)
end
/-! ### over the layer -/
def SetL (P : Program) (w : World) (a : Addr) (l : List Str) : HO := .ext fun h => TxAt P w h a l
theorem setL_new {w : World} {P : Program} {H : Hp} {h : Heap} {a : Addr} {l : List Str} (R : TxAt P w h a l) : ObjOk P w H h a (SetL P w a l) := by
  have ⟨D, hD, _⟩ := R
  exact ⟨R, ⟨_, hD⟩, fun h1 h2 p k => TxAt.keep p k⟩
section
variable {X : Cx}
theorem setL_get {pins : List (Addr × Obj)} {σ : L2.St} {H : Hp} {s : Shared} {a : Addr} {l : List Str} (I : Inv X pins σ H s) (ha : H a = some (SetL X.prog X.w a l)) : TxAt X.prog X.w s.heap a l := (I.hok a _ ha).1
def addL (y : Str) (l : List Str) : List Str := if y ∈ l then l else y :: l
theorem setL_add {pins : List (Addr × Obj)} {σ : L2.St} {H : Hp} {s : Shared} {E : Value → Shared → Prop} {a : Addr} {l : List Str} {y : Str} {u : Value} {Q : Value → Shared → Prop} (I : Inv X pins σ H s) (ha : H a = some (SetL X.prog X.w a l)) (room : l.length + 1 < scanBound) (ru : RelV (.str y) u)
    (q : ∀ s', Inv X pins σ (upd H a (SetL X.prog X.w a (addL y l))) s' → Q .none s') : wpAny (model X.prog X.w) X.A (call (.builtin "set.add") [.ref a, u]) Q E s := by
  obtain ⟨tk, rfl⟩ := ru
  refine txAt_add (setL_get I ha) room fun h' sb r => q _ ?_
  have ⟨D, hD, _⟩ := r
  exact I.write (e := a) (t' := s.toks + 1) (by rw [ha]; trivial) (.inl rfl) (fun b u hb hu => (sb.2 b hb).trans hu) ⟨_, hD⟩ (setL_new r)
def rSortedL (P : Program) (w : World) : List V → Hp → VK → Prop := fun vs H Q => ∃ (a : Addr) (l : List Str), vs = [V.ref a] ∧ H a = some (SetL P w a l) ∧ l.length < 64 ∧ ∀ (ys : List Str) (p : Addr), ys.Perm l → sortedS ys = true → H p = none → Q (.ref p) (upd H p (.lst (ys.map V.str)))
theorem cr_sortedL (hc : X.calm = true) : CallR X (.builtin "sorted") (rSortedL X.prog X.w) := by
  intro pins s σ H vs us Q I r h
  obtain ⟨a, l, rfl, ha, h64, q⟩ := h
  rw [Vals.ref1 r]
  refine txAt_sorted (setL_get I ha) (I.ok.hd hc) h64 fun s' p out c ys k g o hp hg hi pm hs => ?_
  have np : H p = none := I.hok.fresh hp
  have small : (ys.map V.str).length ≤ sizeLine := by rw [List.length_map, pm.length_eq, sizeLine_eq]; omega
  have e : s' = { s with heap := s'.heap, gens := s'.gens, drawn := s'.drawn, toks := s'.toks } := by
    cases s'; cases s; cases o
    rfl
  rw [e]
  exact ⟨.ref p, upd H p (.lst (ys.map V.str)), I.call (ch := []) (Un.laid k hp np) (I.hok.laid k hp (show ObjOk X.prog X.w _ _ _ (.lst (ys.map V.str)) from ⟨small, out.toList, c, vals_of_strs hi, hg⟩)) (by rw [g]; exact I.bare) (fun _ z => nomatch z), rfl, q ys p pm hs np⟩
end
end Wh

namespace Wh
open PySem PySem.Spec PyProof.Rows L2 PpSet
/-! ### {elt for a in x for b in y}: a set of texts, made clause by clause -/
section
variable {e a x b y : Expr} {sc : Scope} {p : Pos}
/-- the comprehension itself -/
abbrev sc2 (e a x b y : Expr) (sc : Scope) (p : Pos) : Expr := .SetComp e [⟨a, x, [], 0⟩, ⟨b, y, [], 0⟩] sc p
theorem turn_first (it acc : Value) (env : Env) : compTurn (sc2 e a x b y sc p) 0 it acc env = (do
      standAt x.pos
      match ← pyNext it with
      | none => pure (.done .next)
      | some v =>
        letOwnedTupleGo a it v
        assign a env v
        let z ← eval y env
        standAt y.pos
        let z ← foldedSetIterable y env z
        let _ ← runOwn (.compStart (sc2 e a x b y sc p) 1 (← holding [z] (pyIter z)) acc env) env
        again (.compLoop (sc2 e a x b y sc p) 0 it acc env)) := by rfl
theorem turn_second (it acc : Value) (env : Env) : compTurn (sc2 e a x b y sc p) 1 it acc env = (do
      standAt y.pos
      match ← pyNext it with
      | none => pure (.done .next)
      | some v =>
        letOwnedTupleGo b it v
        assign b env v
        (do let z ← eval e env; standAt e.pos; let _ ← call (.builtin "set.add") [acc, z])
        again (.compLoop (sc2 e a x b y sc p) 1 it acc env)) := by rfl
variable {prog : Program} {w : World} {A : Around} {R : Result → Shared → Prop} {env : Env} {it acc : Value}
abbrev Nt (prog : Program) (w : World) (A : Around) (env : Env) (R : Result → Shared → Prop) : Value → Shared → Prop := notedBy (model prog w) A env fun er s' => R (.error er) s'
/-- the turns of the first clause, by an invariant with a measure -/
theorem loop_first (hf : ∀ z, foldedSetIterable y env z = pure z) (J : Nat → Shared → Prop)
    (step : ∀ n s, J n s → wpAny (model prog w) A (pyNext it) (fun r s1 => match r with
      | none => R (.ok .next) s1
      | some v => wpAny (model prog w) A (letOwnedTupleGo a it v) (fun _ s2 => wpAny (model prog w) A (assign a env v) (fun _ s3 => wpAny (model prog w) A (eval y env) (fun z s4 => wpAny (model prog w) A (pyIter z) (fun i2 s5 =>
          codeAny (model prog w) A (.compStart (sc2 e a x b y sc p) 1 i2 acc env) (fun r s' => match r with
            | .ok _ => ∃ m, m < n ∧ J m s'
            | .error _ => False) s5) (Nt prog w A env R) s4) (Nt prog w A env R) s3) (Nt prog w A env R) s2) (Nt prog w A env R) s1) (Nt prog w A env R) s)
    {n : Nat} {s : Shared} (h : J n s) : codeAny (model prog w) A (.compLoop (sc2 e a x b y sc p) 0 it acc env) R s := by
  refine codeAny_loop rfl J (fun n s hJ => ?_) n h
  show wpAny _ A (Sem.onRaise (compTurn (sc2 e a x b y sc p) 0 it acc env) fun er => do noteFrame er env; theTreesLotGoes er) _ _ s
  rw [turn_first]
  refine wpAny_noted (wpAny_bind (wpAny_standAt (wpAny_bind (wpAny_mono (step n s hJ) (fun r s1 h1 => ?_) fun _ _ z => z))))
  match r, h1 with
  | none, h1 => exact wpAny_pure h1
  | some v, h1 =>
    refine wpAny_bind (wpAny_mono h1 (fun _ s2 h2 => wpAny_bind (wpAny_mono h2 (fun _ s3 h3 => wpAny_bind (wpAny_mono h3 (fun z s4 h4 => ?_) fun _ _ z => z)) fun _ _ z => z)) fun _ _ z => z)
    refine wpAny_bind (wpAny_standAt (wpAny_bind (wpAny_of_eq (hf z) (wpAny_bind (wpAny_holding (wpAny_mono h4 (fun i2 s5 h5 => ?_) fun _ _ z => z))))))
    refine wpAny_bind (wpAny_runOwn ?_)
    rw [Around.mark_none]
    refine codeAny_mono h5 fun r s' hr => ?_
    match r, hr with
    | .ok f, hr => first | exact wpAny_pure ⟨rfl, hr⟩ | exact wpAny_bind (wpAny_pure (wpAny_pure ⟨rfl, hr⟩))
    | .error er, hr => exact hr.elim
/-- the turns of the second clause -/
theorem loop_second (J : Nat → Shared → Prop)
    (step : ∀ n s, J n s → wpAny (model prog w) A (pyNext it) (fun r s1 => match r with
      | none => R (.ok .next) s1
      | some v => wpAny (model prog w) A (letOwnedTupleGo b it v) (fun _ s2 => wpAny (model prog w) A (assign b env v) (fun _ s3 => wpAny (model prog w) A (eval e env) (fun z s4 =>
          wpAny (model prog w) A (call (.builtin "set.add") [acc, z]) (fun _ s5 => ∃ m, m < n ∧ J m s5) (Nt prog w A env R) s4) (Nt prog w A env R) s3) (Nt prog w A env R) s2) (Nt prog w A env R) s1) (Nt prog w A env R) s)
    {n : Nat} {s : Shared} (h : J n s) : codeAny (model prog w) A (.compLoop (sc2 e a x b y sc p) 1 it acc env) R s := by
  refine codeAny_loop rfl J (fun n s hJ => ?_) n h
  show wpAny _ A (Sem.onRaise (compTurn (sc2 e a x b y sc p) 1 it acc env) fun er => do noteFrame er env; theTreesLotGoes er) _ _ s
  rw [turn_second]
  refine wpAny_noted (wpAny_bind (wpAny_standAt (wpAny_bind (wpAny_mono (step n s hJ) (fun r s1 h1 => ?_) fun _ _ z => z))))
  match r, h1 with
  | none, h1 => exact wpAny_pure h1
  | some v, h1 =>
    refine wpAny_bind (wpAny_mono h1 (fun _ s2 h2 => wpAny_bind (wpAny_mono h2 (fun _ s3 h3 => ?_) fun _ _ z => z)) fun _ _ z => z)
    exact wpAny_bind (wpAny_bind (wpAny_mono h3 (fun z s4 h4 => wpAny_bind (wpAny_standAt (wpAny_bind (wpAny_mono h4 (fun _ s5 h5 => wpAny_pure (wpAny_pure ⟨rfl, h5⟩)) fun _ _ z => z)))) fun _ _ z => z))
/-- the second clause begins: its source is walked as it stands, or asked for its walk once more -/
theorem start_second {s : Shared} (h0 : codeAny (model prog w) A (.compLoop (sc2 e a x b y sc p) 1 it acc env) R s)
    (h1 : wpAny (model prog w) A (pyIter it) (fun i2 s' => codeAny (model prog w) A (.compLoop (sc2 e a x b y sc p) 1 i2 acc env) R s') (Nt prog w A env R) s) : codeAny (model prog w) A (.compStart (sc2 e a x b y sc p) 1 it acc env) R s := by
  refine codeAny_of_tree ?_
  show wpAny _ _ (Sem.onRaise (compStart (sc2 e a x b y sc p) 1 it acc env) fun er => do noteFrame er env; standAt theWindowsPlace) _ _ s
  refine wpAny_notedAt ?_
  delta compStart
  refine wpAny_bind (wpAny_askSetting (wpAny_ite ?_))
  split
  · first | exact wpAny_bind (wpAny_pure (wpAny_pure ⟨rfl, h0⟩)) | exact wpAny_pure ⟨rfl, h0⟩
  · refine wpAny_bind (wpAny_rule ?_)
    show wpAny _ _ (standAt y.pos >>= _) _ _ s
    exact wpAny_bind (wpAny_standAt (wpAny_bind (wpAny_mono h1 (fun i2 s' h' => wpAny_pure ⟨rfl, h'⟩) fun _ _ z => z)))
end
/-- what is asked: the first source's walk J; behind its item the second source's walk, from whose end Nx is reached; D is the set -/
def tSc2 (P : Program) (w : World) (wi : TI) (g : TG) (wj : TI) (k : TG) (te : TE) (vs us : List Nat) : TE := fun σ H Q => wi σ H fun J H1 => ∀ D, H1 D = none → ∃ W : Nat → Nat → Hp → Prop, (∃ m, W 0 m (upd H1 D (SetL P w D []))) ∧ ∀ i m H, W i m H →
  (J.stop i H ∧ Q (.ref D) H) ∨ (J.go i H ∧ ∃ Nx : Hp → Prop, (∀ H', Nx H' → ∃ m', m' < m ∧ W (i + 1) m' H') ∧ ∀ v H', J.yld i H v H' → g v (wipe σ vs) H' fun σ2 H2 => wipe σ2 vs = wipe σ vs ∧
    wj σ2 H2 fun J2 H3 => ∃ W2 : Nat → Nat → Hp → Prop, (∃ m, W2 0 m H3) ∧ ∀ j l H, W2 j l H →
      (J2.stop j H ∧ Nx H) ∨ (J2.go j H ∧ ∃ N2 : Hp → Prop, (∀ H', N2 H' → ∃ l', l' < l ∧ W2 (j + 1) l' H') ∧ ∀ v H', J2.yld j H v H' → k v (wipe σ2 us) H' fun σ3 H4 => wipe σ3 us = wipe σ2 us ∧
        te σ3 H4 fun z H5 => ∃ (t : Str) (ts : List Str), z = .str t ∧ H5 D = some (SetL P w D ts) ∧ ts.length + 1 < scanBound ∧ N2 (upd H5 D (SetL P w D (addL t ts)))))
section
variable {X : Cx} {e a x b y : Expr} {sc : Scope} {p : Pos} {own : List (PySem.Str × Nat)} {us : List Nat} {wi wj : TI} {g k : TG} {te : TE}
theorem pe_sc2 (calm : X.calm = true) (nd : X.N.Nodup) (src : PI X a x wi) (ok : BlkOk X.N X.env.scope sc own) (sub : ∀ i ∈ us, i ∈ own.map (·.2))
    (tg : ∀ (s : Shared) (H : Hp) (C : Addr) (cl : List (PySem.Str × Addr)) (F : List Addr), PG (X.blk s H sc (compEnvC sc cl C X.env) F) a g)
    (src2 : ∀ (s : Shared) (H : Hp) (C : Addr) (cl : List (PySem.Str × Addr)) (F : List Addr), PI (X.blk s H sc (compEnvC sc cl C X.env) F) b y wj)
    (tg2 : ∀ (s : Shared) (H : Hp) (C : Addr) (cl : List (PySem.Str × Addr)) (F : List Addr), PG (X.blk s H sc (compEnvC sc cl C X.env) F) b k)
    (elt : ∀ (s : Shared) (H : Hp) (C : Addr) (cl : List (PySem.Str × Addr)) (F : List Addr), PE (X.blk s H sc (compEnvC sc cl C X.env) F) e te)
    (f1 : ∀ z, foldedSetIterable x X.env z = pure z := by intro _; rfl) (f2 : ∀ env z, foldedSetIterable y env z = pure z := by intro _ _; rfl) :
    PE X (sc2 e a x b y sc p) (tSc2 X.prog X.w wi g wj k te (own.map (·.2)) us) := by
  refine ⟨fun pins s σ H Q I h => ?_⟩
  have cells : ∀ n ∈ sc.names, n.2 = .free → ∃ c, X.env.cells.lookup n.1 = some c := fun n hn z => (ok.free n hn z).elim (fun q => I.ok.has _ (.inl q)) fun q => I.ok.has _ (.inr q)
  rw [eval_SetComp]
  refine wpAny_comprehension_free (use := none) rfl f1 (closure_ok cells) ok.kind (fun n hn z => by rw [ok.uniq n hn, z]) (thn (src.run pins s σ H _ I h) fun _ _ h1 => thn h1 fun _ s2 h2 => ?_)
  obtain ⟨it, F, tn, J, H2, rfl, I2, T, at0, out, q⟩ := h2
  refine newSet_ok (newEnv_comp ?_)
  generalize eD : s2.heap.objs.size = D
  have free : H2 D = none := I2.hok.fresh (Nat.le_of_eq eD)
  obtain ⟨W, ⟨m0, w0⟩, turn⟩ := q D free
  -- the set is laid
  generalize e3 : ({ s2 with heap := s2.heap.push { cls := .type "set", dict := none, data := .set #[] 0 (.fresh 0 0 (!X.w.params.followText "set-order")) } } : Shared) = s3
  have g3 : s3.heap = s2.heap.push { cls := .type "set", dict := none, data := .set #[] 0 (.fresh 0 0 (!X.w.params.followText "set-order")) } := by rw [← e3]
  have I3 : Inv X pins σ (upd H2 D (SetL X.prog X.w D [])) s3 := by
    subst e3 eD
    exact I2.laid (t' := s2.toks) (fun _ _ z => Heap.get?_push_of_some _ z) (Nat.le_refl _) (setL_new txAt_new)
  have lowF : ∀ c ∈ F, c < s2.heap.objs.size := fun c hc => (T.obj _ _ at0 c hc).elim fun _ z => Heap.lt_size z.1
  have outF : ∀ c ∈ F, FpOk X pins (upd H2 D (SetL X.prog X.w D [])) c ∧ c < s3.heap.objs.size := fun c hc => by
    have lt := lowF c hc
    have ne : c ≠ D := by rw [← eD]; exact Nat.ne_of_lt lt
    exact ⟨⟨(upd_ne ne).trans (out c hc).1, (out c hc).2⟩, by rw [g3, Heap.size_push]; exact Nat.lt_succ_of_lt lt⟩
  have at3 : tn 0 s3.heap := T.keep _ _ _ at0 fun c _ o z => by rw [g3]; exact Heap.get?_push_of_some _ z
  have I4 := block_start I3 ok nd outF
  have rg := tg s3 (upd H2 D (SetL X.prog X.w D [])) s3.heap.objs.size (cellsFrom (s3.heap.objs.size + 1) sc.names (cloFrom X.env.cells sc.names [])) F
  have rj := src2 s3 (upd H2 D (SetL X.prog X.w D [])) s3.heap.objs.size (cellsFrom (s3.heap.objs.size + 1) sc.names (cloFrom X.env.cells sc.names [])) F
  have rk := tg2 s3 (upd H2 D (SetL X.prog X.w D [])) s3.heap.objs.size (cellsFrom (s3.heap.objs.size + 1) sc.names (cloFrom X.env.cells sc.names [])) F
  have re := elt s3 (upd H2 D (SetL X.prog X.w D [])) s3.heap.objs.size (cellsFrom (s3.heap.objs.size + 1) sc.names (cloFrom X.env.cells sc.names [])) F
  show codeAny _ _ (.compStart (sc2 e a x b y sc p) 0 (.ref it) (.ref D) (compEnvC sc (cellsFrom (s3.heap.objs.size + 1) sc.names (cloFrom X.env.cells sc.names [])) s3.heap.objs.size X.env)) (compPost (model X.prog X.w) X.A X.xe none (EP X pins σ Q) (.ref D) s3.heap.objs.size) { s3 with heap := pushCells (s3.heap.push { cls := .type "dict", data := .dict #[] }) sc.names }
  have offF : ∀ c ∈ F, (upd H2 D (SetL X.prog X.w D [])) c = none := fun c hc => (outF c hc).1.1
  generalize ec : compEnvC sc (cellsFrom (s3.heap.objs.size + 1) sc.names (cloFrom X.env.cells sc.names [])) s3.heap.objs.size X.env = ce at I4 rg rj rk re ⊢
  have cloc : ce.locals = s3.heap.objs.size := ec ▸ rfl
  generalize eH : upd H2 D (SetL X.prog X.w D []) = H3 at I3 I4 rg rj rk re w0 offF outF
  generalize e4 : ({ s3 with heap := pushCells (s3.heap.push { cls := .type "dict", data := .dict #[] }) sc.names } : Shared) = s4 at I4 ⊢
  have at4 : tn 0 s4.heap := T.keep _ _ _ at3 fun c _ o z => by rw [← e4]; exact pushCells_keeps _ _ _ _ (Heap.get?_push_of_some _ z)
  let B := X.blk s3 H3 sc ce F
  have inB : ∀ {σ' : L2.St} {H' : Hp} {s' : Shared}, Inv B [] σ' H' s' → (∀ c ∈ F, H' c = none) → ∀ c ∈ F, FpOk B [] H' c := fun I' n c hc =>
    ⟨n c hc, (I'.ok.exf c hc).1, I'.ok.exfs c hc, .inl hc, fun z d q => (I'.ok.exf c hc).2 z d q, fun z hz => absurd (show z ∈ ([] : List (Addr × Obj)) ++ [] from hz) (by simp)⟩
  refine codeAny_compStart_set (rest := [⟨b, y, [], 0⟩]) ?_ (T.self X.A 0 _ _ _ at4 ?_)
  all_goals
    refine loop_first (f2 ce) (fun n s' => ∃ i H', Inv B [] (wipe σ (own.map (·.2))) H' s' ∧ tn i s'.heap ∧ (∀ c ∈ F, H' c = none) ∧ W i n H') ?_ (n := m0) ⟨0, H3, I4, at4, offF, w0⟩
    rintro n s5 ⟨i, H5, I5, at5, n5, w5⟩
    rcases turn i n H5 w5 with ⟨stop, fin⟩ | ⟨go, Nx, back, each⟩
    · refine thnF (T.done B rfl rfl rfl calm i [] s5 _ H5 (fun _ _ => False) I5 (inB I5 n5) at5 stop) fun r s6 ⟨hr, I6⟩ => ?_
      subst hr
      have I7 : Inv X pins σ H5 s6 := I3.call' (ch := F) I6.os I6.base I6.hok I6.bare fun c hc => ⟨(outF c hc).1.2.2.2.1, (outF c hc).1.2.1, (outF c hc).1.2.2.2.2.1, (outF c hc).1.2.2.2.2.2⟩
      have none_ : H5 s3.heap.objs.size = none := cloc ▸ (I6.free : H5 ce.locals = none)
      obtain ⟨m, hm, _⟩ := I6.loc
      have hm : s6.heap.Ns s3.heap.objs.size m := cloc ▸ (hm : s6.heap.Ns ce.locals m)
      refine ⟨m, hm, fun h'' sb => ?_⟩
      obtain ⟨u0, u1, u2, u3, u4, u5⟩ := I3.fpOk (Nat.le_refl _) none_
      exact ⟨.ref D, H5, I7.turned (t' := s6.toks) (fun c o hc z => (sb.2 c hc).trans z) u0 u1 u3 u4 u5, rfl, fin⟩
    · refine thnF (T.item B rfl rfl rfl calm i [] s5 _ H5 (fun _ _ => False) I5 (inB I5 n5) at5 go) fun r s6 ⟨u, hr, h6⟩ => ?_
      subst hr
      refine thnF h6 fun _ s7 ⟨v, H7, I7, r7, y7, at7, n7⟩ => ?_
      have P7 := I7.pinned (inB I7 n7) (T.obj _ _ at7)
      refine thnF (rg.run _ s7 _ H7 v u _ P7 r7 (each v H7 y7)) fun _ s8 ⟨σ8, H8, I8, same8, q8⟩ => ?_
      have len8 : (wipe σ (own.map (·.2))).length = σ8.length := by rw [← same8, wipe_length]
      -- behind the second walk
      have turned : ∀ {s' : Shared} {H' : Hp}, Inv B ([] ++ pinsAt F s7.heap) (wipe σ8 us) H' s' → Nx H' → ∃ m, m < n ∧ ∃ i H', Inv B [] (wipe σ (own.map (·.2))) H' s' ∧ tn i s'.heap ∧ (∀ c ∈ F, H' c = none) ∧ W i m H' := fun {s' H'} I' nx => by
        obtain ⟨m', hm, w'⟩ := back H' nx
        have kept : ∀ c ∈ F, ∀ o, s7.heap.get? c = some o → s'.heap.get? c = some o ∧ H' c = none := fun c hc o z =>
          have z2 := I'.pin (c, o) (List.mem_append_right _ (List.mem_append_right _ (mem_pinsAt hc z)))
          ⟨z2.1, z2.2.1⟩
        refine ⟨m', hm, i + 1, H', (I'.unpinned (pins := [])).weak (len8.trans (wipe_length σ8 us).symm) (fun j v z => ?_), T.keep _ _ _ at7 fun c hc o z => (kept c hc o z).1, fun c hc => (T.obj _ _ at7 c hc).elim fun o z => (kept c hc o z.1).2, w'⟩
        rw [← same8] at z
        obtain ⟨z1, z2⟩ := wipe_some z
        exact (wipe_out fun hj => z2 (sub j hj)).trans z1
      refine thnF (rj.run _ s8 σ8 H8 _ I8 q8) fun _ s9 h9 => thnF h9 fun _ s10 ⟨it2, F2, tn2, J2, H10, e10, I10, T2, at10, out2, W2, ⟨m2, w2⟩, turn2⟩ => ?_
      subst e10
      have in2 : ∀ {H' : Hp}, (∀ c ∈ F2, H' c = none) → ∀ c ∈ F2, FpOk B ([] ++ pinsAt F s7.heap) H' c := fun n c hc => ⟨n c hc, (out2 c hc).2⟩
      refine start_second ?_ (T2.self X.A 0 _ _ _ at10 ?_)
      all_goals
        refine loop_second (fun l s' => ∃ j H', Inv B ([] ++ pinsAt F s7.heap) (wipe σ8 us) H' s' ∧ tn2 j s'.heap ∧ (∀ c ∈ F2, H' c = none) ∧ W2 j l H') ?_ (n := m2) ⟨0, H10, I10.weak (wipe_length _ _) (fun j v z => (wipe_some z).1), at10, fun c hc => (out2 c hc).1, w2⟩
        rintro l s11 ⟨j, H11, I11, at11, n11, w11⟩
        rcases turn2 j l H11 w11 with ⟨stop2, nx⟩ | ⟨go2, N2, back2, each2⟩
        · refine thnF (T2.done B rfl rfl rfl calm j _ s11 (wipe σ8 us) H11 (fun _ _ => False) I11 (in2 n11) at11 stop2) fun r s12 ⟨hr, I12⟩ => ?_
          subst hr
          exact turned I12 nx
        · refine thnF (T2.item B rfl rfl rfl calm j _ s11 (wipe σ8 us) H11 (fun _ _ => False) I11 (in2 n11) at11 go2) fun r s12 ⟨u2, hr, h12⟩ => ?_
          subst hr
          refine thnF h12 fun _ s13 ⟨v2, H13, I13, r13, y13, at13, n13⟩ => ?_
          have P13 := I13.pinned (in2 n13) (T2.obj _ _ at13)
          refine thnF (rk.run _ s13 (wipe σ8 us) H13 v2 u2 _ P13 r13 (each2 v2 H13 y13)) fun _ s14 ⟨σ14, H14, I14, same14, q14⟩ => ?_
          refine thnF (re.run _ s14 σ14 H14 _ I14 q14) fun z s15 ⟨zv, H15, I15, r15, t, ts, ez, hD, room, nx2⟩ => ?_
          subst ez
          refine setL_add (X := B) I15 hD room r15 fun s16 I16 => ?_
          obtain ⟨l', hl', w'⟩ := back2 _ nx2
          have kept2 : ∀ c ∈ F2, ∀ o, s13.heap.get? c = some o → s16.heap.get? c = some o ∧ upd H15 D (SetL X.prog X.w D (addL t ts)) c = none := fun c hc o z =>
            have z2 := I16.pin (c, o) (List.mem_append_right _ (List.mem_append_right _ (mem_pinsAt hc z)))
            ⟨z2.1, z2.2.1⟩
          exact ⟨l', hl', j + 1, _, I16.unpinned.weak (by rw [← same14, wipe_length]) (fun j v z => by rw [← same14] at z; exact (wipe_some z).1), T2.keep _ _ _ at13 fun c hc o z => (kept2 c hc o z).1, fun c hc => (T2.obj _ _ at13 c hc).elim fun o z => (kept2 c hc o z.1).2, w'⟩
end
end Wh

namespace Wh
open PySem L2
/-! ### a walk by an invariant, whatever the turn is -/
theorem walk_by {J : It} {n : Nat} {G : Hp → Prop} {Y : Nat → Hp → V → Hp → Prop} (w : Walk J n G Y) {turn : (Hp → Prop) → V → Hp → Prop} {H0 : Hp} {Qd : Hp → Prop} (Pv : Nat → Hp → Prop) (h0 : Pv 0 H0) (hG : ∀ i H, i ≤ n → Pv i H → G H)
    (hs : ∀ i x H H', i < n → Pv i H → Y i H x H' → turn (Pv (i + 1)) x H') (hd : ∀ H, Pv n H → Qd H) :
    ∃ W : Nat → Nat → Hp → Prop, (∃ m, W 0 m H0) ∧ ∀ i m H, W i m H → (J.stop i H ∧ Qd H) ∨ (J.go i H ∧ ∃ Nx : Hp → Prop, (∀ H', Nx H' → ∃ m', m' < m ∧ W (i + 1) m' H') ∧ ∀ x H', J.yld i H x H' → turn Nx x H') := by
  refine ⟨fun i m H => m + i = n ∧ Pv i H, ⟨n, rfl, h0⟩, ?_⟩
  rintro i m H ⟨hm, p⟩
  have g := hG i H (by omega) p
  rcases Nat.eq_zero_or_pos m with z | z
  · have e : i = n := by omega
    subst e
    exact .inl ⟨w.stops H g, hd H p⟩
  · exact .inr ⟨w.goes i H (by omega) g, Pv (i + 1), fun H' p' => ⟨m - 1, by omega, by omega, p'⟩, fun x H' y => hs i x H H' (by omega) p (w.yields i H x H' (by omega) g y)⟩
/-! ### some things locked while an expression runs -/
def lkH (od : Addr → Obj) (L : List (Addr × HO)) (H : Hp) : Hp := fun a => match L.lookup a with
  | some u => some (.frz (od a) u)
  | none => H a
def ulH (L : List (Addr × HO)) (H : Hp) : Hp := fun a => match L.lookup a with
  | some u => some u
  | none => H a
theorem look_no {L : List (Addr × HO)} {a : Addr} (h : a ∉ L.map (·.1)) : L.lookup a = none := by
  induction L with
  | nil => rfl
  | cons p L ih =>
    rw [List.map_cons, List.mem_cons, not_or] at h
    rw [List.lookup_cons, beq_eq_false_iff_ne.mpr h.1]
    exact ih h.2
theorem look_at {L : List (Addr × HO)} (nd : (L.map (·.1)).Nodup) {p : Addr × HO} (hp : p ∈ L) : L.lookup p.1 = some p.2 := by
  induction L with
  | nil => cases hp
  | cons q L ih =>
    rw [List.map_cons] at nd
    obtain ⟨n1, n2⟩ := List.nodup_cons.mp nd
    rw [List.lookup_cons]
    rcases List.mem_cons.mp hp with e | e
    · rw [e, beq_self_eq_true]
    · have ne : p.1 ≠ q.1 := fun z => n1 (z ▸ List.mem_map_of_mem e)
      rw [beq_eq_false_iff_ne.mpr ne]
      exact ih n2 e
theorem lk_cons (od : Addr → Obj) (p : Addr × HO) (L : List (Addr × HO)) (H : Hp) : lkH od (p :: L) H = upd (lkH od L H) p.1 (.frz (od p.1) p.2) := by
  funext a
  unfold lkH
  rw [List.lookup_cons]
  by_cases e : a = p.1
  · subst e
    rw [beq_self_eq_true, upd_same]
  · rw [beq_eq_false_iff_ne.mpr e, upd_ne e]
theorem ul_cons (p : Addr × HO) (L : List (Addr × HO)) (H : Hp) : ulH (p :: L) H = upd (ulH L H) p.1 p.2 := by
  funext a
  unfold ulH
  rw [List.lookup_cons]
  by_cases e : a = p.1
  · subst e
    rw [beq_self_eq_true, upd_same]
  · rw [beq_eq_false_iff_ne.mpr e, upd_ne e]
theorem lk_congr {od od' : Addr → Obj} {L : List (Addr × HO)} {H : Hp} (h : ∀ a ∈ L.map (·.1), od a = od' a) : lkH od L H = lkH od' L H := by
  induction L with
  | nil => rfl
  | cons p L ih =>
    rw [lk_cons, lk_cons, ih fun a ha => h a (List.mem_cons_of_mem _ ha), h p.1 List.mem_cons_self]
theorem lk_out {od : Addr → Obj} {L : List (Addr × HO)} {H : Hp} {a : Addr} (h : a ∉ L.map (·.1)) : lkH od L H a = H a := by
  unfold lkH
  rw [look_no h]
theorem lk_in {od : Addr → Obj} {L : List (Addr × HO)} {H : Hp} (nd : (L.map (·.1)).Nodup) {p : Addr × HO} (hp : p ∈ L) : lkH od L H p.1 = some (.frz (od p.1) p.2) := by
  unfold lkH
  rw [look_at nd hp]
theorem ul_out {L : List (Addr × HO)} {H : Hp} {a : Addr} (h : a ∉ L.map (·.1)) : ulH L H a = H a := by
  unfold ulH
  rw [look_no h]
theorem ul_in {L : List (Addr × HO)} {H : Hp} (nd : (L.map (·.1)).Nodup) {p : Addr × HO} (hp : p ∈ L) : ulH L H p.1 = some p.2 := by
  unfold ulH
  rw [look_at nd hp]
theorem lk_free {od : Addr → Obj} {L : List (Addr × HO)} {H : Hp} (nd : (L.map (·.1)).Nodup) {a : Addr} (h : lkH od L H a = none) : a ∉ L.map (·.1) ∧ H a = none := by
  have h1 : a ∉ L.map (·.1) := fun z => by
    obtain ⟨p, hp, rfl⟩ := List.mem_map.mp z
    rw [lk_in nd hp] at h
    cases h
  exact ⟨h1, (lk_out h1).symm.trans h⟩
/-- behind the unlocking all is as it was, and what is new -/
theorem ul_same {od : Addr → Obj} {L : List (Addr × HO)} {H H' : Hp} (nd : (L.map (·.1)).Nodup) (at_ : ∀ p ∈ L, H p.1 = some p.2) (s : Same (lkH od L H) H') : Same H (ulH L H') := fun a o e => by
  by_cases h : a ∈ L.map (·.1)
  · obtain ⟨p, hp, rfl⟩ := List.mem_map.mp h
    rw [ul_in nd hp, ← at_ p hp]
    exact e
  · rw [ul_out h]
    exact s a o ((lk_out h).trans e)
def tLocks (t : TE) : TE := fun σ H Q => ∃ L : List (Addr × HO), (L.map (·.1)).Nodup ∧ (∀ p ∈ L, H p.1 = some p.2 ∧ Mut (some p.2)) ∧ ∀ od : Addr → Obj, t σ (lkH od L H) fun v H' => (∀ p ∈ L, H' p.1 = some (.frz (od p.1) p.2)) ∧ Q v (ulH L H')
section
variable {X : Cx} {pins : List (Addr × Obj)} {σ : L2.St} {H : Hp} {s : Shared}
theorem inv_locks (I : Inv X pins σ H s) : ∀ L : List (Addr × HO), (L.map (·.1)).Nodup → (∀ p ∈ L, H p.1 = some p.2 ∧ Mut (some p.2)) → ∃ od : Addr → Obj, Inv X pins σ (lkH od L H) s
  | [], _, _ => ⟨fun _ => { cls := .none, data := .fields #[] }, I⟩
  | p :: L, nd, h => by
    rw [List.map_cons] at nd
    obtain ⟨n1, n2⟩ := List.nodup_cons.mp nd
    obtain ⟨od, I1⟩ := inv_locks I L n2 fun q hq => h q (List.mem_cons_of_mem _ hq)
    obtain ⟨hp, mp⟩ := h p List.mem_cons_self
    obtain ⟨o, I2⟩ := I1.lock ((lk_out n1).trans hp) mp
    refine ⟨fun a => if a = p.1 then o else od a, ?_⟩
    have e : lkH (fun a => if a = p.1 then o else od a) L H = lkH od L H := lk_congr fun a ha => if_neg fun z : a = p.1 => n1 (by rw [← z]; exact ha)
    rw [lk_cons, if_pos rfl, e]
    exact I2
theorem inv_unlocks {od : Addr → Obj} (I : Inv X pins σ H s) : ∀ L : List (Addr × HO), (L.map (·.1)).Nodup → (∀ p ∈ L, H p.1 = some (.frz (od p.1) p.2) ∧ ∀ o' u', X.H_0 p.1 ≠ some (.frz o' u')) → Inv X pins σ (ulH L H) s
  | [], _, _ => I
  | p :: L, nd, h => by
    rw [List.map_cons] at nd
    obtain ⟨n1, n2⟩ := List.nodup_cons.mp nd
    rw [ul_cons]
    obtain ⟨h1, h2⟩ := h p List.mem_cons_self
    exact (inv_unlocks I L n2 fun q hq => h q (List.mem_cons_of_mem _ hq)).unlock ((ul_out n1).trans h1) h2
theorem pe_locks {e : Expr} {t : TE} (h : PE X e t) : PE X e (tLocks t) := by
  refine ⟨fun pins s σ H Q I ⟨L, nd, at_, hw⟩ => ?_⟩
  obtain ⟨od, I1⟩ := inv_locks I L nd at_
  refine thn (h.run pins s σ _ _ I1 (hw od)) fun v s1 ⟨x, H1, I2, r, back, q⟩ => ⟨x, _, inv_unlocks (od := od) I2 L nd fun p hp => ⟨back p hp, I.nofrz (at_ p hp).1 (at_ p hp).2⟩, r, q⟩
end
/-! ### members of a set of texts -/
theorem addL_mem {y z : Str} {l : List Str} : z ∈ addL y l ↔ z = y ∨ z ∈ l := by
  unfold addL
  by_cases h : y ∈ l
  · rw [if_pos h]
    exact ⟨.inr, fun q => q.elim (fun e => e ▸ h) id⟩
  · rw [if_neg h, List.mem_cons]
theorem addL_nd {y : Str} {l : List Str} (h : l.Nodup) : (addL y l).Nodup := by
  unfold addL
  split
  · exact h
  · exact List.nodup_cons.mpr ⟨by assumption, h⟩
end Wh

namespace Wh
open PySem L2
abbrev sWMarks : Stmt := metS 34 4
theorem scWMarks : FnScope ["self", "door", "mark"] ["self"] (defScope sWMarks) := ⟨rfl, rfl, rfl, by decide +kernel, rfl, by decide +kernel, by decide +kernel⟩
section
variable {P : Program} {w : World} {K : PySem.W.Frag} {mg : Str → Option Value} {base : Heap} {C : Addr}
/-- the doors' dicts with what they hold -/
def dL (ds : List Addr) (ts : List Tie) : List (Addr × HO) := ds.mapIdx fun h a => (a, .dK (doorsK h ts))
theorem dL_fst (ds : List Addr) (ts : List Tie) : (dL ds ts).map (·.1) = ds := by
  unfold dL
  refine List.ext_getElem? fun i => ?_
  rw [List.getElem?_map, List.getElem?_mapIdx, Option.map_map]
  cases ds[i]? <;> rfl
theorem dL_mem {ds : List Addr} {ts : List Tie} {p : Addr × HO} : p ∈ dL ds ts ↔ ∃ h a, ds[h]? = some a ∧ p = (a, .dK (doorsK h ts)) := by
  unfold dL
  rw [List.mem_iff_getElem?]
  constructor
  · rintro ⟨h, e⟩
    rw [List.getElem?_mapIdx] at e
    obtain ⟨a, ha, rfl⟩ := Option.map_eq_some_iff.mp e
    exact ⟨h, a, ha, rfl⟩
  · rintro ⟨h, a, ha, rfl⟩
    exact ⟨h, by rw [List.getElem?_mapIdx, ha]; rfl⟩
/-- the texts in l are the marks of the first i houses, and of house i the first j -/
structure MkSet (n : Nat) (ts : List Tie) (l : List Str) (i j : Nat) : Prop where
  nd : l.Nodup
  mem : ∀ t, t ∈ l ↔ (∃ h m, h < i ∧ m ∈ marksAt h ts ∧ t = sgn m) ∨ ∃ m, m ∈ (marksAt i ts).take j ∧ t = sgn m
theorem MkSet.len {n i j : Nat} {ts : List Tie} {l : List Str} (w : WebOk n ts) (M : MkSet n ts l i j) : l.length ≤ 12 := by
  have h : ∀ t ∈ l, t ∈ letters.map sgn := fun t ht => by
    rcases (M.mem t).mp ht with ⟨h, m, _, hm, rfl⟩ | ⟨m, hm, rfl⟩
    · exact List.mem_map_of_mem (marks_let w h m hm)
    · exact List.mem_map_of_mem (marks_let w i m (List.mem_of_mem_take hm))
  exact nd_sub_len M.nd h
theorem sgn_all : ∀ {ys : List Str}, (∀ t ∈ ys, ∃ m, t = sgn m) → ∃ ms : List Nat, ys = ms.map sgn
  | [], _ => ⟨[], rfl⟩
  | y :: ys, h => by
    obtain ⟨m, rfl⟩ := h y List.mem_cons_self
    obtain ⟨ms, rfl⟩ := sgn_all (ys := ys) fun t ht => h t (List.mem_cons_of_mem _ ht)
    exact ⟨m :: ms, rfl⟩
def spWMarks (C : Addr) : Sp := fun vs H Q _ => ∃ (x : Addr) (n : Nat) (ts : List Tie), vs = [.ref x] ∧ WebAt C H x n ts ∧
  ∀ (ms : List Nat) (H' : Hp), Same H H' → ms.Nodup → ms.Pairwise (· ≤ ·) → (∀ m, m ∈ ms ↔ ∃ h, h < n ∧ m ∈ marksAt h ts) → Q (.str (sS ms)) H'
theorem ok_wmarks {f : Addr} {fd : FuncData} (F : Fun K "marks" "Web.marks" sWMarks f fd) (cW : WebC K C) (msorted : mg "sorted" = none) : FnOk P w K mg base CX0 1 f fd ["self"] (spWMarks C) := by
  refine F.ok scWMarks (fun vs H Q E h => ?_) (fun cdv A outer s H vs Q E hr h => ?_)
  · obtain ⟨x, n, ts, rfl, _⟩ := h
    rfl
  · obtain ⟨x, n, ts, rfl, wb, k⟩ := h
    obtain ⟨dx, txt, l, ps, dl, ds, h1, h2, h3, h4, h5, h6⟩ := wb.ex
    have wkp : WebOk n (ps.map (·.2)) := wb.wk.perm h4.symm
    refine ⟨_, (pss_one (ps_ret (pe_joinK K rfl pe_str (pe_callB (cr_sortedL rfl) (by rfl) msorted (by decide +kernel) (pa_cons (pe_locks (pe_sc2 (own := [("door", 1), ("mark", 2)]) (us := [2]) rfl scWMarks.nd (pi_list (pe_fld (pv 0) rfl)) (blkOk_by (N := ["self", "door", "mark"]) (own := [("door", 1), ("mark", 2)]) (sc := defScope sWMarks) (by decide +kernel)) (by decide) (fun _ _ _ _ _ => (pg_name (i := 1) scWMarks.nd rfl (.inl rfl))) (fun _ _ _ _ _ => (pi_keys (pv 1))) (fun _ _ _ _ _ => (pg_name (i := 2) scWMarks.nd rfl (.inl rfl))) (fun _ _ _ _ _ => (pv 2)))) pa_nil))))), ?_⟩
    have ndL : ((dL ds (ps.map (·.2))).map (·.1)).Nodup := by rw [dL_fst]; exact (List.nodup_cons.mp h5.nd).2
    have atL : ∀ p ∈ dL ds (ps.map (·.2)), H p.1 = some p.2 ∧ Mut (some p.2) := fun p hp => by
      obtain ⟨h, a, ha, rfl⟩ := dL_mem.mp hp
      exact ⟨h5.hd h a ha, trivial⟩
    have noX : x ∉ (dL ds (ps.map (·.2))).map (·.1) := fun z => by
      rw [dL_fst, List.mem_iff_getElem?] at z
      obtain ⟨h, ha⟩ := z
      exact absurd ((h5.hd h x ha).symm.trans h1) (by intro z; cases z)
    have noD : dl ∉ (dL ds (ps.map (·.2))).map (·.1) := by rw [dL_fst]; exact (List.nodup_cons.mp h5.nd).1
    have lkX : ∀ od, lkH od (dL ds (ps.map (·.2))) H x = some (.ins C dx (webF txt (webS ts) l dl)) := fun od => (lk_out noX).trans h1
    have lkD : ∀ od, lkH od (dL ds (ps.map (·.2))) H dl = some (.lst (ds.map V.ref)) := fun od => (lk_out noD).trans h5.hl
    refine ⟨⟨_, rfl⟩, dL ds (ps.map (·.2)), ndL, atL, fun od => ⟨_, rfl, x, C, dx, _, _, rfl, lkX od, cW.c, cW.n4, ff_doors _ _ _ _, dl, rfl, ⟨_, SqL.of (lkD od)⟩, fun D nD => ?_⟩⟩
    obtain ⟨nD1, nD2⟩ := lk_free ndL nD
    refine walk_by (walk_list (K := K) (a := dl) (xs := ds.map V.ref)) (fun i H' => Same (lkH od (dL ds (ps.map (·.2))) H) H' ∧ ∃ l : List Str, H' D = some (SetL P w D l) ∧ MkSet n (ps.map (·.2)) l i 0) ⟨same_upd nD, [], upd_same, List.nodup_nil, fun t => ?_⟩ (fun i H' _ ⟨s, _⟩ => SqL.of (s _ _ (lkD od))) ?_ ?_
    · constructor
      · intro z
        cases z
      · rintro (⟨h, m, z, _⟩ | ⟨m, z, _⟩)
        · cases z
        · rw [List.take_zero] at z
          cases z
    · rintro i v H1 H2 hi ⟨s1, lt, hD, M⟩ ⟨rfl, hv⟩
      rw [List.length_map] at hi
      have hin : i < n := by rw [← h5.len]; exact hi
      have hg : ds[i]? = some ds[i] := List.getElem?_eq_getElem hi
      rw [List.getElem?_map, hg] at hv
      obtain rfl := Option.some.inj hv
      have hp : (ds[i], HO.dK (doorsK i (ps.map (·.2)))) ∈ dL ds (ps.map (·.2)) := dL_mem.mpr ⟨i, ds[i], hg, rfl⟩
      have frz : lkH od (dL ds (ps.map (·.2))) H ds[i] = some (.frz (od ds[i]) (.dK (doorsK i (ps.map (·.2))))) := lk_in ndL hp
      refine ⟨rfl, _, rfl, ds[i], od ds[i], rfl, .inl ⟨_, s1 _ _ frz, ?_⟩⟩
      refine walk_by (walk_keys (d := ds[i]) (o := od ds[i]) (kvs := doorsK i (ps.map (·.2)))) (fun j H' => Same (lkH od (dL ds (ps.map (·.2))) H) H' ∧ ∃ l : List Str, H' D = some (SetL P w D l) ∧ MkSet n (ps.map (·.2)) l i j) ⟨s1, lt, hD, M⟩ (fun j H' _ ⟨s, _⟩ => s _ _ frz) ?_ ?_
      · rintro j v H3 H4 hj ⟨s3, lt3, hD3, M3⟩ ⟨rfl, k, v', hkv, rfl⟩
        have hkey : ((doorsK i (ps.map (·.2))).map (·.1))[j]? = some k := by rw [List.getElem?_map, hkv]; rfl
        rw [doorsK_keys, List.getElem?_map] at hkey
        obtain ⟨m, hm, rfl⟩ := Option.map_eq_some_iff.mp hkey
        have l12 := M3.len wkp
        refine ⟨rfl, _, rfl, sgn m, lt3, rfl, hD3, Nat.lt_of_le_of_lt (Nat.succ_le_succ l12) (by decide), s3.own nD, addL (sgn m) lt3, upd_same, addL_nd M3.nd, fun t => ?_⟩
        rw [addL_mem, M3.mem t, List.take_succ, hm]
        constructor
        · rintro (rfl | z | ⟨m2, z, rfl⟩)
          · exact .inr ⟨m, List.mem_append_right _ (List.mem_singleton.mpr rfl), rfl⟩
          · exact .inl z
          · exact .inr ⟨m2, List.mem_append_left _ z, rfl⟩
        · rintro (z | ⟨m2, z, rfl⟩)
          · exact .inr (.inl z)
          · rcases List.mem_append.mp z with z | z
            · exact .inr (.inr ⟨m2, z, rfl⟩)
            · have z : m2 = m := by simpa using z
              exact .inl (by rw [z])
      · rintro H3 ⟨s3, lt3, hD3, M3⟩
        refine ⟨s3, lt3, hD3, M3.nd, fun t => ?_⟩
        rw [M3.mem t, List.take_of_length_le (by rw [doorsK_len]; exact Nat.le_refl _), List.take_zero]
        constructor
        · rintro (⟨h, m, z1, z2, rfl⟩ | ⟨m, z, rfl⟩)
          · exact .inl ⟨h, m, by omega, z2, rfl⟩
          · exact .inl ⟨i, m, by omega, z, rfl⟩
        · rintro (⟨h, m, z1, z2, rfl⟩ | ⟨m, z, rfl⟩)
          · by_cases e : h = i
            · exact .inr ⟨m, e ▸ z2, rfl⟩
            · exact .inl ⟨h, m, by omega, z2, rfl⟩
          · cases z
    · rintro H1 ⟨s1, lt, hD, M⟩
      refine ⟨fun p hp => s1 _ _ (lk_in ndL hp), ?_⟩
      have s2 : Same H (ulH (dL ds (ps.map (·.2))) H1) := ul_same ndL (fun p hp => (atL p hp).1) s1
      have hD2 : ulH (dL ds (ps.map (·.2))) H1 D = some (SetL P w D lt) := (ul_out nD1).trans hD
      rw [List.length_map] at M
      have l12 := M.len wkp
      refine ⟨D, lt, rfl, hD2, Nat.lt_of_le_of_lt l12 (by decide), fun ys p hys hso np => ?_⟩
      have hm : ∀ t ∈ ys, ∃ m, t = sgn m := fun t ht => by
        rcases (M.mem t).mp (hys.mem_iff.mp ht) with ⟨_, m, _, _, e⟩ | ⟨m, _, e⟩ <;> exact ⟨m, e⟩
      obtain ⟨ms, rfl⟩ := sgn_all hm
      have memM : ∀ m, m ∈ ms ↔ ∃ h, h < n ∧ m ∈ marksAt h ts := fun m => by
        have e1 : m ∈ ms ↔ sgn m ∈ ms.map sgn := ⟨fun z => List.mem_map_of_mem z, fun z => by
          obtain ⟨m2, h2, e2⟩ := List.mem_map.mp z
          exact sgn_inj e2 ▸ h2⟩
        rw [e1, hys.mem_iff, M.mem, List.take_zero, h5.len]
        constructor
        · rintro (⟨h, m2, z1, z2, e⟩ | ⟨_, z, _⟩)
          · exact ⟨h, z1, (marksAt_perm h4 h).mem_iff.mp (sgn_inj e ▸ z2)⟩
          · cases z
        · rintro ⟨h, z1, z2⟩
          exact .inl ⟨h, m, z1, (marksAt_perm h4 h).mem_iff.mpr z2, rfl⟩
      have ndM : ms.Nodup := List.Pairwise.of_map sgn (fun a b h e => h (congrArg sgn e)) (hys.nodup_iff.mpr M.nd)
      refine ⟨_, _, _, rfl, rfl, .inl (SqL.of upd_same), ?_, ?_⟩
      · have e0 : ("" : Str).length = 0 := by decide +kernel
        have := hys.length_eq
        rw [List.length_map] at this
        rw [sgn_sum, e0]
        omega
      · rw [join_sgn]
        exact k ms _ (s2.put np) ndM (letters_srt ms hso) memM
end
end Wh

namespace Wh
open PySem L2
abbrev sWord : Stmt := topS 19
abbrev sGo : Stmt := metS 34 7
theorem scWord : FnScope ["value", "letter"] ["value"] (defScope sWord) := ⟨rfl, rfl, rfl, by decide +kernel, rfl, by decide +kernel, by decide +kernel⟩
theorem scGo : FnScope ["self", "house", "word", "place", "mark"] ["self", "house", "word"] (defScope sGo) := ⟨rfl, rfl, rfl, by decide +kernel, rfl, by decide +kernel, by decide +kernel⟩
section
variable {P : Program} {w : World} {K : PySem.W.Frag} {mg : Str → Option Value} {base : Heap} {C : Addr}
def spWord : Sp := fun vs H Q _ => ∃ ms : List Nat, vs = [.str (sS ms)] ∧ (∀ m ∈ ms, m ∈ letters) ∧ 1 ≤ ms.length ∧ ms.length ≤ 200 ∧ ∀ H', Same H H' → Q (.bl true) H'
theorem ok_word {f fM : Addr} {fd fdM : FuncData} (F : Fun K "is_word" "is_word" sWord f fd) (misi : mg "isinstance" = none) (mstr : mg "str" = none) (mlen : mg "len" = none) (mall : mg "all" = none) {tW : Tok} (mW : mg "MOST_WORD" = some (.int 200 tW))
    (GM : FnOk P w K mg base CX0 1 fM fdM ["value"] spMark) (FM : Fun K "is_mark" "is_mark" sMark fM fdM) (bM : Binds K fdM ["value"] []) (mM : mg "is_mark" = some (.ref fM)) : FnOk P w K mg base CX0 2 f fd ["value"] spWord := by
  refine F.ok scWord (fun vs H Q E h => ?_) (fun cdv A outer s H vs Q E hr h => ?_)
  · obtain ⟨ms, rfl, _⟩ := h
    rfl
  · obtain ⟨ms, rfl, hl, h1, h2, k⟩ := h
    have hr1 : Room 1 _ := hr
    refine ⟨_, (pss_cons (ps_if (PW.pt (pw_or (pt_not (pt_val (pe_callB call_isi (by rfl) misi (by decide +kernel) (pa_cons (pv 0) (pa_cons (pe_bltn (by rfl) mstr (by decide +kernel) (show RelV (.ty "str") _ from rfl)) pa_nil))))) (pw_or1 (pt_not (pt_chain op_le op_le pe_int (pe_callB call_len_str (by rfl) mlen PySem.boot_len (pa_cons (pv 0) pa_nil)) (pe_glob (v := .int 200) rfl mW ⟨_, rfl⟩)))))) pss_never pss_nil) (pss_one (ps_ret (pe_callB (cr_all rfl) (by rfl) mall (by decide +kernel) (pa_cons (pe_lc (own := [("letter", 1)]) (g := gName 1) (tt := tYes) rfl scWord.nd (pi_str (pv 0)) (blkOk_by (N := ["value", "letter"]) (own := [("letter", 1)]) (sc := defScope sWord) (by decide +kernel)) (fun _ _ _ _ _ => (pg_name (i := 1) scWord.nd rfl (.inl rfl))) (fun _ _ _ _ _ => pts_nil) (fun _ _ _ _ _ => (pe_call GM hr1 (by rfl) mM FM.kp bM .nil pass0 (pa_cons (pv 1) pa_nil)))) pa_nil))))), ?_⟩
    refine ⟨_, rfl, _, _, _, _, true, rfl, .ty "str", .base (.str _), kit_ty (by decide +kernel), true, rfl, ?_⟩
    refine iteF ⟨_, rfl, sS ms, rfl, ?_, _, _, rfl, rfl, _, rfl, ?_⟩
    · rw [sS_len]
      exact Nat.le_of_lt (small1000 (by omega))
    rw [sS_len, decide_eq_true (show (1 : Int) ≤ (ms.length : Int) by omega)]
    refine iteT ⟨_, _, rfl, rfl, _, rfl, ?_⟩
    rw [decide_eq_true (show (ms.length : Int) ≤ 200 by omega)]
    refine iteF ⟨_, rfl, sS ms, rfl, fun D nD => ?_⟩
    refine lc_it walk_str (fun j H' => Same H H' ∧ H' D = some (.lst ((List.replicate j true).map V.bl))) ⟨same_upd nD, upd_same⟩ (fun _ _ _ _ => trivial) ?_ ?_
    · rintro j x H1 _ hj ⟨s1, hD⟩ ⟨rfl, m, hm, rfl⟩
      have hmi : ms[j]? = some m := by
        rw [← sS_cps ms, Array.getElem?_toList]
        exact hm
      refine ⟨rfl, _, rfl, m, rfl, ?_⟩
      rw [decide_eq_true (hl m (List.mem_of_getElem? hmi))]
      refine ⟨_, hD, ?_, s1.own nD, ?_⟩
      · have hj' : j < ms.length := (List.getElem?_eq_some_iff.mp hmi).1
        rw [List.length_map, List.length_replicate]
        exact small1000 (by omega)
      · rw [upd_same, List.replicate_succ', List.map_append]
        rfl
    · rintro H1 ⟨s1, hD⟩
      refine ⟨D, _, rfl, SqL.of hD, ?_⟩
      rw [show (List.replicate _ true).all id = true from List.all_eq_true.mpr fun b hb => (List.mem_replicate.mp hb).2]
      exact k H1 s1
theorem dr_at {H : Hp} {dl : Addr} {ds : List Addr} {n : Nat} {ts : List Tie} (d : Dr H dl ds n ts) {p : Nat} (hp : p < n) : ∃ a, atI (ds.map V.ref) (p : Int) = some (.ref a) ∧ H a = some (.dK (doorsK p ts)) := by
  have hi : p < ds.length := by rw [d.len]; exact hp
  have hg : ds[p]? = some ds[p] := List.getElem?_eq_getElem hi
  exact ⟨ds[p], atI_nat (by rw [List.getElem?_map, hg]; rfl), d.hd p _ hg⟩
/-- _law_walk: by the doors told -/
def spWalk : Sp := fun vs H Q _ => ∃ (dl : Addr) (ds : List Addr) (n : Nat) (ts : List Tie) (h : Nat) (ms : List Nat), vs = [.ref dl, .int (h : Int), .str (sS ms)] ∧ Dr H dl ds n ts ∧ WebOk n ts ∧ h < n ∧ Q (walkV (walkN ts h ms)) H
/-- Web.go, a house and a word -/
def spGo (C : Addr) : Sp := fun vs H Q _ => ∃ (x : Addr) (n : Nat) (ts : List Tie) (h : Nat) (ms : List Nat), vs = [.ref x, .int (h : Int), .str (sS ms)] ∧ WebAt C H x n ts ∧ h < n ∧ (∀ m ∈ ms, m ∈ letters) ∧ 1 ≤ ms.length ∧ ms.length ≤ 200 ∧
  ∀ H', Same H H' → Q (walkV (walkN ts h ms)) H'
theorem ok_go {f fC fW : Addr} {fd fdC fdW : FuncData} (F : Fun K "go" "Web.go" sGo f fd) (cW : WebC K C) (GC : FnOk P w K mg base CX0 5 fC fdC ["self", "house"] (spWCheck C)) (bC : Binds K fdC ["self", "house"] []) (mC : Meth K C "_check_house" fC)
    (GW : FnOk P w K mg base CX0 2 fW fdW ["value"] spWord) (FW : Fun K "is_word" "is_word" sWord fW fdW) (bW : Binds K fdW ["value"] []) (mW : mg "is_word" = some (.ref fW)) : FnOk P w K mg base CX0 6 f fd ["self", "house", "word"] (spGo C) := by
  refine F.ok scGo (fun vs H Q E h => ?_) (fun cdv A outer s H vs Q E hr h => ?_)
  · obtain ⟨x, n, ts, h, ms, rfl, _⟩ := h
    rfl
  · obtain ⟨x, n, ts, h, ms, rfl, wb, hn, hl, l1, l2, k⟩ := h
    have hr5 : Room 5 _ := hr
    have hr2 : Room 2 _ := hr.mono (by decide)
    obtain ⟨dx, txt, l, ps, dl, ds, h1, h2, h3, h4, h5, h6⟩ := wb.ex
    refine ⟨_, (C8.pss_cut (ps_expr (pe_meth (pv 0) cW.c mC GC hr5 bC .nil pass0 (pa_cons (pv 1) pa_nil))) (pss_cons (ps_if (pt_not (pt_val (pe_call GW hr2 (by rfl) mW FW.kp bW .nil pass0 (pa_cons (pv 2) pa_nil)))) pss_never pss_nil) (pss_cons (ps_set (i := 3) scGo.nd rfl (.inl rfl) (pv 1)) (C8.pss_cut (ps_for PassesOwn.never rfl (pi_str (pv 2)) (pg_name (i := 4) scGo.nd rfl (.inl rfl)) (pss_cons (ps_if (pt_cmp (pc_dnotin (hu_of hr) (pv 4) (pe_ix ix_list (pe_fld (pv 0) rfl) (pv 3) (fun _ _ => rfl)))) (pss_one (ps_ret pe_non)) pss_nil) (pss_one (ps_set (i := 3) scGo.nd rfl (.inl rfl) (pe_dget (hu_of hr) (pe_ix ix_list (pe_fld (pv 0) rfl) (pv 3) (fun _ _ => rfl)) (pv 4) (fun _ _ => rfl)))))) (pss_one (ps_ret (pv 3))))))), ?_⟩
    refine ⟨fun σ H' => H = H' ∧ σ = [some (.ref x), some (.int (h : Int)), some (.str (sS ms)), none, none], ?_, ?_⟩
    · exact ⟨_, rfl, x, dx, _, rfl, h1, ff_no _ _ _ _ (by decide +kernel), _, rfl, x, n, ts, h, rfl, wb, hn, rfl, rfl⟩
    rintro σ H' ⟨rfl, rfl⟩
    refine ⟨_, rfl, ms, rfl, hl, l1, l2, fun H1 s1 => ⟨_, rfl, ?_⟩⟩
    refine iteF ⟨_, rfl, ?_⟩
    have wb1 := wb.same s1
    have h11 := s1 _ _ h1
    have h51 := h5.same s1
    have wkp : WebOk n (ps.map (·.2)) := wb.wk.perm h4.symm
    rw [← walkN_perm wkp h4] at k
    refine ⟨fun σ H' => H1 = H' ∧ ∃ (p : Nat) (o : Option V), walkN (ps.map (·.2)) h ms = some p ∧ σ = [some (.ref x), some (.int (h : Int)), some (.str (sS ms)), some (.int (p : Int)), o], ?_, ?_⟩
    · refine ⟨_, rfl, _, rfl, for_it walk_str (fun i σ H' => H1 = H' ∧ ∃ (p : Nat) (o : Option V), p < n ∧ walkN (ps.map (·.2)) h (ms.take i) = some p ∧ σ = [some (.ref x), some (.int (h : Int)), some (.str (sS ms)), some (.int (p : Int)), o]) ⟨rfl, h, none, hn, rfl, rfl⟩ (fun _ _ _ _ _ => trivial) ?_ ?_⟩
      · rintro i y σ H2 _ hi ⟨rfl, p, o, hp, hw, rfl⟩ ⟨rfl, m, hm, rfl⟩
        have hmi : ms[i]? = some m := by
          rw [← sS_cps ms, Array.getElem?_toList]
          exact hm
        obtain ⟨a, ha, hda⟩ := dr_at h51 hp
        refine ⟨_, rfl, _, rfl, x, C, dx, _, _, rfl, h11, cW.c, cW.n4, ff_doors _ _ _ _, _, rfl, dl, _, _, _, rfl, rfl, SqL.of h51.hl, ha, a, _, rfl, DGet.k (k := Sum.inr (sgn m)) hda, _, rfl, ?_⟩
        rw [valV_door]
        cases hd : door p m (ps.map (·.2)) with
        | none =>
          rw [walk_stop hmi hw hd] at k
          exact iteT (k _ s1)
        | some q =>
          refine iteF ⟨_, rfl, x, C, dx, _, _, rfl, h11, cW.c, cW.n4, ff_doors _ _ _ _, _, rfl, dl, _, _, _, rfl, rfl, SqL.of h51.hl, ha, _, rfl, a, .int (q : Int), rfl, ?_, rfl, q, _, door_lt wkp hd, (walk_step hmi hw).trans hd, rfl⟩
          have g := DGet.k (k := Sum.inr (sgn m)) hda
          rw [valV_door, hd] at g
          exact g
      · rintro σ H2 ⟨rfl, p, o, hp, hw, rfl⟩
        rw [List.take_of_length_le (by rw [← sS_len]; exact Nat.le_refl _)] at hw
        exact ⟨rfl, p, o, hw, rfl⟩
    rintro σ H2 ⟨rfl, p, o, hw, rfl⟩
    rw [hw] at k
    exact ⟨_, rfl, k _ s1⟩
end
end Wh

namespace Wh
open PySem L2
abbrev sCkWeb : Stmt := topS 37
theorem scCkWeb : FnScope ["web"] ["web"] (defScope sCkWeb) := ⟨rfl, rfl, rfl, by decide +kernel, rfl, by decide +kernel, by decide +kernel⟩
section
variable {P : Program} {w : World} {K : PySem.W.Frag} {mg : Str → Option Value} {base : Heap} {C : Addr}
/-! ### doors of a tuple of ties -/
def spCountT (K : PySem.W.Frag) : Sp := fun vs H Q _ => ∃ (l : Addr) (ps : List (Addr × Tie)) (n : Nat), vs = [.ref l] ∧ H l = some (.tup (refs ps)) ∧ At tieV H ps ∧ WebOk n (ps.map (·.2)) ∧ ∀ H', Same H H' → Q (.int (n : Int)) H'
theorem ok_countT {f : Addr} {fd : FuncData} (F : Fun K "count_houses" "count_houses" sCount f fd) (mmax : mg "max" = none) : FnOk P w K mg base CX0 1 f fd ["ties"] (spCountT K) := by
  refine F.ok scCount (fun vs H Q E h => ?_) (fun cdv A outer s H vs Q E hr h => ?_)
  · obtain ⟨l, ps, n, rfl, _⟩ := h
    rfl
  · obtain ⟨l, ps, n, rfl, hl, hA, wk, k⟩ := h
    refine ⟨_, (pss_one (ps_ret (pe_op op_add (pe_callB (cr_max rfl) (by rfl) mmax (by decide +kernel) (pa_cons (pe_lc (own := [("tie", 1)]) (g := gName 1) (tt := tYes) rfl scCount.nd (pi_tup (pv 0)) (blkOk_by (N := ["ties", "tie"]) (own := [("tie", 1)]) (sc := defScope sCount) (by decide +kernel)) (fun _ _ _ _ _ => (pg_name (i := 1) scCount.nd rfl (.inl rfl))) (fun _ _ _ _ _ => pts_nil) (fun _ _ _ _ _ => (pe_ix (ix_tupK K rfl) (pv 1) pe_int (fun _ _ => rfl)))) pa_nil)) pe_int))), ?_⟩
    refine ⟨_, rfl, l, rfl, ⟨_, SqT.of hl⟩, fun D nD => ?_⟩
    refine lc_tup (K := K) (a := l) (xs := refs ps) (fun i H' => Same H H' ∧ H' D = some (.lst (((ps.map fun p => (p.2.b : Int)).take i).map V.int))) ⟨same_upd nD, upd_same⟩ (fun i H' _ ⟨s, _⟩ => SqT.of (s _ _ hl)) ?_ ?_
    · rintro i x H1 hx ⟨s1, hD⟩
      obtain ⟨⟨p, t⟩, hk, rfl⟩ := refs_get hx
      have hp : H1 p = some (.tup (tieV t)) := s1 _ _ (hA _ (List.mem_of_getElem? hk))
      refine ⟨rfl, _, rfl, p, _, _, _, rfl, rfl, SqT.of hp, rfl, _, hD, ?_, s1.own nD, ?_⟩
      · have := wk.len
        rw [List.length_map] at this
        rw [List.length_map, List.length_take, List.length_map]
        exact small1000 (by omega)
      · rw [upd_same, List.take_succ, List.getElem?_map, hk, List.map_append]
        rfl
    · rintro H1 ⟨s1, hD⟩
      rw [refs_len, List.take_of_length_le (by rw [List.length_map]; exact Nat.le_refl _)] at hD
      refine ⟨D, _, rfl, SqL.of hD, ?_, fun m hm hle => ?_⟩
      · have := wk.ne
        rw [List.length_map]
        exact List.length_pos_iff.mpr fun e => this (by rw [e]; rfl)
      · refine ⟨_, _, rfl, rfl, ?_⟩
        show Q (.int (m + 1)) H1
        rw [max_top wk hm hle]
        exact k H1 s1
def spDoorsT (K : PySem.W.Frag) : Sp := fun vs H Q _ => ∃ (l : Addr) (ps : List (Addr × Tie)) (n : Nat), vs = [.ref l] ∧ H l = some (.tup (refs ps)) ∧ At tieV H ps ∧ WebOk n (ps.map (·.2)) ∧
  ∀ (dl : Addr) (ds : List Addr) (H' : Hp), Same H H' → Dr H' dl ds n (ps.map (·.2)) → H dl = none → (∀ a ∈ ds, H a = none) → Q (.ref dl) H'
theorem ok_doorsT {f fC : Addr} {fd fdC : FuncData} (F : Fun K "doors_of" "doors_of" sDoors f fd) (mmax : mg "max" = none) (mrange : mg "range" = none) (FC : Fun K "count_houses" "count_houses" sCount fC fdC) (bC : Binds K fdC ["ties"] []) (mC : mg "count_houses" = some (.ref fC)) :
    FnOk P w K mg base CX0 2 f fd ["ties"] (spDoorsT K) := by
  have GC : FnOk P w K mg base CX0 1 fC fdC ["ties"] (spCountT K) := ok_countT FC mmax
  refine F.ok scDoors (fun vs H Q E h => ?_) (fun cdv A outer s H vs Q E hr h => ?_)
  · obtain ⟨l, ps, n, rfl, _⟩ := h
    rfl
  · obtain ⟨l, ps, n, rfl, hl, hA, wk, k⟩ := h
    refine ⟨_, (C8.pss_cut (ps_setLc (i := 1) (own := [("_", 6)]) (g := gName 6) (tt := tYes) rfl scDoors.nd rfl rfl (sw_true rfl rfl rfl (by decide +kernel)) (pi_range1 (by rfl) mrange (pa_cons (pe_call GC hr (by rfl) mC FC.kp bC .nil pass0 (pa_cons (pv 0) pa_nil)) pa_nil)) (blkOk_by (N := ["ties", "doors", "low", "mark", "high", "back", "_"]) (own := [("_", 6)]) (sc := defScope sDoors) (by decide +kernel)) (fun _ _ _ _ _ => (pg_name (i := 6) scDoors.nd rfl (.inl rfl))) (fun _ _ _ _ _ => pts_nil) (fun _ _ _ _ _ => pe_dnewK)) (C8.pss_cut (ps_for PassesOwn.never rfl (pi_tup (pv 0)) (pg_tup (by rfl) (pgs_cons (pg_name (i := 2) scDoors.nd rfl (.inl rfl)) (pgs_cons (pg_name (i := 3) scDoors.nd rfl (.inl rfl)) (pgs_cons (pg_name (i := 4) scDoors.nd rfl (.inl rfl)) (pgs_cons (pg_name (i := 5) scDoors.nd rfl (.inl rfl)) pgs_nil))))) (pss_cons (ps_dput (hu_of hr) (pe_ix ix_list (pv 1) (pv 2) (fun _ _ => rfl)) (pv 3) (pv 4) rfl) (pss_one (ps_dput (hu_of hr) (pe_ix ix_list (pv 1) (pv 4) (fun _ _ => rfl)) (pv 5) (pv 2) rfl)))) (pss_one (ps_ret (pv 1))))), ?_⟩
    refine ⟨fun σ H' => Same H H' ∧ ∃ (dl : Addr) (ds : List Addr), Dr H' dl ds n [] ∧ H dl = none ∧ (∀ a ∈ ds, H a = none) ∧ σ = [some (.ref l), some (.ref dl), none, none, none, none, none], ?_, ?_⟩
    · refine ⟨_, rfl, l, ps, n, rfl, hl, hA, wk, fun H1 s1 => ⟨(n : Int), rfl, by omega, by have := wk.n10; omega, fun D nD => ?_⟩⟩
      rw [show ((n : Int)).toNat = n from Int.toNat_natCast n]
      exact rd_dicts s1 wk.n10 nD (fun ds H' s2 d hn => ⟨s2, D, ds, d, s1.free nD, hn, rfl⟩) fun _ => rfl
    rintro σ H1 ⟨s1, dl, ds, dr, ndl, nds, rfl⟩
    refine ⟨fun σ H' => Same H H' ∧ Dr H' dl ds n (ps.map (·.2)) ∧ ∃ w2 w3 w4 w5 : Option V, σ = [some (.ref l), some (.ref dl), w2, w3, w4, w5, none], ?_, ?_⟩
    · refine ⟨_, rfl, l, rfl, ⟨_, SqT.of (s1 _ _ hl)⟩, for_tup (K := K) (a := l) (xs := refs ps) (fun i σ H' => Same H H' ∧ Dr H' dl ds n ((ps.map (·.2)).take i) ∧ ∃ w2 w3 w4 w5 : Option V, σ = [some (.ref l), some (.ref dl), w2, w3, w4, w5, none])
        ⟨s1, dr, none, none, none, none, rfl⟩ (fun i σ H' _ ⟨s, _⟩ => SqT.of (s _ _ hl)) ?_ ?_⟩
      · rintro i x σ H2 hx ⟨s2, d2, w2, w3, w4, w5, rfl⟩
        obtain ⟨⟨p, t⟩, hk, rfl⟩ := refs_get hx
        have hp : H2 p = some (.tup (tieV t)) := s2 _ _ (hA _ (List.mem_of_getElem? hk))
        have hkt : (ps.map (·.2))[i]? = some t := by rw [List.getElem?_map, hk]; rfl
        obtain ⟨tab, tbn⟩ := wk.lt t (List.mem_of_getElem? hkt)
        have ne : t.a ≠ t.b := by omega
        have hi1 : t.a < ds.length := by rw [d2.len]; omega
        have hi2 : t.b < ds.length := by rw [d2.len]; omega
        have g1 : ds[t.a]? = some ds[t.a] := List.getElem?_eq_getElem hi1
        have g2 : ds[t.b]? = some ds[t.b] := List.getElem?_eq_getElem hi2
        have at1 : ∀ {j : Nat} (hj : j < ds.length), atI (ds.map V.ref) (j : Int) = some (.ref ds[j]) := fun {j} hj => atI_nat (by rw [List.getElem?_map, List.getElem?_eq_getElem hj]; rfl)
        obtain ⟨h3, und⟩ := List.nodup_cons.mp d2.nd
        have n12 : ds[t.a] ≠ ds[t.b] := fun z => ne (nd_ix und g1 (by rw [z]; exact g2))
        have sz : ∀ h, (doorsK h ((ps.map (·.2)).take i)).length < sizeLine := fun h => by
          rw [doorsK_len]
          exact small1000 (by have := marksAt_take_len h wk i; omega)
        refine ⟨p, _, rfl, SqT.of hp, rfl, _, _, rfl, _, _, rfl, _, _, rfl, _, _, rfl, rfl, ?_⟩
        refine ⟨_, rfl, _, rfl, _, rfl, dl, _, _, _, rfl, rfl, SqL.of d2.hl, at1 hi1, _, rfl, _, _, rfl, DPut.k (k := Sum.inr (sgn t.m)) (d2.hd _ _ g1) (sz _), ?_⟩
        rw [put_mark _ (mark_new_a wk.uniq hkt ne)]
        have hl2 := put_ne (u := HO.dK (doorsK t.a ((ps.map (·.2)).take i) ++ [(Sum.inr (sgn t.m), V.int (t.b : Int))])) d2.hl (fun z => h3 (z ▸ List.mem_of_getElem? g1))
        have hd2 := put_ne (u := HO.dK (doorsK t.a ((ps.map (·.2)).take i) ++ [(Sum.inr (sgn t.m), V.int (t.b : Int))])) (d2.hd _ _ g2) (fun z => n12 z.symm)
        refine ⟨_, rfl, _, rfl, _, rfl, dl, _, _, _, rfl, rfl, SqL.of hl2, at1 hi2, _, rfl, _, _, rfl, DPut.k (k := Sum.inr (sgn t.o)) hd2 (sz _), ?_⟩
        rw [put_mark _ (mark_new_b wk.uniq hkt ne)]
        refine ⟨((s2.own (nds _ (List.mem_of_getElem? g1))).own (nds _ (List.mem_of_getElem? g2))), ?_, _, _, _, _, rfl⟩
        rw [List.take_succ, hkt]
        exact d2.step t ne g1 g2
      · rintro σ H2 ⟨s2, d2, w2, w3, w4, w5, rfl⟩
        rw [refs_len, List.take_of_length_le (by rw [List.length_map]; exact Nat.le_refl _)] at d2
        exact ⟨s2, d2, _, _, _, _, rfl⟩
    rintro σ H2 ⟨s2, d2, w2, w3, w4, w5, rfl⟩
    exact ⟨_, rfl, k dl ds H2 s2 d2 ndl nds⟩

/-! ### the checks, where nothing is wrong -/
theorem _root_.Wh.WebAt.fgo {H : Hp} {x : Addr} {n : Nat} {ts : List Tie} (w : WebAt C H x n ts) : ∃ dx fs, H x = some (.ins C dx fs) ∧ fs.lookup ("go" : Str) = none := by
  obtain ⟨dx, txt, l, ps, dl, ds, h1, _⟩ := w.ex
  exact ⟨dx, _, h1, ff_no _ _ _ _ (by decide +kernel)⟩
def spCkWeb (C : Addr) : Sp := fun vs H Q _ => ∃ (x : Addr) (n : Nat) (ts : List Tie), vs = [.ref x] ∧ WebAt C H x n ts ∧ Q .non H
theorem ok_ckweb {f : Addr} {fd : FuncData} (F : Fun K "check_web" "check_web" sCkWeb f fd) (cW : WebC K C) (I : WebI K C) (misi : mg "isinstance" = none) (mW : mg "Web" = some (.ref C)) : FnOk P w K mg base CX0 1 f fd ["web"] (spCkWeb C) := by
  refine F.ok scCkWeb (fun vs H Q E h => ?_) (fun cdv A outer s H vs Q E hr h => ?_)
  · obtain ⟨x, n, ts, rfl, _⟩ := h
    rfl
  · obtain ⟨x, n, ts, rfl, wb, k⟩ := h
    obtain ⟨dx, txt, l, ps, dl, ds, h1, _⟩ := wb.ex
    refine ⟨_, (pss_one (ps_if (pt_not (pt_val (pe_callB call_isi (by rfl) misi (by decide +kernel) (pa_cons (pv 0) (pa_cons (pe_glob (v := .ref C) rfl mW rfl) pa_nil))))) pss_never pss_nil)), ?_⟩
    exact ⟨_, rfl, _, _, _, _, true, rfl, .own C, .base (.ins h1 cW.c I.ha I.hn I.ht I.hm), I.kit, true, rfl, iteF k⟩
def spCkWord : Sp := fun vs H Q _ => ∃ ms : List Nat, vs = [.str (sS ms)] ∧ (∀ m ∈ ms, m ∈ letters) ∧ 1 ≤ ms.length ∧ ms.length ≤ 200 ∧ ∀ H', Same H H' → Q .non H'
def spIsPair : Sp := fun vs H Q _ => ∃ (p : Addr) (q : Pr) (n : Nat), vs = [.ref p, .int (n : Int)] ∧ H p = some (.tup (prV q)) ∧ q.1 < n ∧ q.2 < n ∧ ∀ H', Same H H' → Q (.bl true) H'
def spCkPair (C : Addr) : Sp := fun vs H Q _ => ∃ (x p : Addr) (n : Nat) (ts : List Tie) (q : Pr), vs = [.ref x, .ref p] ∧ WebAt C H x n ts ∧ H p = some (.tup (prV q)) ∧ q.1 < n ∧ q.2 < n ∧ ∀ H', Same H H' → Q .non H'
/-! ### led -/
def poV (p : Nat × Option Nat) : List V := [.int (p.1 : Int), walkV p.2]
def ledL (n : Nat) (ts : List Tie) (ms : List Nat) : List Pr := (List.range n).filterMap fun h => (walkN ts h ms).map fun e => (h, e)
def spLed (C : Addr) : Sp := fun vs H Q _ => ∃ (x : Addr) (n : Nat) (ts : List Tie) (ms : List Nat), vs = [.ref x, .str (sS ms)] ∧ WebAt C H x n ts ∧ (∀ m ∈ ms, m ∈ letters) ∧ 1 ≤ ms.length ∧ ms.length ≤ 200 ∧
  ∀ (p : Addr) (prs : List (Addr × Pr)) (H' : Hp), Same H H' → H p = none → H' p = some (.tup (refs prs)) → At prV H' prs → prs.map (·.2) = ledL n ts ms → Q (.ref p) H'
/-! ### unlike -/
def unB (ts : List Tie) (ms ks : List Nat) (h : Nat) : Bool := match walkN ts h ms, walkN ts h ks with
  | some a, some b => !decide (a = b)
  | _, _ => false
def unL (n : Nat) (ts : List Tie) (ms ks : List Nat) : List Nat := (List.range n).filter (unB ts ms ks)
def natV (h : Nat) : V := .int (h : Int)
def spUnlike (C : Addr) : Sp := fun vs H Q _ => ∃ (x : Addr) (n : Nat) (ts : List Tie) (ms ks : List Nat), vs = [.ref x, .str (sS ms), .str (sS ks)] ∧ WebAt C H x n ts ∧ (∀ m ∈ ms, m ∈ letters) ∧ 1 ≤ ms.length ∧ ms.length ≤ 200 ∧ (∀ m ∈ ks, m ∈ letters) ∧ 1 ≤ ks.length ∧ ks.length ≤ 200 ∧
  ∀ (p : Addr) (H' : Hp), Same H H' → H p = none → H' p = some (.tup ((unL n ts ms ks).map natV)) → Q (.ref p) H'
end
end Wh

namespace Wh
open PySem L2
abbrev sRoads : Stmt := topS 58
theorem scRoads : FnScope ["ties_here", "found", "one", "mark", "two", "back", "tie", "k"] ["ties_here"] (defScope sRoads) := ⟨rfl, rfl, rfl, by decide +kernel, rfl, by decide +kernel, by decide +kernel⟩
section
variable {P : Program} {w : World} {K : PySem.W.Frag} {mg : Str → Option Value} {base : Heap}
theorem ok_roads {f : Addr} {fd : FuncData} (F : Fun K "_law_roads" "_law_roads" sRoads f fd) (mmax : mg "max" = none) (mrange : mg "range" = none) : FnOk P w K mg base CX0 1 f fd ["ties_here"] (spDoors K) := by
  refine F.ok scRoads (fun vs H Q E h => ?_) (fun cdv A outer s H vs Q E hr h => ?_)
  · obtain ⟨l, ps, n, rfl, _⟩ := h
    rfl
  · obtain ⟨l, ps, n, rfl, hl, hA, wk, k⟩ := h
    refine ⟨_, (C8.pss_cut (ps_setLc (i := 1) (own := [("k", 7)]) (g := gName 7) (tt := tYes) rfl scRoads.nd rfl rfl (sw_true rfl rfl rfl (by decide +kernel)) (pi_range1 (by rfl) mrange (pa_cons (pe_op op_add pe_int (pe_callB (cr_max rfl) (by rfl) mmax (by decide +kernel) (pa_cons (pe_lc (own := [("tie", 6)]) (g := gName 6) (tt := tYes) rfl scRoads.nd (pi_list (pv 0)) (blkOk_by (N := ["ties_here", "found", "one", "mark", "two", "back", "tie", "k"]) (own := [("tie", 6)]) (sc := defScope sRoads) (by decide +kernel)) (fun _ _ _ _ _ => (pg_name (i := 6) scRoads.nd rfl (.inl rfl))) (fun _ _ _ _ _ => pts_nil) (fun _ _ _ _ _ => (pe_ix (ix_tupK K rfl) (pv 6) pe_int (fun _ _ => rfl)))) pa_nil))) pa_nil)) (blkOk_by (N := ["ties_here", "found", "one", "mark", "two", "back", "tie", "k"]) (own := [("k", 7)]) (sc := defScope sRoads) (by decide +kernel)) (fun _ _ _ _ _ => (pg_name (i := 7) scRoads.nd rfl (.inl rfl))) (fun _ _ _ _ _ => pts_nil) (fun _ _ _ _ _ => pe_dnewK)) (C8.pss_cut (ps_for PassesOwn.never rfl (pi_list (pv 0)) (pg_tup (by rfl) (pgs_cons (pg_name (i := 2) scRoads.nd rfl (.inl rfl)) (pgs_cons (pg_name (i := 3) scRoads.nd rfl (.inl rfl)) (pgs_cons (pg_name (i := 4) scRoads.nd rfl (.inl rfl)) (pgs_cons (pg_name (i := 5) scRoads.nd rfl (.inl rfl)) pgs_nil))))) (pss_one (ps_asg (pe_tup (pa_cons (pv 4) (pa_cons (pv 2) pa_nil))) (pg_tup (by rfl) (pgs_cons (pg_sub (pe_ix ix_list (pv 1) (pv 2) (fun _ _ => rfl)) (pv 3) (set_dict (hu_of hr))) (pgs_cons (pg_sub (pe_ix ix_list (pv 1) (pv 4) (fun _ _ => rfl)) (pv 5) (set_dict (hu_of hr))) pgs_nil)))))) (pss_one (ps_ret (pv 1))))), ?_⟩
    refine ⟨fun σ H' => Same H H' ∧ ∃ (dl : Addr) (ds : List Addr), Dr H' dl ds n [] ∧ H dl = none ∧ (∀ a ∈ ds, H a = none) ∧ σ = [some (.ref l), some (.ref dl), none, none, none, none, none, none], ?_, ?_⟩
    · refine ⟨_, rfl, l, rfl, ⟨_, SqL.of hl⟩, fun D nD => ?_⟩
      refine lc_list (K := K) (a := l) (xs := refs ps) (fun i H' => Same H H' ∧ H' D = some (.lst (((ps.map fun p => (p.2.b : Int)).take i).map V.int))) ⟨same_upd nD, upd_same⟩ (fun i H' _ ⟨s, _⟩ => SqL.of (s _ _ hl)) ?_ ?_
      · rintro i x H1 hx ⟨s1, hD⟩
        obtain ⟨⟨p, t⟩, hk, rfl⟩ := refs_get hx
        have hp : H1 p = some (.tup (tieV t)) := s1 _ _ (hA _ (List.mem_of_getElem? hk))
        refine ⟨rfl, _, rfl, p, _, _, _, rfl, rfl, SqT.of hp, rfl, _, hD, ?_, s1.own nD, ?_⟩
        · have := wk.len
          rw [List.length_map] at this
          rw [List.length_map, List.length_take, List.length_map]
          exact small1000 (by omega)
        · rw [upd_same, List.take_succ, List.getElem?_map, hk, List.map_append]
          rfl
      · rintro H1 ⟨s1, hD⟩
        rw [refs_len, List.take_of_length_le (by rw [List.length_map]; exact Nat.le_refl _)] at hD
        refine ⟨D, _, rfl, SqL.of hD, ?_, fun m hm hle => ?_⟩
        · have := wk.ne
          rw [List.length_map]
          exact List.length_pos_iff.mpr fun e => this (by rw [e]; rfl)
        · have em := max_top wk hm hle
          refine ⟨_, _, rfl, rfl, (1 + m), rfl, by omega, by have := wk.n10; omega, fun D nD => ?_⟩
          rw [show (1 + m).toNat = n by omega]
          exact rd_dicts s1 wk.n10 nD (fun ds H' s2 d hn => ⟨s2, D, ds, d, s1.free nD, hn, rfl⟩) fun _ => rfl
    rintro σ H1 ⟨s1, dl, ds, dr, ndl, nds, rfl⟩
    refine ⟨fun σ H' => Same H H' ∧ Dr H' dl ds n (ps.map (·.2)) ∧ ∃ w2 w3 w4 w5 : Option V, σ = [some (.ref l), some (.ref dl), w2, w3, w4, w5, none, none], ?_, ?_⟩
    · refine ⟨_, rfl, l, rfl, ⟨_, SqL.of (s1 _ _ hl)⟩, for_list (K := K) (a := l) (xs := refs ps) (fun i σ H' => Same H H' ∧ Dr H' dl ds n ((ps.map (·.2)).take i) ∧ ∃ w2 w3 w4 w5 : Option V, σ = [some (.ref l), some (.ref dl), w2, w3, w4, w5, none, none])
        ⟨s1, dr, none, none, none, none, rfl⟩ (fun i σ H' _ ⟨s, _⟩ => SqL.of (s _ _ hl)) ?_ ?_⟩
      · rintro i x σ H2 hx ⟨s2, d2, w2, w3, w4, w5, rfl⟩
        obtain ⟨⟨p, t⟩, hk, rfl⟩ := refs_get hx
        have hp : H2 p = some (.tup (tieV t)) := s2 _ _ (hA _ (List.mem_of_getElem? hk))
        have hkt : (ps.map (·.2))[i]? = some t := by rw [List.getElem?_map, hk]; rfl
        obtain ⟨tab, tbn⟩ := wk.lt t (List.mem_of_getElem? hkt)
        have ne : t.a ≠ t.b := by omega
        have hi1 : t.a < ds.length := by rw [d2.len]; omega
        have hi2 : t.b < ds.length := by rw [d2.len]; omega
        have g1 : ds[t.a]? = some ds[t.a] := List.getElem?_eq_getElem hi1
        have g2 : ds[t.b]? = some ds[t.b] := List.getElem?_eq_getElem hi2
        have at1 : ∀ {j : Nat} (hj : j < ds.length), atI (ds.map V.ref) (j : Int) = some (.ref ds[j]) := fun {j} hj => atI_nat (by rw [List.getElem?_map, List.getElem?_eq_getElem hj]; rfl)
        obtain ⟨h3, und⟩ := List.nodup_cons.mp d2.nd
        have n12 : ds[t.a] ≠ ds[t.b] := fun z => ne (nd_ix und g1 (by rw [z]; exact g2))
        have sz : ∀ h, (doorsK h ((ps.map (·.2)).take i)).length < sizeLine := fun h => by
          rw [doorsK_len]
          exact small1000 (by have := marksAt_take_len h wk i; omega)
        refine ⟨p, _, rfl, SqT.of hp, rfl, _, _, rfl, _, _, rfl, _, _, rfl, _, _, rfl, rfl, ?_⟩
        refine ⟨_, rfl, _, rfl, (by show 2 ≤ sizeLine; decide), fun q nq => ⟨q, _, rfl, SqT.of upd_same, rfl, ?_⟩⟩
        have s3 := same_upd nq (o := .tup [V.int (t.b : Int), V.int (t.a : Int)])
        have d3 := d2.same s3
        have s2 := s2.trans s3
        refine ⟨_, _, rfl, _, rfl, _, rfl, dl, _, _, _, rfl, rfl, SqL.of d3.hl, at1 hi1, _, rfl, _, _, rfl, DPut.k (k := Sum.inr (sgn t.m)) (d3.hd _ _ g1) (sz _), ?_⟩
        rw [put_mark _ (mark_new_a wk.uniq hkt ne)]
        have hl2 := put_ne (u := HO.dK (doorsK t.a ((ps.map (·.2)).take i) ++ [(Sum.inr (sgn t.m), V.int (t.b : Int))])) d3.hl (fun z => h3 (z ▸ List.mem_of_getElem? g1))
        have hd2 := put_ne (u := HO.dK (doorsK t.a ((ps.map (·.2)).take i) ++ [(Sum.inr (sgn t.m), V.int (t.b : Int))])) (d3.hd _ _ g2) (fun z => n12 z.symm)
        refine ⟨_, _, rfl, _, rfl, _, rfl, dl, _, _, _, rfl, rfl, SqL.of hl2, at1 hi2, _, rfl, _, _, rfl, DPut.k (k := Sum.inr (sgn t.o)) hd2 (sz _), ?_⟩
        rw [put_mark _ (mark_new_b wk.uniq hkt ne)]
        refine ⟨rfl, ((Same.own (Same.own s2 (nds _ (List.mem_of_getElem? g1))) (nds _ (List.mem_of_getElem? g2)))), ?_, _, _, _, _, rfl⟩
        rw [List.take_succ, hkt]
        exact d3.step t ne g1 g2
      · rintro σ H2 ⟨s2, d2, w2, w3, w4, w5, rfl⟩
        rw [refs_len, List.take_of_length_le (by rw [List.length_map]; exact Nat.le_refl _)] at d2
        exact ⟨s2, d2, _, _, _, _, rfl⟩
    rintro σ H2 ⟨s2, d2, w2, w3, w4, w5, rfl⟩
    exact ⟨_, rfl, k dl ds H2 s2 d2 ndl nds⟩
end
end Wh

set_option maxHeartbeats 3200000
namespace Wh
open PySem PySem.Spec PyProof.Rows L2 PySem.Froz
/-! ### set(xs), xs a list of texts -/
def gotL (xs : List Str) : List Str := xs.foldl (fun l y => addL y l) []
theorem gotL_snoc (xs : List Str) (y : Str) : gotL (xs ++ [y]) = addL y (gotL xs) := by
  unfold gotL
  rw [List.foldl_append]
  rfl
theorem addL_len (y : Str) (l : List Str) : (addL y l).length ≤ l.length + 1 := by
  unfold addL
  split
  · omega
  · exact Nat.le_refl _
theorem addL_in {x y : Str} {l : List Str} : x ∈ addL y l ↔ x = y ∨ x ∈ l := by
  unfold addL
  split
  · rename_i h
    exact ⟨.inr, fun z => z.elim (fun e => e ▸ h) id⟩
  · exact List.mem_cons
theorem gotL_all (xs : List Str) : (gotL xs).length ≤ xs.length ∧ (∀ x, x ∈ gotL xs ↔ x ∈ xs) ∧ (gotL xs).Nodup := by
  have main : ∀ (ys acc : List Str), acc.Nodup → (ys.foldl (fun l y => addL y l) acc).length ≤ acc.length + ys.length ∧ (∀ x, x ∈ ys.foldl (fun l y => addL y l) acc ↔ x ∈ acc ∨ x ∈ ys) ∧ (ys.foldl (fun l y => addL y l) acc).Nodup := by
    intro ys
    induction ys with
    | nil => exact fun acc nd => ⟨Nat.le_refl _, fun x => by simp, nd⟩
    | cons y ys ih =>
      intro acc nd
      have nd' : (addL y acc).Nodup := by
        unfold addL
        split
        · exact nd
        · rename_i h
          exact List.nodup_cons.mpr ⟨h, nd⟩
      obtain ⟨h1, h2, h3⟩ := ih (addL y acc) nd'
      have := addL_len y acc
      refine ⟨?_, fun x => ?_, h3⟩
      · rw [List.foldl_cons, List.length_cons]
        omega
      · rw [List.foldl_cons, h2, addL_in, List.mem_cons]
        constructor
        · rintro ((z | z) | z)
          · exact .inr (.inl z)
          · exact .inl z
          · exact .inr (.inr z)
        · rintro (z | z | z)
          · exact .inl (.inr z)
          · exact .inl (.inl z)
          · exact .inr z
  have := main xs [] List.nodup_nil
  refine ⟨by have h := this.1; rw [List.length_nil, Nat.zero_add] at h; exact h, fun x => by rw [show gotL xs = xs.foldl (fun l y => addL y l) [] from rfl, this.2.1]; simp, this.2.2⟩
theorem texts_at : ∀ {vs : List Value} {xs : List Str}, StrsAre vs xs → ∀ {i : Nat} {v : Value}, vs[i]? = some v → ∃ x u, xs[i]? = some x ∧ v = .str x u
  | _, _, .cons x u _, 0, _, e => ⟨x, u, rfl, (Option.some.inj e).symm⟩
  | _, _, .cons _ _ h, i + 1, _, e => texts_at h (i := i) e
section
variable {P : Program} {w : World} {A : Around} {E : Value → Shared → Prop} {s : Shared}
/-- one text more -/
theorem tx_put {S : Addr} {l : List Str} {x : Str} {u : Tok} {Q : Bool → Shared → Prop} (R : TxAt P w s.heap S l) (room : l.length + 1 < scanBound)
    (q : ∀ b h', Heap.SameBut S s.heap h' → TxAt P w h' S (addL x l) → Q b { s with heap := h', toks := s.toks + 1 }) : wpAny (model P w) A (setAdd S (.str x u)) Q E s := by
  obtain ⟨D, at_, ok, nd, few, g⟩ := R
  delta setAdd
  refine wpAny_holding (wpAny_bind ((PySem.strKind P w).pyHash (is_str x u) ?_))
  by_cases known : x ∈ l
  · refine txAt_same (s := { s with toks := s.toks + 1 }) at_ ok known few (q _ _ (Heap.SameBut.refl S s.heap) ?_)
    rw [show addL x l = l from if_pos known]
    exact ⟨D, at_, ok, nd, few, g⟩
  · refine add_x (s := { s with toks := s.toks + 1 }) at_ ok known room (q _ _ (Heap.SameBut.update _ S _) ?_)
    rw [show addL x l = x :: l from if_neg known]
    exact ⟨_, Heap.get?_update_self _ at_ rfl, add_ok u ok, List.nodup_cons.mpr ⟨known, nd⟩, room, tabGo_add g⟩
theorem upd_texts {I : Addr} {fp wr : List Addr} {G : Array GenState → Array GenState → Prop} {n : Nat} {Pv : Nat → Value → Prop} {St : Nat → Shared → Prop} {R : Result → Shared → Prop} (W : WalksS P w A.in1 I fp wr G n Pv St) (S : Addr) (out : S ∉ fp) (xs : List Str) (len : n = xs.length)
    (few : xs.length + 1 < scanBound) (val : ∀ i v, Pv i v → ∃ x u, xs[i]? = some x ∧ v = .str x u) :
    ∀ (k i : Nat) (s : Shared), n - i = k → i ≤ n → St i s → TxAt P w s.heap S (gotL (xs.take i)) → (∀ s', Moved (S :: wr) G s s' → TxAt P w s'.heap S (gotL xs) → R (.ok (.ret .none)) s') →
      codeAny (model P w) A (.builtin "set.update.loop" ⟨[.ref S, .ref I], []⟩) R s := by
  have outW : S ∉ wr := fun h => out (W.sub _ h)
  have more : ∀ b ∈ wr, b ∈ S :: wr := fun _ h => List.mem_cons_of_mem _ h
  have stay : ∀ {s s' : Shared} {l : List Str}, Moved wr G s s' → TxAt P w s.heap S l → TxAt P w s'.heap S l := fun mv tx => tx.keep fun o e => mv.heap S o outW e
  intro k
  induction k with
  | zero =>
    intro i s e le st tx fin
    obtain rfl : i = n := by omega
    rw [len, List.take_length] at tx
    refine codeAny_builtin PyProof.Rows.F.entry_set_update_loop ?_
    rw [Around.under_plainId PyProof.Rows.F.plain_set_update_loop _]
    show wpAny _ A.in1 (pyNext (.ref I) >>= fun _ => _) _ _ s
    exact wpAny_bind (W.done s _ _ st fun s' mv => wpAny_pure (fin s' (mv.mono more) (stay mv tx)))
  | succ k ih =>
    intro i s e le st tx fin
    have lt : i < n := by omega
    refine codeAny_builtin PyProof.Rows.F.entry_set_update_loop ?_
    rw [Around.under_plainId PyProof.Rows.F.plain_set_update_loop _]
    show wpAny _ A.in1 (pyNext (.ref I) >>= fun _ => _) _ _ s
    refine wpAny_bind (W.item i s _ _ lt st fun v s1 pv st1 mv => ?_)
    obtain ⟨x, u, hx, rfl⟩ := val i v pv
    have step : gotL (xs.take (i + 1)) = addL x (gotL (xs.take i)) := by rw [List.take_succ, hx, ← gotL_snoc]; rfl
    have small : (gotL (xs.take i)).length + 1 < scanBound := by
      have := (gotL_all (xs.take i)).1
      rw [List.length_take] at this
      omega
    show wpAny _ A.in1 (holding [Value.str x u] (setAdd S (.str x u)) >>= fun _ => _) _ _ s1
    refine wpAny_bind (wpAny_holding (tx_put (stay mv tx) small fun b h' sb tx' => ?_))
    rw [← step] at tx'
    have same : ∀ b : Addr, b ≠ S → ∀ o, s1.heap.get? b = some o → h'.get? b = some o := fun b ne o e => (sb.2 b ne).trans e
    refine wpAny_pure ⟨plainId_quiet PyProof.Rows.F.plain_set_update_loop _, ih (i + 1) _ (by omega) lt (W.frame _ s1 _ _ st1 (Nat.le_add_right _ _) fun b hb o e => same b (fun z => out (z ▸ hb)) o e) tx' fun s2 mv2 tx2 => ?_⟩
    refine fin s2 (Moved.trans W.gtrans ((mv.mono more).then_heap (Nat.le_add_right _ _) fun b o hb e => same b (fun z => hb (z ▸ List.mem_cons_self)) o e) mv2) tx2
abbrev setNew (w : World) : Obj := { cls := .type "set", dict := none, data := .set #[] 0 (.fresh 0 0 (!w.params.followText "set-order")) }
theorem set_texts {l : Addr} {items : Array Value} {xs : List Str} {Q : Value → Shared → Prop} (calm : A.handled = none) (hl : s.heap.IsList l items) (is : StrsAre items.toList xs) (few : xs.length + 1 < scanBound)
    (q : ∀ (h' : Heap) (tk : Nat), TxAt P w h' s.heap.objs.size (gotL xs) → (∀ b o, s.heap.get? b = some o → h'.get? b = some o) → Q (.ref s.heap.objs.size) { s with heap := h', toks := tk }) :
    wpAny (model P w) A (call (.type "set") [.ref l]) Q E s := by
  have len : items.size = xs.length := by
    rw [← Array.length_toList]
    exact strs_len is
  have at_ : (s.heap.push (setNew w)).get? s.heap.objs.size = some (setNew w) := Heap.get?_push_size _ rfl
  obtain ⟨c0, tl0, mro0⟩ := PySem.F.called_set.mro
  have made0 := PySem.F.called_set.made
  have sub0 := PySem.F.called_set.sub
  refine wpAny_call (codeAny_of_tree (show wpAny _ _ (callAny (.type "set") _) _ _ _ from wpAny_pure ⟨Code.quiet_builtin _ (by decide +kernel), codeAny_builtin PySem.F.entry_type_call ?_⟩))
  rw [Around.under_plain (weight_type_call_type "set" [.ref l] []) rfl]
  have no0 := PySem.F.called_set.notType
  have can0 := PySem.F.called_set.canCreate
  have tc0 := PySem.F.typeCall_set_1 (.ref l)
  repeat any_goals (first | assumption | wp_step)
  refine codeAny_mono (code_set_led1 (.ref l) (E := E) (Q₁ := fun obj t => obj = .ref s.heap.objs.size ∧ t = { s with heap := s.heap.push (setNew w) }) ⟨rfl, rfl⟩) ?_
  intro r t hr
  match r, hr with
  | .error _, hr => exact hr
  | .ok .next, hr => exact hr.elim
  | .ok .brk, hr => exact hr.elim
  | .ok .cont, hr => exact hr.elim
  | .ok (.ret obj), ⟨e1, e2⟩ =>
    subst e1
    subst e2
    have ty0 : Shared.TypeIs { s with heap := s.heap.push (setNew w) } (.ref s.heap.objs.size) "set" := ⟨_, at_, rfl⟩
    have look0 := PySem.F.called_set.init.lookup
    have bind0 := PySem.F.called_set.init.bind (.ref s.heap.objs.size)
    repeat any_goals (first | assumption | wp_step)
    refine codeAny_mono (codeAny_call_builtin (R := wants (fun r t => r = .none ∧ ∃ h' tk, t = { s with heap := h', toks := tk } ∧ TxAt P w h' s.heap.objs.size (gotL xs) ∧ ∀ b o, s.heap.get? b = some o → h'.get? b = some o) E) PySem.F.called_set.init.plain PySem.F.entry_set_init (check_set_init_1 ty0 ?_)) ?_
    · obtain ⟨⟨oc, od, odt, osl⟩, ol, ec, nl, ed⟩ := hl
      simp only at ec ed
      subst ec
      subst ed
      have old : (s.heap.push (setNew w)).get? l = some { cls := .type "list", dict := od, data := .seq items nl, slots := osl } := Heap.get?_push_of_some _ ol
      have isl : (s.heap.push (setNew w)).IsList l items := ⟨_, old, rfl, nl, rfl⟩
      have n1 := PySem.F.sub_list_set
      have n2 := PySem.F.sub_list_frozenset
      have n3 : (Value.type "list" == Value.type "dict") = false := by decide
      delta Builtin.«set.__init__» noKeywords Builtin.Frozenset.updateFrom
      generalize keep : pyIter = PI
      wp_walk
      subst keep
      refine wpAny_pyIter_list isl (wpAny_bind (wpAny_runValue ?_))
      have lt : l < s.heap.objs.size := Heap.lt_size ol
      have sz : (s.heap.push (setNew w)).objs.size = s.heap.objs.size + 1 := Heap.size_push ..
      have ne : l ≠ (s.heap.push (setNew w)).objs.size := by rw [sz]; exact Nat.ne_of_lt (Nat.lt_succ_of_lt lt)
      have out : s.heap.objs.size ∉ [(s.heap.push (setNew w)).objs.size, l] := by
        rw [sz]
        intro z
        rcases List.mem_cons.mp z with z | z
        · omega
        · exact Nat.ne_of_gt lt (List.mem_singleton.mp z)
      refine upd_texts ((Walks.list (A := A.in1.in1.in1) (by simp [calm]) _ l ne items).toS) s.heap.objs.size out xs len few ?val (items.size - 0) 0 _ (by omega) (Nat.zero_le _) ⟨⟨_, Heap.get?_push_size _ rfl, rfl, rfl⟩, isl.push _⟩ ?start ?end_
      case val =>
        intro i v hv
        have hv : items.toList[i]? = some v := by rw [Array.getElem?_toList]; exact hv
        exact texts_at is hv
      case start =>
        exact (txAt_new (P := P) (w := w) (h := s.heap)).keep fun o e => Heap.get?_push_of_some _ e
      case end_ =>
        intro t mv tx
        have keepB : ∀ b o, s.heap.get? b = some o → t.heap.get? b = some o := fun b o e => by
          have lt' := Heap.lt_size e
          refine mv.heap b o (fun z => ?_) (Heap.get?_push_of_some _ (Heap.get?_push_of_some _ e))
          rcases List.mem_cons.mp z with z | z
          · exact Nat.ne_of_lt lt' z
          · have z := List.mem_singleton.mp z
            rw [sz] at z
            exact Nat.ne_of_lt (Nat.lt_succ_of_lt lt') z
        obtain ⟨h', g2, d', tk', os'⟩ := t
        obtain rfl : g2 = s.gens := mv.gens
        obtain rfl : d' = s.drawn := mv.drawn
        obtain rfl : os' = s.os := mv.os
        exact wpAny_pure (wpAny_pure ⟨rfl, h', tk', rfl, tx, keepB⟩)
    · intro r t hr
      match r, hr with
      | .error _, hr => exact hr
      | .ok .next, hr => exact hr.elim
      | .ok .brk, hr => exact hr.elim
      | .ok .cont, hr => exact hr.elim
      | .ok (.ret _), ⟨e1, h', tk, e2, tx, kp⟩ =>
        subst e1
        subst e2
        repeat any_goals (first | assumption | wp_step)
        exact q h' tk tx kp
end
/-- set(xs) -/
def rSetOfL (K : PySem.W.Frag) (P : Program) (w : World) : List V → Hp → VK → Prop := fun vs H Q => ∃ (l : Addr) (xs : List Str), vs = [V.ref l] ∧ SqL K H l (xs.map V.str) ∧ xs.length < 60 ∧ ∀ a, H a = none → Q (.ref a) (upd H a (SetL P w a (gotL xs)))
theorem cr_setOfL {X : Cx} (hc : X.calm = true) : CallR X (.type "set") (rSetOfL X.K X.prog X.w) := by
  intro pins s σ H vs us Q I r h
  obtain ⟨l, xs, rfl, hl, few, q⟩ := h
  rw [Vals.ref1 r]
  obtain ⟨its, rv, pl, _⟩ := I.list hl
  have fresh : H s.heap.objs.size = none := I.hok.fresh (Nat.le_refl _)
  have scan : xs.length + 1 < scanBound := Nat.lt_trans (Nat.succ_lt_succ few) (by decide)
  refine set_texts (I.ok.hd hc) pl.isList (by simpa using strs_of_vals rv) scan fun h' tk tx k => ?_
  exact ⟨.ref s.heap.objs.size, upd H s.heap.objs.size (SetL X.prog X.w s.heap.objs.size (gotL xs)), I.laid (t' := tk) k (Nat.le_refl _) (setL_new tx), rfl, q _ fresh⟩
end Wh

set_option maxHeartbeats 3200000
namespace Wh
open PySem PySem.Spec PyProof.Rows L2 PySem.Froz PpSet
/-! ### set(xs), xs a list of ints -/
theorem ints_at : ∀ {vs : List Value} {xs : List Int}, IntsAre vs xs → ∀ {i : Nat} {v : Value}, vs[i]? = some v → ∃ x u, xs[i]? = some x ∧ v = .int x u
  | _, _, .cons x u _, 0, _, e => ⟨x, u, rfl, (Option.some.inj e).symm⟩
  | _, _, .cons _ _ h, i + 1, _, e => ints_at h (i := i) e
section
variable {P : Program} {w : World} {A : Around} {E : Value → Shared → Prop} {s : Shared}
theorem set_ints {l : Addr} {items : Array Value} {xs : List Int} {Q : Value → Shared → Prop} (calm : A.handled = none) (hl : s.heap.IsList l items) (is : IntsAre items.toList xs) (few : xs.length + 1 < scanBound)
    (q : ∀ (h' : Heap) (tk c : Nat), SetR w h' s.heap.objs.size (fun j => decide (j ∈ xs)) c → c ≤ xs.length → (∀ b o, s.heap.get? b = some o → h'.get? b = some o) → Q (.ref s.heap.objs.size) { s with heap := h', toks := tk }) :
    wpAny (model P w) A (call (.type "set") [.ref l]) Q E s := by
  have len : items.size = xs.length := by
    rw [← Array.length_toList]
    exact IntsAre.length is
  have at_ : (s.heap.push (setNew w)).get? s.heap.objs.size = some (setNew w) := Heap.get?_push_size _ rfl
  obtain ⟨c0, tl0, mro0⟩ := PySem.F.called_set.mro
  have made0 := PySem.F.called_set.made
  have sub0 := PySem.F.called_set.sub
  refine wpAny_call (codeAny_of_tree (show wpAny _ _ (callAny (.type "set") _) _ _ _ from wpAny_pure ⟨Code.quiet_builtin _ (by decide +kernel), codeAny_builtin PySem.F.entry_type_call ?_⟩))
  rw [Around.under_plain (weight_type_call_type "set" [.ref l] []) rfl]
  have no0 := PySem.F.called_set.notType
  have can0 := PySem.F.called_set.canCreate
  have tc0 := PySem.F.typeCall_set_1 (.ref l)
  repeat any_goals (first | assumption | wp_step)
  refine codeAny_mono (code_set_led1 (.ref l) (E := E) (Q₁ := fun obj t => obj = .ref s.heap.objs.size ∧ t = { s with heap := s.heap.push (setNew w) }) ⟨rfl, rfl⟩) ?_
  intro r t hr
  match r, hr with
  | .error _, hr => exact hr
  | .ok .next, hr => exact hr.elim
  | .ok .brk, hr => exact hr.elim
  | .ok .cont, hr => exact hr.elim
  | .ok (.ret obj), ⟨e1, e2⟩ =>
    subst e1
    subst e2
    have ty0 : Shared.TypeIs { s with heap := s.heap.push (setNew w) } (.ref s.heap.objs.size) "set" := ⟨_, at_, rfl⟩
    have look0 := PySem.F.called_set.init.lookup
    have bind0 := PySem.F.called_set.init.bind (.ref s.heap.objs.size)
    repeat any_goals (first | assumption | wp_step)
    refine codeAny_mono (codeAny_call_builtin (R := wants (fun r t => r = .none ∧ ∃ h' tk, t = { s with heap := h', toks := tk } ∧ (∃ c, SetR w h' s.heap.objs.size (fun j => decide (j ∈ xs)) c ∧ c ≤ xs.length) ∧ ∀ b o, s.heap.get? b = some o → h'.get? b = some o) E) PySem.F.called_set.init.plain PySem.F.entry_set_init (check_set_init_1 ty0 ?_)) ?_
    · obtain ⟨⟨oc, od, odt, osl⟩, ol, ec, nl, ed⟩ := hl
      simp only at ec ed
      subst ec
      subst ed
      have old : (s.heap.push (setNew w)).get? l = some { cls := .type "list", dict := od, data := .seq items nl, slots := osl } := Heap.get?_push_of_some _ ol
      have isl : (s.heap.push (setNew w)).IsList l items := ⟨_, old, rfl, nl, rfl⟩
      have n1 := PySem.F.sub_list_set
      have n2 := PySem.F.sub_list_frozenset
      have n3 : (Value.type "list" == Value.type "dict") = false := by decide
      delta Builtin.«set.__init__» noKeywords Builtin.Frozenset.updateFrom
      generalize keep : pyIter = PI
      wp_walk
      subst keep
      refine wpAny_pyIter_list isl (wpAny_bind (wpAny_runValue ?_))
      have lt : l < s.heap.objs.size := Heap.lt_size ol
      have sz : (s.heap.push (setNew w)).objs.size = s.heap.objs.size + 1 := Heap.size_push ..
      have ne : l ≠ (s.heap.push (setNew w)).objs.size := by rw [sz]; exact Nat.ne_of_lt (Nat.lt_succ_of_lt lt)
      have out : s.heap.objs.size ∉ [(s.heap.push (setNew w)).objs.size, l] := by
        rw [sz]
        intro z
        rcases List.mem_cons.mp z with z | z
        · omega
        · exact Nat.ne_of_gt lt (List.mem_singleton.mp z)
      refine set_update_ints ((Walks.list (A := A.in1.in1.in1) (by simp [calm]) _ l ne items).toS) s.heap.objs.size out xs len few ?val (items.size - 0) 0 _ (by omega) (Nat.zero_le _) ⟨⟨_, Heap.get?_push_size _ rfl, rfl, rfl⟩, isl.push _⟩ ?start ?end_
      case val =>
        intro i v hv
        have hv : items.toList[i]? = some v := by rw [Array.getElem?_toList]; exact hv
        exact ints_at is hv
      case start =>
        exact ⟨0, Nat.le_refl _, setR_new_at (Heap.get?_push_of_some _ (Heap.get?_push_size _ rfl))⟩
      case end_ =>
        intro t c mv cle tx
        have keepB : ∀ b o, s.heap.get? b = some o → t.heap.get? b = some o := fun b o e => by
          have lt' := Heap.lt_size e
          refine mv.heap b o (fun z => ?_) (Heap.get?_push_of_some _ (Heap.get?_push_of_some _ e))
          rcases List.mem_cons.mp z with z | z
          · exact Nat.ne_of_lt lt' z
          · have z := List.mem_singleton.mp z
            rw [sz] at z
            exact Nat.ne_of_lt (Nat.lt_succ_of_lt lt') z
        obtain ⟨h', g2, d', tk', os'⟩ := t
        obtain rfl : g2 = s.gens := mv.gens
        obtain rfl : d' = s.drawn := mv.drawn
        obtain rfl : os' = s.os := mv.os
        exact wpAny_pure (wpAny_pure ⟨rfl, h', tk', rfl, ⟨c, tx, by rw [len] at cle; exact cle⟩, keepB⟩)
    · intro r t hr
      match r, hr with
      | .error _, hr => exact hr
      | .ok .next, hr => exact hr.elim
      | .ok .brk, hr => exact hr.elim
      | .ok .cont, hr => exact hr.elim
      | .ok (.ret _), ⟨e1, h', tk, e2, ⟨c, tx, cle⟩, kp⟩ =>
        subst e1
        subst e2
        repeat any_goals (first | assumption | wp_step)
        exact q h' tk c tx cle kp
end
/-- set(xs) -/
def rSetOfI (K : PySem.W.Frag) (w : World) : List V → Hp → VK → Prop := fun vs H Q => ∃ (l : Addr) (xs : List Int), vs = [V.ref l] ∧ SqL K H l (xs.map V.int) ∧ xs.length < 60 ∧ ∀ a c, H a = none → c ≤ xs.length → Q (.ref a) (upd H a (SetO w a (fun j => decide (j ∈ xs)) c))
theorem cr_setOfI {X : Cx} (hc : X.calm = true) : CallR X (.type "set") (rSetOfI X.K X.w) := by
  intro pins s σ H vs us Q I r h
  obtain ⟨l, xs, rfl, hl, few, q⟩ := h
  rw [Vals.ref1 r]
  obtain ⟨its, rv, pl, _⟩ := I.list hl
  have fresh : H s.heap.objs.size = none := I.hok.fresh (Nat.le_refl _)
  have scan : xs.length + 1 < scanBound := Nat.lt_trans (Nat.succ_lt_succ few) (by decide)
  refine set_ints (I.ok.hd hc) pl.isList (by simpa using ints_of_vals rv) scan fun h' tk c tx cle k => ?_
  exact ⟨.ref s.heap.objs.size, upd H s.heap.objs.size (SetO X.w s.heap.objs.size (fun j => decide (j ∈ xs)) c), I.laid (t' := tk) k (Nat.le_refl _) (setO_new tx), rfl, q _ _ fresh cle⟩
/-! ### {elt for a in x}: a set of ints -/
section
variable {e a x : Expr} {sc : Scope} {p : Pos}
abbrev sc1 (e a x : Expr) (sc : Scope) (p : Pos) : Expr := .SetComp e [⟨a, x, [], 0⟩] sc p
theorem turn_only (it acc : Value) (env : Env) : compTurn (sc1 e a x sc p) 0 it acc env = (do
      standAt x.pos
      match ← pyNext it with
      | none => pure (.done .next)
      | some v =>
        letOwnedTupleGo a it v
        assign a env v
        (do let z ← eval e env; standAt e.pos; let _ ← call (.builtin "set.add") [acc, z])
        again (.compLoop (sc1 e a x sc p) 0 it acc env)) := by rfl
variable {prog : Program} {w : World} {A : Around} {R : Result → Shared → Prop} {env : Env} {it acc : Value}
theorem loop_only (J : Nat → Shared → Prop)
    (step : ∀ n s, J n s → wpAny (model prog w) A (pyNext it) (fun r s1 => match r with
      | none => R (.ok .next) s1
      | some v => wpAny (model prog w) A (letOwnedTupleGo a it v) (fun _ s2 => wpAny (model prog w) A (assign a env v) (fun _ s3 => wpAny (model prog w) A (eval e env) (fun z s4 =>
          wpAny (model prog w) A (call (.builtin "set.add") [acc, z]) (fun _ s5 => ∃ m, m < n ∧ J m s5) (Nt prog w A env R) s4) (Nt prog w A env R) s3) (Nt prog w A env R) s2) (Nt prog w A env R) s1) (Nt prog w A env R) s)
    {n : Nat} {s : Shared} (h : J n s) : codeAny (model prog w) A (.compLoop (sc1 e a x sc p) 0 it acc env) R s := by
  refine codeAny_loop rfl J (fun n s hJ => ?_) n h
  show wpAny _ A (Sem.onRaise (compTurn (sc1 e a x sc p) 0 it acc env) fun er => do noteFrame er env; theTreesLotGoes er) _ _ s
  rw [turn_only]
  refine wpAny_noted (wpAny_bind (wpAny_standAt (wpAny_bind (wpAny_mono (step n s hJ) (fun r s1 h1 => ?_) fun _ _ z => z))))
  match r, h1 with
  | none, h1 => exact wpAny_pure h1
  | some v, h1 =>
    refine wpAny_bind (wpAny_mono h1 (fun _ s2 h2 => wpAny_bind (wpAny_mono h2 (fun _ s3 h3 => ?_) fun _ _ z => z)) fun _ _ z => z)
    exact wpAny_bind (wpAny_bind (wpAny_mono h3 (fun z s4 h4 => wpAny_bind (wpAny_standAt (wpAny_bind (wpAny_mono h4 (fun _ s5 h5 => wpAny_pure (wpAny_pure ⟨rfl, h5⟩)) fun _ _ z => z)))) fun _ _ z => z))
end
/-- what is asked: the source's walk J, D is the set -/
def tSc1 (w : World) (wi : TI) (g : TG) (te : TE) (vs : List Nat) : TE := fun σ H Q => wi σ H fun J H1 => ∀ D, H1 D = none → ∃ W : Nat → Nat → Hp → Prop, (∃ m, W 0 m (upd H1 D (SetO w D (fun _ => false) 0))) ∧ ∀ i m H, W i m H →
  (J.stop i H ∧ Q (.ref D) H) ∨ (J.go i H ∧ ∃ Nx : Hp → Prop, (∀ H', Nx H' → ∃ m', m' < m ∧ W (i + 1) m' H') ∧ ∀ v H', J.yld i H v H' → g v (wipe σ vs) H' fun σ2 H2 => wipe σ2 vs = wipe σ vs ∧
    te σ2 H2 fun z H5 => ∃ (k : Int) (S : Int → Bool) (c : Nat), z = .int k ∧ H5 D = some (SetO w D S c) ∧ c + 1 < scanBound ∧ Nx (upd H5 D (SetO w D (fun j => S j || decide (j = k)) (if S k = true then c else c + 1))))
section
variable {X : Cx} {e a x : Expr} {sc : Scope} {p : Pos} {own : List (PySem.Str × Nat)} {wi : TI} {g : TG} {te : TE}
theorem setI_add {X : Cx} {pins : List (Addr × Obj)} {σ : L2.St} {H : Hp} {s : Shared} {D : Addr} {k : Int} {S : Int → Bool} {c : Nat} {z : Value} {E : Value → Shared → Prop} {Q : Value → Shared → Prop} {A : Around} (I : Inv X pins σ H s) (hD : H D = some (SetO X.w D S c)) (room : c + 1 < scanBound) (r : RelV (.int k) z)
    (q : ∀ s', Inv X pins σ (upd H D (SetO X.w D (fun j => S j || decide (j = k)) (if S k = true then c else c + 1))) s' → Q .none s') : wpAny (model X.prog X.w) A (call (.builtin "set.add") [.ref D, z]) Q E s := by
  obtain ⟨tk, rfl⟩ := r
  refine setR_add (setO_get I hD) room fun h' sb new => q _ ?_
  have he : ∃ u, h'.get? D = some u := by
    obtain ⟨o, _, _, _, ho, _⟩ := new
    exact ⟨o, ho⟩
  exact I.write (e := D) (t' := s.toks + 1) (by rw [hD]; trivial) (.inl rfl) (fun b u hb hu => (sb.2 b hb).trans hu) he (setO_new new)
theorem pe_sc1 (calm : X.calm = true) (nd : X.N.Nodup) (src : PI X a x wi) (ok : BlkOk X.N X.env.scope sc own)
    (tg : ∀ (s : Shared) (H : Hp) (C : Addr) (cl : List (PySem.Str × Addr)) (F : List Addr), PG (X.blk s H sc (compEnvC sc cl C X.env) F) a g)
    (elt : ∀ (s : Shared) (H : Hp) (C : Addr) (cl : List (PySem.Str × Addr)) (F : List Addr), PE (X.blk s H sc (compEnvC sc cl C X.env) F) e te)
    (f1 : ∀ z, foldedSetIterable x X.env z = pure z := by intro _; rfl) :
    PE X (sc1 e a x sc p) (tSc1 X.w wi g te (own.map (·.2))) := by
  refine ⟨fun pins s σ H Q I h => ?_⟩
  have cells : ∀ n ∈ sc.names, n.2 = .free → ∃ c, X.env.cells.lookup n.1 = some c := fun n hn z => (ok.free n hn z).elim (fun q => I.ok.has _ (.inl q)) fun q => I.ok.has _ (.inr q)
  rw [eval_SetComp]
  refine wpAny_comprehension_free (use := none) rfl f1 (closure_ok cells) ok.kind (fun n hn z => by rw [ok.uniq n hn, z]) (thn (src.run pins s σ H _ I h) fun _ _ h1 => thn h1 fun _ s2 h2 => ?_)
  obtain ⟨it, F, tn, J, H2, rfl, I2, T, at0, out, q⟩ := h2
  refine newSet_ok (newEnv_comp ?_)
  generalize eD : s2.heap.objs.size = D
  have free : H2 D = none := I2.hok.fresh (Nat.le_of_eq eD)
  obtain ⟨W, ⟨m0, w0⟩, turn⟩ := q D free
  -- the set is laid
  generalize e3 : ({ s2 with heap := s2.heap.push { cls := .type "set", dict := none, data := .set #[] 0 (.fresh 0 0 (!X.w.params.followText "set-order")) } } : Shared) = s3
  have g3 : s3.heap = s2.heap.push { cls := .type "set", dict := none, data := .set #[] 0 (.fresh 0 0 (!X.w.params.followText "set-order")) } := by rw [← e3]
  have I3 : Inv X pins σ (upd H2 D (SetO X.w D (fun _ => false) 0)) s3 := by
    subst e3 eD
    exact I2.laid (t' := s2.toks) (fun _ _ z => Heap.get?_push_of_some _ z) (Nat.le_refl _) (setO_new (setR_fresh X.w))
  have lowF : ∀ c ∈ F, c < s2.heap.objs.size := fun c hc => (T.obj _ _ at0 c hc).elim fun _ z => Heap.lt_size z.1
  have outF : ∀ c ∈ F, FpOk X pins (upd H2 D (SetO X.w D (fun _ => false) 0)) c ∧ c < s3.heap.objs.size := fun c hc => by
    have lt := lowF c hc
    have ne : c ≠ D := by rw [← eD]; exact Nat.ne_of_lt lt
    exact ⟨⟨(upd_ne ne).trans (out c hc).1, (out c hc).2⟩, by rw [g3, Heap.size_push]; exact Nat.lt_succ_of_lt lt⟩
  have at3 : tn 0 s3.heap := T.keep _ _ _ at0 fun c _ o z => by rw [g3]; exact Heap.get?_push_of_some _ z
  have I4 := block_start I3 ok nd outF
  have rg := tg s3 (upd H2 D (SetO X.w D (fun _ => false) 0)) s3.heap.objs.size (cellsFrom (s3.heap.objs.size + 1) sc.names (cloFrom X.env.cells sc.names [])) F
  have re := elt s3 (upd H2 D (SetO X.w D (fun _ => false) 0)) s3.heap.objs.size (cellsFrom (s3.heap.objs.size + 1) sc.names (cloFrom X.env.cells sc.names [])) F
  show codeAny _ _ (.compStart (sc1 e a x sc p) 0 (.ref it) (.ref D) (compEnvC sc (cellsFrom (s3.heap.objs.size + 1) sc.names (cloFrom X.env.cells sc.names [])) s3.heap.objs.size X.env)) (compPost (model X.prog X.w) X.A X.xe none (EP X pins σ Q) (.ref D) s3.heap.objs.size) { s3 with heap := pushCells (s3.heap.push { cls := .type "dict", data := .dict #[] }) sc.names }
  have offF : ∀ c ∈ F, (upd H2 D (SetO X.w D (fun _ => false) 0)) c = none := fun c hc => (outF c hc).1.1
  generalize ec : compEnvC sc (cellsFrom (s3.heap.objs.size + 1) sc.names (cloFrom X.env.cells sc.names [])) s3.heap.objs.size X.env = ce at I4 rg re ⊢
  have cloc : ce.locals = s3.heap.objs.size := ec ▸ rfl
  generalize eH : upd H2 D (SetO X.w D (fun _ => false) 0) = H3 at I3 I4 rg re w0 offF outF
  generalize e4 : ({ s3 with heap := pushCells (s3.heap.push { cls := .type "dict", data := .dict #[] }) sc.names } : Shared) = s4 at I4 ⊢
  have at4 : tn 0 s4.heap := T.keep _ _ _ at3 fun c _ o z => by rw [← e4]; exact pushCells_keeps _ _ _ _ (Heap.get?_push_of_some _ z)
  let B := X.blk s3 H3 sc ce F
  have inB : ∀ {σ' : L2.St} {H' : Hp} {s' : Shared}, Inv B [] σ' H' s' → (∀ c ∈ F, H' c = none) → ∀ c ∈ F, FpOk B [] H' c := fun I' n c hc =>
    ⟨n c hc, (I'.ok.exf c hc).1, I'.ok.exfs c hc, .inl hc, fun z d q => (I'.ok.exf c hc).2 z d q, fun z hz => absurd (show z ∈ ([] : List (Addr × Obj)) ++ [] from hz) (by simp)⟩
  refine codeAny_compStart_set (rest := []) ?_ (T.self X.A 0 _ _ _ at4 ?_)
  all_goals
    refine loop_only (fun n s' => ∃ i H', Inv B [] (wipe σ (own.map (·.2))) H' s' ∧ tn i s'.heap ∧ (∀ c ∈ F, H' c = none) ∧ W i n H') ?_ (n := m0) ⟨0, H3, I4, at4, offF, w0⟩
    rintro n s5 ⟨i, H5, I5, at5, n5, w5⟩
    rcases turn i n H5 w5 with ⟨stop, fin⟩ | ⟨go, Nx, back, each⟩
    · refine thnF (T.done B rfl rfl rfl calm i [] s5 _ H5 (fun _ _ => False) I5 (inB I5 n5) at5 stop) fun r s6 ⟨hr, I6⟩ => ?_
      subst hr
      have I7 : Inv X pins σ H5 s6 := I3.call' (ch := F) I6.os I6.base I6.hok I6.bare fun c hc => ⟨(outF c hc).1.2.2.2.1, (outF c hc).1.2.1, (outF c hc).1.2.2.2.2.1, (outF c hc).1.2.2.2.2.2⟩
      have none_ : H5 s3.heap.objs.size = none := cloc ▸ (I6.free : H5 ce.locals = none)
      obtain ⟨m, hm, _⟩ := I6.loc
      have hm : s6.heap.Ns s3.heap.objs.size m := cloc ▸ (hm : s6.heap.Ns ce.locals m)
      refine ⟨m, hm, fun h'' sb => ?_⟩
      obtain ⟨u0, u1, u2, u3, u4, u5⟩ := I3.fpOk (Nat.le_refl _) none_
      exact ⟨.ref D, H5, I7.turned (t' := s6.toks) (fun c o hc z => (sb.2 c hc).trans z) u0 u1 u3 u4 u5, rfl, fin⟩
    · refine thnF (T.item B rfl rfl rfl calm i [] s5 _ H5 (fun _ _ => False) I5 (inB I5 n5) at5 go) fun r s6 ⟨u, hr, h6⟩ => ?_
      subst hr
      refine thnF h6 fun _ s7 ⟨v, H7, I7, r7, y7, at7, n7⟩ => ?_
      have P7 := I7.pinned (inB I7 n7) (T.obj _ _ at7)
      refine thnF (rg.run _ s7 _ H7 v u _ P7 r7 (each v H7 y7)) fun _ s8 ⟨σ8, H8, I8, same8, q8⟩ => ?_
      have len8 : (wipe σ (own.map (·.2))).length = σ8.length := by rw [← same8, wipe_length]
      refine thnF (re.run _ s8 σ8 H8 _ I8 q8) fun z s15 ⟨zv, H15, I15, r15, k, S, c, ez, hD, room, nx⟩ => ?_
      subst ez
      refine setI_add (X := B) I15 hD room r15 fun s16 I16 => ?_
      obtain ⟨m', hm, w'⟩ := back _ nx
      have kept : ∀ c ∈ F, ∀ o, s7.heap.get? c = some o → s16.heap.get? c = some o ∧ _ = none := fun c hc o z =>
        have z2 := I16.pin (c, o) (List.mem_append_right _ (List.mem_append_right _ (mem_pinsAt hc z)))
        ⟨z2.1, z2.2.1⟩
      exact ⟨m', hm, i + 1, _, I16.unpinned.weak len8 (fun j v z => by rw [← same8] at z; exact (wipe_some z).1), T.keep _ _ _ at7 fun c hc o z => (kept c hc o z).1, fun c hc => (T.obj _ _ at7 c hc).elim fun o z => (kept c hc o z.1).2, w'⟩
end
end Wh

set_option maxHeartbeats 4000000
namespace Wh
open PySem PySem.Spec PyProof.Rows L2
/-! ### raise C(), C an own error over ArithmeticError whose __init__ keeps nothing -/
def bmA : List Value := [.type "ArithmeticError", .type "Exception", .type "BaseException", .type "object"]
structure AexC (K : PySem.W.Frag) (C : Addr) : Prop where
  q : PySem.W.excInitIn K C bmA "ArithmeticError.__new__" = true
  exC : PySem.W.subIn K (.ref C) (.type "BaseException") = some true
  tyC : PySem.W.typeIn K (.ref C) = some (.type "type")
  kC : PySem.W.keepIn K (.ref C) = true
def spNoI : Sp := fun vs H Q _ => ∃ a : Addr, vs = [.ref a] ∧ Q .non H
theorem mk_bare {X : Cx} {pins : List (Addr × Obj)} {σ : L2.St} {H1 : Hp} {Q : XK} {hp hp2 h2 : Heap} {g1 g2 : Array GenState} {d1 d2 : Drawn} {t1 t2 : Nat} {os1 os2 : OsState} {a C : Addr} (T : Raises X (.ref C)) (I1 : Inv X pins σ H1 ⟨hp, g1, d1, t1, os1⟩)
    (ha : hp.objs.size ≤ a) (k : ∀ b o, hp.get? b = some o → hp2.get? b = some o) (un : Un (frs X.stack) [] (upd H1 a (exo a C none)) (upd H1 a (exo a C none)) hp2 h2) (hok : HOk X.prog X.w (upd H1 a (exo a C none)) h2) (ho : os2 = os1) (hb : AllBare g2)
    (q : Q (.ref C) none H1) : MkP X pins σ Q (.ref a) ⟨h2, g2, d2, t2, os2⟩ := by
  obtain ⟨t0, hoe⟩ := exo_at hok (upd_same (H := H1))
  have hn : H1 a = none := I1.hok.fresh ha
  obtain ⟨G, g1', g2'⟩ := restrict h2 fun b => decide (b ≠ a)
  have gk : ∀ b, b ≠ a → G.get? b = h2.get? b := fun b hb => g1' b (decide_eq_true hb)
  have ge : G.get? a = none := g2' a (by simp)
  have nha : ∀ {b : Addr} {o : Obj}, hp.get? b = some o → b ≠ a := fun {b o} z => Nat.ne_of_lt (Nat.lt_of_lt_of_le (Heap.lt_size z) ha)
  have up : ∀ {b : Addr}, b ≠ a → H1 b = none → upd H1 a (exo a C none) b = none := fun {b} hb n => by rw [upd_ne hb]; exact n
  have U : Un (frs X.stack) [] H1 H1 hp G := {
    keep := fun b o z n hf hx => by
      rw [gk b (nha z)]
      exact un.keep b o (k b o z) (up (nha z) n) hf hx
    slot := fun b o z n hf hx => by
      rw [gk b (nha z)]
      exact un.slot b o (k b o z) (up (nha z) n) hf hx
    free := fun b o z n hx => n
    there := fun b o z hx => by
      rw [gk b (nha z)]
      exact un.there b o (k b o z) hx
    tups := fun b xs z => z
    frzs := fun b o v z => z
    tbls := fun b ps z => by
      have e : b ≠ a := ne_of_none z hn
      obtain ⟨ps2, hps⟩ := un.tbls b ps (by rw [upd_ne e]; exact z)
      exact ⟨ps2, by rw [upd_ne e] at hps; exact hps⟩ }
  have hok3 : HOk X.prog X.w H1 G := fun b o z => by
    have hba : b ≠ a := ne_of_none z hn
    have z2 : upd H1 a (exo a C none) b = some o := by rw [upd_ne hba]; exact z
    exact (hok b o z2).stay (fun c v hc y => by
        have hca : c ≠ a := by
          rcases hc with hc | hc
          · rw [hc]
            exact hba
          · exact at_ne (upd_same (H := H1)) hc exo_own
        rw [gk c hca]
        exact y)
      (fun c hc => by rw [upd_ne (at_ne (upd_same (H := H1)) hc exo_own)] at hc; exact hc) (fun c xs hc => by rw [upd_ne (at_ne (upd_same (H := H1)) hc exo_tup)] at hc; exact hc)
  have J : Inv X pins σ H1 ⟨G, g2, d2, t2, os2⟩ := I1.call' (ch := []) ho U hok3 hb (fun b z => absurd z (by simp))
  refine ⟨a, _, _, ⟨G, g2, d2, t2, os2⟩, _, .ref C, none, rfl, J, fun b o z => ?_, ge, hoe, ⟨rfl, rfl⟩, rfl, rfl, hn, rfl, hb, T, q⟩
  by_cases hba : b = a
  · rw [hba] at z
    rw [show (⟨G, g2, d2, t2, os2⟩ : Shared).heap = G from rfl, ge] at z
    cases z
  · exact (gk b hba).symm.trans z
theorem pmk_ax0 {X : Cx} {x : Str} {C fI : Addr} {k : Nat} {fd : FuncData} {p pos : Pos} (T : AexC X.K C) (iC : PySem.W.findIn X.K (.ref C) "__init__" = some (some (.ref fI))) (tI : PySem.W.typeIn X.K (.ref fI) = some (.type "function"))
    (F1 : FnOk X.prog X.w X.K X.mg X.base C8.CX0 k fI fd ["self"] spNoI) (hr : Room (k + 1) X.A) (hb : Binds X.K fd ["self"] []) (hg : Gl X x) (hm : X.mg x = some (.ref C))
    (hdb : (x == ("__debug__" : Str)) = false := by decide) :
    PMk X (.Call (.Name x p) [] [] pos) (fun _ H Q => Q (.ref C) none H) := by
  intro pins s σ H1 Q I1 q
  refine wpAny_Call_Name_kw (ld_glob I1 hg hm ?_ hdb)
  refine PySem.W.callWith_K0 I1.kIn T.kC ?_
  show wpAny _ _ (call (.ref C) []) _ _ _
  obtain ⟨hp, g, dr, tk, os⟩ := s
  obtain ⟨nm, N, qn, bs, bm, hdct, sn, sub, ab, col, dd, k0, k1, k2, k3, k5, hC, hT⟩ := PySem.W.excInit_of I1.kIn T.q
  have hsz : hp.objs.size ≤ hp.objs.size + 1 := Nat.le_succ _
  have hn : H1 (hp.objs.size + 1) = none := I1.hok.fresh hsz
  have kk : ∀ b o, hp.get? b = some o → ((hp.push (PySem.W.kdv_tup [])).push (PySem.HandSPX.excO C hp.objs.size)).get? b = some o := fun b o e => Heap.get?_push_of_some _ (Heap.get?_push_of_some _ e)
  have hget : ((hp.push (PySem.W.kdv_tup [])).push (PySem.HandSPX.excO C hp.objs.size)).get? (hp.objs.size + 1) = some (PySem.HandSPX.excO C hp.objs.size) := by heap_get
  have I2 : Inv X pins σ (upd H1 (hp.objs.size + 1) (exo (hp.objs.size + 1) C none)) ⟨(hp.push (PySem.W.kdv_tup [])).push (PySem.HandSPX.excO C hp.objs.size), g, dr, tk, os⟩ :=
    I1.laid (t' := tk) (a := hp.objs.size + 1) (o := exo (hp.objs.size + 1) C none) (h' := (hp.push (PySem.W.kdv_tup [])).push (PySem.HandSPX.excO C hp.objs.size)) kk hsz (exo_ok hget)
  have r2 : Vals [V.ref (hp.objs.size + 1)] [Value.ref (hp.objs.size + 1)] := .cons rfl .nil
  have hq : spNoI [V.ref (hp.objs.size + 1)] (upd H1 (hp.objs.size + 1) (exo (hp.objs.size + 1) C none)) (fun v H2 => v = .non ∧ H2 = upd H1 (hp.objs.size + 1) (exo (hp.objs.size + 1) C none)) (fun _ _ _ => False) := ⟨_, rfl, rfl, rfl⟩
  refine wpAny_call (PySem.HandSPX.call_own PySem.F.excBase_ArithmeticError hT hC (PySem.W.looks_findIn I1.kIn iC) (fun self => PySem.W.bind_fn I1.kIn self tI) (Nat.zero_le _)
    (codeAny_mono (F1.run _ X.stack _ _ ⟨[Value.ref (hp.objs.size + 1)], []⟩ [Value.ref (hp.objs.size + 1)] _ _ (fun _ _ _ => False) (hr.make C [] []) (I2.env0.make C [] []) (hb _ [Value.ref (hp.objs.size + 1)] I2.kIn rfl) r2 hq) fun r s' hq' => ?_))
  cases r with
  | error er => exact hq'.elim
  | ok fl =>
    cases fl with
    | ret u =>
      obtain ⟨v, H2, os2, bare2, un2, hok2, rv, ev, eH⟩ := hq'
      subst ev eH
      obtain ⟨h2, g2, d2, t2, os'⟩ := s'
      exact ⟨rv, mk_bare (raises_own T.exC T.tyC) I1 hsz kk un2 hok2 os2 bare2 q⟩
    | next => exact False.elim hq'
    | brk => exact False.elim hq'
    | cont => exact False.elim hq'
end Wh

namespace Wh
open PySem L2
/-! ### a set of ints made out of a list -/
theorem sc1_list {w : World} {K : PySem.W.Frag} {l : Addr} {ys : List V} {g : TG} {te : TE} {us : List Nat} {τ : L2.St} {H1 : Hp} {D : Addr} {Fin : Hp → Prop} (J : Nat → Hp → Prop) (start : J 0 (upd H1 D (SetO w D (fun _ => false) 0))) (at_ : ∀ n G, n ≤ ys.length → J n G → SqL K G l ys)
    (turn : ∀ n y G, ys[n]? = some y → J n G → g y (wipe τ us) G fun τ2 G2 => wipe τ2 us = wipe τ us ∧ te τ2 G2 fun z G5 => ∃ (k : Int) (S : Int → Bool) (c : Nat), z = .int k ∧ G5 D = some (SetO w D S c) ∧ c + 1 < scanBound ∧ J (n + 1) (upd G5 D (SetO w D (fun j => S j || decide (j = k)) (if S k = true then c else c + 1))))
    (done : ∀ G, J ys.length G → Fin G) :
    ∃ W : Nat → Nat → Hp → Prop, (∃ m, W 0 m (upd H1 D (SetO w D (fun _ => false) 0))) ∧ ∀ n m G, W n m G →
      ((Itl K l).stop n G ∧ Fin G) ∨ ((Itl K l).go n G ∧ ∃ Nx : Hp → Prop, (∀ G', Nx G' → ∃ m', m' < m ∧ W (n + 1) m' G') ∧ ∀ y G', (Itl K l).yld n G y G' → g y (wipe τ us) G' fun τ2 G2 => wipe τ2 us = wipe τ us ∧
        te τ2 G2 fun z G5 => ∃ (k : Int) (S : Int → Bool) (c : Nat), z = .int k ∧ G5 D = some (SetO w D S c) ∧ c + 1 < scanBound ∧ Nx (upd G5 D (SetO w D (fun j => S j || decide (j = k)) (if S k = true then c else c + 1)))) := by
  refine ⟨fun n m G => n + m = ys.length ∧ J n G, ⟨ys.length, Nat.zero_add _, start⟩, fun n m G hw => ?_⟩
  obtain ⟨e, j⟩ := hw
  have here := at_ n G (by omega) j
  match m, e with
  | 0, e =>
    have e : n = ys.length := e
    subst e
    exact .inl ⟨⟨ys, here, Nat.le_refl _⟩, done G j⟩
  | m + 1, e =>
    have lt : n < ys.length := by omega
    refine .inr ⟨⟨ys, ys[n], here, List.getElem?_eq_getElem lt⟩, J (n + 1), fun G' j' => ⟨m, Nat.lt_succ_self m, by omega, j'⟩, fun y G' hy => ?_⟩
    obtain ⟨eG, hy⟩ := hy
    subst eG
    exact turn n y _ (hy ys here) j
/-- the ints that are in a list, each once, ascending -/
theorem asc_uniq : ∀ {xs ys : List Int}, xs.Pairwise (· < ·) → ys.Pairwise (· < ·) → (∀ k, k ∈ xs ↔ k ∈ ys) → xs = ys
  | [], [], _, _, _ => rfl
  | [], y :: ys, _, _, h => absurd ((h y).mpr List.mem_cons_self) (by simp)
  | x :: xs, [], _, _, h => absurd ((h x).mp List.mem_cons_self) (by simp)
  | x :: xs, y :: ys, h1, h2, h => by
    obtain ⟨a1, a2⟩ := List.pairwise_cons.mp h1
    obtain ⟨b1, b2⟩ := List.pairwise_cons.mp h2
    have e : x = y := by
      have m1 := (h x).mp List.mem_cons_self
      have m2 := (h y).mpr List.mem_cons_self
      rcases List.mem_cons.mp m1 with z | z
      · exact z
      · rcases List.mem_cons.mp m2 with u | u
        · exact u.symm
        · have := b1 x z
          have := a1 y u
          omega
    subst e
    rw [asc_uniq a2 b2 fun k => ?_]
    constructor
    · intro hk
      rcases List.mem_cons.mp ((h k).mp (List.mem_cons_of_mem _ hk)) with z | z
      · have := a1 k hk
        omega
      · exact z
    · intro hk
      rcases List.mem_cons.mp ((h k).mpr (List.mem_cons_of_mem _ hk)) with z | z
      · have := b1 k hk
        omega
      · exact z
theorem cr_sortedSK {X : Cx} (K : PySem.W.Frag) (h : X.K = K) : CallR X (.builtin "sorted") (rSortedS K) := h ▸ cr_sortedS
theorem sqT_same {K : PySem.W.Frag} {H H' : Hp} {a : Addr} {xs : List V} (h : SqT K H a xs) (s : Same H H') : SqT K H' a xs := by
  rcases h with (h | ⟨o, h⟩) | h
  · exact .inl (.inl (s _ _ h))
  · exact .inl (.inr ⟨o, s _ _ h⟩)
  · exact .inr h
mutual
theorem dp_same {K : PySem.W.Frag} {H H' : Hp} (s : Same H H') : ∀ {d : PyData} {v : V}, Dp K H v d → Dp K H' v d
  | _, _, .non => .non
  | _, _, .bl b => .bl b
  | _, _, .int i => .int i
  | _, _, .str x => .str x
  | _, _, .lst h r => .lst (s.seq h) (dpAll_same s r)
  | _, _, .tup h r => .tup (sqT_same h s) (dpAll_same s r)
theorem dpAll_same {K : PySem.W.Frag} {H H' : Hp} (s : Same H H') : ∀ {ds : List PyData} {vs : List V}, DpAll K H vs ds → DpAll K H' vs ds
  | _, _, .nil => .nil
  | _, _, .cons h r => .cons (dp_same s h) (dpAll_same s r)
end
theorem pe_fldK {X : Cx} (K : PySem.W.Frag) (h : X.K = K) {e : Expr} {f : Str} {pos : Pos} {ta : TE} (he : PE X e ta) (hb : attributeBase e f X.env (eval e X.env) = eval e X.env) : PE X (.Attribute e f pos) (tFld K ta f) := h ▸ pe_fld he hb
theorem make_same3 {H H3 : Hp} {x dx : Addr} {o1 o2 : HO} (b : But x (upd (upd H dx o1) x o2) H3) (nx : H x = none) (nd : H dx = none) : Same H H3 := fun a o e => by
  have n1 : a ≠ x := ne_of_none e nx
  have n2 : a ≠ dx := ne_of_none e nd
  exact b a o (by rw [upd_ne n1, upd_ne n2]; exact e) n1
end Wh

namespace Wh
open PySem PySem.Spec PyProof.Rows L2
/-! ### nested data without dicts: equal to itself -/
theorem vD_plain (x : V) : (vD x).plain = true := by
  cases x <;> rfl
theorem vDs_plain : ∀ xs : List V, PyData.plainAll (xs.map vD) = true
  | [] => rfl
  | x :: xs => by
    rw [List.map_cons, PyData.plainAll, vD_plain, vDs_plain xs]
    rfl
theorem tD_plain (xs : List V) : (tD xs).plain = true := by
  show PyData.plain (.tuple (xs.map vD)) = true
  rw [PyData.plain]
  exact vDs_plain xs
theorem rowD_plain {α : Type} (f : α → List V) : ∀ ps : List (Addr × α), PyData.plainAll (rowD f ps) = true
  | [] => rfl
  | p :: ps => by
    show PyData.plainAll (tD (f p.2) :: rowD f ps) = true
    rw [PyData.plainAll, tD_plain, rowD_plain f ps]
    rfl
theorem rNe_self {K : PySem.W.Frag} {H : Hp} {x y : V} {d : PyData} {Q : VK} (h1 : Dp K H x d) (h2 : Dp K H y d) (sd : SeqAt.shaped d = true) (pl : d.plain = true) (k : Q (.bl false) H) : rNeD K x y H Q :=
  ⟨d, d, h1, h2, sd, sd, by rw [SeqAt.eqv_refl_plain d pl]; exact k⟩
/-- a list of two -/
def twoD (d e : PyData) : PyData := .list [d, e]
theorem twoD_plain {d e : PyData} (h1 : d.plain = true) (h2 : e.plain = true) : (twoD d e).plain = true := by
  show PyData.plain (.list [d, e]) = true
  rw [PyData.plain, PyData.plainAll, PyData.plainAll, PyData.plainAll, h1, h2]
  rfl
theorem twoD_shaped {d e : PyData} (h1 : d.canLay0 = true) (h2 : e.canLay0 = true) (k1 : d.depth ≤ 60) (k2 : e.depth ≤ 60) : SeqAt.shaped (twoD d e) = true := by
  show (PyData.canLay0 (.list [d, e]) && decide (PyData.depth (.list [d, e]) ≤ 64)) = true
  rw [PyData.canLay0, PyData.canLayAll0, PyData.canLayAll0, PyData.canLayAll0, h1, h2, PyData.depth, PyData.depthAll, PyData.depthAll, PyData.depthAll, Bool.and_eq_true]
  exact ⟨rfl, decide_eq_true (by omega)⟩
theorem twoD_dp {K : PySem.W.Frag} {H : Hp} {a : Addr} {x y : V} {d e : PyData} (h : H a = some (.lst [x, y])) (h1 : Dp K H x d) (h2 : Dp K H y e) : Dp K H (.ref a) (twoD d e) := .lst (SqL.of h) (.cons h1 (.cons h2 .nil))
/-- a tuple of flat tuples -/
def ttL {α : Type} (f : α → List V) (l : List α) : PyData := .tuple (l.map fun x => tD (f x))
theorem rowD_map {α : Type} {f : α → List V} {ps : List (Addr × α)} {l : List α} (e : ps.map (·.2) = l) : rowD f ps = l.map fun x => tD (f x) := by
  rw [← e, List.map_map]
  rfl
theorem ttL_row {α : Type} (f : α → List V) (l : List α) : ttL f l = .tuple (rowD f (l.map fun x => ((0 : Addr), x))) := by
  rw [rowD_map (l := l) (by rw [List.map_map]; exact List.map_id _)]
  rfl
theorem ttL_plain {α : Type} (f : α → List V) (l : List α) : (ttL f l).plain = true := by
  rw [ttL_row, PyData.plain]
  exact rowD_plain f _
theorem ttL_lay {α : Type} {f : α → List V} (hn : ∀ x, (f x).all nb = true) (l : List α) : (ttL f l).canLay0 = true := by
  rw [ttL_row, PyData.canLay0]
  exact rowD_lay fun p _ => hn p.2
theorem ttL_depth {α : Type} (f : α → List V) (l : List α) : (ttL f l).depth ≤ 2 := by
  rw [ttL_row, PyData.depth]
  have := rowD_depth (f := f) (l.map fun x => ((0 : Addr), x))
  omega
theorem ttL_dp {α : Type} {f : α → List V} {K : PySem.W.Frag} {H : Hp} {a : Addr} {ps : List (Addr × α)} {l : List α} (hn : ∀ x, (f x).all nb = true) (h : H a = some (.tup (refs ps))) (hA : At f H ps) (e : ps.map (·.2) = l) : Dp K H (.ref a) (ttL f l) := by
  unfold ttL
  rw [← rowD_map e]
  exact .tup (SqT.of h) (rowD_dp K (fun p _ => hn p.2) hA)
/-! ### x not in t, t a tuple of data -/
def rNotInTD (K : PySem.W.Frag) : R2 := fun x y H Q => ∃ d ds, Dp K H x d ∧ Dp K H y (.tuple ds) ∧ d.plain = true ∧ PyData.plainAll ds = true ∧ min (PyData.depthAll ds) d.depth ≤ 60 ∧ Q (.bl (!ds.any fun z => PyData.eqv z d)) H
theorem op_notInTD {X : Cx} (K : PySem.W.Frag) (h : X.K = K) (hu : X.A.units + 64 < cLine) : OpR X (compareOp .NotIn) (rNotInTD K) := by
  subst h
  intro pins s σ H x y v u Q I rx ry h
  obtain ⟨d, ds, hd, he, pd, pds, hdep, q⟩ := h
  obtain ⟨as, r1⟩ := Dp.reads I d x v hd rx
  obtain ⟨bs, r2⟩ := Dp.reads I (.tuple ds) y u he ry
  exact SeqAt.notIn_tuple_data r2 r1 pds pd (by omega) ⟨.bl _, H, I, rfl, q⟩
/-! ### f(k = v, ..), keywords alone -/
def tCallK0 (sp : Sp) (gV : List V → List V → List V) (E : XK) (tk : TA) : TE := fun σ H Q => tk σ H fun zs H2 => sp (gV [] zs) H2 Q E
theorem pe_callK0 {X : Cx} {CX : CXT} {k : Nat} {f : Addr} {fd : FuncData} {ps ks : List Str} {sp : Sp} {E : XK} {x : Str} {p pos : Pos} {kws : List Keyword} {tk : TA} {g : List Value → List Value → List Value} {gV : List V → List V → List V}
    (F : FnOk X.prog X.w X.K X.mg X.base CX k f fd ps sp) (hr : Room k X.A) (hg : Gl X x) (hm : X.mg x = some (.ref f)) (hk : PySem.W.keepIn X.K (.ref f) = true) (hb : KBinds X.K fd ps ks g gV) (hx : Passes CX X E) (hkw : PK X kws tk)
    (hall : (backToKw pos (keywordEach kws X.env)).all (·.1.isSome) = true := by rfl) (hks : (backToKw pos (keywordEach kws X.env)).filterMap (·.1) = ks := by rfl)
    (hdb : (x == ("__debug__" : Str)) = false := by decide)
    (hpl : ((backTo pos (starEach [] X.env)).any (·.1) || (backToKw pos (keywordEach kws X.env)).any (·.1.isNone)) = false := by rfl) :
    PE X (.Call (.Name x p) [] kws pos) (tCallK0 sp gV E tk) := by
  refine ⟨fun pins s σ H Q I h => ?_⟩
  refine wpAny_Call_Name_kw (ld_glob I hg hm ?_ hdb)
  refine PySem.W.callWith_KW0 (first := []) (h₀ := X.base) I.ok.mod.kin hk hall ?_ hpl
  refine thn (hkw.run pos pins s σ H _ I h) fun ws s2 ⟨zs, H2, I2, rz, q2⟩ => ⟨I2.kIn, ?_⟩
  rw [hks]
  exact run_fnk (us := []) (vs := []) F hr hb hx I2 .nil rz q2
theorem make_same {H H3 : Hp} {x dx : Addr} {o1 o2 : HO} (b : But x (upd (upd H dx o1) x o2) H3) (nx : H x = none) (nd : H dx = none) : Same H H3 := fun a o e => by
  have h1 : a ≠ x := ne_of_none e nx
  have h2 : a ≠ dx := ne_of_none e nd
  exact b a o (by rw [upd_ne h1, upd_ne h2]; exact e) h1
/-! ### what joined tells beside the shortest length told -/
theorem join_short {n : Nat} {ts : List Tie} {p0 tgt : Pr} {r : Option (List Nat)} {L : Nat} (n4 : n ≤ 4) (J : JoinOk n ts p0 tgt r) (S : ShortOk ts p0 tgt L) : (r = none ∧ L = 0) ∨ ∃ w, r = some w ∧ w.length = L ∧ 1 ≤ L := by
  cases r with
  | none =>
    rcases S with ⟨h, _⟩ | ⟨h1, ⟨w, e, hw⟩, _⟩
    · exact .inl ⟨rfl, h⟩
    · exact absurd hw (J w fun z => by rw [z] at e; simp at e; omega)
  | some w =>
    obtain ⟨ne, hl, _, hw, mn⟩ := J
    have h16 : n * n ≤ 4 * 4 := Nat.mul_le_mul n4 n4
    rcases S with ⟨_, h⟩ | ⟨h1, ⟨w2, e, hw2⟩, mn2⟩
    · exact absurd hw (h w ne (by omega))
    · have a := mn2 w ne hw
      have b := mn w2 (fun z => by rw [z] at e; simp at e; omega) hw2
      exact .inr ⟨w, rfl, by omega, h1⟩
theorem walk2_swap {ts : List Tie} {a b c d : Nat} {w : List Nat} (h : walk2 ts (a, b) w = some (c, d)) : walk2 ts (b, a) w = some (d, c) := by
  have h := walk2_some.mp h
  exact walk2_some.mpr ⟨h.2, h.1⟩
theorem join_swap {n : Nat} {ts : List Tie} {a b c d : Nat} {r q : Option (List Nat)} (J : JoinOk n ts (a, b) (c, d) r) (J2 : JoinOk n ts (b, a) (d, c) q) : r = none → q = none := by
  intro e
  subst e
  cases q with
  | none => rfl
  | some w =>
    obtain ⟨ne, _, _, hw, _⟩ := J2
    exact absurd (walk2_swap hw) (J w ne)
end Wh

namespace Wh
open PySem PySem.Spec PyProof PyProof.Rows L2
/-! ### promises that hold where no repr is under way -/
structure RoomG (k : Nat) (A : Around) : Prop where
  room : Room k A
  idle : A.guards = some []
theorem RoomG.mono {j k : Nat} {A : Around} (r : RoomG k A) (h : j ≤ k) : RoomG j A := ⟨r.room.mono h, r.idle⟩
theorem RoomG.deeper {k : Nat} {A : Around} (r : RoomG (k + 1) A) (env : Env) : RoomG k (A.deeper env) := ⟨r.room.deeper env, r.idle⟩
structure FnG (P : Program) (w : World) (K : PySem.W.Frag) (mg : Str → Option Value) (base : Heap) (k : Nat) (f : Addr) (fd : FuncData) (ps : List Str) (sp : Sp) : Prop where
  arity : ∀ vs H Q E, sp vs H Q E → vs.length = ps.length
  does : ∀ {A : Around} {outer : List Env} {s : Shared} {H : Hp} {args : Args} {us : List Value} {vs : List V} {Q : VK} {E : XK}, RoomG k A → Env0 P w K mg base A outer s H → BindsTo s fd args (ps.zip us) → Vals vs us → sp vs H Q E →
    codeAny (model P w) A (.call (.ref f) args) (CR C8.CX0 outer P w H s Q E) s
set_option maxHeartbeats 1000000 in
theorem fnG_of {P : Program} {w : World} {K : PySem.W.Frag} {mg : Str → Option Value} {base : Heap} {k : Nat} {x qual : Str} {st : Stmt} {f : Addr} {fd : FuncData} {N ps : List Str} {sp : Sp} (F : Fun K x qual st f fd) (S : FnScope N ps (defScope st)) (ar : ∀ vs H Q E, sp vs H Q E → vs.length = ps.length)
    (bod : ∀ (cdv : Value) (A : Around) (outer : List Env) (s : Shared) (H : Hp) (vs : List V) (Q : VK) (E : XK), RoomG k (A.deeper (envOfC qual (defScope st) s.heap.objs.size f cdv)) → sp vs H Q E →
      ∃ t, PSs (cxOf C8.CX0 P w K mg base N qual (defScope st) f cdv A outer s H E).nox (defBody st) t ∧ t { nx := fun _ H' => Q .non H', rt := Q } (start N vs) H) : FnG P w K mg base (k + 1) f fd ps sp := by
  obtain ⟨oc, od, kV, doc, pm, an, cdv, ct, osl, rfl, lk, cd⟩ := F.ex
  refine ⟨ar, ?_⟩
  intro A outer s H args us vs Q E room env bnd rv want
  have old : ∀ b o, base.get? b = some o → s.heap.get? b = some o := fun b o e => (env.bs b o e).1
  have inK : K.In s.heap := env.mod.kin.keeps old
  have kinds : ∀ y ∈ ps.zip us, (defScope st).names.lookup y.1 = some .local ∨ ((defScope st).names.lookup y.1 = some .cell ∧ ((cellsFrom (s.heap.objs.size + 1) (defScope st).names []).lookup y.1).isSome = true) := by
    rintro ⟨m, v⟩ hy
    refine (S.par m (List.of_mem_zip hy).1).imp id fun q => ⟨q, ?_⟩
    exact PySem.W.cellsFrom_some _ _ _ (.inl q)
  refine codeAny_call_function room.room.depth (inK _ _ lk) rfl S.co S.gen rfl (PySem.W.codeRec_of inK cd) (bnd _ _ _ _ ?_)
  refine wpAny_newFunctionEnv_cells S.kind kinds ?_
  rintro env' rfl s1 made
  refine ⟨(env.mod.nolimit.keeps old).keeps made.toInCall.keep, codeAny_func ?_⟩
  obtain ⟨t, ht, q⟩ := bod cdv A outer s H vs Q E (room.deeper _) want
  have J := inv_start (CX := C8.CX0) (E := E) S room.room.hd env (ar _ _ _ _ want) rv made
  have ends : ∀ {σ' : L2.St} {H' : Hp} {v : V} {u : Value} {s' : Shared}, Inv (cxOf C8.CX0 P w K mg base N qual (defScope st) f cdv A outer s H E) [] σ' H' s' → RelV v u → Q v H' → CE outer P w H s Q u s' :=
    fun {_ H' v _ _} I r z => ⟨v, H', I.os, I.bare, I.base, I.hok, r, z⟩
  refine wpAny_mono (ht.nox.run [] s1 (start N vs) H _ J q) ?_ fun _ _ z => z
  intro fl s' z
  cases fl with
  | ret u => exact let ⟨_, _, _, I, r, y⟩ := z; ends I r y
  | next => exact let ⟨_, _, I, y⟩ := z; ends (v := V.non) (u := Value.none) I rfl y
  | brk => exact let ⟨_, _, _, y⟩ := z; y.elim
  | cont => exact let ⟨_, _, _, y⟩ := z; y.elim
/-- f(e, ..), where no repr is under way -/
theorem pe_callG {X : Cx} {k : Nat} {f : Addr} {fd : FuncData} {ps : List Str} {sp : Sp} {E : XK} {x : Str} {p pos : Pos} {e : Expr} {es : List Expr} {t : TA} (F : FnG X.prog X.w X.K X.mg X.base k f fd ps sp) (room : RoomG k X.A) (gl : Gl X x) (m : X.mg x = some (.ref f)) (kp : PySem.W.keepIn X.K (.ref f) = true)
    (b : Binds X.K fd ps []) (ps_ : Passes C8.CX0 X E) (ha : PA X (e :: es) t) (nd : (x == ("__debug__" : Str)) = false := by decide) (st : starEach (e :: es) X.env = (false, eval e X.env) :: starEach es X.env := by rfl) (pl : (backTo pos (starEach es X.env)).any (·.1) = false := by rfl) :
    PE X (.Call (.Name x p) (e :: es) [] pos) (tCall sp [] E t) := by
  constructor
  intro pins s σ H Q I h
  refine wpAny_Call_Name_kw (ld_glob I gl m ?_ nd)
  refine PySem.W.callWith_K (h₀ := X.base) I.ok.mod.kin kp (thn (ha.run pos pins s σ H _ I h) ?_) st pl
  rintro us s1 ⟨vs, H1, J, r, q⟩
  refine ⟨J.kIn, ?_⟩
  rw [List.append_nil] at q
  have le : (us ++ ([] : List Value)).length = ps.length := by
    rw [List.append_nil, ← r.length]
    exact F.arity _ _ _ _ q
  have bb := b s1 us J.kIn le
  rw [List.append_nil] at bb
  refine wpAny_call (codeAny_mono (F.does room J.env0 bb r q) ?_)
  intro o s' z
  cases o with
  | error err => exact ps_ pins σ H1 s1 err s' J z
  | ok fl =>
    cases fl with
    | ret u => exact J.after z
    | next => exact z.elim
    | brk => exact z.elim
    | cont => exact z.elim
/-! ### repr of lists and tuples -/
def rReprD (K : PySem.W.Frag) : List V → Hp → VK → Prop := fun xs H Q => ∃ (a : Addr) (d : PyData), xs = [V.ref a] ∧ Dp K H (.ref a) d ∧ d.showable = true ∧ d.hasDict = false ∧ d.depth ≤ 60 ∧ d.shown.length ≤ sizeLine ∧ Q (.str d.shown) H
theorem call_repr_D {X : Cx} (idle : X.A.guards = some []) (hu : X.A.units + 64 < cLine) : CallR X (.builtin "repr") (rReprD X.K) := by
  intro pins s σ H xs us Q I r h
  obtain ⟨a, d, e, hd, hs, nd, dep, hl, q⟩ := h
  subst e
  rw [Vals.ref1 r]
  obtain ⟨as, rd⟩ := Dp.reads I d _ (.ref a) hd rfl
  refine repr_of_reads' rd hs (fun z => by rw [nd] at z; cases z) idle (by omega) (fun _ _ z => z) (fun h' u tk hk => ?_) hl
  exact ⟨.str d.shown, H, I.kept hk, ⟨_, rfl⟩, q⟩
end Wh

namespace Wh
open PySem PySem.Spec PyProof PyProof.Rows L2
/-! ### the law is called from the top, where no repr is under way -/
def scriptO (vs : List Value) : Obj := { cls := .type "list", data := .seq vs.toArray }
/-- the script alone is tracked, or it is one of the program's own objects -/
theorem script_hp {P : Program} {w : World} {K : PySem.W.Frag} {h : Heap} {a : Addr} {vs : List Value} {ns : List Int} (KX : K.In h) (at_ : h.get? a = some (scriptO vs)) (is : IntsAre vs ns) (few : ns.length ≤ sizeLine) :
    ∃ H : Hp, SqL K H a (ns.map V.int) ∧ HOk P w H h ∧ ∀ b u, H b = some u → b = a ∧ K.lookup a = none ∧ u = .frz (scriptO vs) (.lst (ns.map V.int)) := by
  have rel := vals_ints is
  have same := is.length
  cases known : K.lookup a with
  | none =>
    have yes : (fun b => if b = a then some (HO.frz (scriptO vs) (.lst (ns.map V.int))) else none : Hp) a = some (.frz (scriptO vs) (.lst (ns.map V.int))) := if_pos rfl
    have out : ∀ b u, (if b = a then some (HO.frz (scriptO vs) (.lst (ns.map V.int))) else none) = some u → b = a ∧ u = .frz (scriptO vs) (.lst (ns.map V.int)) := by
      intro b u z
      by_cases e : b = a
      · rw [if_pos e] at z
        exact ⟨e, (Option.some.inj z).symm⟩
      · rw [if_neg e] at z
        cases z
    refine ⟨_, .inl (.inr ⟨_, yes⟩), ?_, fun b u z => ⟨(out b u z).1, rfl, (out b u z).2⟩⟩
    intro b u z
    obtain ⟨rfl, rfl⟩ := out b u z
    exact ⟨at_, by rw [List.length_map]; exact few, vs, _, rel, at_⟩
  | some o =>
    have e := (KX a o known).symm.trans at_
    obtain rfl := Option.some.inj e
    exact ⟨fun _ => none, .inr ⟨_, vs.toArray, _, known, rfl, rfl, rfl, by rw [List.size_toArray, same]; exact few, by simpa using rel⟩, fun b u z => (by cases z), fun b u z => (by cases z)⟩
set_option maxHeartbeats 1000000 in
theorem top_call {P : Program} {w : World} {K : PySem.W.Frag} {mg mb : Str → Option Value} {k : Nat} {fa a : Addr} {fd : FuncData} {x : Str} {sp : Sp} {s : Shared} {vs : List Value} {ns : List Int}
    (KX : K.In s.heap) (globals : s.heap.Ns mainGlobals mg) (own : s.heap.Ns builtinsNs mb) (boot : ∀ y : Str, y ≠ "__name__" → mb y = bootBuiltins y) (lim : s.heap.NoLimit) (gens : s.gens = #[])
    (at_ : s.heap.get? a = some (scriptO vs)) (is : IntsAre vs ns) (few : ns.length ≤ sizeLine) (room : Room k callerA)
    (F : ∀ base : Heap, K.In base → base.Ns mainGlobals mg → FnG P w K mg base k fa fd [x] sp) (bnd : ∀ (s : Shared) (u : Value), BindsTo s fd ⟨[u], []⟩ [(x, u)])
    (want : ∀ H : Hp, SqL K H a (ns.map V.int) → sp [.ref a] H (fun v _ => v = .bl true) fun _ _ _ => False) :
    codeAny (model P w) callerA (.call (.ref fa) ⟨[.ref a], []⟩) (fun r t => r = .ok (.ret (.bool true)) ∧ OldK s.heap t.heap ∧ t.os = s.os ∧ AllBare t.gens) s := by
  obtain ⟨H, hS, hok, only⟩ := script_hp (P := P) (w := w) KX at_ is few
  have shown : ∀ {b : Addr} {o : Obj}, s.heap.get? b = some o → H b = none → (hidT s.heap H).get? b = some o := hidT_get
  -- what is no list is not hidden
  have dicts : ∀ {b : Addr} {m : Str → Option Value}, s.heap.Ns b m → (hidT s.heap H).Ns b m := by
    rintro b m ⟨o, es, ep, e, d, rest⟩
    refine ⟨o, es, ep, shown e ?_, d, rest⟩
    cases hb : H b with
    | none => rfl
    | some u =>
      obtain ⟨rfl, _⟩ := only b u hb
      obtain rfl := Option.some.inj (e.symm.trans at_)
      exact nomatch (show Data.seq vs.toArray _ = Data.dict es ep from d)
  have inK : K.In (hidT s.heap H) := by
    intro b o e
    refine shown (KX b o e) ?_
    cases hb : H b with
    | none => rfl
    | some u =>
      obtain ⟨rfl, no, _⟩ := only b u hb
      exact nomatch no.symm.trans e
  have modl : Mod K mg (hidT s.heap H) := by
    obtain ⟨mc, l1, l2⟩ := lim
    exact ⟨inK, dicts globals, ⟨mb, dicts own, boot⟩, mc, dicts l1, l2⟩
  have env : Env0 P w K mg (hidT s.heap H) callerA [] s H := by
    refine ⟨rfl, modl, fun b o e => of_hidT e, Nat.le_of_eq (hidT_size _ _), trivial, ?_, hok, .of_eq gens⟩
    intro b hb
    exact nomatch (show b ∈ ([] : List Addr) from hb)
  have run := (F _ inK (dicts globals)).does (us := [.ref a]) (vs := [V.ref a]) ⟨room, rfl⟩ env (bnd s (.ref a)) (.cons rfl .nil) (want H hS)
  refine codeAny_mono run ?_
  intro r t z
  match r, z with
  | .error e, z => exact False.elim z
  | .ok .next, z => exact False.elim z
  | .ok .brk, z => exact False.elim z
  | .ok .cont, z => exact False.elim z
  | .ok (.ret u), ⟨v, H', os, bare, un, hok', ru, ev⟩ =>
    have ev : v = .bl true := ev
    subst ev
    have eu : u = Value.bool true := ru
    subst eu
    refine ⟨rfl, OldK.of_keep ?_, os, bare⟩
    intro b o e
    cases hb : H b with
    | none => exact un.keep b o e hb (fun z => nomatch (show b ∈ ([] : List Addr) from z)) (by simp)
    | some u =>
      obtain ⟨_, _, rfl⟩ := only b u hb
      have now := (hok' b _ (un.frzs b _ _ hb)).1
      have then_ := (hok b _ hb).1
      obtain rfl := Option.some.inj (e.symm.trans then_)
      exact now
def LawAtG (l : PySem.W.OpenLaw) (w : World) (K : PySem.W.Frag) (k n : Nat) (x : Str) (mg : Str → Option Value) (fa : Addr) : Prop :=
  ∃ (fd : FuncData) (sp : Sp), (∀ (s : Shared) (u : Value), BindsTo s fd ⟨[u], []⟩ [(x, u)]) ∧ (∀ (H : Hp) (a : Addr) (ns : List Int), ns.length ≤ n → (∀ z ∈ ns, Builtin.Int.intBits z ≤ 1048576) → SqL K H a (ns.map V.int) → sp [.ref a] H (fun v _ => v = .bl true) fun _ _ _ => False) ∧
    ∀ base : Heap, K.In base → base.Ns mainGlobals mg → FnG l.prog w K mg base k fa fd [x] sp
theorem walkG {l : PySem.W.OpenLaw} {n k : Nat} {q : Program} {loose : List Str} {XP : (Str → Option Value) → Heap → Prop} {YP : World → Heap → Prop} {d : DefRec} {K : Params → PySem.W.Frag} {x : Str}
    (most : l.most = some n) (fits : n ≤ sizeLine) (plain : d.params.defaults = []) (room : Room k callerA) (inK : ∀ (w : World) (h : Heap), YP w h → (K w.params).In h)
    (F : ∀ (w : World) (mg : Str → Option Value) (fa : Addr) (h : Heap), YP w h → (K w.params).In h → h.Ns mainGlobals mg → mg d.name = some (.ref fa) → LawAtG l w (K w.params) k n x mg fa) :
    PySem.W.WalkO q loose XP YP l.row.toRowW d [] (fun f vs => PySem.call f vs) := by
  refine Att.attach_callB most plain ?_
  intro w s₀ s₁ mg mb fa o pm cd doc a vs ns G Y _ _ _ hm ob is len bits gens
  have KX := inK w _ Y
  obtain ⟨fd, sp, bnd, want, run⟩ := F w mg fa _ Y KX G.T.g hm
  exact top_call KX G.T.g G.T.b G.T.builtins G.T.nolimit gens ob is (Nat.le_trans len fits) room run bnd fun H hS => want H a ns len bits hS
end Wh

namespace Wh
open PySem PySem.Spec PyProof PyProof.Rows L2
/-! ### own == anything -/
def TyO (K : PySem.W.Frag) (C : Addr) (H : Hp) (y : V) (T : Value) : Prop :=
  (∃ z, y = .str z ∧ T = .type "str") ∨ (∃ b xs, y = .ref b ∧ SqT K H b xs ∧ T = .type "tuple") ∨ ∃ b db gs, y = .ref b ∧ H b = some (.ins C db gs) ∧ T = .ref C
def rEqO (K : PySem.W.Frag) (C : Addr) (sp : Sp) : R2 := fun x y H Q => ∃ (a dx : Addr) (fs : List (Str × V)) (T : Value), x = .ref a ∧ H a = some (.ins C dx fs) ∧ TyO K C H y T ∧ PySem.W.notFirst K C T = true ∧ sp [.ref a, y] H (fun v H' => ∃ c, v = .bl c ∧ Q (.bl c) H') C8.E0
theorem looks_tup {M : Model} {h : Heap} {b : Addr} {items : Array Value} (t : h.IsTuple b items) : PySem.W.Looks M h (typeOf (.ref b)) (.type "tuple") := by
  obtain ⟨o, at_, cls, _⟩ := t
  have l : PySem.W.Looks M h (typeOf (.ref b)) o.cls := (PySem.W.Looks.ld (part := none) at_).andThen .now
  rw [cls] at l
  exact l
theorem op_eqO {X : Cx} {n : Nat} {C f : Addr} {fd : FuncData} {ps : List Str} {sp : Sp} (F : FnOk X.prog X.w X.K X.mg X.base C8.CX0 n f fd ps sp) (own : PySem.W.findIn X.K (.ref C) "__eq__" = some (some (.ref f))) (isf : PySem.W.isFn X.K (.ref f) = true) (b : Binds X.K fd ps []) (room : Room n X.A) :
    OpR X (compareOp .Eq) (rEqO X.K C sp) := by
  intro pins s σ H x y v u Q I rx ry d
  obtain ⟨a, dx, fs, T, rfl, ha, ty, nf, want⟩ := d
  obtain rfl : v = Value.ref a := rx
  obtain ⟨_, J, _⟩ := ins_get I.hok ha
  obtain ⟨od, J, _⟩ := J.look
  have tyL : PySem.W.Looks (model X.prog X.w) s.heap (typeOf u) T := by
    rcases ty with ⟨z, rfl, rfl⟩ | ⟨c, xs, rfl, st, rfl⟩ | ⟨c, dc, gs, rfl, hc, rfl⟩
    · obtain ⟨tk, rfl⟩ := ry
      exact .of_pure rfl
    · obtain rfl : u = Value.ref c := ry
      obtain ⟨its, _, t, _⟩ := I.tuple st
      exact looks_tup t
    · obtain rfl : u = Value.ref c := ry
      obtain ⟨_, J2, _⟩ := ins_get I.hok hc
      obtain ⟨_, J2, _⟩ := J2.look
      exact J2.type
  have le := F.len _ _ _ _ want
  have both : Vals [V.ref a, y] [Value.ref a, u] := .cons rfl (.cons ry .nil)
  have runs : wpAny (model X.prog X.w) X.A (call (.ref f) [.ref a, u]) (fun r t => ∃ c, r = .bool c ∧ EP X pins σ Q (.bool c) t) X.xe s := by
    have bb := b s [.ref a, u] I.kIn (by simpa using le)
    rw [List.append_nil] at bb
    refine wpAny_call (codeAny_mono (F.run X.A X.stack s H ⟨[.ref a, u], []⟩ [.ref a, u] [.ref a, y] _ C8.E0 room I.env0 bb both want) ?_)
    intro r t z
    match r, z with
    | .error e, z => exact z.elim
    | .ok .next, z => exact z.elim
    | .ok .brk, z => exact z.elim
    | .ok .cont, z => exact z.elim
    | .ok (.ret r), z =>
      obtain ⟨v, H', I', rv, c, rfl, q⟩ := I.after z
      exact ⟨c, rv, .bl c, H', I', rfl, q⟩
  have tried : wpAny (model X.prog X.w) X.A (tryCompare (.ref a) "__eq__" u) (fun r t => ∃ c, r = some (.bool c) ∧ EP X pins σ Q (.bool c) t) X.xe s := by
    delta tryCompare
    refine wpAny_bind (PySem.W.ifBound_K I.kIn J own isf (wpAny_mono runs (fun r t z => ?_) fun _ _ e => e))
    obtain ⟨c, rfl, q⟩ := z
    exact wpAny_pure ⟨c, rfl, q⟩
  have end_ : ∀ {m : Option Value → Sem Value}, (∀ c, m (some (.bool c)) = pure (.bool c)) → wpAny (model X.prog X.w) X.A (tryCompare (.ref a) "__eq__" u >>= m) (EP X pins σ Q) X.xe s := fun hm => by
    refine wpAny_bind (wpAny_mono tried (fun r t z => ?_) fun _ _ e => e)
    obtain ⟨c, rfl, q⟩ := z
    rw [hm c]
    exact wpAny_pure q
  show wpAny _ _ (richCompare .Eq (.ref a) u) _ _ _
  delta richCompare
  simp only [oneThing_ref, cmpInfo]
  refine wpAny_holding (wpAny_bind (wpAny_cRoomFor (by have := room.un; omega) (wpAny_bind (J.type.here (wpAny_bind (tyL.here ?_))))))
  by_cases same : T = .ref C
  · rw [if_neg (by rw [same]; simp)]
    refine wpAny_bind (wpAny_pure ?_)
    simp only [Bool.false_eq_true, if_false]
    exact end_ fun c => rfl
  · have no : PySem.W.subIn X.K T (.ref C) = some false := by
      rcases Bool.or_eq_true_iff.mp nf with e | e
      · exact absurd (beq_iff_eq.mp e) same
      · exact beq_iff_eq.mp e
    rw [if_pos (by simpa using fun z => same z.symm)]
    refine wpAny_bind ((PySem.W.looks_subIn I.kIn no).here ?_)
    simp only [Bool.false_eq_true, if_false]
    exact end_ fun c => rfl
/-! ### str(own) -/
def rStrO (C : Addr) (sp : Sp) : List V → Hp → VK → Prop := fun xs H Q => ∃ (a dx : Addr) (fs : List (Str × V)), xs = [V.ref a] ∧ H a = some (.ins C dx fs) ∧ sp [.ref a] H (fun v H' => ∃ z, v = .str z ∧ Q (.str z) H') C8.E0
theorem call_strO {X : Cx} {n : Nat} {C f : Addr} {fd : FuncData} {ps : List Str} {sp : Sp} (F : FnOk X.prog X.w X.K X.mg X.base C8.CX0 n f fd ps sp) (own : PySem.W.findIn X.K (.ref C) "__str__" = some (some (.ref f))) (isf : PySem.W.isFn X.K (.ref f) = true) (b : Binds X.K fd ps []) (room : Room (n + 2) X.A) :
    CallR X (.type "str") (rStrO C sp) := by
  intro pins s σ H xs us Q I r h
  obtain ⟨a, dx, fs, rfl, ha, want⟩ := h
  rw [Vals.ref1 r]
  obtain ⟨_, J, _⟩ := ins_get I.hok ha
  obtain ⟨od, J, _⟩ := J.look
  have le := F.len _ _ _ _ want
  have bb := b s [.ref a] I.kIn (by simpa using le)
  rw [List.append_nil] at bb
  have room' : Room n X.A.in1.in1 := Room.in1 (Room.in1 room)
  refine PySem.W.kso_call (by have := room'.un; omega) I.kIn J own isf (wpAny_call (codeAny_mono (F.run X.A.in1.in1 X.stack s H ⟨[.ref a], []⟩ [.ref a] [V.ref a] _ C8.E0 room' I.env0.in1.in1 bb (.cons rfl .nil) want) ?_))
  intro r t z
  match r, z with
  | .error e, z => exact z.elim
  | .ok .next, z => exact z.elim
  | .ok .brk, z => exact z.elim
  | .ok .cont, z => exact z.elim
  | .ok (.ret r), z =>
    obtain ⟨v, H', I', rv, y, rfl, q⟩ := I.after z
    obtain ⟨tk, rfl⟩ := rv
    exact ⟨.str y, H', I', ⟨tk, rfl⟩, q⟩
/-! ### C(k = v), keywords alone -/
theorem pe_makeK0 {X : Cx} {CX : CXT} {k : Nat} {f C : Addr} {fd : FuncData} {ps ks : List Str} {sp : Sp} {E : XK} {x : Str} {p pos : Pos} {kws : List Keyword} {tk : TA} {g : List Value → List Value → List Value} {gV : List V → List V → List V}
    (M : Mk X.K C f) (F : FnOk X.prog X.w X.K X.mg X.base CX k f fd ps sp) (room : Room (k + 1) X.A) (gl : Gl X x) (m : X.mg x = some (.ref C)) (b : KBn X.K fd ps 1 ks g gV) (thru : Passes CX X E) (hkw : PK X kws tk)
    (all : (backToKw pos (keywordEach kws X.env)).all (·.1.isSome) = true := by rfl) (names : (backToKw pos (keywordEach kws X.env)).filterMap (·.1) = ks := by rfl) (nd : (x == ("__debug__" : Str)) = false := by decide)
    (plain : ((backTo pos (starEach [] X.env)).any (·.1) || (backToKw pos (keywordEach kws X.env)).any (·.1.isNone)) = false := by rfl) :
    PE X (.Call (.Name x p) [] kws pos) (fun σ H Q => tk σ H fun zs H2 => zs.length = ks.length ∧ ∀ x dx, H2 x = none → H2 dx = none → dx ≠ x → sp (gV [.ref x] zs) (upd (upd H2 dx (.own x)) x (.ins C dx [])) (fun v H3 => v = .non ∧ Q (.ref x) H3) E) := by
  constructor
  intro pins s σ H Q I h
  refine wpAny_Call_Name_kw (ld_glob I gl m (PySem.W.callWith_KW0 (first := []) (h₀ := X.base) I.ok.mod.kin M.kp all (thn (hkw.run pos pins s σ H _ I h) ?_) plain) nd)
  rintro ws s2 ⟨zs, H2, J, rz, lz, q⟩
  refine ⟨J.kIn, ?_⟩
  rw [names]
  exact run_makeN (n := 0) (us := []) (vs := []) M F room b thru J .nil rz rfl lz q
/-! ### x != y, data without dicts, whatever its texts -/
def rNeP (K : PySem.W.Frag) : R2 := fun x y H Q => ∃ d e, Dp K H x d ∧ Dp K H y e ∧ d.plain = true ∧ e.plain = true ∧ d.depth ≤ 60 ∧ e.depth ≤ 60 ∧ Q (.bl (!PyData.eqv d e)) H
theorem op_neP {X : Cx} (hu : X.A.units + 64 < cLine) : OpR X (compareOp .NotEq) (rNeP X.K) := by
  intro pins s σ H x y v u Q I rx ry want
  obtain ⟨d, e, dx, dy, px, py, lx, ly, q⟩ := want
  obtain ⟨as, r1⟩ := Dp.reads I d x v dx rx
  obtain ⟨bs, r2⟩ := Dp.reads I e y u dy ry
  exact SeqAt.ne_plain r1 r2 px py (by omega) ⟨.bl _, H, I, rfl, q⟩
theorem rNeP_self {K : PySem.W.Frag} {H : Hp} {x y : V} {d : PyData} {Q : VK} (h1 : Dp K H x d) (h2 : Dp K H y d) (pl : d.plain = true) (dep : d.depth ≤ 60) (k : Q (.bl false) H) : rNeP K x y H Q :=
  ⟨d, d, h1, h2, pl, pl, dep, dep, by rw [SeqAt.eqv_refl_plain d pl]; exact k⟩
end Wh

namespace Wh
open PySem PySem.Spec PyProof.Rows L2
open PySem.Sem (wp)
/-! ### bool(x), x an object of an own class that says nothing of its truth -/
theorem meets_bool_obj (x : Addr) : Meets (Builtin.«bool.__new__» ⟨[.type "bool", .ref x], []⟩) (fun _ R s => (∀ (M : Model) (A : Around) (E : Value → Shared → Prop) (Q : Bool → Shared → Prop) (tk : Nat), Q true { s with toks := tk } → wpAny M A (truthy (.ref x)) Q E { s with toks := tk }) ∧ ∀ tk, R (.ok (.ret (.bool true))) { s with toks := tk }) :=
  Meets.of_wp fun prog w A R s hs => by
    obtain ⟨says, hs⟩ := hs
    obtain ⟨hp, g, d, tk, os⟩ := s
    have f1 := F.conv_sub_bool
    repeat (any_goals (first | assumption | (with_reducible refine says _ _ _ _ _ ?_) | wp_step))
    all_goals first | exact ⟨_, rfl, hs _⟩ | exact hs _ | skip
def rBoolO (K : PySem.W.Frag) : List V → Hp → VK → Prop := fun xs H Q => ∃ (a C dx : Addr) (fs : List (Str × V)), xs = [V.ref a] ∧ H a = some (.ins C dx fs) ∧ PySem.W.findIn K (.ref C) "__bool__" = some none ∧ PySem.W.findIn K (.ref C) "__len__" = some none ∧ Q (.bl true) H
theorem call_boolO {X : Cx} : CallR X (.type "bool") (rBoolO X.K) := by
  intro pins s σ H xs us Q I r h
  obtain ⟨a, C, dx, fs, rfl, ha, nb, nl, q⟩ := h
  rw [Vals.ref1 r]
  obtain ⟨m, fr⟩ := I.fr
  obtain ⟨_, J, _⟩ := ins_get I.hok ha
  obtain ⟨od, J, _⟩ := J.look
  exact call_bool_1 (meets_bool_obj a) ⟨fun M A E Q tk hq => PySem.W.truthy_K0 (s := { s with toks := tk }) fr I.ok.mod.kin J nb nl hq, fun tk => ⟨rfl, .bl true, H, I.tok _, rfl, q⟩⟩
end Wh

namespace Wh
open PySem PySem.Spec PyProof PyProof.Rows L2
/-! ### l[:] = b, b another list -/
theorem all_bounds (n : Nat) : sliceBounds none none none n = (((0 : Nat) : Int), ((n : Nat) : Int), 1) := by
  obtain ⟨e1, e2, e3⟩ := L2.slice_bounds none none n
  rw [← Prod.eta (sliceBounds none none none n), ← Prod.eta (sliceBounds none none none n).2, e1, e2, e3]
  rfl
section
variable {prog : Program} {w : World} {A : Around} {E : Value → Shared → Prop} {s : Shared}
theorem stores_all {l b sl : Addr} {its new : Array Value} {n n2 : Nat} {Q : Unit → Shared → Prop} (hz : its.size + new.size ≤ sizeLine) (hne : l ≠ b) (hs : s.heap.IsSliceOf sl .none .none .none)
    (e : s.heap.get? l = some { cls := .type "list", data := .seq its n }) (e2 : s.heap.get? b = some { cls := .type "list", data := .seq new n2 })
    (h : Q () { s with heap := s.heap.update l (Obj.mapSeq fun xs => xs.extract 0 0 ++ new ++ xs.extract its.size xs.size) }) :
    wpAny (model prog w) A (setItem (.ref l) (.ref sl) (.ref b)) Q E s := by
  have L : s.heap.IsList l its := PySem.IsL.isList e
  have B : s.heap.IsList b new := PySem.IsL.isList e2
  have tL := L.typeIs
  obtain ⟨so, h1, h2, h3⟩ := id hs
  have tS : s.TypeIs (.ref sl) "slice" := ⟨so, h1, h2⟩
  have other : Builtin.List.listSameRef (.ref l) (.ref b) = false := beq_eq_false_iff_ne.mpr hne
  have top : (max (0 : Int) (its.size : Int)).toNat = its.size := by omega
  have fits : ((fun xs : Array Value => xs.extract 0 0 ++ new ++ xs.extract its.size xs.size) its).size ≤ sizeLine + 1 := by
    simp only [Array.size_append, Array.size_extract]
    omega
  unfold setItem
  try with_reducible refine wpAny_holding ?_
  first | refine wpAny_bind (wpAny_pure ?_) | skip
  refine wpAny_bind (wpAny_sequenceKey tL (by decide) (wpAny_bind ?_))
  refine wpAny_callSpecial?_slot (name := Str.ofString "__setitem__") tL slot_list_setitem (wpAny_call_entry slot_list_setitem tL entry_list_setitem ?_ (args_list_setitem _ _ _))
  show wpAny _ _ (Builtin.List.listSubscript? (.ref sl) >>= _) _ _ s
  unfold Builtin.List.listSubscript?
  refine wpAny_bind (wpAny_bind (wpAny_specialOf tS slice_no_index ?_))
  simp only [Option.isNone_none, if_true]
  refine wpAny_pure ?_
  show wpAny _ _ (typeOf (.ref sl) >>= _) _ _ s
  refine wpAny_bind (wpAny_typeOf tS ?_)
  rw [if_neg (by decide), listSliceParts_eq]
  have raw0 : ¬ ((rawPart none == rawInt 0) = true) := Bool.false_ne_true
  refine wpAny_bind (wpAny_bind (wpAny_field h1 h3 (x := .none) rfl (wpAny_bind (wpAny_listPart .none ?_))))
  rw [if_neg raw0]
  refine wpAny_bind (wpAny_field h1 h3 (x := .none) rfl (wpAny_bind (wpAny_listPart .none (wpAny_bind (wpAny_field h1 h3 (x := .none) rfl (wpAny_bind (wpAny_listPart .none (wpAny_pure ?_))))))))
  simp only [other, Bool.false_eq_true, if_false]
  refine wpAny_bind (m := Builtin.List.listAllItems (.ref b) "must assign iterable to extended slice") ?_
  unfold Builtin.List.listAllItems
  refine wpAny_bind (wpAny_typeOf B.typeIs ?_)
  first | rw [if_pos (by decide)] | simp only [beq_self_eq_true, Bool.true_or, if_true]
  unfold Builtin.List.listItems
  refine wpAny_bind (wpAny_seqItems e2 rfl (wpAny_pure (wpAny_bind (wpAny_bind (wpAny_seqItems e rfl (wpAny_pure ?_))))))
  refine wpAny_bind (wpAny_of_eq ((sliceIndices_raw none none none its.size (by simp)).trans (congrArg (pure : Int × Int × Int → Sem (Int × Int × Int)) (all_bounds its.size))) ?_)
  show wpAny _ _ (if ((1 : Int) == 1) = true then _ else _) _ _ s
  rw [if_pos (by decide)]
  refine wpAny_bind (wpAny_rule ?_)
  simp only [notLongL hz, Bool.false_eq_true, if_false]
  first | refine wpAny_bind (wpAny_pure ?_) | skip
  show wpAny _ _ (updateSeq l (fun xs => xs.extract 0 ((0 : Nat) : Int).toNat ++ new ++ xs.extract (max ((0 : Nat) : Int) (its.size : Int)).toNat xs.size) >>= _) _ _ s
  rw [show (max ((0 : Nat) : Int) (its.size : Int)).toNat = its.size from top, Int.toNat_natCast]
  refine wpAny_bind (wpAny_updateSeq (hz := Nat.le_trans (Nat.le_add_right _ _) hz) (_hz' := fits) e rfl (wpAny_bind (wpAny_letGo ?_)))
  first
    | exact wpAny_bind (wpAny_pure (wpAny_pure ⟨.none, rfl, wpAny_pure h⟩))
    | exact wpAny_pure ⟨.none, rfl, wpAny_pure h⟩
end
/-- the target l[:] -/
def gAll (to : TE) : TG := fun v σ H Q => to σ H fun o H1 => ∃ (l b : Addr) (xs ys : List V), o = .ref l ∧ v = .ref b ∧ H1 l = some (.lst xs) ∧ H1 b = some (.lst ys) ∧ l ≠ b ∧ xs.length + ys.length ≤ sizeLine ∧ Q σ (upd H1 l (.lst ys))
theorem pg_all {X : Cx} {o : Expr} {to : TE} {p2 pos : Pos} (ho : PE X o to)
    (ha : ∀ v, assign (.Subscript o (.Slice none none none p2) pos) X.env v = (do
      let ov ← holding [v] (eval o X.env)
      let iv ← holding [v, ov] (eval (.Slice none none none p2) X.env)
      standAt pos
      holding [v, ov, iv] (setItem ov iv v)
      release [iv, v, ov] []) := by intro _; rfl) : PG X (.Subscript o (.Slice none none none p2) pos) (gAll to) := by
  refine ⟨fun pins s σ H v u Q I r h => ?_⟩
  rw [ha]
  refine wpAny_bind (wpAny_holding (thn (ho.run pins s σ H _ I h) fun ov s1 ⟨x, H1, I1, r1, q1⟩ => ?_))
  obtain ⟨l, b, xs, ys, rfl, rfl, hl, hb, hne, hz, q⟩ := q1
  obtain rfl : ov = Value.ref l := r1
  obtain rfl : u = Value.ref b := r
  refine wpAny_bind (wpAny_holding (wpAny_Slice ?_))
  rw [evalPart_none]
  refine wpAny_pure (wpAny_pure ?_)
  refine wpAny_pure ?_
  have I2 : Inv X pins σ H1 { s1 with heap := s1.heap.push { cls := .type "slice", data := .fields #[.none, .none, .none] } } := I1.kept (t' := s1.toks) fun b ob q => Heap.get?_push_of_some _ q
  obtain ⟨z, its, n, r2, hl2, e2⟩ := I2.lstM hl
  obtain ⟨z3, its3, n3, r3, hl3, e3⟩ := I2.lstM hb
  have len2 := r2.length
  have len3 := r3.length
  refine wpAny_bind (wpAny_standAt (wpAny_bind (wpAny_holding (stores_all (by rw [List.size_toArray, List.size_toArray]; omega) hne (Heap.IsSliceOf.new ..) e2 e3 ?_))))
  refine wpAny_release ⟨σ, _, I2.lset (its' := its3) (t' := s1.toks) hl e2 ?_ r3 ?_, q⟩
  · apply Array.toList_inj.mp
    simp
  · omega
end Wh

namespace Wh
open PySem PySem.Spec PyProof PyProof.Rows L2 L2H
/-! ### promises of defs that raise nothing, called while some exception is handled (whatever its context) -/
structure FnW (P : Program) (w : World) (K : PySem.W.Frag) (mg : Str → Option Value) (base : Heap) (k : Nat) (f : Addr) (fd : FuncData) (ps : List Str) (sp : Sp) : Prop where
  arity : ∀ vs H Q E, sp vs H Q E → vs.length = ps.length
  does : ∀ {A : Around} {outer : List Env} {s : Shared} {H : Hp} {args : Args} {us : List Value} {vs : List V} {Q : VK} {E : XK} {p : Addr × Obj}, RoomH k A → PinOk outer H s p → Env0 P w K mg base A outer s H → BindsTo s fd args (ps.zip us) → Vals vs us → sp vs H Q E →
    codeAny (model P w) A (.call (.ref f) args) (CR C8.CX0 outer P w H s Q E) s
set_option maxHeartbeats 1000000 in
theorem fnW_of {P : Program} {w : World} {K : PySem.W.Frag} {mg : Str → Option Value} {base : Heap} {k : Nat} {x qual : Str} {st : Stmt} {f : Addr} {fd : FuncData} {N ps : List Str} {sp : Sp} (F : Fun K x qual st f fd) (S : FnScope N ps (defScope st)) (ar : ∀ vs H Q E, sp vs H Q E → vs.length = ps.length)
    (bod : ∀ (cdv : Value) (A : Around) (outer : List Env) (s : Shared) (H : Hp) (vs : List V) (Q : VK) (E : XK) (p : Addr × Obj), RoomH k (A.deeper (envOfC qual (defScope st) s.heap.objs.size f cdv)) → sp vs H Q E →
      ∃ t, PSs (cxH C8.CX0 P w K mg base N qual (defScope st) f cdv A outer s H E p) (defBody st) t ∧ t { nx := fun _ H' => Q .non H', rt := Q } (start N vs) H) : FnW P w K mg base (k + 1) f fd ps sp := by
  obtain ⟨oc, od, kV, doc, pm, an, cdv, ct, osl, rfl, lk, cd⟩ := F.ex
  refine ⟨ar, ?_⟩
  intro A outer s H args us vs Q E p room pin env bnd rv want
  have old : ∀ b o, base.get? b = some o → s.heap.get? b = some o := fun b o e => (env.bs b o e).1
  have inK : K.In s.heap := env.mod.kin.keeps old
  have kinds : ∀ y ∈ ps.zip us, (defScope st).names.lookup y.1 = some .local ∨ ((defScope st).names.lookup y.1 = some .cell ∧ ((cellsFrom (s.heap.objs.size + 1) (defScope st).names []).lookup y.1).isSome = true) := by
    rintro ⟨m, v⟩ hy
    refine (S.par m (List.of_mem_zip hy).1).imp id fun q => ⟨q, ?_⟩
    exact PySem.W.cellsFrom_some _ _ _ (.inl q)
  refine codeAny_call_function room.depth (inK _ _ lk) rfl S.co S.gen rfl (PySem.W.codeRec_of inK cd) (bnd _ _ _ _ ?_)
  refine wpAny_newFunctionEnv_cells S.kind kinds ?_
  rintro env' rfl s1 made
  refine ⟨(env.mod.nolimit.keeps old).keeps made.toInCall.keep, codeAny_func ?_⟩
  obtain ⟨t, ht, q⟩ := bod cdv A outer s H vs Q E p (room.deeper _) want
  have J := inv_startH (CX := C8.CX0) (E := E) S pin env (ar _ _ _ _ want) rv made
  have ends : ∀ {σ' : L2.St} {H' : Hp} {v : V} {u : Value} {s' : Shared}, Inv (cxH C8.CX0 P w K mg base N qual (defScope st) f cdv A outer s H E p) [] σ' H' s' → RelV v u → Q v H' → CE outer P w H s Q u s' :=
    fun {_ H' v _ _} I r z => ⟨v, H', I.os, I.bare, I.base, I.hok, r, z⟩
  refine wpAny_mono (ht.run [] s1 (start N vs) H _ J q) ?_ fun _ _ z => z
  intro fl s' z
  cases fl with
  | ret u => exact let ⟨_, _, _, I, r, y⟩ := z; ends I r y
  | next => exact let ⟨_, _, I, y⟩ := z; ends (v := V.non) (u := Value.none) I rfl y
  | brk => exact let ⟨_, _, _, y⟩ := z; y.elim
  | cont => exact let ⟨_, _, _, y⟩ := z; y.elim
theorem roomH_in1 {k : Nat} {A : Around} (r : RoomH (k + 1) A) : RoomH k A.in1 :=
  ⟨by have := r.dp; show A.depth + 3 * k + 5 < _; omega, by have := r.un; show A.units + 1 + 16 * k + 200 < _; omega⟩
/-- e.f, a property, within an except suite -/
theorem pe_propW {X : Cx} {k : Nat} {C p g : Addr} {f : Str} {fd : FuncData} {ps : List Str} {sp : Sp} {E : XK} {e : Expr} {pos : Pos} {ta : TE} {z : Addr × Obj} (hz : z ∈ X.pn) (he : PE X e ta) (c : Cls X.K C) (hp : PropOf X.K C f p g)
    (F : FnW X.prog X.w X.K X.mg X.base k g fd ps sp) (hr : RoomH (k + 1) X.A) (hb : Binds X.K fd ps []) (hab : attributeBase e f X.env (eval e X.env) = eval e X.env) : PE X (.Attribute e f pos) (tProp C sp [] E ta) := by
  refine ⟨fun pins s σ H Q I h => ?_⟩
  refine attr_of hab (thn (he.run pins s σ H _ I h) fun u s1 ⟨x, H1, I1, rx, a, dx, fs, ex, ea, q⟩ => ?_)
  subst ex
  obtain rfl : u = Value.ref a := rx
  obtain ⟨mA, O, _, _, _, _⟩ := ins_get I1.hok ea
  obtain ⟨od, J, _⟩ := O.look
  obtain ⟨rest, hrec⟩ := hp.rec_
  have I2 := I1.tok (s1.toks + 1)
  have one : ([Value.ref a] ++ []).length = ps.length := F.arity _ _ _ _ q
  have isC : (PySem.W.clsIn X.K C).isSome = true := by
    obtain ⟨cd, hc, _⟩ := PySem.W.any_some c.hd
    rw [hc]
    rfl
  have P1 := I2.pin z (List.mem_append_left _ hz)
  have pin : PinOk X.stack H1 { s1 with toks := s1.toks + 1 } z := ⟨P1.1, P1.2.1, fun hm => (List.mem_cons.mp (I2.stkSub z.1 hm)).elim P1.2.2.1 P1.2.2.2.1, P1.2.2.2.2⟩
  have bb := hb { s1 with toks := s1.toks + 1 } [.ref a] I2.kIn one
  refine PySem.W.get_bind I1.kIn J (PySem.W.plainGet_of (c.get f)).1 (PySem.W.findObj_data isC hp.at_ hp.get hp.tak) (PySem.W.plainGet_of (c.get f)).2 (wpAny_call (PySem.W.prop_get (s := { s1 with toks := s1.toks + 1 }) I1.kIn hrec ?_))
  refine codeAny_mono (F.does (us := [.ref a]) (vs := [V.ref a]) (roomH_in1 hr) pin I2.env0.in1 bb (.cons rfl .nil) q) fun r s' z => ?_
  cases r with
  | error er => exact z.elim
  | ok fl =>
    cases fl with
    | ret u =>
      obtain ⟨v, H', I3, rv, q3⟩ := I2.after z
      show wpAny _ _ (handedOut u) _ _ _
      rw [PySem.W.handedOut_of (handed_of rv)]
      exact wpAny_pure ⟨v, H', I3, rv, q3⟩
    | next => exact z.elim
    | brk => exact z.elim
    | cont => exact z.elim
/-- o.m(), what it raises is told with the slots -/
def tMethS0 (C : Addr) (m : Str) (sp : Sp) (E : L2.St → XK) (ta : TE) : TE := fun σ H Q => ta σ H fun x H1 => ∃ a dx fs, x = .ref a ∧ H1 a = some (.ins C dx fs) ∧ fs.lookup m = none ∧ sp [x] H1 Q (E σ)
theorem pe_methS0 {X : Cx} {CX : CXT} {k : Nat} {f C : Addr} {fd : FuncData} {ps : List Str} {sp : Sp} {E : L2.St → XK} {m : Str} {pos apos : Pos} {o : Expr} {ta : TE} {pl : Sem Bool} (he : PE X o ta) (c : Cls X.K C) (hm : Meth X.K C m f) (F : FnOk X.prog X.w X.K X.mg X.base CX k f fd ps sp) (hr : Room k X.A) (hb : Binds X.K fd ps [])
    (hx : ∀ σ, PassesAt CX X σ (E σ))
    (ht : eval (.Call (.Attribute o m apos) [] [] pos) X.env = (do
      let ov ← eval o X.env
      standAt apos.atName
      let (f, first) ← holding [ov] (getMethod ov m pl)
      callWith pos f first (backTo pos (starEach [] X.env)) (backToKw pos (keywordEach [] X.env))) := by rfl) : PE X (.Call (.Attribute o m apos) [] [] pos) (tMethS0 C m sp E ta) := by
  refine ⟨fun pins s σ H Q I h => PySem.W.methodCall_KW (pl := pl) (thn (he.run pins s σ H _ I h) fun u s1 ⟨x, H1, I1, rx, a, dx, fs, ex, ea, l, q⟩ => ?_) ht⟩
  subst ex
  cases (show u = Value.ref a from rx)
  exact getmeth_ok I1 ea c hm l (PySem.W.callWith_K0 (first := [.ref a]) I1.kIn hm.kp (run_fnS (us := [.ref a]) (vs := [.ref a]) F hr hb (hx σ) I1 (.cons rfl .nil) q))
end Wh

namespace Wh
open PySem PySem.Spec PyProof PyProof.Rows L2
/-! ### list.count of a text -/
def isT (x : Str) : Value → Bool := fun v => match v with
  | .str y _ => y.cps.toList == x.cps.toList
  | _ => false
theorem cps_beq (y x : Str) : (y.cps.toList == x.cps.toList) = (y == x) := by
  rw [Bool.eq_iff_iff, beq_iff_eq, beq_iff_eq]
  constructor
  · intro h
    cases y
    cases x
    rw [Str.mk.injEq]
    exact Array.toList_inj.mp h
  · rintro rfl
    rfl
theorem isT_gives {x : Str} {t : Tok} : ∀ {us : List Value} {ys : List Str}, StrsAre us ys → ∀ y ∈ us, MeetsSeq.EqGives y (.str x t) (isT x y)
  | _, _, .nil => fun y hy => by cases hy
  | _, _, .cons z t' h => fun y hy => by
    rcases List.mem_cons.mp hy with e | e
    · rw [e]
      exact SeqRoads2.EqGives.str z x t' t
    · exact isT_gives h y e
theorem isT_count {x : Str} : ∀ {us : List Value} {ys : List Str}, StrsAre us ys → us.countP (isT x) = ys.count x
  | _, _, .nil => rfl
  | _, _, .cons z t h => by
    have ih := isT_count (x := x) h
    rw [List.countP_cons, List.count_cons, ih]
    show _ + (if (z.cps.toList == x.cps.toList) = true then 1 else 0) = _
    rw [cps_beq]
def rCntT (K : PySem.W.Frag) : V → List V → Hp → VK → Prop := fun x xs H Q => ∃ (p : Addr) (ys : List Str) (z : Str), x = .ref p ∧ xs = [.str z] ∧ SqL K H p (ys.map V.str) ∧ Q (.int ((ys.count z : Nat) : Int)) H
theorem mt_countT {X : Cx} : MtR X "list.count" (rCntT X.K) := by
  intro pins s σ H x xs v us Q I rx rxs h
  obtain ⟨p, ys, z, rfl, rfl, hs, q⟩ := h
  cases rx
  obtain ⟨u, rfl, ru⟩ := rxs.one
  obtain ⟨t, rfl⟩ := ru
  obtain ⟨its, rv, ⟨⟨cls, dd, data, sl⟩, n, ho, hc, hdn, hd⟩, hlen⟩ := I.list hs
  simp only at hc hd
  subst hc hd
  have are := Vals.strs rv
  have cnt := isT_count (x := z) are
  refine call_meets PySem.F.slot_list_count ⟨_, ho, rfl⟩ PySem.F.entry_list_count (PySem.F.args_list_count_2 _ _)
    (SeqAt.list_countAt p its.toArray n dd sl (.str z t) (isT z)) ⟨ho, fun y hy => (isT_gives are y (by simpa using hy)).at _ _, ?_⟩
  refine ⟨.int ((ys.count z : Nat) : Int), H, I.tok _, ⟨s.toks, ?_⟩, q⟩
  show Value.int ((its.toArray.toList.countP (isT z) : Nat) : Int) s.toks = Value.int ((ys.count z : Nat) : Int) s.toks
  rw [cnt]
end Wh

namespace Wh
open PySem PySem.Spec PyProof PyProof.Rows L2
/-! ### x is not y, truth values -/
theorem op_isnotB {X : Cx} : OpR X (compareOp .IsNot) (fun x y H Q => ∃ c d : Bool, x = .bl c ∧ y = .bl d ∧ Q (.bl (!decide (c = d))) H) := by
  intro pins s σ H x y v u Q I rx ry h
  obtain ⟨c, d, rfl, rfl, q⟩ := h
  cases (show v = Value.bool c from rx)
  cases (show u = Value.bool d from ry)
  refine wpAny_isNot_plain rfl (fin_bl I q ?_)
  cases c <;> cases d <;> rfl
/-! ### rows of pairs, in order -/
theorem prs_uniq : ∀ {l m : List Pr}, l.Pairwise PrLt → m.Pairwise PrLt → l.Perm m → l = m
  | [], _, _, _, p => p.nil_eq
  | x :: l, [], _, _, p => absurd p.length_eq (by simp)
  | x :: l, y :: m, hl, hm, p => by
    obtain ⟨l1, l2⟩ := List.pairwise_cons.mp hl
    obtain ⟨m1, m2⟩ := List.pairwise_cons.mp hm
    have e : x = y := by
      rcases List.mem_cons.mp (p.mem_iff.mp (List.mem_cons_self (a := x))) with e | hx
      · exact e
      · rcases List.mem_cons.mp (p.mem_iff.mpr (List.mem_cons_self (a := y))) with e | hy
        · exact e.symm
        · exact absurd (l1 y hy) (prLt_asym (m1 x hx))
    subst e
    rw [prs_uniq l2 m2 p.cons_inv]
theorem rowsP_eqv {α : Type} [DecidableEq α] {f : α → List V} (inj : ∀ a b, f a = f b → a = b) : ∀ {ps qs : List (Addr × α)}, (∀ p ∈ ps, (f p.2).all nb = true) → (∀ p ∈ qs, (f p.2).all nb = true) → PyData.eqvAll (rowD f ps) (rowD f qs) = decide (ps.map (·.2) = qs.map (·.2))
  | [], [], _, _ => by simp [rowD, PyData.eqvAll]
  | [], _ :: _, _, _ => by simp [rowD, PyData.eqvAll]
  | _ :: _, [], _, _ => by simp [rowD, PyData.eqvAll]
  | p :: ps, q :: qs, hp, hq => by
    have ih := rowsP_eqv inj (ps := ps) (qs := qs) (fun z hz => hp z (List.mem_cons_of_mem _ hz)) fun z hz => hq z (List.mem_cons_of_mem _ hz)
    show PyData.eqvAll (tD (f p.2) :: rowD f ps) (tD (f q.2) :: rowD f qs) = _
    rw [PyData.eqvAll, tD_eqv (hp p List.mem_cons_self) (hq q List.mem_cons_self), ih, List.map_cons, List.map_cons]
    by_cases e1 : p.2 = q.2
    · by_cases e2 : ps.map (·.2) = qs.map (·.2)
      · simp [e1, e2]
      · simp [e1, e2]
    · have e3 : ¬ f p.2 = f q.2 := fun z => e1 (inj _ _ z)
      simp [e1, e3]
end Wh

set_option maxHeartbeats 1000000
namespace Wh
open PySem L2
/-! ### visits: from a house to all that are reached by way of it, and back -/
abbrev Way := Nat × Nat × Nat
/-- the ties of a house: the mark, the other house, the mark back -/
def waysAt (h : Nat) (ts : List Tie) : List Way := ts.flatMap fun t => (if t.a = h then [(t.m, t.b, t.o)] else []) ++ (if t.b = h then [(t.o, t.a, t.m)] else [])
def dstep (go : Nat → List Nat → List Nat × List Nat) (acc : List Nat × List Nat) (w : Way) : List Nat × List Nat := if w.2.1 ∈ acc.2 then acc else (acc.1 ++ (w.1 :: (go w.2.1 acc.2).1 ++ [w.2.2]), (go w.2.1 acc.2).2)
def dfs (ts : List Tie) : Nat → Nat → List Nat → List Nat × List Nat
  | 0, h, seen => ([], seen ++ [h])
  | k + 1, h, seen => (waysAt h ts).foldl (dstep (dfs ts k)) ([], seen ++ [h])
/-- where a walk comes, mark by mark -/
def trail (ts : List Tie) : Nat → List Nat → List Nat
  | _, [] => []
  | h, m :: ms => match door h m ts with
    | none => []
    | some k => k :: trail ts k ms
theorem way_ends {h : Nat} {ts : List Tie} {w : Way} (e : w ∈ waysAt h ts) : ∃ t ∈ ts, (t.a = h ∧ w = (t.m, t.b, t.o)) ∨ (t.b = h ∧ w = (t.o, t.a, t.m)) := by
  obtain ⟨t, ht, e⟩ := List.mem_flatMap.mp e
  refine ⟨t, ht, ?_⟩
  rcases List.mem_append.mp e with z | z
  · by_cases q : t.a = h
    · rw [if_pos q] at z
      exact .inl ⟨q, List.mem_singleton.mp z⟩
    · rw [if_neg q] at z
      cases z
  · by_cases q : t.b = h
    · rw [if_pos q] at z
      exact .inr ⟨q, List.mem_singleton.mp z⟩
    · rw [if_neg q] at z
      cases z
theorem way_of_a {ts : List Tie} {t : Tie} (h : t ∈ ts) : (t.m, t.b, t.o) ∈ waysAt t.a ts := List.mem_flatMap.mpr ⟨t, h, List.mem_append_left _ (by rw [if_pos rfl]; exact List.mem_cons_self)⟩
theorem way_of_b {ts : List Tie} {t : Tie} (h : t ∈ ts) : (t.o, t.a, t.m) ∈ waysAt t.b ts := List.mem_flatMap.mpr ⟨t, h, List.mem_append_right _ (by rw [if_pos rfl]; exact List.mem_cons_self)⟩
theorem door_a {ts : List Tie} {n : Nat} (w : WebOk n ts) {t : Tie} (h : t ∈ ts) : door t.a t.m ts = some t.b ∧ door t.b t.o ts = some t.a := by
  have lt := (w.lt t h).1
  refine ⟨door_of (w.uniq _) (List.mem_flatMap.mpr ⟨t, h, ?_⟩), door_of (w.uniq _) (List.mem_flatMap.mpr ⟨t, h, ?_⟩)⟩
  · unfold endsD
    exact List.mem_append_left _ (by rw [if_pos rfl]; exact List.mem_cons_self)
  · unfold endsD
    exact List.mem_append_right _ (by rw [if_pos rfl]; exact List.mem_cons_self)
theorem way_door {n h : Nat} {ts : List Tie} (w : WebOk n ts) {v : Way} (e : v ∈ waysAt h ts) : door h v.1 ts = some v.2.1 ∧ door v.2.1 v.2.2 ts = some h ∧ v.1 ∈ letters ∧ v.2.2 ∈ letters ∧ v.2.1 < n := by
  obtain ⟨t, ht, ⟨rfl, rfl⟩ | ⟨rfl, rfl⟩⟩ := way_ends e
  · have d := door_a w ht
    have l := w.lt t ht
    exact ⟨d.1, d.2, (w.let_ t ht).1, (w.let_ t ht).2, l.2⟩
  · have d := door_a w ht
    have l := w.lt t ht
    exact ⟨d.2, d.1, (w.let_ t ht).2, (w.let_ t ht).1, by show t.a < n; omega⟩
theorem trail_app (ts : List Tie) : ∀ (ms ks : List Nat) (h e : Nat), walkN ts h ms = some e → trail ts h (ms ++ ks) = trail ts h ms ++ trail ts e ks
  | [], ks, h, e, q => by
    obtain rfl := Option.some.inj (show some h = some e from q)
    rfl
  | m :: ms, ks, h, e, q => by
    have q : (door h m ts).bind (fun k => walkN ts k ms) = some e := q
    show (match door h m ts with | none => [] | some k => k :: trail ts k (ms ++ ks)) = (match door h m ts with | none => [] | some k => k :: trail ts k ms) ++ trail ts e ks
    cases d : door h m ts with
    | none => rw [d] at q; cases q
    | some k =>
      rw [d] at q
      show k :: trail ts k (ms ++ ks) = k :: trail ts k ms ++ trail ts e ks
      rw [trail_app ts ms ks k e q]
      rfl
/-- what a visit is -/
structure Vis (n : Nat) (ts : List Tie) (h : Nat) (seen : List Nat) (done : List Way) (r : List Nat × List Nat) : Prop where
  ext : ∃ more, r.2 = seen ++ h :: more
  nd : r.2.Nodup
  lt : ∀ v ∈ r.2, v < n
  back : walkN ts h r.1 = some h
  lets : ∀ m ∈ r.1, m ∈ letters
  len : r.1.length + 2 + 2 * seen.length = 2 * r.2.length
  shut : ∀ v ∈ r.2, v ∉ seen → v ≠ h → ∀ w ∈ waysAt v ts, w.2.1 ∈ r.2
  own : ∀ w ∈ done, w.2.1 ∈ r.2
  met : ∀ v ∈ r.2, v ∉ seen → v ∈ h :: trail ts h r.1
theorem full_has {n : Nat} {l : List Nat} (nd : l.Nodup) (lt : ∀ v ∈ l, v < n) (len : n ≤ l.length) {v : Nat} (hv : v < n) : v ∈ l := by
  by_cases e : v ∈ l
  · exact e
  · have nd2 : (v :: l).Nodup := List.nodup_cons.mpr ⟨e, nd⟩
    have := nd_sub_len nd2 (s := List.range n) fun x hx => by
      rcases List.mem_cons.mp hx with rfl | hx
      · exact List.mem_range.mpr hv
      · exact List.mem_range.mpr (lt x hx)
    rw [List.length_range, List.length_cons] at this
    omega
theorem dfs_vis {n : Nat} {ts : List Tie} (w : WebOk n ts) : ∀ (k h : Nat) (seen : List Nat), h < n → h ∉ seen → seen.Nodup → (∀ v ∈ seen, v < n) → n ≤ seen.length + 1 + k → Vis n ts h seen (waysAt h ts) (dfs ts k h seen) := by
  intro k
  induction k with
  | zero =>
    intro h seen hn hs nd lt len
    have nd2 : (seen ++ [h]).Nodup := List.nodup_append.mpr ⟨nd, by simp, fun a ha b hb e => hs (by rw [← List.mem_singleton.mp hb, ← e]; exact ha)⟩
    have lt2 : ∀ v ∈ seen ++ [h], v < n := fun v hv => by
      rcases List.mem_append.mp hv with z | z
      · exact lt v z
      · rw [List.mem_singleton.mp z]
        exact hn
    have all : ∀ v, v < n → v ∈ seen ++ [h] := fun v hv => full_has nd2 lt2 (by rw [List.length_append, List.length_singleton]; omega) hv
    refine ⟨⟨[], rfl⟩, nd2, lt2, rfl, fun m hm => (by cases hm), ?_, fun v hv _ _ x hx => all _ (way_door w hx).2.2.2.2, fun x hx => all _ (way_door w hx).2.2.2.2, fun v hv n1 => ?_⟩
    · show 0 + 2 + 2 * seen.length = 2 * (seen ++ [h]).length
      rw [List.length_append, List.length_singleton]
      omega
    · rcases List.mem_append.mp hv with z | z
      · exact absurd z n1
      · rw [List.mem_singleton.mp z]
        exact List.mem_cons_self
  | succ k ih =>
    intro h seen hn hs nd lt len
    have loop : ∀ (todo done : List Way) (acc : List Nat × List Nat), (∀ v ∈ todo, v ∈ waysAt h ts) → Vis n ts h seen done acc → Vis n ts h seen (done ++ todo) (todo.foldl (dstep (dfs ts k)) acc) := by
      intro todo
      induction todo with
      | nil =>
        intro done acc _ v
        rw [List.append_nil]
        exact v
      | cons x todo ih2 =>
        intro done acc ht v
        have hx := ht x List.mem_cons_self
        obtain ⟨d1, d2, l1, l2, o1⟩ := way_door w hx
        rw [show done ++ x :: todo = (done ++ [x]) ++ todo by simp]
        refine ih2 (done ++ [x]) _ (fun y hy => ht y (List.mem_cons_of_mem _ hy)) ?_
        unfold dstep
        by_cases q : x.2.1 ∈ acc.2
        · rw [if_pos q]
          refine ⟨v.ext, v.nd, v.lt, v.back, v.lets, v.len, v.shut, fun y hy => ?_, v.met⟩
          rcases List.mem_append.mp hy with z | z
          · exact v.own y z
          · rw [List.mem_singleton.mp z]
            exact q
        · rw [if_neg q]
          obtain ⟨more, e1⟩ := v.ext
          have al : seen.length + 1 ≤ acc.2.length := by
            rw [e1, List.length_append, List.length_cons]
            omega
          have r := ih x.2.1 acc.2 o1 q v.nd v.lt (by omega)
          obtain ⟨more2, e2⟩ := r.ext
          have sub : ∀ y ∈ acc.2, y ∈ (dfs ts k x.2.1 acc.2).2 := fun y hy => by
            rw [e2]
            exact List.mem_append_left _ hy
          have o2 : x.2.1 ∈ (dfs ts k x.2.1 acc.2).2 := by
            rw [e2]
            exact List.mem_append_right _ List.mem_cons_self
          have hin : h ∈ acc.2 := by
            rw [e1]
            exact List.mem_append_right _ List.mem_cons_self
          have wk : ∀ ks, walkN ts h (x.1 :: ks) = walkN ts x.2.1 ks := fun ks => by
            show (door h x.1 ts).bind (fun k => walkN ts k ks) = _
            rw [d1]
            rfl
          have wb : walkN ts x.2.1 [x.2.2] = some h := by
            show (door x.2.1 x.2.2 ts).bind (fun k => some k) = some h
            rw [d2]
            rfl
          refine ⟨⟨more ++ x.2.1 :: more2, by show (dfs ts k x.2.1 acc.2).2 = _; rw [e2, e1]; simp⟩, r.nd, r.lt, ?_, ?_, ?_, ?_, ?_, ?_⟩
          · show walkN ts h (acc.1 ++ (x.1 :: (dfs ts k x.2.1 acc.2).1 ++ [x.2.2])) = some h
            rw [walkN_app, v.back]
            show walkN ts h (x.1 :: ((dfs ts k x.2.1 acc.2).1 ++ [x.2.2])) = some h
            rw [wk, walkN_app, r.back]
            exact wb
          · intro m hm
            rcases List.mem_append.mp hm with z | z
            · exact v.lets m z
            · rcases List.mem_append.mp z with z | z
              · rcases List.mem_cons.mp z with z | z
                · rw [z]
                  exact l1
                · exact r.lets m z
              · rw [List.mem_singleton.mp z]
                exact l2
          · have h1 := v.len
            have h2 := r.len
            show (acc.1 ++ (x.1 :: (dfs ts k x.2.1 acc.2).1 ++ [x.2.2])).length + 2 + 2 * seen.length = 2 * (dfs ts k x.2.1 acc.2).2.length
            simp only [List.length_append, List.length_cons, List.length_nil]
            omega
          · intro y hy n1 n2 u hu
            by_cases ya : y ∈ acc.2
            · exact sub _ (v.shut y ya n1 n2 u hu)
            · by_cases yo : y = x.2.1
              · subst yo
                exact r.own u hu
              · exact r.shut y hy ya yo u hu
          · intro u hu
            rcases List.mem_append.mp hu with z | z
            · exact sub _ (v.own u z)
            · rw [List.mem_singleton.mp z]
              exact o2
          · intro y hy n1
            have tr : trail ts h (acc.1 ++ (x.1 :: (dfs ts k x.2.1 acc.2).1 ++ [x.2.2])) = trail ts h acc.1 ++ x.2.1 :: (trail ts x.2.1 (dfs ts k x.2.1 acc.2).1 ++ trail ts x.2.1 [x.2.2]) := by
              rw [trail_app _ _ _ _ _ v.back]
              show trail ts h acc.1 ++ trail ts h (x.1 :: ((dfs ts k x.2.1 acc.2).1 ++ [x.2.2])) = _
              rw [show trail ts h (x.1 :: ((dfs ts k x.2.1 acc.2).1 ++ [x.2.2])) = x.2.1 :: trail ts x.2.1 ((dfs ts k x.2.1 acc.2).1 ++ [x.2.2]) by
                show (match door h x.1 ts with | none => [] | some k => k :: trail ts k _) = _
                rw [d1], trail_app _ _ _ _ _ r.back]
            show y ∈ h :: trail ts h (acc.1 ++ (x.1 :: (dfs ts k x.2.1 acc.2).1 ++ [x.2.2]))
            rw [tr]
            by_cases ya : y ∈ acc.2
            · rcases List.mem_cons.mp (v.met y ya n1) with z | z
              · rw [z]
                exact List.mem_cons_self
              · exact List.mem_cons_of_mem _ (List.mem_append_left _ z)
            · have z := r.met y hy ya
              refine List.mem_cons_of_mem _ (List.mem_append_right _ ?_)
              rcases List.mem_cons.mp z with z | z
              · rw [z]
                exact List.mem_cons_self
              · exact List.mem_cons_of_mem _ (List.mem_append_left _ z)
    have nd2 : (seen ++ [h]).Nodup := List.nodup_append.mpr ⟨nd, by simp, fun a ha b hb e => hs (by rw [← List.mem_singleton.mp hb, ← e]; exact ha)⟩
    have first : Vis n ts h seen [] ([], seen ++ [h]) := by
      refine ⟨⟨[], rfl⟩, nd2, fun v hv => ?_, rfl, fun m hm => (by cases hm), ?_, fun v hv n1 n2 => ?_, fun x hx => (by cases hx), fun v hv n1 => ?_⟩
      · rcases List.mem_append.mp hv with z | z
        · exact lt v z
        · rw [List.mem_singleton.mp z]
          exact hn
      · show 0 + 2 + 2 * seen.length = 2 * (seen ++ [h]).length
        rw [List.length_append, List.length_singleton]
        omega
      · rcases List.mem_append.mp hv with z | z
        · exact absurd z n1
        · exact absurd (List.mem_singleton.mp z) n2
      · rcases List.mem_append.mp hv with z | z
        · exact absurd z n1
        · rw [List.mem_singleton.mp z]
          exact List.mem_cons_self
    exact loop (waysAt h ts) [] _ (fun v hv => hv) first
/-- a visit from the beginning comes to all houses -/
theorem dfs_all {n : Nat} {ts : List Tie} (w : WebOk n ts) {h : Nat} (hn : h < n) : ∀ v, v < n → v ∈ (dfs ts 9 h []).2 := by
  have n10 := w.n10
  have d := dfs_vis w 9 h [] hn (by simp) List.nodup_nil (fun v hv => (by cases hv)) (by show n ≤ 0 + 1 + 9; omega)
  have shut : ∀ v ∈ (dfs ts 9 h []).2, ∀ x ∈ waysAt v ts, x.2.1 ∈ (dfs ts 9 h []).2 := fun v hv x hx => by
    by_cases e : v = h
    · subst e
      exact d.own x hx
    · exact d.shut v hv (by simp) e x hx
  have hin : h ∈ (dfs ts 9 h []).2 := by
    obtain ⟨more, e⟩ := d.ext
    rw [e]
    exact List.mem_append_right _ List.mem_cons_self
  -- down to house 0
  have down : ∀ v, v < n → v ∈ (dfs ts 9 h []).2 → 0 ∈ (dfs ts 9 h []).2 := by
    intro v
    induction v using Nat.strongRecOn with
    | _ v ih =>
      intro hv hm
      by_cases e : v = 0
      · rw [← e]
        exact hm
      · obtain ⟨t, ht, e2⟩ := w.hang v (by omega) hv
        have lt := w.lt t ht
        exact ih t.a (by omega) (by omega) (shut v hm _ (e2 ▸ way_of_b ht))
  have zero := down h hn hin
  -- up to all houses
  intro v
  induction v using Nat.strongRecOn with
  | _ v ih =>
    intro hv
    by_cases e : v = 0
    · rw [e]
      exact zero
    · obtain ⟨t, ht, e2⟩ := w.hang v (by omega) hv
      have lt := w.lt t ht
      have := shut t.a (ih t.a (by omega) (by omega)) _ (way_of_a ht)
      rw [← e2]
      exact this
end Wh

namespace Wh
open PySem L2
abbrev sBehind : Stmt := topS 42
theorem scBehind : FnScope ["ways", "house", "seen", "marks", "mark", "other", "back"] ["ways", "house", "seen"] (defScope sBehind) := ⟨rfl, rfl, rfl, by decide +kernel, rfl, by decide +kernel, by decide +kernel⟩
def wV (w : Way) : List V := [.str (sgn w.1), .int (w.2.1 : Int), .str (sgn w.2.2)]
structure Ways (H : Hp) (wl : Addr) (as : List Addr) (n : Nat) (ts : List Tie) : Prop where
  hl : H wl = some (.lst (as.map V.ref))
  len : as.length = n
  own : ∀ h a, as[h]? = some a → ∃ ps : List (Addr × Way), H a = some (.lst (refs ps)) ∧ At wV H ps ∧ ps.map (·.2) = waysAt h ts
theorem Ways.but {H H' : Hp} {wl sl : Addr} {as : List Addr} {n : Nat} {ts : List Tie} {xs : List V} (w : Ways H wl as n ts) (hs : H sl = some (.lst xs)) (ns : sl ∉ wl :: as) (b : But sl H H') : Ways H' wl as n ts := by
  refine ⟨b _ _ w.hl fun z => ns (by rw [← z]; exact List.mem_cons_self), w.len, fun h a e => ?_⟩
  obtain ⟨ps, h1, h2, h3⟩ := w.own h a e
  exact ⟨ps, b _ _ h1 fun z => ns (by rw [← z]; exact List.mem_cons_of_mem _ (List.mem_of_getElem? e)), fun p hp => b _ _ (h2 p hp) (ne_of (h2 p hp) hs (by intro z; cases z)), h3⟩
theorem Ways.same {H H' : Hp} {wl : Addr} {as : List Addr} {n : Nat} {ts : List Tie} (w : Ways H wl as n ts) (s : Same H H') : Ways H' wl as n ts :=
  ⟨s _ _ w.hl, w.len, fun h a e => by obtain ⟨ps, h1, h2, h3⟩ := w.own h a e; exact ⟨ps, s _ _ h1, h2.same s, h3⟩⟩
theorem ways_few {n : Nat} {ts : List Tie} (w : WebOk n ts) (h : Nat) : (waysAt h ts).length ≤ 200 := by
  have : ∀ l : List Tie, (waysAt h l).length ≤ 2 * l.length := by
    intro l
    induction l with
    | nil => exact Nat.le_refl _
    | cons t l ih =>
      have e : waysAt h (t :: l) = ((if t.a = h then [(t.m, t.b, t.o)] else []) ++ (if t.b = h then [(t.o, t.a, t.m)] else [])) ++ waysAt h l := rfl
      rw [e, List.length_append, List.length_append, List.length_cons]
      split <;> split <;> simp only [List.length_cons, List.length_nil] <;> omega
  have := this ts
  have := w.len
  omega
theorem inV_nat (v : Nat) : ∀ l : List Nat, inV (.int (v : Int)) (l.map natV) = decide (v ∈ l)
  | [] => rfl
  | a :: l => by
    have ih := inV_nat v l
    show inV (.int (v : Int)) (natV a :: l.map natV) = _
    unfold inV at ih ⊢
    rw [List.any_cons, ih]
    have e0 : eqV (natV a) (.int (v : Int)) = decide (a = v) := by
      show ((a : Int) == (v : Int)) = decide (a = v)
      by_cases e : a = v
      · subst e
        simp
      · have : ¬ (a : Int) = (v : Int) := fun z => e (Int.ofNat.inj z)
        simp [e, this]
    rw [e0]
    by_cases e : a = v
    · subst e
      simp
    · have e2 : ¬ v = a := fun z => e z.symm
      simp [e, e2]
theorem flat_nat (l : List Nat) : (l.map natV).all flatV = true := by
  rw [List.all_map]
  exact List.all_eq_true.mpr fun _ _ => rfl
theorem sS_catB (ms ks : List Nat) : sS ms ++ sS ks = sS (ms ++ ks) := SX.S_cat ms ks
/-- what holds behind each tie of a house -/
structure Part (n h : Nat) (seen : List Nat) (acc : List Nat × List Nat) : Prop where
  ext : ∃ more, acc.2 = seen ++ h :: more
  nd : acc.2.Nodup
  lt : ∀ v ∈ acc.2, v < n
  len : acc.1.length + 2 + 2 * seen.length = 2 * acc.2.length
theorem Part.few {n h : Nat} {seen : List Nat} {acc : List Nat × List Nat} (p : Part n h seen acc) : acc.2.length ≤ n ∧ seen.length + 1 ≤ acc.2.length := by
  have := nd_sub_len p.nd (s := List.range n) fun x hx => List.mem_range.mpr (p.lt x hx)
  rw [List.length_range] at this
  obtain ⟨more, e⟩ := p.ext
  refine ⟨this, ?_⟩
  rw [e, List.length_append, List.length_cons]
  omega
theorem part_first {n h : Nat} {seen : List Nat} (hn : h < n) (hs : h ∉ seen) (nd : seen.Nodup) (lt : ∀ v ∈ seen, v < n) : Part n h seen ([], seen ++ [h]) := by
  refine ⟨⟨[], rfl⟩, List.nodup_append.mpr ⟨nd, by simp, fun a ha b hb e => hs (by rw [← List.mem_singleton.mp hb, ← e]; exact ha)⟩, fun v hv => ?_, ?_⟩
  · rcases List.mem_append.mp hv with z | z
    · exact lt v z
    · rw [List.mem_singleton.mp z]
      exact hn
  · show 0 + 2 + 2 * seen.length = 2 * (seen ++ [h]).length
    rw [List.length_append, List.length_singleton]
    omega
theorem part_step {n h k : Nat} {ts : List Tie} {seen : List Nat} {acc : List Nat × List Nat} (w : WebOk n ts) (p : Part n h seen acc) {x : Way} (hx : x ∈ waysAt h ts) (len : n ≤ seen.length + 1 + (k + 1)) : Part n h seen (dstep (dfs ts k) acc x) := by
  unfold dstep
  by_cases q : x.2.1 ∈ acc.2
  · rw [if_pos q]
    exact p
  · rw [if_neg q]
    obtain ⟨d1, d2, l1, l2, o1⟩ := way_door w hx
    have f := p.few
    have r := dfs_vis w k x.2.1 acc.2 o1 q p.nd p.lt (by omega)
    obtain ⟨more, e1⟩ := p.ext
    obtain ⟨more2, e2⟩ := r.ext
    refine ⟨⟨more ++ x.2.1 :: more2, by show (dfs ts k x.2.1 acc.2).2 = _; rw [e2, e1]; simp⟩, r.nd, r.lt, ?_⟩
    have h1 := p.len
    have h2 := r.len
    show (acc.1 ++ (x.1 :: (dfs ts k x.2.1 acc.2).1 ++ [x.2.2])).length + 2 + 2 * seen.length = 2 * (dfs ts k x.2.1 acc.2).2.length
    simp only [List.length_append, List.length_cons, List.length_nil]
    omega
theorem part_stay {n h : Nat} {ts : List Tie} {seen : List Nat} {go : Nat → List Nat → List Nat × List Nat} {acc : List Nat × List Nat} (w : WebOk n ts) (p : Part n h seen acc) {x : Way} (hx : x ∈ waysAt h ts) (len : n ≤ seen.length + 1) : x.2.1 ∈ acc.2 ∧ dstep go acc x = acc := by
  have m := full_has p.nd p.lt (by have := p.few; omega) (way_door w hx).2.2.2.2
  exact ⟨m, if_pos m⟩
/-- the fold, whatever the fuel -/
theorem dfs_fold {n h : Nat} {ts : List Tie} {seen : List Nat} (w : WebOk n ts) (hn : h < n) (hs : h ∉ seen) (nd : seen.Nodup) (lt : ∀ v ∈ seen, v < n) : ∀ k : Nat, n ≤ seen.length + 1 + k → dfs ts k h seen = (waysAt h ts).foldl (dstep (dfs ts (k - 1))) ([], seen ++ [h])
  | 0, len => by
    have : ∀ l : List Way, (∀ x ∈ l, x ∈ waysAt h ts) → l.foldl (dstep (dfs ts 0)) ([], seen ++ [h]) = ([], seen ++ [h]) := by
      intro l
      induction l with
      | nil => intro _; rfl
      | cons x l ih =>
        intro hl
        rw [List.foldl_cons, (part_stay w (part_first hn hs nd lt) (hl x List.mem_cons_self) len).2]
        exact ih fun y hy => hl y (List.mem_cons_of_mem _ hy)
    exact (this _ fun x hx => hx).symm
  | k + 1, _ => rfl
theorem part_take {n h k : Nat} {ts : List Tie} {seen : List Nat} (w : WebOk n ts) (hn : h < n) (hs : h ∉ seen) (nd : seen.Nodup) (lt : ∀ v ∈ seen, v < n) (len : n ≤ seen.length + 1 + k) : ∀ i : Nat, Part n h seen (((waysAt h ts).take i).foldl (dstep (dfs ts (k - 1))) ([], seen ++ [h])) := by
  intro i
  have : ∀ (l : List Way) (acc : List Nat × List Nat), (∀ x ∈ l, x ∈ waysAt h ts) → Part n h seen acc → Part n h seen (l.foldl (dstep (dfs ts (k - 1))) acc) := by
    intro l
    induction l with
    | nil => intro acc _ p; exact p
    | cons x l ih =>
      intro acc hl p
      rw [List.foldl_cons]
      refine ih _ (fun y hy => hl y (List.mem_cons_of_mem _ hy)) ?_
      have hx := hl x List.mem_cons_self
      cases k with
      | zero => rw [(part_stay w p hx len).2]; exact p
      | succ k => exact part_step w p hx len
  exact this _ _ (fun x hx => List.mem_of_mem_take hx) (part_first hn hs nd lt)
section
variable {P : Program} {w : World} {K : PySem.W.Frag} {mg : Str → Option Value} {base : Heap} {C : Addr}
def spBehind : Nat → Sp
  | 0 => fun _ _ _ _ => False
  | k + 1 => fun vs H Q _ => ∃ (wl sl : Addr) (as : List Addr) (n : Nat) (ts : List Tie) (h : Nat) (seen : List Nat), vs = [.ref wl, .int (h : Int), .ref sl] ∧ Ways H wl as n ts ∧ WebOk n ts ∧ H sl = some (.lst (seen.map natV)) ∧ sl ∉ wl :: as ∧ h < n ∧ h ∉ seen ∧ seen.Nodup ∧ (∀ v ∈ seen, v < n) ∧ n ≤ seen.length + 1 + k ∧
    ∀ H', But sl H H' → H' sl = some (.lst ((dfs ts k h seen).2.map natV)) → Q (.str (sS (dfs ts k h seen).1)) H'
theorem ok_behind {f : Addr} {fd : FuncData} (FB : Fun K "visit_behind" "visit_behind" sBehind f fd) (bB : Binds K fd ["ways", "house", "seen"] []) (mB : mg "visit_behind" = some (.ref f)) : ∀ k : Nat, FnOk P w K mg base CX0 k f fd ["ways", "house", "seen"] (spBehind k) := by
  intro k
  induction k with
  | zero => exact ⟨fun _ _ _ _ z => z.elim, fun _ _ _ _ _ _ _ _ _ _ _ _ _ z => z.elim⟩
  | succ k G0 =>
    refine FB.ok scBehind (fun vs H Q E h => ?_) (fun cdv A outer st0 H vs Q E hr h => ?_)
    · obtain ⟨wl, sl, as, n, ts, h, seen, rfl, _⟩ := h
      rfl
    · obtain ⟨wl, sl, as, n, ts, h, seen, rfl, ws, wk, hs, ns, hn, hnot, nd, lt, len, kk⟩ := h
      have hr0 : Room k _ := hr
      have n10 := wk.n10
      refine ⟨_, (C8.pss_cut (ps_expr (pe_bm PySem.F.plainAttrs_list PySem.F.slot_list_append PySem.F.type_list_append mt_append (pv 2) (pa_cons (pv 1) pa_nil))) (C8.pss_cut (ps_set (i := 3) scBehind.nd rfl (.inl rfl) pe_str) (C8.pss_cut (ps_for PassesOwn.never rfl (pi_list (pe_ix ix_list (pv 0) (pv 1) (fun _ _ => rfl))) (pg_tup (by rfl) (pgs_cons (pg_name (i := 4) scBehind.nd rfl (.inl rfl)) (pgs_cons (pg_name (i := 5) scBehind.nd rfl (.inl rfl)) (pgs_cons (pg_name (i := 6) scBehind.nd rfl (.inl rfl)) pgs_nil)))) (pss_one (ps_if (pt_cmpR (op_notInK K rfl) (pv 5) (pv 2) (by rfl)) (pss_one (ps_set (i := 3) scBehind.nd rfl (.inl rfl) (pe_op op_add_str (pe_op op_add_str (pe_op op_add_str (pv 3) (pv 4)) (pe_call G0 hr0 (by rfl) mB FB.kp bB .nil pass0 (pa_cons (pv 0) (pa_cons (pv 5) (pa_cons (pv 2) pa_nil))))) (pv 6)))) pss_nil))) (pss_one (ps_ret (pv 3)))))), ?_⟩
      have fold := dfs_fold wk hn hnot nd lt k len
      have part := part_take wk hn hnot nd lt len
      have slen : seen.length ≤ 10 := by
        have := (part 0).few
        omega
      refine ⟨fun σ H' => But sl H H' ∧ H' sl = some (.lst ((seen ++ [h]).map natV)) ∧ σ = [some (.ref wl), some (.int (h : Int)), some (.ref sl), none, none, none, none], ?_, ?_⟩
      · refine ⟨_, rfl, .inl ⟨rfl, _, SqL.of hs⟩, _, rfl, _, _, _, rfl, rfl, hs, by rw [List.length_map]; exact small1000 (by omega), But.at (But.refl sl H), ?_, rfl⟩
        rw [upd_same, List.map_append]
        rfl
      rintro σ H1 ⟨b1, hs1, rfl⟩
      refine ⟨fun σ H' => H1 = H' ∧ σ = [some (.ref wl), some (.int (h : Int)), some (.ref sl), some (.str (sS [])), none, none, none], ⟨rfl, by rw [← (by decide +kernel : ("" : Str) = sS [])]; rfl⟩, ?_⟩
      rintro σ H' ⟨rfl, rfl⟩
      have ws1 := ws.but hs ns b1
      have hlen : h < as.length := by
        rw [ws.len]
        exact hn
      have hh : as[h]? = some as[h] := List.getElem?_eq_getElem hlen
      generalize as[h] = a at hh
      obtain ⟨ps, ha, hA, hp⟩ := ws1.own h a hh
      have nas : a ≠ sl := fun z => ns (by rw [← z]; exact List.mem_cons_of_mem _ (List.mem_of_getElem? hh))
      refine ⟨fun σ H' => But sl H H' ∧ H' sl = some (.lst ((dfs ts k h seen).2.map natV)) ∧ ∃ v1 v2 v3 : Option V, σ = [some (.ref wl), some (.int (h : Int)), some (.ref sl), some (.str (sS (dfs ts k h seen).1)), v1, v2, v3], ?_, ?_⟩
      · refine ⟨_, rfl, _, rfl, wl, _, _, .ref a, rfl, rfl, SqL.of ws1.hl, atI_nat (by rw [List.getElem?_map, hh]; rfl), a, rfl, ⟨_, SqL.of ha⟩, for_list (K := K) (a := a) (xs := refs ps) (fun i σ H' => But sl H1 H' ∧ H' sl = some (.lst ((((waysAt h ts).take i).foldl (dstep (dfs ts (k - 1))) ([], seen ++ [h])).2.map natV)) ∧ ∃ v1 v2 v3 : Option V, σ = [some (.ref wl), some (.int (h : Int)), some (.ref sl), some (.str (sS (((waysAt h ts).take i).foldl (dstep (dfs ts (k - 1))) ([], seen ++ [h])).1)), v1, v2, v3])
          ⟨But.refl sl H1, hs1, none, none, none, rfl⟩ (fun i σ H' _ ⟨b, _⟩ => SqL.of (b _ _ ha nas)) ?_ ?_⟩
        · rintro i y σ H2 hy ⟨b2, hs2, v1, v2, v3, rfl⟩
          obtain ⟨⟨p, x⟩, hk, rfl⟩ := refs_get hy
          have hp2 : H2 p = some (.tup (wV x)) := b2 _ _ (hA _ (List.mem_of_getElem? hk)) (ne_of (hA _ (List.mem_of_getElem? hk)) hs1 (by intro z; cases z))
          have hkx : (waysAt h ts)[i]? = some x := by rw [← hp, List.getElem?_map, hk]; rfl
          have hx : x ∈ waysAt h ts := List.mem_of_getElem? hkx
          have pa := part i
          have pb := part (i + 1)
          have next : ((waysAt h ts).take (i + 1)).foldl (dstep (dfs ts (k - 1))) ([], seen ++ [h]) = dstep (dfs ts (k - 1)) (((waysAt h ts).take i).foldl (dstep (dfs ts (k - 1))) ([], seen ++ [h])) x := by
            rw [List.take_succ, hkx, List.foldl_append]
            rfl
          rw [next] at pb ⊢
          generalize ((waysAt h ts).take i).foldl (dstep (dfs ts (k - 1))) ([], seen ++ [h]) = acc at hs2 pa pb ⊢
          refine ⟨p, _, rfl, SqT.of hp2, rfl, _, _, rfl, _, _, rfl, _, _, rfl, rfl, ?_⟩
          refine ⟨_, rfl, _, rfl, sl, _, rfl, .inl (SqL.of hs2), rfl, flat_nat _, _, rfl, ?_⟩
          rw [inV_nat]
          by_cases q : x.2.1 ∈ acc.2
          · have e : dstep (dfs ts (k - 1)) acc x = acc := if_pos q
            rw [decide_eq_true q, e]
            exact iteF ⟨b2, hs2, _, _, _, rfl⟩
          · have e : dstep (dfs ts (k - 1)) acc x = (acc.1 ++ (x.1 :: (dfs ts (k - 1) x.2.1 acc.2).1 ++ [x.2.2]), (dfs ts (k - 1) x.2.1 acc.2).2) := if_neg q
            rw [e] at pb ⊢
            rw [decide_eq_false q]
            obtain ⟨d1, d2, l1, l2, o1⟩ := way_door wk hx
            have f := pa.few
            have fb := pb.few
            have lb := pb.len
            simp only [List.length_append, List.length_cons, List.length_nil] at lb
            have g0 : 0 < k := by
              rcases Nat.eq_zero_or_pos k with z | z
              · subst z
                exact absurd (full_has pa.nd pa.lt (by omega) o1) q
              · exact z
            obtain ⟨j, rfl⟩ : ∃ j, k = j + 1 := ⟨k - 1, by omega⟩
            simp only [Nat.add_sub_cancel] at pb lb fb ⊢
            have sg : ∀ c : Nat, sgn c = sS [c] := fun _ => rfl
            have sz : ∀ a b : List Nat, a.length + b.length ≤ 100 → (sS a).length + (sS b).length ≤ sizeLine := fun a b h => by
              rw [sS_len, sS_len]
              exact Nat.le_of_lt (small1000 (by omega))
            refine iteT ⟨_, rfl, _, rfl, ?_⟩
            rw [sg x.1]
            refine ⟨_, _, rfl, rfl, sz _ _ (by rw [List.length_singleton]; omega), ?_⟩
            rw [sS_catB]
            refine ⟨_, rfl, _, rfl, _, rfl, wl, sl, as, n, ts, x.2.1, acc.2, rfl, ws1.but hs1 ns b2, wk, hs2, ns, o1, q, pa.nd, pa.lt, by omega, fun H3 b3 hs3 => ?_⟩
            refine ⟨_, _, rfl, rfl, sz _ _ (by rw [List.length_append, List.length_singleton]; omega), ?_⟩
            rw [sS_catB, sg x.2.2]
            refine ⟨_, rfl, _, _, rfl, rfl, sz _ _ (by rw [List.length_append, List.length_append, List.length_singleton, List.length_singleton]; omega), ?_⟩
            rw [sS_catB]
            refine ⟨b2.trans b3, hs3, some (.str (sS [x.1])), some (.int (x.2.1 : Int)), some (.str (sS [x.2.2])), ?_⟩
            rw [show acc.1 ++ (x.1 :: (dfs ts j x.2.1 acc.2).1 ++ [x.2.2]) = acc.1 ++ [x.1] ++ (dfs ts j x.2.1 acc.2).1 ++ [x.2.2] by simp]
            rfl
        · rintro σ H2 ⟨b2, hs2, v1, v2, v3, rfl⟩
          have pl : (refs ps).length = (waysAt h ts).length := by rw [refs_len, ← hp, List.length_map]
          rw [pl, List.take_length, ← fold] at hs2 ⊢
          exact ⟨b1.trans b2, hs2, _, _, _, rfl⟩
      rintro σ H3 ⟨b3, hs3, v1, v2, v3, rfl⟩
      exact ⟨_, rfl, kk H3 b3 hs3⟩
end
end Wh

namespace Wh
open PySem L2
abbrev sWays59 : Stmt := topS 41
abbrev sCkHouse : Stmt := topS 38
abbrev sVisit : Stmt := topS 40
abbrev sSteps : Stmt := topS 43
theorem scWays59 : FnScope ["web", "ways", "low", "mark", "high", "back", "_"] ["web"] (defScope sWays59) := ⟨rfl, rfl, rfl, by decide +kernel, rfl, by decide +kernel, by decide +kernel⟩
theorem scCkHouse : FnScope ["web", "house"] ["web", "house"] (defScope sCkHouse) := ⟨rfl, rfl, rfl, by decide +kernel, rfl, by decide +kernel, by decide +kernel⟩
theorem scVisit : FnScope ["web", "house"] ["web", "house"] (defScope sVisit) := ⟨rfl, rfl, rfl, by decide +kernel, rfl, by decide +kernel, by decide +kernel⟩
theorem scSteps : FnScope ["web"] ["web"] (defScope sSteps) := ⟨rfl, rfl, rfl, by decide +kernel, rfl, by decide +kernel, by decide +kernel⟩
/-! ### ways, while they are written -/
structure WaysL (H : Hp) (wl : Addr) (as : List Addr) (n : Nat) (L : Nat → List Way) : Prop where
  hl : H wl = some (.lst (as.map V.ref))
  len : as.length = n
  nd : (wl :: as).Nodup
  own : ∀ h a, as[h]? = some a → ∃ ps : List (Addr × Way), H a = some (.lst (refs ps)) ∧ At wV H ps ∧ ps.map (·.2) = L h
theorem WaysL.same {H H' : Hp} {wl : Addr} {as : List Addr} {n : Nat} {L : Nat → List Way} (w : WaysL H wl as n L) (s : Same H H') : WaysL H' wl as n L :=
  ⟨s _ _ w.hl, w.len, w.nd, fun h a e => by obtain ⟨ps, h1, h2, h3⟩ := w.own h a e; exact ⟨ps, s _ _ h1, h2.same s, h3⟩⟩
theorem WaysL.push {H : Hp} {wl a q : Addr} {as : List Addr} {n j : Nat} {L : Nat → List Way} {x : Way} {ps : List (Addr × Way)} (w : WaysL H wl as n L) (e : as[j]? = some a) (ha : H a = some (.lst (refs ps))) (hA : At wV H ps) (hp : ps.map (·.2) = L j) (hq : H q = some (.tup (wV x))) :
    WaysL (upd H a (.lst (refs ps ++ [.ref q]))) wl as n (fun h => if h = j then L h ++ [x] else L h) := by
  obtain ⟨n1, n2⟩ := List.nodup_cons.mp w.nd
  have naw : a ≠ wl := fun z => n1 (by rw [← z]; exact List.mem_of_getElem? e)
  refine ⟨put_ne w.hl naw.symm, w.len, w.nd, fun h b eb => ?_⟩
  by_cases c : h = j
  · subst c
    obtain rfl : a = b := by rw [e] at eb; exact Option.some.inj eb
    refine ⟨ps ++ [(q, x)], ?_, ?_, ?_⟩
    · rw [upd_same, refs_app]
      rfl
    · exact At.snoc (hA.mono (upd_tup ha)) (upd_tup ha _ _ hq)
    · rw [List.map_append, hp, if_pos rfl]
      rfl
  · obtain ⟨rs, h1, h2, h3⟩ := w.own h b eb
    have nb : b ≠ a := fun z => c (nd_ix n2 eb (by rw [z]; exact e))
    exact ⟨rs, put_ne h1 nb, h2.mono (upd_tup ha), by rw [if_neg c]; exact h3⟩
theorem ways_snoc (h : Nat) (l : List Tie) (t : Tie) (lt : t.a < t.b) : waysAt h (l ++ [t]) = if h = t.b then (if h = t.a then waysAt h l ++ [(t.m, t.b, t.o)] else waysAt h l) ++ [(t.o, t.a, t.m)] else if h = t.a then waysAt h l ++ [(t.m, t.b, t.o)] else waysAt h l := by
  have e : waysAt h (l ++ [t]) = waysAt h l ++ ((if t.a = h then [(t.m, t.b, t.o)] else []) ++ (if t.b = h then [(t.o, t.a, t.m)] else [])) := by
    unfold waysAt
    rw [List.flatMap_append]
    simp
  rw [e]
  by_cases c1 : h = t.a
  · subst c1
    have c2 : ¬ t.a = t.b := by omega
    have c3 : ¬ t.b = t.a := by omega
    simp [c2, c3]
  · have c3 : ¬ t.a = h := fun z => c1 z.symm
    by_cases c2 : h = t.b
    · subst c2
      simp [c1, c3]
    · have c4 : ¬ t.b = h := fun z => c2 z.symm
      simp [c1, c2, c3, c4]
section
variable {P : Program} {w : World} {K : PySem.W.Frag} {mg : Str → Option Value} {base : Heap} {C : Addr}
def spWays (C : Addr) : Sp := fun vs H Q _ => ∃ (x : Addr) (n : Nat) (ts : List Tie), vs = [.ref x] ∧ WebAt C H x n ts ∧ ∀ (wl : Addr) (as : List Addr) (us : List Tie) (H' : Hp), Same H H' → Ways H' wl as n us → us.Perm ts → us.Pairwise (fun x y => ¬ tLt y x) → Q (.ref wl) H'
theorem ok_ways59 {f pT gT pH gH : Addr} {fd fdT fdH : FuncData} (F : Fun K "ways_of" "ways_of" sWays59 f fd) (cW : WebC K C) (mrange : mg "range" = none)
    (GT : FnOk P w K mg base CX0 1 gT fdT ["self"] (spWTies C)) (bT : Binds K fdT ["self"] []) (qT : PropOf K C "ties" pT gT)
    (GH : FnOk P w K mg base CX0 1 gH fdH ["self"] (spWHouses C)) (bH : Binds K fdH ["self"] []) (qH : PropOf K C "houses" pH gH) : FnOk P w K mg base CX0 3 f fd ["web"] (spWays C) := by
  refine F.ok scWays59 (fun vs H Q E h => ?_) (fun cdv A outer st0 H vs Q E hr h => ?_)
  · obtain ⟨x, n, ts, rfl, _⟩ := h
    rfl
  · obtain ⟨x, n, ts, rfl, wb, k⟩ := h
    have hr2 : Room 2 _ := hr
    have n10 := wb.wk.n10
    obtain ⟨dx, fs, hx⟩ := wb.isI
    refine ⟨_, (C8.pss_cut (ps_setLc (i := 1) (own := [("_", 6)]) (g := gName 6) (tt := tYes) rfl scWays59.nd rfl rfl (sw_true rfl rfl rfl (by decide +kernel)) (pi_range1 (by rfl) mrange (pa_cons (pe_prop (pv 0) cW.c qH GH hr2 bH .nil pass0 rfl) pa_nil)) (blkOk_by (N := ["web", "ways", "low", "mark", "high", "back", "_"]) (own := [("_", 6)]) (sc := defScope sWays59) (by decide +kernel)) (fun _ _ _ _ _ => (pg_name (i := 6) scWays59.nd rfl (.inl rfl))) (fun _ _ _ _ _ => pts_nil) (fun _ _ _ _ _ => (pe_lst pa_nil))) (C8.pss_cut (ps_for PassesOwn.never rfl (pi_tup (pe_prop (pv 0) cW.c qT GT hr2 bT .nil pass0 rfl)) (pg_tup (by rfl) (pgs_cons (pg_name (i := 2) scWays59.nd rfl (.inl rfl)) (pgs_cons (pg_name (i := 3) scWays59.nd rfl (.inl rfl)) (pgs_cons (pg_name (i := 4) scWays59.nd rfl (.inl rfl)) (pgs_cons (pg_name (i := 5) scWays59.nd rfl (.inl rfl)) pgs_nil))))) (C8.pss_cut (ps_expr (pe_bm PySem.F.plainAttrs_list PySem.F.slot_list_append PySem.F.type_list_append mt_append (pe_ix ix_list (pv 1) (pv 2) (fun _ _ => rfl)) (pa_cons (pe_tup (pa_cons (pv 3) (pa_cons (pv 4) (pa_cons (pv 5) pa_nil)))) pa_nil))) (pss_one (ps_expr (pe_bm PySem.F.plainAttrs_list PySem.F.slot_list_append PySem.F.type_list_append mt_append (pe_ix ix_list (pv 1) (pv 4) (fun _ _ => rfl)) (pa_cons (pe_tup (pa_cons (pv 5) (pa_cons (pv 2) (pa_cons (pv 3) pa_nil)))) pa_nil)))))) (pss_one (ps_ret (pv 1))))), ?_⟩
    refine ⟨fun σ H' => Same H H' ∧ ∃ (wl : Addr) (as : List Addr), WaysL H' wl as n (fun _ => []) ∧ (∀ a ∈ wl :: as, H a = none) ∧ σ = [some (.ref x), some (.ref wl), none, none, none, none, none], ?_, ?_⟩
    · refine ⟨_, rfl, x, dx, fs, rfl, hx, x, n, ts, rfl, wb, (n : Int), rfl, by omega, by omega, fun u nu => ?_⟩
      rw [show ((n : Int)).toNat = n from Int.toNat_natCast n]
      refine lc_range (lo := 0) (n := n) (fun i H' => Same H H' ∧ ∃ us : List Addr, H' u = some (.lst (us.map V.ref)) ∧ us.length = i ∧ us.Nodup ∧ u ∉ us ∧ ∀ a ∈ us, H a = none ∧ H' a = some (.lst []))
        ⟨same_upd nu, [], upd_same, rfl, List.nodup_nil, (fun z => by cases z), (fun a z => by cases z)⟩ ?_ ?_
      · rintro i H4 hi ⟨s4, us, hu4, ul, und, nuu, hus⟩
        refine ⟨rfl, Nat.zero_le _, fun q nq => ?_⟩
        have nuq : u ≠ q := ne_of_none hu4 nq
        refine ⟨us.map V.ref, put_ne hu4 nuq, (by rw [List.length_map, ul]; exact small1000 (by omega)), ((s4.put nq).own nu), us ++ [q], ?_, ?_, ?_, ?_, ?_⟩
        · rw [upd_same, List.map_append]
          rfl
        · rw [List.length_append, ul]
          rfl
        · exact nd_snoc und fun z => by
            rw [(hus q z).2] at nq
            cases nq
        · intro z
          rcases List.mem_append.mp z with z | z
          · exact nuu z
          · exact nuq (List.mem_singleton.mp z)
        · intro a z
          rcases List.mem_append.mp z with z | z
          · have nau : a ≠ u := fun e => nuu (e ▸ z)
            exact ⟨(hus a z).1, by rw [upd_ne nau]; exact put_old (hus a z).2 nq⟩
          · rw [List.mem_singleton.mp z]
            exact ⟨s4.free nq, put_ne upd_same nuq.symm⟩
      · rintro H4 ⟨s4, us, hu4, ul, und, nuu, hus⟩
        refine ⟨s4, u, us, ⟨hu4, ul, List.nodup_cons.mpr ⟨nuu, und⟩, fun h a e => ⟨[], (hus a (List.mem_of_getElem? e)).2, (fun p hp => by cases hp), rfl⟩⟩, fun a ha => ?_, rfl⟩
        rcases List.mem_cons.mp ha with rfl | ha
        · exact nu
        · exact (hus a ha).1
    rintro σ H1 ⟨s1, wl, as, wn, fresh, rfl⟩
    have wb1 := wb.same s1
    have hx1 := s1 _ _ hx
    refine ⟨fun σ H' => ∃ (us : List (Addr × Tie)) (v1 v2 v3 v4 : Option V), Same H H' ∧ WaysL H' wl as n (fun h => waysAt h (us.map (·.2))) ∧ (us.map (·.2)).Perm ts ∧ (us.map (·.2)).Pairwise (fun x y => ¬ tLt y x) ∧ σ = [some (.ref x), some (.ref wl), v1, v2, v3, v4, none], ?_, ?_⟩
    · refine ⟨_, rfl, x, dx, fs, rfl, hx1, x, n, ts, rfl, wb1, fun t us h1 h2 h3 h4 => ⟨t, rfl, ⟨_, SqT.of h1⟩, ?_⟩⟩
      refine for_tup (K := K) (a := t) (xs := refs us) (fun i σ H' => Same H H' ∧ H' t = some (.tup (refs us)) ∧ At tieV H' us ∧ WaysL H' wl as n (fun h => waysAt h ((us.take i).map (·.2))) ∧ ∃ v1 v2 v3 v4 : Option V, σ = [some (.ref x), some (.ref wl), v1, v2, v3, v4, none])
        ⟨s1, h1, h2, wn, none, none, none, none, rfl⟩ (fun i σ H' _ ⟨_, e, _⟩ => SqT.of e) ?_ ?_
      · rintro i y σ H2 hy ⟨s2, ht, hA, W, v1, v2, v3, v4, rfl⟩
        obtain ⟨⟨p, u⟩, hk, rfl⟩ := refs_get hy
        have hu : u ∈ ts := h3.mem_iff.mp (List.mem_map_of_mem (f := (·.2)) (List.mem_of_getElem? hk))
        obtain ⟨l1, l2⟩ := wb.wk.lt u hu
        have wkU := wb.wk.perm h3.symm
        have few : ∀ h i, (waysAt h ((us.take i).map (·.2))).length ≤ 200 := fun h i => by
          have : ∀ l : List Tie, (waysAt h l).length ≤ 2 * l.length := by
            intro l
            induction l with
            | nil => exact Nat.le_refl _
            | cons t l ih =>
              have e : waysAt h (t :: l) = ((if t.a = h then [(t.m, t.b, t.o)] else []) ++ (if t.b = h then [(t.o, t.a, t.m)] else [])) ++ waysAt h l := rfl
              rw [e, List.length_append, List.length_append, List.length_cons]
              split <;> split <;> simp only [List.length_cons, List.length_nil] <;> omega
          have b := this ((us.take i).map (·.2))
          have c := wkU.len
          rw [List.length_map] at b c
          rw [List.length_take] at b
          omega
        have hp : H2 p = some (.tup (tieV u)) := hA _ (List.mem_of_getElem? hk)
        have i1 : u.a < as.length := by rw [W.len]; omega
        have i2 : u.b < as.length := by rw [W.len]; omega
        have g1 : as[u.a]? = some as[u.a] := List.getElem?_eq_getElem i1
        have g2 : as[u.b]? = some as[u.b] := List.getElem?_eq_getElem i2
        generalize as[u.a] = a1 at g1
        generalize as[u.b] = a2 at g2
        refine ⟨p, _, rfl, SqT.of hp, rfl, _, _, rfl, _, _, rfl, _, _, rfl, _, _, rfl, rfl, ?_⟩
        refine ⟨fun σ H' => Same H H' ∧ H' t = some (.tup (refs us)) ∧ At tieV H' us ∧ WaysL H' wl as n (fun h => if h = u.a then waysAt h ((us.take i).map (·.2)) ++ [(u.m, u.b, u.o)] else waysAt h ((us.take i).map (·.2))) ∧ σ = [some (.ref x), some (.ref wl), some (.int (u.a : Int)), some (sV u.m), some (.int (u.b : Int)), some (sV u.o), none], ?_, ?_⟩
        · obtain ⟨ps, e1, e2, e3⟩ := W.own _ _ g1
          refine ⟨_, rfl, _, rfl, wl, _, _, .ref a1, rfl, rfl, SqL.of W.hl, atI_nat (by rw [List.getElem?_map, g1]; rfl), .inl ⟨rfl, _, SqL.of e1⟩, _, rfl, _, rfl, _, rfl, by show 3 ≤ sizeLine; decide, fun q nq => ?_⟩
          have sq := same_upd nq (H := H2) (o := .tup (wV (u.m, u.b, u.o)))
          have pl : ps.length ≤ 200 := by
            have z := congrArg List.length e3
            rw [List.length_map] at z
            rw [z]
            exact few _ _
          refine ⟨_, _, _, rfl, rfl, sq _ _ e1, by rw [refs_len]; exact small1000 (by omega), (s2.put nq).own (fresh a1 (List.mem_cons_of_mem _ (List.mem_of_getElem? g1))), put_ne (sq _ _ ht) (ne_of (sq _ _ ht) (sq _ _ e1) (by intro z; cases z)), (hA.same sq).mono (upd_tup (sq _ _ e1)), (W.same sq).push g1 (sq _ _ e1) (e2.same sq) e3 upd_same, rfl⟩
        rintro σ H3 ⟨s3, ht3, hA3, W3, rfl⟩
        obtain ⟨ps, e1, e2, e3⟩ := W3.own _ _ g2
        refine ⟨_, rfl, _, rfl, wl, _, _, .ref a2, rfl, rfl, SqL.of W3.hl, atI_nat (by rw [List.getElem?_map, g2]; rfl), .inl ⟨rfl, _, SqL.of e1⟩, _, rfl, _, rfl, _, rfl, by show 3 ≤ sizeLine; decide, fun q nq => ?_⟩
        have sq := same_upd nq (H := H3) (o := .tup (wV (u.o, u.a, u.m)))
        have pl : ps.length ≤ 201 := by
          have z := congrArg List.length e3
          rw [List.length_map] at z
          rw [z, if_neg (by omega)]
          exact Nat.le_succ_of_le (few _ _)
        have Wf := (W3.same sq).push g2 (sq _ _ e1) (e2.same sq) e3 upd_same
        refine ⟨_, _, _, rfl, rfl, sq _ _ e1, by rw [refs_len]; exact small1000 (by omega), (s3.put nq).own (fresh a2 (List.mem_cons_of_mem _ (List.mem_of_getElem? g2))), put_ne (sq _ _ ht3) (ne_of (sq _ _ ht3) (sq _ _ e1) (by intro z; cases z)), (hA3.same sq).mono (upd_tup (sq _ _ e1)), ?_, _, _, _, _, rfl⟩
        have eL : (fun h => waysAt h ((us.take (i + 1)).map (·.2))) = fun h => if h = u.b then (if h = u.a then waysAt h ((us.take i).map (·.2)) ++ [(u.m, u.b, u.o)] else waysAt h ((us.take i).map (·.2))) ++ [(u.o, u.a, u.m)] else if h = u.a then waysAt h ((us.take i).map (·.2)) ++ [(u.m, u.b, u.o)] else waysAt h ((us.take i).map (·.2)) := by
          funext h
          rw [List.take_succ, hk, List.map_append]
          exact ways_snoc h _ u l1
        rw [eL]
        exact Wf
      · rintro σ H2 ⟨s2, ht, hA, W, v1, v2, v3, v4, rfl⟩
        rw [refs_len, List.take_length] at W
        exact ⟨us, _, _, _, _, s2, W, h3, h4, rfl⟩
    rintro σ H2 ⟨us, v1, v2, v3, v4, s2, wn2, pm, st, rfl⟩
    exact ⟨_, rfl, k wl as _ H2 s2 ⟨wn2.hl, wn2.len, wn2.own⟩ pm st⟩
/-! ### check_house, visit, steps_without -/
def spCkHouse (C : Addr) : Sp := fun vs H Q _ => ∃ (x : Addr) (n : Nat) (ts : List Tie) (h : Nat), vs = [.ref x, .int (h : Int)] ∧ WebAt C H x n ts ∧ h < n ∧ Q .non H
theorem ok_ckhouse {f fH pHo gHo : Addr} {fd fdH fdHo : FuncData} (F : Fun K "check_house" "check_house" sCkHouse f fd) (cW : WebC K C)
    (GH : FnOk P w K mg base CX0 4 fH fdH ["value", "houses"] spHouse) (FH : Fun K "is_house" "is_house" sHouse fH fdH) (bH : Binds K fdH ["value", "houses"] []) (mH : mg "is_house" = some (.ref fH))
    (GHo : FnOk P w K mg base CX0 1 gHo fdHo ["self"] (spWHouses C)) (bHo : Binds K fdHo ["self"] []) (qH : PropOf K C "houses" pHo gHo) : FnOk P w K mg base CX0 5 f fd ["web", "house"] (spCkHouse C) := by
  refine F.ok scCkHouse (fun vs H Q E h => ?_) (fun cdv A outer st0 H vs Q E hr h => ?_)
  · obtain ⟨x, n, ts, h, rfl, _⟩ := h
    rfl
  · obtain ⟨x, n, ts, h, rfl, wb, hn, k⟩ := h
    have hr4 : Room 4 _ := hr
    have hr2 : Room 2 _ := hr.mono (by decide)
    obtain ⟨dx, fs, hx⟩ := wb.isI
    refine ⟨_, (pss_one (ps_if (pt_not (pt_truth (pe_call GH hr4 (by rfl) mH FH.kp bH .nil pass0 (pa_cons (pv 1) (pa_cons (pe_prop (pv 0) cW.c qH GHo hr2 bHo .nil pass0 rfl) pa_nil))) (fun _ => rfl))) pss_never pss_nil)), ?_⟩
    refine ⟨_, rfl, _, rfl, x, dx, fs, rfl, hx, x, n, ts, rfl, wb, _, _, rfl, ?_⟩
    rw [decide_eq_true (show (0 : Int) ≤ (h : Int) ∧ (h : Int) < (n : Int) by omega)]
    exact ⟨_, rfl, iteF k⟩
def spVisit (C : Addr) : Sp := fun vs H Q _ => ∃ (x : Addr) (n : Nat) (ts : List Tie) (h : Nat), vs = [.ref x, .int (h : Int)] ∧ WebAt C H x n ts ∧ h < n ∧ ∀ (us : List Tie) (H' : Hp), Same H H' → us.Perm ts → us.Pairwise (fun x y => ¬ tLt y x) → Q (.str (sS (dfs us 9 h []).1)) H'
theorem ok_visit {f fA fC fW fB : Addr} {fd fdA fdC fdW fdB : FuncData} (F : Fun K "visit" "visit" sVisit f fd)
    (GA : FnOk P w K mg base CX0 1 fA fdA ["web"] (spCkWeb C)) (FA : Fun K "check_web" "check_web" sCkWeb fA fdA) (bA : Binds K fdA ["web"] []) (mA : mg "check_web" = some (.ref fA))
    (GC : FnOk P w K mg base CX0 5 fC fdC ["web", "house"] (spCkHouse C)) (FC : Fun K "check_house" "check_house" sCkHouse fC fdC) (bC : Binds K fdC ["web", "house"] []) (mC : mg "check_house" = some (.ref fC))
    (GW : FnOk P w K mg base CX0 3 fW fdW ["web"] (spWays C)) (FW : Fun K "ways_of" "ways_of" sWays59 fW fdW) (bW : Binds K fdW ["web"] []) (mW : mg "ways_of" = some (.ref fW))
    (GB : FnOk P w K mg base CX0 10 fB fdB ["ways", "house", "seen"] (spBehind 10)) (FB : Fun K "visit_behind" "visit_behind" sBehind fB fdB) (bB : Binds K fdB ["ways", "house", "seen"] []) (mB : mg "visit_behind" = some (.ref fB)) : FnOk P w K mg base CX0 11 f fd ["web", "house"] (spVisit C) := by
  refine F.ok scVisit (fun vs H Q E h => ?_) (fun cdv A outer st0 H vs Q E hr h => ?_)
  · obtain ⟨x, n, ts, h, rfl, _⟩ := h
    rfl
  · obtain ⟨x, n, ts, h, rfl, wb, hn, k⟩ := h
    have hr10 : Room 10 _ := hr
    have hr5 : Room 5 _ := hr.mono (by decide)
    have hr3 : Room 3 _ := hr.mono (by decide)
    have hr1 : Room 1 _ := hr.mono (by decide)
    have n10 := wb.wk.n10
    refine ⟨_, (C8.pss_cut (ps_expr (pe_call GA hr1 (by rfl) mA FA.kp bA .nil pass0 (pa_cons (pv 0) pa_nil))) (C8.pss_cut (ps_expr (pe_call GC hr5 (by rfl) mC FC.kp bC .nil pass0 (pa_cons (pv 0) (pa_cons (pv 1) pa_nil)))) (pss_one (ps_ret (pe_call GB hr10 (by rfl) mB FB.kp bB .nil pass0 (pa_cons (pe_call GW hr3 (by rfl) mW FW.kp bW .nil pass0 (pa_cons (pv 0) pa_nil)) (pa_cons (pv 1) (pa_cons (pe_lst pa_nil) pa_nil)))))))), ?_⟩
    refine ⟨fun σ H' => H = H' ∧ σ = [some (.ref x), some (.int (h : Int))], ⟨_, rfl, x, n, ts, rfl, wb, rfl, rfl⟩, ?_⟩
    rintro σ H' ⟨rfl, rfl⟩
    refine ⟨fun σ H' => H = H' ∧ σ = [some (.ref x), some (.int (h : Int))], ⟨_, rfl, _, rfl, x, n, ts, h, rfl, wb, hn, rfl, rfl⟩, ?_⟩
    rintro σ H' ⟨rfl, rfl⟩
    refine ⟨_, rfl, x, n, ts, rfl, wb, fun wl as us H1 s1 ws pm st => ⟨_, rfl, Nat.zero_le _, fun sl nsl => ?_⟩⟩
    refine ⟨wl, sl, as, n, us, h, [], rfl, ws.same (same_upd nsl), wb.wk.perm pm.symm, upd_same, ?_, hn, by simp, List.nodup_nil, (fun v hv => by cases hv), by show n ≤ 0 + 1 + 9; omega, fun H2 b2 hs2 => k us H2 (s1.trans fun a o e => b2 _ _ (same_upd nsl _ _ e) (ne_of_none e nsl)) pm st⟩
    intro z
    rcases List.mem_cons.mp z with z | z
    · rw [z, ws.hl] at nsl
      cases nsl
    · obtain ⟨i, hi⟩ := List.getElem?_of_mem z
      obtain ⟨ps, h1, _⟩ := ws.own i sl hi
      rw [h1] at nsl
      cases nsl
def spSteps (C : Addr) : Sp := fun vs H Q _ => ∃ (x : Addr) (n : Nat) (ts : List Tie), vs = [.ref x] ∧ WebAt C H x n ts ∧ Q (.int (2 * (ts.length : Int))) H
theorem ok_steps {f fA pT gT : Addr} {fd fdA fdT : FuncData} (F : Fun K "steps_without" "steps_without" sSteps f fd) (cW : WebC K C) (mlen : mg "len" = none)
    (GA : FnOk P w K mg base CX0 1 fA fdA ["web"] (spCkWeb C)) (FA : Fun K "check_web" "check_web" sCkWeb fA fdA) (bA : Binds K fdA ["web"] []) (mA : mg "check_web" = some (.ref fA))
    (GT : FnOk P w K mg base CX0 1 gT fdT ["self"] (spWTies C)) (bT : Binds K fdT ["self"] []) (qT : PropOf K C "ties" pT gT) : FnOk P w K mg base CX0 3 f fd ["web"] (spSteps C) := by
  refine F.ok scSteps (fun vs H Q E h => ?_) (fun cdv A outer st0 H vs Q E hr h => ?_)
  · obtain ⟨x, n, ts, rfl, _⟩ := h
    rfl
  · obtain ⟨x, n, ts, rfl, wb, k⟩ := h
    have hr2 : Room 2 _ := hr
    have hr1 : Room 1 _ := hr.mono (by decide)
    obtain ⟨dx, fs, hx⟩ := wb.isI
    refine ⟨_, (C8.pss_cut (ps_expr (pe_call GA hr1 (by rfl) mA FA.kp bA .nil pass0 (pa_cons (pv 0) pa_nil))) (pss_one (ps_ret (pe_op op_mul pe_int (pe_callB call_len_seq (by rfl) mlen PySem.boot_len (pa_cons (pe_prop (pv 0) cW.c qT GT hr2 bT .nil pass0 rfl) pa_nil)))))), ?_⟩
    refine ⟨fun σ H' => H = H' ∧ σ = [some (.ref x)], ⟨_, rfl, x, n, ts, rfl, wb, rfl, rfl⟩, ?_⟩
    rintro σ H' ⟨rfl, rfl⟩
    refine ⟨_, rfl, x, dx, fs, rfl, hx, x, n, ts, rfl, wb, fun t us h1 h2 h3 h4 => ⟨t, _, rfl, .inr (SqT.of h1), _, _, rfl, rfl, .inl ⟨by decide, by decide⟩, ?_⟩⟩
    rw [refs_len, show us.length = ts.length by rw [← h3.length_eq, List.length_map]]
    exact k
end
end Wh

namespace Wh
open PySem L2
abbrev sVRight : Stmt := topS 59
theorem scVRight : FnScope ["made", "roads", "start", "word_here", "seen_here", "at", "mark"] ["made", "roads", "start"] (defScope sVRight) := ⟨rfl, rfl, rfl, by decide +kernel, rfl, by decide +kernel, by decide +kernel⟩
theorem trail_len (ts : List Tie) : ∀ (ms : List Nat) (h e : Nat), walkN ts h ms = some e → (trail ts h ms).length = ms.length
  | [], _, _, _ => rfl
  | m :: ms, h, e, q => by
    have q : (door h m ts).bind (fun k => walkN ts k ms) = some e := q
    show (match door h m ts with | none => [] | some k => k :: trail ts k ms).length = _
    cases d : door h m ts with
    | none => rw [d] at q; cases q
    | some k =>
      rw [d] at q
      show (k :: trail ts k ms).length = (m :: ms).length
      rw [List.length_cons, List.length_cons, trail_len ts ms k e q]
theorem trail_lt {n : Nat} {ts : List Tie} (w : WebOk n ts) : ∀ (ms : List Nat) (h : Nat), ∀ v ∈ trail ts h ms, v < n
  | [], _, v, hv => by cases hv
  | m :: ms, h, v, hv => by
    have hv : v ∈ (match door h m ts with | none => [] | some k => k :: trail ts k ms) := hv
    cases d : door h m ts with
    | none => rw [d] at hv; cases hv
    | some k =>
      rw [d] at hv
      rcases List.mem_cons.mp hv with z | z
      · rw [z]
        exact door_lt w d
      · exact trail_lt w ms k v z
theorem trail_perm {n : Nat} {ts us : List Tie} (w : WebOk n ts) (p : ts.Perm us) : ∀ (ms : List Nat) (h : Nat), trail ts h ms = trail us h ms
  | [], _ => rfl
  | m :: ms, h => by
    show (match door h m ts with | none => [] | some k => k :: trail ts k ms) = (match door h m us with | none => [] | some k => k :: trail us k ms)
    rw [door_perm w p]
    cases door h m us with
    | none => rfl
    | some k =>
      show k :: trail ts k ms = k :: trail us k ms
      rw [trail_perm w p ms k]
/-- what a visit tells, over any order of the ties -/
theorem visit_facts {n : Nat} {ts us : List Tie} (w : WebOk n ts) (p : us.Perm ts) {h : Nat} (hn : h < n) {ms : List Nat} (e : (dfs us 9 h []).1 = ms) :
    walkN ts h ms = some h ∧ (∀ m ∈ ms, m ∈ letters) ∧ ms.length + 2 = 2 * n ∧ ∀ v, v < n → v ∈ h :: trail ts h ms := by
  have wu := w.perm p.symm
  have n10 := w.n10
  have d := dfs_vis wu 9 h [] hn (by simp) List.nodup_nil (fun v hv => (by cases hv)) (by show n ≤ 0 + 1 + 9; omega)
  have all := dfs_all wu hn
  have len : (dfs us 9 h []).2.length = n := by
    have a := nd_sub_len d.nd (s := List.range n) fun x hx => List.mem_range.mpr (d.lt x hx)
    have b := nd_sub_len List.nodup_range (s := (dfs us 9 h []).2) (l := List.range n) fun x hx => all x (List.mem_range.mp hx)
    rw [List.length_range] at a b
    omega
  subst e
  refine ⟨by rw [← walkN_perm wu p]; exact d.back, d.lets, ?_, fun v hv => ?_⟩
  · have := d.len
    rw [len] at this
    exact this
  · rw [← trail_perm wu p]
    exact d.met v (all v hv) (by simp)
theorem WebAt.f6 {C : Addr} {H : Hp} {x : Addr} {n : Nat} {ts : List Tie} (w : WebAt C H x n ts) : ∃ dx fs, H x = some (.ins C dx fs) ∧ fs.lookup ("at" : Str) = none ∧ fs.lookup ("go" : Str) = none := by
  obtain ⟨dx, txt, l, ps, dl, ds, h1, _⟩ := w.ex
  exact ⟨dx, _, h1, ff_no _ _ _ _ (by decide +kernel), ff_no _ _ _ _ (by decide +kernel)⟩
theorem rgV_natC (n : Nat) : rgV 0 (n : Int) = (List.range n).map natV := by
  unfold rgV
  rw [show (((n : Int) - 0).toNat) = n by omega]
  refine List.map_congr_left fun i _ => ?_
  show V.int (0 + (i : Int)) = V.int (i : Int)
  rw [Int.zero_add]
theorem ints_all {n : Nat} {l : List Nat} (lt : ∀ v ∈ l, v < n) (all : ∀ v, v < n → v ∈ l) {ns : List Int} (asc : ns.Pairwise (· < ·)) (mem : ∀ k : Int, k ∈ ns ↔ k ∈ l.map (fun v : Nat => (v : Int))) : ns.map V.int = (List.range n).map natV := by
  have e : ns = (List.range n).map (fun v : Nat => (v : Int)) := by
    refine asc_uniq asc ?_ fun k => ?_
    · rw [List.pairwise_map]
      exact List.pairwise_lt_range.imp fun h => by omega
    · rw [mem]
      constructor
      · intro z
        obtain ⟨v, hv, rfl⟩ := List.mem_map.mp z
        exact List.mem_map_of_mem (List.mem_range.mpr (lt v hv))
      · intro z
        obtain ⟨v, hv, rfl⟩ := List.mem_map.mp z
        exact List.mem_map_of_mem (all v (List.mem_range.mp hv))
  rw [e, List.map_map]
  rfl
theorem nat_dps {K : PySem.W.Frag} {H : Hp} : ∀ l : List Nat, DpAll K H (l.map natV) (l.map fun v : Nat => PyData.int (v : Int))
  | [] => .nil
  | v :: l => .cons (.int _) (nat_dps l)
theorem nat_plain (l : List Nat) : (PyData.list (l.map fun v : Nat => PyData.int (v : Int))).plain = true := by
  rw [PyData.plain]
  induction l with
  | nil => rfl
  | cons v l ih =>
    rw [List.map_cons, PyData.plainAll, ih]
    rfl
theorem nat_shaped {n : Nat} (h : n ≤ 10) : SeqAt.shaped (PyData.list ((List.range n).map fun v : Nat => PyData.int (v : Int))) = true := by
  have : ∀ k : Fin 11, SeqAt.shaped (PyData.list ((List.range k.val).map fun v : Nat => PyData.int (v : Int))) = true := by decide +kernel
  exact this ⟨n, by omega⟩
structure RV (P : Program) (w : World) (K : PySem.W.Frag) (mg : Str → Option Value) (base : Heap) (C : Addr) where
  cW : WebC K C
  (fVis gAt gGo : Addr)
  (fdVis fdAt fdGo : FuncData)
  GVis : FnOk P w K mg base CX0 11 fVis fdVis ["web", "house"] (spVisit C)
  bVis : Binds K fdVis ["web", "house"] []
  mVis : mg "visit" = some (.ref fVis)
  kVis : PySem.W.keepIn K (.ref fVis) = true
  GAt : FnOk P w K mg base CX0 6 gAt fdAt ["self", "house"] (spWAt C)
  bAt : Binds K fdAt ["self", "house"] []
  mAt : Meth K C "at" gAt
  GGo : FnOk P w K mg base CX0 6 gGo fdGo ["self", "house", "word"] (spGo C)
  bGo : Binds K fdGo ["self", "house", "word"] []
  mGo : Meth K C "go" gGo
  misi : mg "isinstance" = none
  mstr : mg "str" = none
  mlen : mg "len" = none
  msorted : mg "sorted" = none
  mset : mg "set" = none
  mlist : mg "list" = none
  mrange : mg "range" = none
section
variable {P : Program} {w : World} {K : PySem.W.Frag} {mg : Str → Option Value} {base : Heap} {C : Addr}
def spVRight (C : Addr) : Sp := fun vs H Q _ => ∃ (x dl : Addr) (ds : List Addr) (n : Nat) (ts us : List Tie) (h : Nat), vs = [.ref x, .ref dl, .int (h : Int)] ∧ WebAt C H x n ts ∧ Dr H dl ds n us ∧ us.Perm ts ∧ h < n ∧ ∀ H', Same H H' → Q (.bl true) H'
set_option maxHeartbeats 4000000 in
theorem ok_vright (F : RV P w K mg base C) {f : Addr} {fd : FuncData} (FV : Fun K "_law_visit_right" "_law_visit_right" sVRight f fd) : FnOk P w K mg base CX0 12 f fd ["made", "roads", "start"] (spVRight C) := by
  refine FV.ok scVRight (fun vs H Q E h => ?_) (fun cdv A outer st0 H vs Q E hr h => ?_)
  · obtain ⟨x, dl, ds, n, ts, us, h, rfl, _⟩ := h
    rfl
  · obtain ⟨x, dl, ds, n, ts, us, h, rfl, wb, dr, pu, hn, k⟩ := h
    have hr11 : Room 11 _ := hr
    have hr6 : Room 6 _ := hr.mono (by decide)
    have n10 := wb.wk.n10
    have n2 := wb.wk.n2
    refine ⟨_, (C8.pss_cut (ps_par3 (i := 3) (j := 4) (l := 5) (by rfl) scVRight.nd rfl rfl rfl (by decide) (by decide) (by decide) rfl rfl rfl (pa_cons (pe_call F.GVis hr11 (by rfl) F.mVis F.kVis F.bVis .nil pass0 (pa_cons (pv 0) (pa_cons (pv 2) pa_nil))) (pa_cons (pe_lst (pa_cons (pv 2) pa_nil)) (pa_cons (pv 2) pa_nil))) (by rfl)) (C8.pss_cut (ps_if (PW.pt (pw_or (pt_not (pt_truth (pe_callB call_isi (by rfl) F.misi (by decide +kernel) (pa_cons (pv 3) (pa_cons (pe_bltn (by rfl) F.mstr (by decide +kernel) (show RelV (.ty "str") _ from rfl)) pa_nil))) (fun _ => rfl))) (pw_or (pt_cmpR op_ne (pe_callB call_len_str (by rfl) F.mlen PySem.boot_len (pa_cons (pv 3) pa_nil)) (pe_op op_sub (pe_op op_mul pe_int (pe_callB call_len_seq (by rfl) F.mlen PySem.boot_len (pa_cons (pv 1) pa_nil))) pe_int) (nomark _)) (pw_or1 (pt_cmpR op_notIn_sign (pe_ix ix_str (pv 3) pe_int (fun _ _ => rfl)) (pe_meth (pv 0) F.cW.c F.mAt F.GAt hr6 F.bAt .nil pass0 (pa_cons (pv 2) pa_nil)) (by rfl)))))) pss_never pss_nil) (C8.pss_cut (ps_for PassesOwn.never rfl (pi_str (pv 3)) (pg_name (i := 6) scVRight.nd rfl (.inl rfl)) (C8.pss_cut (ps_set (i := 5) scVRight.nd rfl (.inl rfl) (pe_ifExp (pt_cmpR op_ge (pv 5) pe_int (nomark _)) (pe_dget2 (hu_of hr) (pe_ix ix_list (pv 1) (pv 5) (fun _ _ => rfl)) (pv 6) (pe_un un_neg pe_int) ⟨rfl, rfl, rfl, rfl⟩) (pe_un un_neg pe_int))) (pss_one (ps_expr (pe_bm PySem.F.plainAttrs_list PySem.F.slot_list_append PySem.F.type_list_append mt_append (pv 4) (pa_cons (pv 5) pa_nil)))))) (pss_one (ps_ret (pe_and (pe_cmpR op_eq (pv 5) (pv 2) (nomark _)) (pe_and (pe_cmpR (op_eqD hr.units) (pe_callB (cr_sortedSet rfl) (by rfl) F.msorted (by decide +kernel) (pa_cons (pe_callTy (cr_setOfI rfl) (by rfl) F.mset (by decide +kernel) (pa_cons (pv 4) pa_nil)) pa_nil)) (pe_listRg rfl (by rfl) F.mlist (prg_1 (by rfl) F.mrange (pe_callB call_len_seq (by rfl) F.mlen PySem.boot_len (pa_cons (pv 1) pa_nil)))) (nomark _)) (pe_one (pe_cmpR op_eq (pe_meth (pv 0) F.cW.c F.mGo F.GGo hr6 F.bGo .nil pass0 (pa_cons (pv 2) (pa_cons (pv 3) pa_nil))) (pv 2) (nomark _)))))))))), ?_⟩
    refine ⟨fun σ H' => Same H H' ∧ ∃ (ms : List Nat) (S : Addr), walkN ts h ms = some h ∧ (∀ m ∈ ms, m ∈ letters) ∧ ms.length + 2 = 2 * n ∧ (∀ v, v < n → v ∈ h :: trail ts h ms) ∧ H S = none ∧ H' S = some (.lst [.int (h : Int)]) ∧ σ = [some (.ref x), some (.ref dl), some (.int (h : Int)), some (.str (sS ms)), some (.ref S), some (.int (h : Int)), none], ?_, ?_⟩
    · refine ⟨_, rfl, _, rfl, x, n, ts, h, rfl, wb, hn, fun vs H1 s1 pm st => ⟨_, rfl, by show 1 ≤ sizeLine; decide, fun S nS => ⟨_, rfl, _, _, _, rfl, ?_⟩⟩⟩
      obtain ⟨f1, f2, f3, f4⟩ := visit_facts wb.wk pm hn rfl
      exact ⟨s1.put nS, _, S, f1, f2, f3, f4, s1.free nS, upd_same, rfl⟩
    rintro σ H1 ⟨s1, ms, S, f1, f2, f3, f4, nS, hS, rfl⟩
    have wb1 := wb.same s1
    have dr1 := dr.same s1
    have size : (sS ms).length ≤ sizeLine := by
      rw [sS_len]
      exact Nat.le_of_lt (small1000 (by omega))
    refine ⟨fun σ H' => Same H1 H' ∧ σ = [some (.ref x), some (.ref dl), some (.int (h : Int)), some (.str (sS ms)), some (.ref S), some (.int (h : Int)), none], ?_, ?_⟩
    · refine ⟨_, rfl, _, _, _, _, true, rfl, .ty "str", .base (.str _), kit_ty (by decide +kernel), true, rfl, ?_⟩
      refine iteF ⟨_, rfl, sS ms, rfl, size, _, rfl, dl, _, rfl, .inl (SqL.of dr1.hl), _, _, rfl, rfl, .inl ⟨by decide, by decide⟩, _, _, rfl, rfl, rfl, _, rfl, ?_⟩
      rw [sS_len, List.length_map, dr1.len, decide_eq_true (show V.int ((ms.length : Nat) : Int) = V.int (2 * (n : Int) - 2) by rw [show ((ms.length : Nat) : Int) = 2 * (n : Int) - 2 by omega])]
      obtain ⟨m0, hm0⟩ : ∃ m0, ms[0]? = some m0 := ⟨ms[0], List.getElem?_eq_getElem (by omega)⟩
      obtain ⟨dx, fs, hx, hat, _⟩ := wb1.f6
      refine iteF ⟨_, rfl, sS ms, 0, m0, rfl, rfl, size, ?_, _, rfl, x, dx, fs, rfl, hx, hat, _, rfl, x, n, ts, h, rfl, wb1, hn, fun ks H2 pk sk s2 => ⟨m0, sS ks, rfl, rfl, _, rfl, ?_⟩⟩
      · have e : (sS ms).cps.toList = ms := by rw [sS_cps]
        rw [e]
        exact atI_nat hm0
      · have e : (sS ks).cps.toList = ks := by rw [sS_cps]
        have mem : m0 ∈ ks := by
          rw [pk.mem_iff, ← doorsAt_fst]
          match ms, hm0, f1 with
          | m :: ms', hm0, f1 =>
            obtain rfl : m = m0 := Option.some.inj hm0
            have q : (door h m ts).bind (fun k => walkN ts k ms') = some h := f1
            cases d : door h m ts with
            | none => rw [d] at q; cases q
            | some j => exact List.mem_map.mpr ⟨(m, j), door_mem d, rfl⟩
        rw [e, decide_eq_true mem]
        exact iteF ⟨s2, rfl⟩
    rintro σ H2 ⟨s2, rfl⟩
    have s12 := Same.trans s1 s2
    have wb2 := wb.same s12
    have dr2 := dr.same s12
    have hS2 := s2 _ _ hS
    refine ⟨fun σ H' => Same H H' ∧ H' S = some (.lst ((h :: trail ts h ms).map natV)) ∧ ∃ o : Option V, σ = [some (.ref x), some (.ref dl), some (.int (h : Int)), some (.str (sS ms)), some (.ref S), some (.int (h : Int)), o], ?_, ?_⟩
    · refine ⟨_, rfl, _, rfl, for_it walk_str (fun i σ H' => Same H H' ∧ ∃ (e : Nat) (o : Option V), e < n ∧ walkN ts h (ms.take i) = some e ∧ H' S = some (.lst ((h :: trail ts h (ms.take i)).map natV)) ∧ σ = [some (.ref x), some (.ref dl), some (.int (h : Int)), some (.str (sS ms)), some (.ref S), some (.int (e : Int)), o]) ⟨s12, h, none, hn, rfl, hS2, rfl⟩ (fun _ _ _ _ _ => trivial) ?_ ?_⟩
      · rintro i y σ H3 H4 hi ⟨s3, e, o, he, hw, hS3, rfl⟩ ⟨e34, m, hm, rfl⟩
        subst e34
        have hmi : ms[i]? = some m := by
          rw [← sS_cps ms, Array.getElem?_toList]
          exact hm
        have tk : ms.take (i + 1) = ms.take i ++ [m] := by rw [List.take_succ, hmi]; rfl
        obtain ⟨e', hd⟩ : ∃ e', door e m ts = some e' := by
          have q := f1
          rw [← List.take_append_drop (i + 1) ms, walkN_app, tk, walkN_app, hw] at q
          cases d : door e m ts with
          | none =>
            have z : ((door e m ts).bind fun k => some k).bind (fun p => walkN ts p (ms.drop (i + 1))) = some h := q
            rw [d] at z
            cases z
          | some e' => exact ⟨e', rfl⟩
        have he' := door_lt wb.wk hd
        have stepW : walkN ts h (ms.take (i + 1)) = some e' := by
          rw [tk, walkN_app, hw]
          show (door e m ts).bind (fun k => some k) = some e'
          rw [hd]
          rfl
        have tr : trail ts h (ms.take (i + 1)) = trail ts h (ms.take i) ++ [e'] := by
          rw [tk, trail_app _ _ _ _ _ hw]
          show trail ts h (ms.take i) ++ (match door e m ts with | none => [] | some k => [k]) = _
          rw [hd]
        have few : (h :: trail ts h (ms.take i)).length ≤ 100 := by
          rw [List.length_cons, trail_len _ _ _ _ hw, List.length_take]
          omega
        have dr3 := dr.same s3
        obtain ⟨a, ha, hda⟩ := dr_at dr3 he
        have g := DGet.k (k := Sum.inr (sgn m)) hda
        rw [valV_door, door_perm (wb.wk.perm pu.symm) pu, hd] at g
        refine ⟨fun σ H' => Same H H' ∧ H' S = some (.lst ((h :: trail ts h (ms.take i)).map natV)) ∧ σ = [some (.ref x), some (.ref dl), some (.int (h : Int)), some (.str (sS ms)), some (.ref S), some (.int (e' : Int)), some (sV m)], ?_, ?_⟩
        · refine ⟨_, rfl, _, _, rfl, rfl, _, rfl, ?_⟩
          rw [show decide ((e : Int) ≥ 0) = true from decide_eq_true (Int.natCast_nonneg e)]
          exact iteT ⟨_, rfl, _, rfl, dl, _, _, _, rfl, rfl, SqL.of dr3.hl, ha, a, rfl, .inl ⟨_, Rd.of hda⟩, _, rfl, _, rfl, _, g, s3, hS3, rfl⟩
        rintro σ H5 ⟨s3, hS3, rfl⟩
        refine ⟨_, rfl, .inl ⟨rfl, _, SqL.of hS3⟩, _, rfl, _, _, _, rfl, rfl, hS3, by show ((h :: trail ts h (ms.take i)).map natV).length < sizeLine; rw [List.length_map]; exact small1000 (by omega), s3.own nS, e', _, he', stepW, ?_, rfl⟩
        rw [upd_same, tr, ← List.cons_append, List.map_append]
        rfl
      · rintro σ H3 ⟨s3, e, o, he, hw, hS3, rfl⟩
        rw [List.take_of_length_le (by rw [← sS_len]; exact Nat.le_refl _)] at hw hS3
        obtain rfl : h = e := by rw [f1] at hw; exact Option.some.inj hw
        exact ⟨s3, hS3, _, rfl⟩
    rintro σ H3 ⟨s3, hS3, o, rfl⟩
    have wb3 := wb.same s3
    have dr3 := dr.same s3
    have few : (h :: trail ts h ms).length < 60 := by
      rw [List.length_cons, trail_len _ _ _ _ f1]
      omega
    have lts : ∀ v ∈ h :: trail ts h ms, v < n := fun v hv => by
      rcases List.mem_cons.mp hv with z | z
      · rw [z]
        exact hn
      · exact trail_lt wb.wk ms h v z
    have eS : (h :: trail ts h ms).map natV = ((h :: trail ts h ms).map (fun v : Nat => (v : Int))).map V.int := by
      rw [List.map_map]
      rfl
    refine ⟨_, rfl, _, rfl, rfl, _, rfl, ?_⟩
    rw [decide_eq_true rfl]
    refine iteT ⟨_, rfl, S, _, rfl, SqL.of (eS ▸ hS3), by rw [List.length_map]; exact few, fun a cc na hc => ⟨a, _, cc, rfl, upd_same, by rw [List.length_map] at hc; omega, fun ns p asc mem len np => ?_⟩⟩
    have en := ints_all lts f4 asc (fun j => by rw [mem, decide_eq_true_iff])
    have s5 := (s3.put na (o := SetO w a (fun j : Int => decide (j ∈ (h :: trail ts h ms).map fun v : Nat => (v : Int))) cc)).put np (o := .lst (ns.map V.int))
    refine ⟨_, rfl, dl, _, rfl, .inl (SqL.of (s5 _ _ dr.hl)), _, rfl, RgOk.of_le (by decide) ?_ (by decide) (by omega), fun q nq => ?_⟩
    · rw [List.length_map, dr.len]
      omega
    have s6 := s5.put nq (o := .lst (rgV 0 (((ds.map V.ref).length : Nat) : Int)))
    have e6 : rgV 0 (((ds.map V.ref).length : Nat) : Int) = (List.range n).map natV := by
      rw [List.length_map, dr.len]
      exact rgV_natC n
    refine ⟨_, _, .lst (SqL.of (put_old upd_same nq)) (by rw [en]; exact nat_dps _), .lst (SqL.of upd_same) (by rw [e6]; exact nat_dps _), nat_shaped n10, nat_shaped n10, _, rfl, ?_⟩
    rw [SeqAt.eqv_refl_plain _ (nat_plain _)]
    refine iteT ?_
    have wb6 := wb.same s6
    obtain ⟨dx, fs, hx, _, hgo⟩ := wb6.f6
    refine ⟨_, rfl, x, dx, fs, rfl, hx, hgo, _, rfl, _, rfl, x, n, ts, h, ms, rfl, wb6, hn, f2, by omega, by omega, fun H7 s7 => ⟨_, rfl, ?_⟩⟩
    rw [f1]
    refine ⟨rfl, ?_⟩
    rw [show decide (walkV (some h) = V.int (h : Int)) = true from decide_eq_true rfl]
    exact k _ (Same.trans s6 s7)
end
end Wh

namespace Wh
open PySem L2
abbrev sRight : Stmt := topS 60
theorem scRight : FnScope ["purse", "k", "ties_here", "made", "roads", "start"] ["purse"] (defScope sRight) := ⟨rfl, rfl, rfl, by decide +kernel, rfl, by decide +kernel, by decide +kernel⟩
/-- keywords alone, told backwards -/
def revG {α : Type} : List α → List α → List α
  | [], ws => ws.reverse
  | _, _ => []
theorem vals_snoc : ∀ {vs : List V} {us : List Value} {v : V} {u : Value}, Vals vs us → RelV v u → Vals (vs ++ [v]) (us ++ [u])
  | _, _, _, _, .nil, r => .cons r .nil
  | _, _, _, _, .cons r1 rs, r => .cons r1 (vals_snoc rs r)
theorem vals_rev : ∀ {vs : List V} {us : List Value}, Vals vs us → Vals vs.reverse us.reverse
  | _, _, .nil => .nil
  | _, _, .cons r1 rs => by
    rw [List.reverse_cons, List.reverse_cons]
    exact vals_snoc (vals_rev rs) r1
theorem revG_rel {vs zs : List V} {us ws : List Value} (r : Vals vs us) (q : Vals zs ws) : Vals (revG vs zs) (revG us ws) := by
  cases r with
  | nil => exact vals_rev q
  | cons _ _ => exact .nil
set_option maxHeartbeats 2000000 in
theorem kb_ste {K : PySem.W.Frag} {f : Addr} {fd : FuncData} (F : Fun K "steps_without" "steps_without" sSteps f fd) : KBinds K fd ["web"] ["web"] revG revG := by
  refine ⟨fun s us ws _ hl => ?_, fun r q => revG_rel r q⟩
  obtain ⟨oc, od, kV, doc, pm, an, cdv, ct, osl, rfl, lk, hcd⟩ := F.ex
  match us, ws, hl with
  | [], [a], _ => exact .of_eq (by kernel_rfl)
  | _ :: _, _, hl => exact absurd hl (by simp [revG])
  | [], [], hl => exact absurd hl (by simp [revG])
  | [], _ :: _ :: _, hl => exact absurd hl (by simp [revG])
set_option maxHeartbeats 2000000 in
theorem kb_vis {K : PySem.W.Frag} {f : Addr} {fd : FuncData} (F : Fun K "visit" "visit" sVisit f fd) : KBinds K fd ["web", "house"] ["house", "web"] revG revG := by
  refine ⟨fun s us ws _ hl => ?_, fun r q => revG_rel r q⟩
  obtain ⟨oc, od, kV, doc, pm, an, cdv, ct, osl, rfl, lk, hcd⟩ := F.ex
  match us, ws, hl with
  | [], [a, b], _ => exact .of_eq (by kernel_rfl)
  | _ :: _, _, hl => exact absurd hl (by simp [revG])
  | [], [], hl => exact absurd hl (by simp [revG])
  | [], [_], hl => exact absurd hl (by simp [revG])
  | [], _ :: _ :: _ :: _, hl => exact absurd hl (by simp [revG])
/-- all that _law_right stands on -/
structure RF (P : Program) (w : World) (K : PySem.W.Frag) (mg : Str → Option Value) (base : Heap) where
  (C : Addr)
  cW : WebC K C
  (fTake fTies fText fRoad fVR fVis fSte fRing fBoard fIni gTie gHou pTie0 pHou0 : Addr)
  (fdTake fdTies fdText fdRoad fdVR fdVis fdSte fdRing fdBoard fdIni fdTie fdHou : FuncData)
  GTake : FnOk P w K mg base CX0 1 fTake fdTake ["purse", "many"] spTake
  bTake : Binds K fdTake ["purse", "many"] []
  mTake : mg "_law_take" = some (.ref fTake)
  kTake : PySem.W.keepIn K (.ref fTake) = true
  GTies : FnOk P w K mg base CX0 3 fTies fdTies ["purse", "many"] spTies3
  bTies : Binds K fdTies ["purse", "many"] []
  mTies : mg "_law_ties" = some (.ref fTies)
  kTies : PySem.W.keepIn K (.ref fTies) = true
  GText : FnOk P w K mg base CX0 2 fText fdText ["purse", "ties_here"] spText3
  bText : Binds K fdText ["purse", "ties_here"] []
  mText : mg "_law_text" = some (.ref fText)
  kText : PySem.W.keepIn K (.ref fText) = true
  GRoad : FnOk P w K mg base CX0 1 fRoad fdRoad ["ties_here"] (spDoors K)
  bRoad : Binds K fdRoad ["ties_here"] []
  mRoad : mg "_law_roads" = some (.ref fRoad)
  kRoad : PySem.W.keepIn K (.ref fRoad) = true
  GVR : FnOk P w K mg base CX0 12 fVR fdVR ["made", "roads", "start"] (spVRight C)
  bVR : Binds K fdVR ["made", "roads", "start"] []
  mVR : mg "_law_visit_right" = some (.ref fVR)
  kVR : PySem.W.keepIn K (.ref fVR) = true
  GVis : FnOk P w K mg base CX0 11 fVis fdVis ["web", "house"] (spVisit C)
  bVis : Binds K fdVis ["web", "house"] []
  mVis : mg "visit" = some (.ref fVis)
  kVis : PySem.W.keepIn K (.ref fVis) = true
  GSte : FnOk P w K mg base CX0 3 fSte fdSte ["web"] (spSteps C)
  bSte : Binds K fdSte ["web"] []
  mSte : mg "steps_without" = some (.ref fSte)
  kSte : PySem.W.keepIn K (.ref fSte) = true
  GRing : FnOk P w K mg base CX0 9 fRing fdRing ["houses"] (spRing C)
  bRing : Binds K fdRing ["houses"] []
  mRing : mg "ring" = some (.ref fRing)
  kRing : PySem.W.keepIn K (.ref fRing) = true
  GBoard : FnOk P w K mg base CX0 9 fBoard fdBoard ["wide", "high"] (spBoard C)
  bBoard : Binds K fdBoard ["wide", "high"] []
  mBoard : mg "board" = some (.ref fBoard)
  kBoard : PySem.W.keepIn K (.ref fBoard) = true
  GIni : FnOk P w K mg base CX0 6 fIni fdIni ["self", "text"] (spInit C)
  bIni : Binds K fdIni ["self", "text"] []
  MIni : Mk K C fIni
  mIni : mg "Web" = some (.ref C)
  GTie : FnOk P w K mg base CX0 1 gTie fdTie ["self"] (spWTies C)
  bTie : Binds K fdTie ["self"] []
  pTie : PropOf K C "ties" pTie0 gTie
  GHou : FnOk P w K mg base CX0 1 gHou fdHou ["self"] (spWHouses C)
  bHou : Binds K fdHou ["self"] []
  pHou : PropOf K C "houses" pHou0 gHou
  mrange : mg "range" = none
  mlen : mg "len" = none
  mlist : mg "list" = none
  kbVis : KBinds K fdVis ["web", "house"] ["house", "web"] revG revG
  kbSte : KBinds K fdSte ["web"] ["web"] revG revG
end Wh

namespace Wh
open PySem L2
section
variable {P : Program} {w : World} {K : PySem.W.Frag} {mg : Str → Option Value} {base : Heap}
def spRight : Sp := fun vs H Q _ => ∃ c : Addr, vs = [.ref c] ∧ Pur 0 H c ∧ ∀ H', Kp c H H' → Q (.bl true) H'
set_option maxHeartbeats 8000000 in
theorem ok_right (F : RF P w K mg base) {f : Addr} {fd : FuncData} (FR : Fun K "_law_right" "_law_right" sRight f fd) : FnOk P w K mg base CX0 13 f fd ["purse"] spRight := by
  refine FR.ok scRight (fun vs H Q E h => ?_) (fun cdv A outer st0 H vs Q E hr h => ?_)
  · obtain ⟨c, rfl, _⟩ := h
    rfl
  · obtain ⟨c, rfl, pu, k⟩ := h
    have hr12 : Room 12 _ := hr
    have hr11 : Room 11 _ := hr.mono (by decide)
    have hr9 : Room 9 _ := hr.mono (by decide)
    have hr7 : Room 7 _ := hr.mono (by decide)
    have hr3 : Room 3 _ := hr.mono (by decide)
    have hr2 : Room 2 _ := hr.mono (by decide)
    have hr1 : Room 1 _ := hr.mono (by decide)
    refine ⟨_, (C8.pss_cut (ps_for PassesOwn.never rfl (pi_range1 (by rfl) F.mrange (pa_cons pe_int pa_nil)) (pg_name (i := 1) scRight.nd rfl (.inl rfl)) (by exact (C8.pss_cut (ps_set (i := 2) scRight.nd rfl (.inl rfl) (pe_call F.GTies hr3 (by rfl) F.mTies F.kTies F.bTies .nil pass0 (pa_cons (pv 0) (pa_cons (pe_op op_add pe_int (pe_call F.GTake hr1 (by rfl) F.mTake F.kTake F.bTake .nil pass0 (pa_cons (pv 0) (pa_cons pe_int pa_nil)))) pa_nil)))) (C8.pss_cut (ps_par (i := 3) (j := 4) (by rfl) scRight.nd rfl rfl (by decide) rfl rfl (pa_cons (pe_make F.MIni F.GIni hr7 rfl F.mIni F.bIni .nil pass0 (pa_cons (pe_call F.GText hr2 (by rfl) F.mText F.kText F.bText .nil pass0 (pa_cons (pv 0) (pa_cons (pv 2) pa_nil))) pa_nil)) (pa_cons (pe_call F.GRoad hr1 (by rfl) F.mRoad F.kRoad F.bRoad .nil pass0 (pa_cons (pv 2) pa_nil)) pa_nil)) (by rfl)) (C8.pss_cut (ps_for PassesOwn.never rfl (pi_range1 (by rfl) F.mrange (pa_cons (pe_callB call_len_seq (by rfl) F.mlen PySem.boot_len (pa_cons (pv 4) pa_nil)) pa_nil)) (pg_name (i := 5) scRight.nd rfl (.inl rfl)) (pss_one (ps_if (pt_not (pt_truth (pe_call F.GVR hr12 (by rfl) F.mVR F.kVR F.bVR .nil pass0 (pa_cons (pv 3) (pa_cons (pv 4) (pa_cons (pv 5) pa_nil)))) (fun _ => rfl))) pss_never pss_nil))) (pss_one (ps_if (PW.pt (pw_or (pt_cmpR op_ne (pe_callK0 F.GVis hr11 (by rfl) F.mVis F.kVis F.kbVis pass0 (pk_cons pe_int (pk_cons (pv 3) pk_nil))) (pe_call F.GVis hr11 (by rfl) F.mVis F.kVis F.bVis .nil pass0 (pa_cons (pv 3) (pa_cons pe_int pa_nil))) (nomark _)) (pw_or1 (pt_cmpR op_ne (pe_callK0 F.GSte hr3 (by rfl) F.mSte F.kSte F.kbSte pass0 (pk_cons (pv 3) pk_nil)) (pe_op op_mul pe_int (pe_callB call_len_seq (by rfl) F.mlen PySem.boot_len (pa_cons (pv 2) pa_nil))) (nomark _))))) pss_never pss_nil))))))) (C8.pss_cut (ps_for PassesOwn.never rfl (pi_list (pe_lst (pa_cons (pe_call F.GRing hr9 (by rfl) F.mRing F.kRing F.bRing .nil pass0 (pa_cons (pe_op op_add pe_int (pe_call F.GTake hr1 (by rfl) F.mTake F.kTake F.bTake .nil pass0 (pa_cons (pv 0) (pa_cons pe_int pa_nil)))) pa_nil)) (pa_cons (pe_call F.GBoard hr9 (by rfl) F.mBoard F.kBoard F.bBoard .nil pass0 (pa_cons pe_int (pa_cons pe_int pa_nil))) pa_nil)))) (pg_name (i := 3) scRight.nd rfl (.inl rfl)) (by exact (pss_one (ps_if (pt_not (pt_truth (pe_call F.GVR hr12 (by rfl) F.mVR F.kVR F.bVR .nil pass0 (pa_cons (pv 3) (pa_cons (pe_call F.GRoad hr1 (by rfl) F.mRoad F.kRoad F.bRoad .nil pass0 (pa_cons (pe_callTy call_list_of (by rfl) F.mlist (by decide +kernel) (pa_cons (pe_prop (pv 3) F.cW.c F.pTie F.GTie hr2 F.bTie .nil pass0 rfl) pa_nil)) pa_nil)) (pa_cons (pe_call F.GTake hr1 (by rfl) F.mTake F.kTake F.bTake .nil pass0 (pa_cons (pv 0) (pa_cons (pe_prop (pv 3) F.cW.c F.pHou F.GHou hr2 F.bHou .nil pass0 rfl) pa_nil))) pa_nil)))) (fun _ => rfl))) pss_never pss_nil)))) (pss_one (ps_ret (pe_and (pe_cmpR op_eq (pe_call F.GSte hr3 (by rfl) F.mSte F.kSte F.bSte .nil pass0 (pa_cons (pe_call F.GBoard hr9 (by rfl) F.mBoard F.kBoard F.bBoard .nil pass0 (pa_cons pe_int (pa_cons pe_int pa_nil))) pa_nil)) pe_int (nomark _)) (pe_one (pe_cmpR op_eq (pe_call F.GSte hr3 (by rfl) F.mSte F.kSte F.bSte .nil pass0 (pa_cons (pe_call F.GRing hr9 (by rfl) F.mRing F.kRing F.bRing .nil pass0 (pa_cons pe_int pa_nil)) pa_nil)) pe_int (nomark _)))))))), ?_⟩
    refine ⟨fun σ H' => Kp c H H' ∧ Pur 3000 H' c ∧ ∃ w1 w2 w3 w4 w5 : Option V, σ = [some (.ref c), w1, w2, w3, w4, w5], ?_, ?_⟩
    · refine ⟨3, rfl, by decide, by decide, ?_⟩
      refine for_range (lo := 0) (n := 3) (fun i σ H' => Kp c H H' ∧ Pur (1000 * i) H' c ∧ ∃ w1 w2 w3 w4 w5 : Option V, σ = [some (.ref c), w1, w2, w3, w4, w5])
        ⟨fun _ _ e _ _ => e, pu, none, none, none, none, none, rfl⟩ ?_ (fun σ H' z => z)
      rintro i σ H1 hi ⟨kp1, pu1, w1, w2, w3, w4, w5, rfl⟩
      refine ⟨fun σ H' => Kp c H H' ∧ Pur (1000 * i + 101) H' c ∧ ∃ (l : Addr) (ps : List (Addr × Tie)) (n : Nat), H' l = some (.lst (refs ps)) ∧ At tieV H' ps ∧ WebOk n (ps.map (·.2)) ∧ ((ps.map (·.2)).map Tie.pr).Pairwise PrLt ∧
        σ = [some (.ref c), some (.int ((0 : Int) + (i : Int))), some (.ref l), w3, w4, w5], ?_, ?_⟩
      · refine ⟨_, rfl, _, rfl, c, 9, 1000 * i, rfl, pu1, by omega, by decide, by decide, fun r H2 b2 pu2 r0 r1 => ⟨_, _, rfl, rfl, ?_⟩⟩
        obtain ⟨j, rfl⟩ := Int.eq_ofNat_of_zero_le r0
        refine ⟨c, 2 + j, 1000 * i + 1, ?_, pu2, by omega, by omega, by omega, fun l ps H3 b3 pu3 nl hl hA wk srt len => ⟨kp1.trans (b2.trans b3).kp, pu3, l, ps, 2 + j, hl, hA, wk, srt, rfl⟩⟩
        show [V.ref c, V.int ((2 : Int) + (j : Int))] = [V.ref c, V.int ((2 + j : Nat) : Int)]
        rw [show ((2 : Int) + (j : Int)) = ((2 + j : Nat) : Int) by omega]
      rintro σ H2 ⟨kp2, pu2, l, ps, n, hl, hA, wk, srt, rfl⟩
      have n2 := wk.n2
      have n10 := wk.n10
      refine ⟨fun σ H' => Kp c H H' ∧ Pur (1000 * i + 301) H' c ∧ H' l = some (.lst (refs ps)) ∧ ∃ (x dl : Addr) (ds : List Addr), WebAt F.C H' x n (ps.map (·.2)) ∧ Dr H' dl ds n (ps.map (·.2)) ∧ σ = [some (.ref c), some (.int ((0 : Int) + (i : Int))), some (.ref l), some (.ref x), some (.ref dl), w5], ?_, ?_⟩
      · refine ⟨_, rfl, _, rfl, c, l, ps, n, 1000 * i + 101, rfl, pu2, by omega, hl, hA, wk, fun rs H3 b3 pu3 pm => fun x dx nx nd ne => ⟨x, dx, rs, ps.map (·.2), n, rfl, upd_same, pm, wk, srt, fun H4 b4 wb _ => ⟨rfl, ?_⟩⟩⟩
        have s34 : Same H3 H4 := make_same4 b4 nx nd
        have hl4 := s34 _ _ (b3 _ _ hl (pu2.cup.ne_refs (ps := ps.map (·.1)) (by rw [← refs_eq]; exact hl)))
        refine ⟨_, rfl, l, ps, n, rfl, hl4, (hA.but pu2.cup b3).same s34, wk, fun dl ds H5 s5 dr ndl nds => ⟨_, _, rfl, ?_⟩⟩
        exact ⟨kp2.trans (b3.kp.trans (Same.trans s34 s5).kp), (pu3.same s34).same s5, s5 _ _ hl4, x, dl, ds, wb.same s5, dr, rfl⟩
      rintro σ H3 ⟨kp3, pu3, hl3, x, dl, ds, wb, dr, rfl⟩
      refine ⟨fun σ H' => Same H3 H' ∧ ∃ o : Option V, σ = [some (.ref c), some (.int ((0 : Int) + (i : Int))), some (.ref l), some (.ref x), some (.ref dl), o], ?_, ?_⟩
      · refine ⟨_, rfl, dl, _, rfl, .inl (SqL.of dr.hl), _, rfl, by omega, by rw [List.length_map, dr.len]; omega, ?_⟩
        rw [List.length_map, dr.len, show ((n : Nat) : Int).toNat = n from Int.toNat_natCast n]
        refine for_range (lo := 0) (n := n) (fun j σ H' => Same H3 H' ∧ ∃ o : Option V, σ = [some (.ref c), some (.int ((0 : Int) + (i : Int))), some (.ref l), some (.ref x), some (.ref dl), o]) ⟨fun _ _ e => e, w5, rfl⟩ ?_ (fun σ H' z => z)
        rintro j σ H4 hj ⟨s4, o, rfl⟩
        rw [show (0 : Int) + (j : Int) = (j : Int) from Int.zero_add _]
        exact ⟨_, rfl, _, rfl, _, rfl, x, dl, ds, n, _, _, j, rfl, wb.same s4, dr.same s4, .refl _, hj, fun H5 s5 => ⟨true, rfl, iteF ⟨Same.trans s4 s5, _, rfl⟩⟩⟩
      rintro σ H4 ⟨s4, o, rfl⟩
      have wb4 := wb.same s4
      refine ⟨_, rfl, x, n, _, 0, rfl, wb4, by omega, fun us H5 s5 pm5 st5 => ⟨_, rfl, x, n, _, 0, rfl, wb4.same s5, by omega, fun vs H6 s6 pm6 st6 => ⟨rfl, _, rfl, ?_⟩⟩⟩
      rw [ties_uniq st5 st6 (pm5.trans pm6.symm), decide_eq_true rfl]
      have s46 := Same.trans s4 (Same.trans s5 s6)
      refine iteF ⟨_, rfl, x, n, _, rfl, (wb4.same s5).same s6, _, rfl, l, _, rfl, .inl (SqL.of (s46 _ _ hl3)), _, _, rfl, rfl, .inl ⟨by decide, by decide⟩, rfl, _, rfl, ?_⟩
      rw [refs_len, List.length_map, decide_eq_true rfl]
      exact iteF ⟨kp3.trans s46.kp, (pu3.same s46).le (by omega), _, _, _, _, _, rfl⟩
    rintro σ H2 ⟨kp2, pu2, w1, w2, w3, w4, w5, rfl⟩
    refine ⟨fun σ H' => Kp c H H' ∧ ∃ w1 w2 w3 w4 w5 : Option V, σ = [some (.ref c), w1, w2, w3, w4, w5], ?_, ?_⟩
    · refine ⟨_, rfl, c, 8, 3000, rfl, pu2, by omega, by decide, by decide, fun r H3 b3 pu3 r0 r1 => ⟨_, _, rfl, rfl, ?_⟩⟩
      obtain ⟨j, rfl⟩ := Int.eq_ofNat_of_zero_le r0
      refine ⟨3 + j, ?_, by omega, by omega, fun y1 t1 H4 s4 pm1 wb1 => ⟨rfl, fun y2 t2 H5 s5 pm2 wb2 => ⟨by show 2 ≤ sizeLine; decide, fun L nL => ⟨L, rfl, ⟨_, SqL.of upd_same⟩, ?_⟩⟩⟩⟩
      · show [V.int ((3 : Int) + (j : Int))] = [V.int ((3 + j : Nat) : Int)]
        rw [show ((3 : Int) + (j : Int)) = ((3 + j : Nat) : Int) by omega]
      refine for_list (K := K) (a := L) (xs := [.ref y1, .ref y2]) (fun q σ H' => Kp c H H' ∧ Pur (3001 + q) H' c ∧ H' L = some (.lst [.ref y1, .ref y2]) ∧ WebAt F.C H' y1 (3 + j) t1 ∧ WebAt F.C H' y2 9 t2 ∧ ∃ w1 w2 w3 w4 w5 : Option V, σ = [some (.ref c), w1, w2, w3, w4, w5])
        ⟨kp2.trans (b3.kp.trans ((Same.trans s4 s5).put nL).kp), ((pu3.same s4).same s5).put nL, upd_same, (wb1.same s5).same (same_upd nL), wb2.same (same_upd nL), w1, w2, w3, w4, w5, rfl⟩ (fun i σ H' _ ⟨_, _, e, _⟩ => SqL.of e) ?_ (fun σ H' ⟨a, _, _, _, _, w⟩ => ⟨a, w⟩)
      rintro q v σ H6 hv ⟨kp6, pu6, hL, v1, v2, w1, w2, w3, w4, w5, rfl⟩
      obtain ⟨x, n, ts, rfl, wb⟩ : ∃ x n ts, v = .ref x ∧ WebAt F.C H6 x n ts := by
        match q, hv with
        | 0, hv => exact ⟨y1, 3 + j, t1, (Option.some.inj hv).symm, v1⟩
        | 1, hv => exact ⟨y2, 9, t2, (Option.some.inj hv).symm, v2⟩
        | q + 2, hv => exact absurd hv (by simp)
      have q2 : q < 2 := (List.getElem?_eq_some_iff.mp hv).1
      have n2 := wb.wk.n2
      have n10 := wb.wk.n10
      obtain ⟨dx, fs, hx⟩ := wb.isI
      refine ⟨_, rfl, _, rfl, x, dx, fs, rfl, hx, x, n, ts, rfl, wb, fun t us ht hA pm st => ⟨t, _, rfl, .inr (SqT.of ht), fun l nl => ?_⟩⟩
      have sl := same_upd nl (H := H6) (o := .lst (refs us))
      refine ⟨l, us, n, rfl, upd_same, hA.same sl, wb.wk.perm pm.symm, fun dl ds H7 s7 dr ndl nds => ?_⟩
      have s67 := Same.trans sl s7
      refine ⟨_, rfl, _, rfl, x, dx, fs, rfl, s67 _ _ hx, x, n, ts, rfl, wb.same s67, c, (n : Int), 3001 + q, rfl, pu6.same s67, by omega, by omega, by omega, fun r H8 b8 pu8 r0 r1 => ?_⟩
      obtain ⟨h, rfl⟩ := Int.eq_ofNat_of_zero_le r0
      have cu := (pu6.same s67).cup
      refine ⟨x, dl, ds, n, ts, _, h, rfl, (wb.same s67).kp b8.kp cu, dr.kp b8.kp cu, pm, by omega, fun H9 s9 => ⟨true, rfl, iteF ?_⟩⟩
      have kk : Kp c H6 H9 := (s67.kp.trans b8.kp).trans s9.kp
      refine ⟨kp6.trans kk, pu8.same s9, kk _ _ hL ?_ (fun ps z => by cases z), v1.kp kk pu6.cup, v2.kp kk pu6.cup, _, _, _, _, _, rfl⟩
      exact pu6.cup.ne_refs (ps := [y1, y2]) hL
    rintro σ H3 ⟨kp3, w1, w2, w3, w4, w5, rfl⟩
    refine ⟨rfl, fun y ts H4 s4 pm wb => ⟨y, 9, ts, rfl, wb, rfl, _, rfl, ?_⟩⟩
    have l18 : ts.length = 18 := by rw [pm.length_eq]; decide +kernel
    rw [l18, decide_eq_true (by decide)]
    refine iteT ⟨7, rfl, by decide, by decide, fun z us H5 s5 pm2 wb2 => ⟨z, 7, us, rfl, wb2, rfl, ?_⟩⟩
    have l7 : us.length = 7 := by rw [pm2.length_eq]; decide +kernel
    rw [l7, decide_eq_true (by decide)]
    exact k _ (kp3.trans (Same.trans s4 s5).kp)
end
end Wh

namespace Wh
open PySem L2
abbrev sLaw : Stmt := topS 61
theorem scLaw : FnScope ["script", "k"] ["script"] (defScope sLaw) := ⟨rfl, rfl, rfl, by decide +kernel, rfl, by decide +kernel, by decide +kernel⟩
section
variable {P : Program} {w : World} {K : PySem.W.Frag} {mg : Str → Option Value} {base : Heap}
def spLaw (K : PySem.W.Frag) : Sp := fun vs H Q _ => ∃ (a : Addr) (ns : List Int), vs = [.ref a] ∧ SqL K H a (ns.map V.int) ∧ ∀ H', Q (.bl true) H'
theorem sq_own {K : PySem.W.Frag} {H : Hp} {a D : Addr} {xs : List V} (h : SqL K H a xs) (n : H D = none) : (∀ H', SqL K H' a xs) ∨ a ≠ D := by
  rcases h with (h | ⟨o, h⟩) | h
  · exact .inr (ne_of_none h n)
  · exact .inr (ne_of_none h n)
  · exact .inl fun _ => .inr h
theorem sq_upd {K : PySem.W.Frag} {H : Hp} {a D : Addr} {xs : List V} {o : HO} (d : (∀ H', SqL K H' a xs) ∨ a ≠ D) (h : SqL K H a xs) : SqL K (upd H D o) a xs := by
  rcases d with d | d
  · exact d _
  · rcases h with (h | ⟨o, h⟩) | h
    · exact .inl (.inl (put_ne h d))
    · exact .inl (.inr ⟨o, put_ne h d⟩)
    · exact .inr h
theorem sq_kp {K : PySem.W.Frag} {H H1 : Hp} {a c : Addr} {xs : List V} (h : SqL K H a xs) (k : Kp c H H1) (n : H c = none) : SqL K H1 a xs := by
  rcases h with (h | ⟨o, h⟩) | h
  · exact .inl (.inl (k _ _ h (ne_of_none h n) (fun ps z => by cases z)))
  · exact .inl (.inr ⟨o, k _ _ h (ne_of_none h n) (fun ps z => by cases z)⟩)
  · exact .inr h
set_option maxHeartbeats 8000000 in
theorem ok_law (F : RF P w K mg base) {f fR fC : Addr} {fd fdR fdC : FuncData} (FL : Fun K "law" "law" sLaw f fd) (GRight : FnOk P w K mg base CX0 13 fR fdR ["purse"] spRight) (bRight : Binds K fdR ["purse"] []) (mRight : mg "_law_right" = some (.ref fR)) (kRight : PySem.W.keepIn K (.ref fR) = true)
    (GPu : FnOk P w K mg base CX0 1 fC fdC ["script", "k"] (spPurse K)) (bPu : Binds K fdC ["script", "k"] []) (mPu : mg "_law_purse" = some (.ref fC)) (kPu : PySem.W.keepIn K (.ref fC) = true) (mall : mg "all" = none) (mmax : mg "max" = none) (mmin : mg "min" = none) :
    FnOk P w K mg base CX0 14 f fd ["script"] (spLaw K) := by
  refine FL.ok scLaw (fun vs H Q E h => ?_) (fun cdv A outer s H vs Q E hr h => ?_)
  · obtain ⟨a, ns, rfl, _⟩ := h
    rfl
  · obtain ⟨a, ns, rfl, ha, k⟩ := h
    have hr13 : Room 13 _ := hr
    have hr1 : Room 1 _ := hr.mono (by decide)
    refine ⟨_, (pss_one (ps_ret (pe_callB (cr_all rfl) (by rfl) mall (by decide +kernel) (pa_cons (pe_lc (own := [("k", 1)]) (g := gName 1) (tt := tYes) rfl scLaw.nd (pi_range1 (by rfl) F.mrange (pa_cons (pe_callB (call_max2 rfl) (by rfl) mmax (by decide +kernel) (pa_cons pe_int (pa_cons (pe_callB (call_min2 rfl) (by rfl) mmin (by decide +kernel) (pa_cons (pe_callB call_len_seq (by rfl) F.mlen PySem.boot_len (pa_cons (pv 0) pa_nil)) (pa_cons pe_int pa_nil))) pa_nil))) pa_nil)) (blkOk_by (N := ["script", "k"]) (own := [("k", 1)]) (sc := defScope sLaw) (by decide +kernel)) (fun _ _ _ _ _ => (pg_name (i := 1) scLaw.nd rfl (.inl rfl))) (fun _ _ _ _ _ => pts_nil) (fun _ _ _ _ _ => (pe_call GRight hr13 (by rfl) mRight kRight bRight .nil pass0 (pa_cons (pe_call GPu hr1 (by rfl) mPu kPu bPu .nil pass0 (pa_cons (pv 0) (pa_cons (pv 1) pa_nil))) pa_nil)))) pa_nil)))), ?_⟩
    refine ⟨_, rfl, a, _, rfl, .inl ha, _, _, rfl, _, _, rfl, ?_⟩
    have hb : ∀ L : Int, 0 ≤ L → 0 ≤ (if (if 6 < L then 6 else L) > 2 then (if 6 < L then 6 else L) else 2) ∧ (if (if 6 < L then 6 else L) > 2 then (if 6 < L then 6 else L) else 2) ≤ 6 := fun L h => by
      split <;> split <;> omega
    have hb1 := hb ((ns.map V.int).length : Int) (by omega)
    refine ⟨_, rfl, ?_, ?_, fun D nD => ?_⟩
    · exact Int.le_trans (by decide) hb1.1
    · exact Int.lt_of_le_of_lt hb1.2 (by decide)
    have hb2 : (if (if 6 < ((ns.map V.int).length : Int) then 6 else ((ns.map V.int).length : Int)) > 2 then (if 6 < ((ns.map V.int).length : Int) then 6 else ((ns.map V.int).length : Int)) else 2).toNat ≤ 6 := by omega
    have own := sq_own ha nD
    refine lc_range (lo := 0) (n := _) (fun j H' => SqL K H' a (ns.map V.int) ∧ H' D = some (.lst ((List.replicate j true).map V.bl))) ⟨(same_upd nD).seq ha, upd_same⟩ ?_ ?_
    · rintro j H3 hj ⟨ha3, hD⟩
      rw [show (0 : Int) + (j : Int) = (j : Int) from Int.zero_add _]
      refine ⟨rfl, _, rfl, _, rfl, a, ns, j, rfl, ha3, by omega, fun c H4 s4 nc pu4 => ⟨c, rfl, pu4, fun H5 kp5 => ?_⟩⟩
      have kk : Kp c H3 H5 := s4.kp.trans kp5
      have hD5 : H5 D = some (.lst ((List.replicate j true).map V.bl)) := kk _ _ hD (ne_of_none hD nc) (fun ps z => by cases z)
      refine ⟨_, hD5, ?_, ?_, ?_⟩
      · rw [List.length_map, List.length_replicate]
        exact small1000 (by omega)
      · exact sq_upd own (sq_kp ha3 kk nc)
      · rw [upd_same, List.replicate_succ', List.map_append]
        rfl
    · rintro H3 ⟨ha3, hD⟩
      refine ⟨D, _, rfl, SqL.of hD, ?_⟩
      rw [show (List.replicate _ true).all id = true from List.all_eq_true.mpr fun b hb => (List.mem_replicate.mp hb).2]
      exact k H3
end
end Wh

namespace Wh
open PySem PySem.Spec PyProof.Rows L2

theorem kit_ref {K : PySem.W.Frag} {A C : Addr} {b : Bool} (h : (Value.ref A == Value.ref C) = false) (hdct : PySem.W.hasDictIn K C = true) (ht : PySem.W.typeIn K (.ref C) = some (.type "type")) (hs : PySem.W.subIn K (.ref A) (.ref C) = some b) : PySem.W.kitOne K (.ref A) (.ref C) = some b := by
  obtain ⟨cd, hc, _⟩ := PySem.W.any_some hdct
  have e2 : ((PySem.W.clsIn K C).isSome && PySem.W.typeIn K (.ref C) == some (.type "type")) = true := by rw [hc, ht] <;> rfl
  show (if (Value.ref A == Value.ref C) = true then some true else if ((PySem.W.clsIn K C).isSome && PySem.W.typeIn K (.ref C) == some (.type "type")) = true then PySem.W.subIn K (.ref A) (.ref C) else none) = some b
  rw [h, if_neg Bool.false_ne_true, if_pos e2]
  exact hs
theorem kit_self {K : PySem.W.Frag} {A : Addr} : PySem.W.kitOne K (.ref A) (.ref A) = some true := by
  show (if (Value.ref A == Value.ref A) = true then some true else _) = some true
  rw [if_pos (by simp)]
theorem exm4 {K : PySem.W.Frag} {cls c1 c2 c3 c4 : Value} (h1 : PySem.W.exmOne K cls c1 = some false) (h2 : PySem.W.exmOne K cls c2 = some false) (h3 : PySem.W.exmOne K cls c3 = some true) (h4 : PySem.W.exmOne K cls c4 = some false) : PySem.W.exmAny K cls [c1, c2, c3, c4] = some true := by
  simp [PySem.W.exmAny, h1, h2, h3, h4]

set_option maxHeartbeats 8000000 in
theorem all_mk {l : PySem.W.OpenLaw} {w : World} {K : PySem.W.Frag} {h : Heap} {mg : Str → Option Value} {fa : Addr} (X : K.In h) (G : h.Ns mainGlobals mg) (hfa : mg "law" = some (.ref fa))
    {f_law_purse f_law_take f_law_edges f_law_free f_law_ties f_law_plain f_law_text f_law_right f_law f_read_ties f_read_torn f_read_line f_may_be_mark f_read_house f_read_number f_tie_between f_are_apart f_hang_together f_count_houses f_plain_text f_is_integer f_is_count f_is_index f_is_house f_is_mark f_doors_of f_law_roads f_law_visit_right f_visit f_ways_of f_visit_behind f_steps_without f_check_house f_check_web f_is_word f_check_round f_web_of f_ring f_board C f_Winit f_Wcheck_house f_Wat f_Wgo p_Whouses f_Whouses p_Wties f_Wties : Addr}
    {od_law_purse an_law_purse : Option Addr} {sl_law_purse : Array (Option Value)} {kV_law_purse dc_law_purse pm_law_purse ct_law_purse cd_law_purse : Value}
    {od_law_take an_law_take : Option Addr} {sl_law_take : Array (Option Value)} {kV_law_take dc_law_take pm_law_take ct_law_take cd_law_take : Value}
    {od_law_edges an_law_edges : Option Addr} {sl_law_edges : Array (Option Value)} {kV_law_edges dc_law_edges pm_law_edges ct_law_edges cd_law_edges : Value}
    {od_law_free an_law_free : Option Addr} {sl_law_free : Array (Option Value)} {kV_law_free dc_law_free pm_law_free ct_law_free cd_law_free : Value}
    {od_law_ties an_law_ties : Option Addr} {sl_law_ties : Array (Option Value)} {kV_law_ties dc_law_ties pm_law_ties ct_law_ties cd_law_ties : Value}
    {od_law_plain an_law_plain : Option Addr} {sl_law_plain : Array (Option Value)} {kV_law_plain dc_law_plain pm_law_plain ct_law_plain cd_law_plain : Value}
    {od_law_text an_law_text : Option Addr} {sl_law_text : Array (Option Value)} {kV_law_text dc_law_text pm_law_text ct_law_text cd_law_text : Value}
    {od_law_right an_law_right : Option Addr} {sl_law_right : Array (Option Value)} {kV_law_right dc_law_right pm_law_right ct_law_right cd_law_right : Value}
    {od_law an_law : Option Addr} {sl_law : Array (Option Value)} {kV_law dc_law pm_law ct_law cd_law : Value}
    {od_read_ties an_read_ties : Option Addr} {sl_read_ties : Array (Option Value)} {kV_read_ties dc_read_ties pm_read_ties ct_read_ties cd_read_ties : Value}
    {od_read_torn an_read_torn : Option Addr} {sl_read_torn : Array (Option Value)} {kV_read_torn dc_read_torn pm_read_torn ct_read_torn cd_read_torn : Value}
    {od_read_line an_read_line : Option Addr} {sl_read_line : Array (Option Value)} {kV_read_line dc_read_line pm_read_line ct_read_line cd_read_line : Value}
    {od_may_be_mark an_may_be_mark : Option Addr} {sl_may_be_mark : Array (Option Value)} {kV_may_be_mark dc_may_be_mark pm_may_be_mark ct_may_be_mark cd_may_be_mark : Value}
    {od_read_house an_read_house : Option Addr} {sl_read_house : Array (Option Value)} {kV_read_house dc_read_house pm_read_house ct_read_house cd_read_house : Value}
    {od_read_number an_read_number : Option Addr} {sl_read_number : Array (Option Value)} {kV_read_number dc_read_number pm_read_number ct_read_number cd_read_number : Value}
    {od_tie_between an_tie_between : Option Addr} {sl_tie_between : Array (Option Value)} {kV_tie_between dc_tie_between pm_tie_between ct_tie_between cd_tie_between : Value}
    {od_are_apart an_are_apart : Option Addr} {sl_are_apart : Array (Option Value)} {kV_are_apart dc_are_apart pm_are_apart ct_are_apart cd_are_apart : Value}
    {od_hang_together an_hang_together : Option Addr} {sl_hang_together : Array (Option Value)} {kV_hang_together dc_hang_together pm_hang_together ct_hang_together cd_hang_together : Value}
    {od_count_houses an_count_houses : Option Addr} {sl_count_houses : Array (Option Value)} {kV_count_houses dc_count_houses pm_count_houses ct_count_houses cd_count_houses : Value}
    {od_plain_text an_plain_text : Option Addr} {sl_plain_text : Array (Option Value)} {kV_plain_text dc_plain_text pm_plain_text ct_plain_text cd_plain_text : Value}
    {od_is_integer an_is_integer : Option Addr} {sl_is_integer : Array (Option Value)} {kV_is_integer dc_is_integer pm_is_integer ct_is_integer cd_is_integer : Value}
    {od_is_count an_is_count : Option Addr} {sl_is_count : Array (Option Value)} {kV_is_count dc_is_count pm_is_count ct_is_count cd_is_count : Value}
    {od_is_index an_is_index : Option Addr} {sl_is_index : Array (Option Value)} {kV_is_index dc_is_index pm_is_index ct_is_index cd_is_index : Value}
    {od_is_house an_is_house : Option Addr} {sl_is_house : Array (Option Value)} {kV_is_house dc_is_house pm_is_house ct_is_house cd_is_house : Value}
    {od_is_mark an_is_mark : Option Addr} {sl_is_mark : Array (Option Value)} {kV_is_mark dc_is_mark pm_is_mark ct_is_mark cd_is_mark : Value}
    {od_doors_of an_doors_of : Option Addr} {sl_doors_of : Array (Option Value)} {kV_doors_of dc_doors_of pm_doors_of ct_doors_of cd_doors_of : Value}
    {od_law_roads an_law_roads : Option Addr} {sl_law_roads : Array (Option Value)} {kV_law_roads dc_law_roads pm_law_roads ct_law_roads cd_law_roads : Value}
    {od_law_visit_right an_law_visit_right : Option Addr} {sl_law_visit_right : Array (Option Value)} {kV_law_visit_right dc_law_visit_right pm_law_visit_right ct_law_visit_right cd_law_visit_right : Value}
    {od_visit an_visit : Option Addr} {sl_visit : Array (Option Value)} {kV_visit dc_visit pm_visit ct_visit cd_visit : Value}
    {od_ways_of an_ways_of : Option Addr} {sl_ways_of : Array (Option Value)} {kV_ways_of dc_ways_of pm_ways_of ct_ways_of cd_ways_of : Value}
    {od_visit_behind an_visit_behind : Option Addr} {sl_visit_behind : Array (Option Value)} {kV_visit_behind dc_visit_behind pm_visit_behind ct_visit_behind cd_visit_behind : Value}
    {od_steps_without an_steps_without : Option Addr} {sl_steps_without : Array (Option Value)} {kV_steps_without dc_steps_without pm_steps_without ct_steps_without cd_steps_without : Value}
    {od_check_house an_check_house : Option Addr} {sl_check_house : Array (Option Value)} {kV_check_house dc_check_house pm_check_house ct_check_house cd_check_house : Value}
    {od_check_web an_check_web : Option Addr} {sl_check_web : Array (Option Value)} {kV_check_web dc_check_web pm_check_web ct_check_web cd_check_web : Value}
    {od_is_word an_is_word : Option Addr} {sl_is_word : Array (Option Value)} {kV_is_word dc_is_word pm_is_word ct_is_word cd_is_word : Value}
    {od_check_round an_check_round : Option Addr} {sl_check_round : Array (Option Value)} {kV_check_round dc_check_round pm_check_round ct_check_round cd_check_round : Value}
    {od_web_of an_web_of : Option Addr} {sl_web_of : Array (Option Value)} {kV_web_of dc_web_of pm_web_of ct_web_of cd_web_of : Value}
    {od_ring an_ring : Option Addr} {sl_ring : Array (Option Value)} {kV_ring dc_ring pm_ring ct_ring cd_ring : Value}
    {od_board an_board : Option Addr} {sl_board : Array (Option Value)} {kV_board dc_board pm_board ct_board cd_board : Value}
    {od_Winit an_Winit : Option Addr} {sl_Winit : Array (Option Value)} {kV_Winit dc_Winit pm_Winit ct_Winit cd_Winit : Value}
    {od_Wcheck_house an_Wcheck_house : Option Addr} {sl_Wcheck_house : Array (Option Value)} {kV_Wcheck_house dc_Wcheck_house pm_Wcheck_house ct_Wcheck_house cd_Wcheck_house : Value}
    {od_Wat an_Wat : Option Addr} {sl_Wat : Array (Option Value)} {kV_Wat dc_Wat pm_Wat ct_Wat cd_Wat : Value}
    {od_Wgo an_Wgo : Option Addr} {sl_Wgo : Array (Option Value)} {kV_Wgo dc_Wgo pm_Wgo ct_Wgo cd_Wgo : Value}
    {rs_Whouses : List Value}
    {od_Whouses an_Whouses : Option Addr} {sl_Whouses : Array (Option Value)} {kV_Whouses dc_Whouses pm_Whouses ct_Whouses cd_Whouses : Value}
    {rs_Wties : List Value}
    {od_Wties an_Wties : Option Addr} {sl_Wties : Array (Option Value)} {kV_Wties dc_Wties pm_Wties ct_Wties cd_Wties : Value}
    {tk_MOST_HOUSES : Tok}
    {tk_MARKS : Tok}
    {tk_UNREAD : Tok}
    {tk_MOST_WORD : Tok}
    {tk_LEAST_ROUND : Tok}
    (a_law_purse : PySem.W.nsIn K mainGlobals "_law_purse" = some (some (.ref f_law_purse)))
    (l_law_purse : K.lookup f_law_purse = some ⟨.type "function", od_law_purse, .func (PySem.W.fnOf "_law_purse" "_law_purse" (defArgs sPurse) (defBody sPurse) (defScope sPurse) .none kV_law_purse dc_law_purse pm_law_purse an_law_purse cd_law_purse ct_law_purse), sl_law_purse⟩)
    (c_law_purse : PySem.W.codeIn K cd_law_purse "_law_purse" = true)
    (k_law_purse : PySem.W.keepIn K (.ref f_law_purse) = true)
    (a_law_take : PySem.W.nsIn K mainGlobals "_law_take" = some (some (.ref f_law_take)))
    (l_law_take : K.lookup f_law_take = some ⟨.type "function", od_law_take, .func (PySem.W.fnOf "_law_take" "_law_take" (defArgs sTake) (defBody sTake) (defScope sTake) .none kV_law_take dc_law_take pm_law_take an_law_take cd_law_take ct_law_take), sl_law_take⟩)
    (c_law_take : PySem.W.codeIn K cd_law_take "_law_take" = true)
    (k_law_take : PySem.W.keepIn K (.ref f_law_take) = true)
    (a_law_edges : PySem.W.nsIn K mainGlobals "_law_edges" = some (some (.ref f_law_edges)))
    (l_law_edges : K.lookup f_law_edges = some ⟨.type "function", od_law_edges, .func (PySem.W.fnOf "_law_edges" "_law_edges" (defArgs sEdges) (defBody sEdges) (defScope sEdges) .none kV_law_edges dc_law_edges pm_law_edges an_law_edges cd_law_edges ct_law_edges), sl_law_edges⟩)
    (c_law_edges : PySem.W.codeIn K cd_law_edges "_law_edges" = true)
    (k_law_edges : PySem.W.keepIn K (.ref f_law_edges) = true)
    (a_law_free : PySem.W.nsIn K mainGlobals "_law_free" = some (some (.ref f_law_free)))
    (l_law_free : K.lookup f_law_free = some ⟨.type "function", od_law_free, .func (PySem.W.fnOf "_law_free" "_law_free" (defArgs sFree) (defBody sFree) (defScope sFree) .none kV_law_free dc_law_free pm_law_free an_law_free cd_law_free ct_law_free), sl_law_free⟩)
    (c_law_free : PySem.W.codeIn K cd_law_free "_law_free" = true)
    (k_law_free : PySem.W.keepIn K (.ref f_law_free) = true)
    (a_law_ties : PySem.W.nsIn K mainGlobals "_law_ties" = some (some (.ref f_law_ties)))
    (l_law_ties : K.lookup f_law_ties = some ⟨.type "function", od_law_ties, .func (PySem.W.fnOf "_law_ties" "_law_ties" (defArgs sTies3) (defBody sTies3) (defScope sTies3) .none kV_law_ties dc_law_ties pm_law_ties an_law_ties cd_law_ties ct_law_ties), sl_law_ties⟩)
    (c_law_ties : PySem.W.codeIn K cd_law_ties "_law_ties" = true)
    (k_law_ties : PySem.W.keepIn K (.ref f_law_ties) = true)
    (a_law_plain : PySem.W.nsIn K mainGlobals "_law_plain" = some (some (.ref f_law_plain)))
    (l_law_plain : K.lookup f_law_plain = some ⟨.type "function", od_law_plain, .func (PySem.W.fnOf "_law_plain" "_law_plain" (defArgs sPlain3) (defBody sPlain3) (defScope sPlain3) .none kV_law_plain dc_law_plain pm_law_plain an_law_plain cd_law_plain ct_law_plain), sl_law_plain⟩)
    (c_law_plain : PySem.W.codeIn K cd_law_plain "_law_plain" = true)
    (k_law_plain : PySem.W.keepIn K (.ref f_law_plain) = true)
    (a_law_text : PySem.W.nsIn K mainGlobals "_law_text" = some (some (.ref f_law_text)))
    (l_law_text : K.lookup f_law_text = some ⟨.type "function", od_law_text, .func (PySem.W.fnOf "_law_text" "_law_text" (defArgs sText3) (defBody sText3) (defScope sText3) .none kV_law_text dc_law_text pm_law_text an_law_text cd_law_text ct_law_text), sl_law_text⟩)
    (c_law_text : PySem.W.codeIn K cd_law_text "_law_text" = true)
    (k_law_text : PySem.W.keepIn K (.ref f_law_text) = true)
    (a_law_right : PySem.W.nsIn K mainGlobals "_law_right" = some (some (.ref f_law_right)))
    (l_law_right : K.lookup f_law_right = some ⟨.type "function", od_law_right, .func (PySem.W.fnOf "_law_right" "_law_right" (defArgs sRight) (defBody sRight) (defScope sRight) .none kV_law_right dc_law_right pm_law_right an_law_right cd_law_right ct_law_right), sl_law_right⟩)
    (c_law_right : PySem.W.codeIn K cd_law_right "_law_right" = true)
    (k_law_right : PySem.W.keepIn K (.ref f_law_right) = true)
    (a_law : PySem.W.nsIn K mainGlobals "law" = some (some (.ref f_law)))
    (l_law : K.lookup f_law = some ⟨.type "function", od_law, .func (PySem.W.fnOf "law" "law" (defArgs sLaw) (defBody sLaw) (defScope sLaw) .none kV_law dc_law pm_law an_law cd_law ct_law), sl_law⟩)
    (c_law : PySem.W.codeIn K cd_law "law" = true)
    (k_law : PySem.W.keepIn K (.ref f_law) = true)
    (a_read_ties : PySem.W.nsIn K mainGlobals "read_ties" = some (some (.ref f_read_ties)))
    (l_read_ties : K.lookup f_read_ties = some ⟨.type "function", od_read_ties, .func (PySem.W.fnOf "read_ties" "read_ties" (defArgs sTies) (defBody sTies) (defScope sTies) .none kV_read_ties dc_read_ties pm_read_ties an_read_ties cd_read_ties ct_read_ties), sl_read_ties⟩)
    (c_read_ties : PySem.W.codeIn K cd_read_ties "read_ties" = true)
    (k_read_ties : PySem.W.keepIn K (.ref f_read_ties) = true)
    (a_read_torn : PySem.W.nsIn K mainGlobals "read_torn" = some (some (.ref f_read_torn)))
    (l_read_torn : K.lookup f_read_torn = some ⟨.type "function", od_read_torn, .func (PySem.W.fnOf "read_torn" "read_torn" (defArgs sTorn) (defBody sTorn) (defScope sTorn) .none kV_read_torn dc_read_torn pm_read_torn an_read_torn cd_read_torn ct_read_torn), sl_read_torn⟩)
    (c_read_torn : PySem.W.codeIn K cd_read_torn "read_torn" = true)
    (k_read_torn : PySem.W.keepIn K (.ref f_read_torn) = true)
    (a_read_line : PySem.W.nsIn K mainGlobals "read_line" = some (some (.ref f_read_line)))
    (l_read_line : K.lookup f_read_line = some ⟨.type "function", od_read_line, .func (PySem.W.fnOf "read_line" "read_line" (defArgs sLine) (defBody sLine) (defScope sLine) .none kV_read_line dc_read_line pm_read_line an_read_line cd_read_line ct_read_line), sl_read_line⟩)
    (c_read_line : PySem.W.codeIn K cd_read_line "read_line" = true)
    (k_read_line : PySem.W.keepIn K (.ref f_read_line) = true)
    (a_may_be_mark : PySem.W.nsIn K mainGlobals "may_be_mark" = some (some (.ref f_may_be_mark)))
    (l_may_be_mark : K.lookup f_may_be_mark = some ⟨.type "function", od_may_be_mark, .func (PySem.W.fnOf "may_be_mark" "may_be_mark" (defArgs sMay) (defBody sMay) (defScope sMay) .none kV_may_be_mark dc_may_be_mark pm_may_be_mark an_may_be_mark cd_may_be_mark ct_may_be_mark), sl_may_be_mark⟩)
    (c_may_be_mark : PySem.W.codeIn K cd_may_be_mark "may_be_mark" = true)
    (k_may_be_mark : PySem.W.keepIn K (.ref f_may_be_mark) = true)
    (a_read_house : PySem.W.nsIn K mainGlobals "read_house" = some (some (.ref f_read_house)))
    (l_read_house : K.lookup f_read_house = some ⟨.type "function", od_read_house, .func (PySem.W.fnOf "read_house" "read_house" (defArgs sRHouse) (defBody sRHouse) (defScope sRHouse) .none kV_read_house dc_read_house pm_read_house an_read_house cd_read_house ct_read_house), sl_read_house⟩)
    (c_read_house : PySem.W.codeIn K cd_read_house "read_house" = true)
    (k_read_house : PySem.W.keepIn K (.ref f_read_house) = true)
    (a_read_number : PySem.W.nsIn K mainGlobals "read_number" = some (some (.ref f_read_number)))
    (l_read_number : K.lookup f_read_number = some ⟨.type "function", od_read_number, .func (PySem.W.fnOf "read_number" "read_number" (defArgs sRNum) (defBody sRNum) (defScope sRNum) .none kV_read_number dc_read_number pm_read_number an_read_number cd_read_number ct_read_number), sl_read_number⟩)
    (c_read_number : PySem.W.codeIn K cd_read_number "read_number" = true)
    (k_read_number : PySem.W.keepIn K (.ref f_read_number) = true)
    (a_tie_between : PySem.W.nsIn K mainGlobals "tie_between" = some (some (.ref f_tie_between)))
    (l_tie_between : K.lookup f_tie_between = some ⟨.type "function", od_tie_between, .func (PySem.W.fnOf "tie_between" "tie_between" (defArgs sBetw) (defBody sBetw) (defScope sBetw) .none kV_tie_between dc_tie_between pm_tie_between an_tie_between cd_tie_between ct_tie_between), sl_tie_between⟩)
    (c_tie_between : PySem.W.codeIn K cd_tie_between "tie_between" = true)
    (k_tie_between : PySem.W.keepIn K (.ref f_tie_between) = true)
    (a_are_apart : PySem.W.nsIn K mainGlobals "are_apart" = some (some (.ref f_are_apart)))
    (l_are_apart : K.lookup f_are_apart = some ⟨.type "function", od_are_apart, .func (PySem.W.fnOf "are_apart" "are_apart" (defArgs sApart) (defBody sApart) (defScope sApart) .none kV_are_apart dc_are_apart pm_are_apart an_are_apart cd_are_apart ct_are_apart), sl_are_apart⟩)
    (c_are_apart : PySem.W.codeIn K cd_are_apart "are_apart" = true)
    (k_are_apart : PySem.W.keepIn K (.ref f_are_apart) = true)
    (a_hang_together : PySem.W.nsIn K mainGlobals "hang_together" = some (some (.ref f_hang_together)))
    (l_hang_together : K.lookup f_hang_together = some ⟨.type "function", od_hang_together, .func (PySem.W.fnOf "hang_together" "hang_together" (defArgs sHang) (defBody sHang) (defScope sHang) .none kV_hang_together dc_hang_together pm_hang_together an_hang_together cd_hang_together ct_hang_together), sl_hang_together⟩)
    (c_hang_together : PySem.W.codeIn K cd_hang_together "hang_together" = true)
    (k_hang_together : PySem.W.keepIn K (.ref f_hang_together) = true)
    (a_count_houses : PySem.W.nsIn K mainGlobals "count_houses" = some (some (.ref f_count_houses)))
    (l_count_houses : K.lookup f_count_houses = some ⟨.type "function", od_count_houses, .func (PySem.W.fnOf "count_houses" "count_houses" (defArgs sCount) (defBody sCount) (defScope sCount) .none kV_count_houses dc_count_houses pm_count_houses an_count_houses cd_count_houses ct_count_houses), sl_count_houses⟩)
    (c_count_houses : PySem.W.codeIn K cd_count_houses "count_houses" = true)
    (k_count_houses : PySem.W.keepIn K (.ref f_count_houses) = true)
    (a_plain_text : PySem.W.nsIn K mainGlobals "plain_text" = some (some (.ref f_plain_text)))
    (l_plain_text : K.lookup f_plain_text = some ⟨.type "function", od_plain_text, .func (PySem.W.fnOf "plain_text" "plain_text" (defArgs sPlain) (defBody sPlain) (defScope sPlain) .none kV_plain_text dc_plain_text pm_plain_text an_plain_text cd_plain_text ct_plain_text), sl_plain_text⟩)
    (c_plain_text : PySem.W.codeIn K cd_plain_text "plain_text" = true)
    (k_plain_text : PySem.W.keepIn K (.ref f_plain_text) = true)
    (a_is_integer : PySem.W.nsIn K mainGlobals "is_integer" = some (some (.ref f_is_integer)))
    (l_is_integer : K.lookup f_is_integer = some ⟨.type "function", od_is_integer, .func (PySem.W.fnOf "is_integer" "is_integer" (defArgs sInt) (defBody sInt) (defScope sInt) .none kV_is_integer dc_is_integer pm_is_integer an_is_integer cd_is_integer ct_is_integer), sl_is_integer⟩)
    (c_is_integer : PySem.W.codeIn K cd_is_integer "is_integer" = true)
    (k_is_integer : PySem.W.keepIn K (.ref f_is_integer) = true)
    (a_is_count : PySem.W.nsIn K mainGlobals "is_count" = some (some (.ref f_is_count)))
    (l_is_count : K.lookup f_is_count = some ⟨.type "function", od_is_count, .func (PySem.W.fnOf "is_count" "is_count" (defArgs sCountK) (defBody sCountK) (defScope sCountK) .none kV_is_count dc_is_count pm_is_count an_is_count cd_is_count ct_is_count), sl_is_count⟩)
    (c_is_count : PySem.W.codeIn K cd_is_count "is_count" = true)
    (k_is_count : PySem.W.keepIn K (.ref f_is_count) = true)
    (a_is_index : PySem.W.nsIn K mainGlobals "is_index" = some (some (.ref f_is_index)))
    (l_is_index : K.lookup f_is_index = some ⟨.type "function", od_is_index, .func (PySem.W.fnOf "is_index" "is_index" (defArgs sIndex) (defBody sIndex) (defScope sIndex) .none kV_is_index dc_is_index pm_is_index an_is_index cd_is_index ct_is_index), sl_is_index⟩)
    (c_is_index : PySem.W.codeIn K cd_is_index "is_index" = true)
    (k_is_index : PySem.W.keepIn K (.ref f_is_index) = true)
    (a_is_house : PySem.W.nsIn K mainGlobals "is_house" = some (some (.ref f_is_house)))
    (l_is_house : K.lookup f_is_house = some ⟨.type "function", od_is_house, .func (PySem.W.fnOf "is_house" "is_house" (defArgs sHouse) (defBody sHouse) (defScope sHouse) .none kV_is_house dc_is_house pm_is_house an_is_house cd_is_house ct_is_house), sl_is_house⟩)
    (c_is_house : PySem.W.codeIn K cd_is_house "is_house" = true)
    (k_is_house : PySem.W.keepIn K (.ref f_is_house) = true)
    (a_is_mark : PySem.W.nsIn K mainGlobals "is_mark" = some (some (.ref f_is_mark)))
    (l_is_mark : K.lookup f_is_mark = some ⟨.type "function", od_is_mark, .func (PySem.W.fnOf "is_mark" "is_mark" (defArgs sMark) (defBody sMark) (defScope sMark) .none kV_is_mark dc_is_mark pm_is_mark an_is_mark cd_is_mark ct_is_mark), sl_is_mark⟩)
    (c_is_mark : PySem.W.codeIn K cd_is_mark "is_mark" = true)
    (k_is_mark : PySem.W.keepIn K (.ref f_is_mark) = true)
    (a_doors_of : PySem.W.nsIn K mainGlobals "doors_of" = some (some (.ref f_doors_of)))
    (l_doors_of : K.lookup f_doors_of = some ⟨.type "function", od_doors_of, .func (PySem.W.fnOf "doors_of" "doors_of" (defArgs sDoors) (defBody sDoors) (defScope sDoors) .none kV_doors_of dc_doors_of pm_doors_of an_doors_of cd_doors_of ct_doors_of), sl_doors_of⟩)
    (c_doors_of : PySem.W.codeIn K cd_doors_of "doors_of" = true)
    (k_doors_of : PySem.W.keepIn K (.ref f_doors_of) = true)
    (a_law_roads : PySem.W.nsIn K mainGlobals "_law_roads" = some (some (.ref f_law_roads)))
    (l_law_roads : K.lookup f_law_roads = some ⟨.type "function", od_law_roads, .func (PySem.W.fnOf "_law_roads" "_law_roads" (defArgs sRoads) (defBody sRoads) (defScope sRoads) .none kV_law_roads dc_law_roads pm_law_roads an_law_roads cd_law_roads ct_law_roads), sl_law_roads⟩)
    (c_law_roads : PySem.W.codeIn K cd_law_roads "_law_roads" = true)
    (k_law_roads : PySem.W.keepIn K (.ref f_law_roads) = true)
    (a_law_visit_right : PySem.W.nsIn K mainGlobals "_law_visit_right" = some (some (.ref f_law_visit_right)))
    (l_law_visit_right : K.lookup f_law_visit_right = some ⟨.type "function", od_law_visit_right, .func (PySem.W.fnOf "_law_visit_right" "_law_visit_right" (defArgs sVRight) (defBody sVRight) (defScope sVRight) .none kV_law_visit_right dc_law_visit_right pm_law_visit_right an_law_visit_right cd_law_visit_right ct_law_visit_right), sl_law_visit_right⟩)
    (c_law_visit_right : PySem.W.codeIn K cd_law_visit_right "_law_visit_right" = true)
    (k_law_visit_right : PySem.W.keepIn K (.ref f_law_visit_right) = true)
    (a_visit : PySem.W.nsIn K mainGlobals "visit" = some (some (.ref f_visit)))
    (l_visit : K.lookup f_visit = some ⟨.type "function", od_visit, .func (PySem.W.fnOf "visit" "visit" (defArgs sVisit) (defBody sVisit) (defScope sVisit) .none kV_visit dc_visit pm_visit an_visit cd_visit ct_visit), sl_visit⟩)
    (c_visit : PySem.W.codeIn K cd_visit "visit" = true)
    (k_visit : PySem.W.keepIn K (.ref f_visit) = true)
    (a_ways_of : PySem.W.nsIn K mainGlobals "ways_of" = some (some (.ref f_ways_of)))
    (l_ways_of : K.lookup f_ways_of = some ⟨.type "function", od_ways_of, .func (PySem.W.fnOf "ways_of" "ways_of" (defArgs sWays59) (defBody sWays59) (defScope sWays59) .none kV_ways_of dc_ways_of pm_ways_of an_ways_of cd_ways_of ct_ways_of), sl_ways_of⟩)
    (c_ways_of : PySem.W.codeIn K cd_ways_of "ways_of" = true)
    (k_ways_of : PySem.W.keepIn K (.ref f_ways_of) = true)
    (a_visit_behind : PySem.W.nsIn K mainGlobals "visit_behind" = some (some (.ref f_visit_behind)))
    (l_visit_behind : K.lookup f_visit_behind = some ⟨.type "function", od_visit_behind, .func (PySem.W.fnOf "visit_behind" "visit_behind" (defArgs sBehind) (defBody sBehind) (defScope sBehind) .none kV_visit_behind dc_visit_behind pm_visit_behind an_visit_behind cd_visit_behind ct_visit_behind), sl_visit_behind⟩)
    (c_visit_behind : PySem.W.codeIn K cd_visit_behind "visit_behind" = true)
    (k_visit_behind : PySem.W.keepIn K (.ref f_visit_behind) = true)
    (a_steps_without : PySem.W.nsIn K mainGlobals "steps_without" = some (some (.ref f_steps_without)))
    (l_steps_without : K.lookup f_steps_without = some ⟨.type "function", od_steps_without, .func (PySem.W.fnOf "steps_without" "steps_without" (defArgs sSteps) (defBody sSteps) (defScope sSteps) .none kV_steps_without dc_steps_without pm_steps_without an_steps_without cd_steps_without ct_steps_without), sl_steps_without⟩)
    (c_steps_without : PySem.W.codeIn K cd_steps_without "steps_without" = true)
    (k_steps_without : PySem.W.keepIn K (.ref f_steps_without) = true)
    (a_check_house : PySem.W.nsIn K mainGlobals "check_house" = some (some (.ref f_check_house)))
    (l_check_house : K.lookup f_check_house = some ⟨.type "function", od_check_house, .func (PySem.W.fnOf "check_house" "check_house" (defArgs sCkHouse) (defBody sCkHouse) (defScope sCkHouse) .none kV_check_house dc_check_house pm_check_house an_check_house cd_check_house ct_check_house), sl_check_house⟩)
    (c_check_house : PySem.W.codeIn K cd_check_house "check_house" = true)
    (k_check_house : PySem.W.keepIn K (.ref f_check_house) = true)
    (a_check_web : PySem.W.nsIn K mainGlobals "check_web" = some (some (.ref f_check_web)))
    (l_check_web : K.lookup f_check_web = some ⟨.type "function", od_check_web, .func (PySem.W.fnOf "check_web" "check_web" (defArgs sCkWeb) (defBody sCkWeb) (defScope sCkWeb) .none kV_check_web dc_check_web pm_check_web an_check_web cd_check_web ct_check_web), sl_check_web⟩)
    (c_check_web : PySem.W.codeIn K cd_check_web "check_web" = true)
    (k_check_web : PySem.W.keepIn K (.ref f_check_web) = true)
    (a_is_word : PySem.W.nsIn K mainGlobals "is_word" = some (some (.ref f_is_word)))
    (l_is_word : K.lookup f_is_word = some ⟨.type "function", od_is_word, .func (PySem.W.fnOf "is_word" "is_word" (defArgs sWord) (defBody sWord) (defScope sWord) .none kV_is_word dc_is_word pm_is_word an_is_word cd_is_word ct_is_word), sl_is_word⟩)
    (c_is_word : PySem.W.codeIn K cd_is_word "is_word" = true)
    (k_is_word : PySem.W.keepIn K (.ref f_is_word) = true)
    (a_check_round : PySem.W.nsIn K mainGlobals "check_round" = some (some (.ref f_check_round)))
    (l_check_round : K.lookup f_check_round = some ⟨.type "function", od_check_round, .func (PySem.W.fnOf "check_round" "check_round" (defArgs sCkRound) (defBody sCkRound) (defScope sCkRound) .none kV_check_round dc_check_round pm_check_round an_check_round cd_check_round ct_check_round), sl_check_round⟩)
    (c_check_round : PySem.W.codeIn K cd_check_round "check_round" = true)
    (k_check_round : PySem.W.keepIn K (.ref f_check_round) = true)
    (a_web_of : PySem.W.nsIn K mainGlobals "web_of" = some (some (.ref f_web_of)))
    (l_web_of : K.lookup f_web_of = some ⟨.type "function", od_web_of, .func (PySem.W.fnOf "web_of" "web_of" (defArgs sWebOf) (defBody sWebOf) (defScope sWebOf) .none kV_web_of dc_web_of pm_web_of an_web_of cd_web_of ct_web_of), sl_web_of⟩)
    (c_web_of : PySem.W.codeIn K cd_web_of "web_of" = true)
    (k_web_of : PySem.W.keepIn K (.ref f_web_of) = true)
    (a_ring : PySem.W.nsIn K mainGlobals "ring" = some (some (.ref f_ring)))
    (l_ring : K.lookup f_ring = some ⟨.type "function", od_ring, .func (PySem.W.fnOf "ring" "ring" (defArgs sRing) (defBody sRing) (defScope sRing) .none kV_ring dc_ring pm_ring an_ring cd_ring ct_ring), sl_ring⟩)
    (c_ring : PySem.W.codeIn K cd_ring "ring" = true)
    (k_ring : PySem.W.keepIn K (.ref f_ring) = true)
    (a_board : PySem.W.nsIn K mainGlobals "board" = some (some (.ref f_board)))
    (l_board : K.lookup f_board = some ⟨.type "function", od_board, .func (PySem.W.fnOf "board" "board" (defArgs sBoard) (defBody sBoard) (defScope sBoard) .none kV_board dc_board pm_board an_board cd_board ct_board), sl_board⟩)
    (c_board : PySem.W.codeIn K cd_board "board" = true)
    (k_board : PySem.W.keepIn K (.ref f_board) = true)
    (aC : PySem.W.nsIn K mainGlobals "Web" = some (some (.ref C)))
    (a_Winit : PySem.W.findIn K (.ref C) "__init__" = some (some (.ref f_Winit)))
    (i_Winit : PySem.W.isFn K (.ref f_Winit) = true)
    (l_Winit : K.lookup f_Winit = some ⟨.type "function", od_Winit, .func (PySem.W.fnOf "__init__" "Web.__init__" (defArgs sInit) (defBody sInit) (defScope sInit) .none kV_Winit dc_Winit pm_Winit an_Winit cd_Winit ct_Winit), sl_Winit⟩)
    (c_Winit : PySem.W.codeIn K cd_Winit "Web.__init__" = true)
    (k_Winit : PySem.W.keepIn K (.ref f_Winit) = true)
    (a_Wcheck_house : PySem.W.findIn K (.ref C) "_check_house" = some (some (.ref f_Wcheck_house)))
    (i_Wcheck_house : PySem.W.isFn K (.ref f_Wcheck_house) = true)
    (l_Wcheck_house : K.lookup f_Wcheck_house = some ⟨.type "function", od_Wcheck_house, .func (PySem.W.fnOf "_check_house" "Web._check_house" (defArgs sWCheck) (defBody sWCheck) (defScope sWCheck) .none kV_Wcheck_house dc_Wcheck_house pm_Wcheck_house an_Wcheck_house cd_Wcheck_house ct_Wcheck_house), sl_Wcheck_house⟩)
    (c_Wcheck_house : PySem.W.codeIn K cd_Wcheck_house "Web._check_house" = true)
    (k_Wcheck_house : PySem.W.keepIn K (.ref f_Wcheck_house) = true)
    (a_Wat : PySem.W.findIn K (.ref C) "at" = some (some (.ref f_Wat)))
    (i_Wat : PySem.W.isFn K (.ref f_Wat) = true)
    (l_Wat : K.lookup f_Wat = some ⟨.type "function", od_Wat, .func (PySem.W.fnOf "at" "Web.at" (defArgs sWAt) (defBody sWAt) (defScope sWAt) .none kV_Wat dc_Wat pm_Wat an_Wat cd_Wat ct_Wat), sl_Wat⟩)
    (c_Wat : PySem.W.codeIn K cd_Wat "Web.at" = true)
    (k_Wat : PySem.W.keepIn K (.ref f_Wat) = true)
    (a_Wgo : PySem.W.findIn K (.ref C) "go" = some (some (.ref f_Wgo)))
    (i_Wgo : PySem.W.isFn K (.ref f_Wgo) = true)
    (l_Wgo : K.lookup f_Wgo = some ⟨.type "function", od_Wgo, .func (PySem.W.fnOf "go" "Web.go" (defArgs sGo) (defBody sGo) (defScope sGo) .none kV_Wgo dc_Wgo pm_Wgo an_Wgo cd_Wgo ct_Wgo), sl_Wgo⟩)
    (c_Wgo : PySem.W.codeIn K cd_Wgo "Web.go" = true)
    (k_Wgo : PySem.W.keepIn K (.ref f_Wgo) = true)
    (a_Whouses : PySem.W.findIn K (.ref C) "houses" = some (some (.ref p_Whouses)))
    (g_Whouses : PySem.W.specialIn K (.ref p_Whouses) "__get__" = some (some (.builtin "property.__get__")))
    (t_Whouses : PySem.W.takesIn K (.ref p_Whouses) = some true)
    (r_Whouses : PySem.W.recIn K p_Whouses "property" = some (.ref f_Whouses :: rs_Whouses))
    (l_Whouses : K.lookup f_Whouses = some ⟨.type "function", od_Whouses, .func (PySem.W.fnOf "houses" "Web.houses" (defArgs sWHouses) (defBody sWHouses) (defScope sWHouses) .none kV_Whouses dc_Whouses pm_Whouses an_Whouses cd_Whouses ct_Whouses), sl_Whouses⟩)
    (c_Whouses : PySem.W.codeIn K cd_Whouses "Web.houses" = true)
    (k_Whouses : PySem.W.keepIn K (.ref f_Whouses) = true)
    (a_Wties : PySem.W.findIn K (.ref C) "ties" = some (some (.ref p_Wties)))
    (g_Wties : PySem.W.specialIn K (.ref p_Wties) "__get__" = some (some (.builtin "property.__get__")))
    (t_Wties : PySem.W.takesIn K (.ref p_Wties) = some true)
    (r_Wties : PySem.W.recIn K p_Wties "property" = some (.ref f_Wties :: rs_Wties))
    (l_Wties : K.lookup f_Wties = some ⟨.type "function", od_Wties, .func (PySem.W.fnOf "ties" "Web.ties" (defArgs sWTies) (defBody sWTies) (defScope sWTies) .none kV_Wties dc_Wties pm_Wties an_Wties cd_Wties ct_Wties), sl_Wties⟩)
    (c_Wties : PySem.W.codeIn K cd_Wties "Web.ties" = true)
    (k_Wties : PySem.W.keepIn K (.ref f_Wties) = true)
    (pg : PySem.W.plainGet K C Str.empty = true)
    (hd : PySem.W.hasDictIn K C = true)
    (po : PySem.W.plainOver K C = true)
    (sa : PySem.W.findIn K (.ref C) "__setattr__" = some (some (.builtin "object.__setattr__")))
    (n0 : PySem.W.findIn K (.ref C) "_text" = some none)
    (n1 : PySem.W.findIn K (.ref C) "_plain" = some none)
    (n2 : PySem.W.findIn K (.ref C) "_ties" = some none)
    (n3 : PySem.W.findIn K (.ref C) "_doors" = some none)
    (mk : PySem.W.makesIn K C = true)
    (kC : PySem.W.keepIn K (.ref C) = true)
    (wha : PySem.W.findIn K (.ref C) "__class__" = some (some (.builtin "object.__class__")))
    (whn : PySem.W.specialIn K (.builtin "object.__class__") "__get__" = some (some (.builtin "getset_descriptor.__get__")))
    (wht : PySem.W.takesIn K (.builtin "object.__class__") = some true)
    (whm : PySem.W.mroIn K C (.type "object") = some true)
    (z_isinstance : PySem.W.nsIn K mainGlobals "isinstance" = some none)
    (z_str : PySem.W.nsIn K mainGlobals "str" = some none)
    (z_sorted : PySem.W.nsIn K mainGlobals "sorted" = some none)
    (z_range : PySem.W.nsIn K mainGlobals "range" = some none)
    (z_len : PySem.W.nsIn K mainGlobals "len" = some none)
    (z_max : PySem.W.nsIn K mainGlobals "max" = some none)
    (z_min : PySem.W.nsIn K mainGlobals "min" = some none)
    (z_int : PySem.W.nsIn K mainGlobals "int" = some none)
    (z_bool : PySem.W.nsIn K mainGlobals "bool" = some none)
    (z_tuple : PySem.W.nsIn K mainGlobals "tuple" = some none)
    (z_divmod : PySem.W.nsIn K mainGlobals "divmod" = some none)
    (z_abs : PySem.W.nsIn K mainGlobals "abs" = some none)
    (z_list : PySem.W.nsIn K mainGlobals "list" = some none)
    (z_all : PySem.W.nsIn K mainGlobals "all" = some none)
    (z_set : PySem.W.nsIn K mainGlobals "set" = some none)
    (v_MOST_HOUSES : PySem.W.nsIn K mainGlobals "MOST_HOUSES" = some (some (.int 10 tk_MOST_HOUSES)))
    (v_MARKS : PySem.W.nsIn K mainGlobals "MARKS" = some (some (.str "abcdefghijkl" tk_MARKS)))
    (v_UNREAD : PySem.W.nsIn K mainGlobals "UNREAD" = some (some (.str "?" tk_UNREAD)))
    (v_MOST_WORD : PySem.W.nsIn K mainGlobals "MOST_WORD" = some (some (.int 200 tk_MOST_WORD)))
    (v_LEAST_ROUND : PySem.W.nsIn K mainGlobals "LEAST_ROUND" = some (some (.int 3 tk_LEAST_ROUND)))
     :
    LamX.LawAtS l w K C8.CX0 14 63 "script" mg fa h := by
  have e2 : f_law = fa := by
    have e := hfa.symm.trans (PySem.W.mg_of X G a_law)
    injection e with e
    injection e with e
    exact e.symm
  subst e2
  have y_isinstance : mg "isinstance" = none := PySem.W.mg_none_of X G z_isinstance
  have y_str : mg "str" = none := PySem.W.mg_none_of X G z_str
  have y_sorted : mg "sorted" = none := PySem.W.mg_none_of X G z_sorted
  have y_range : mg "range" = none := PySem.W.mg_none_of X G z_range
  have y_len : mg "len" = none := PySem.W.mg_none_of X G z_len
  have y_max : mg "max" = none := PySem.W.mg_none_of X G z_max
  have y_min : mg "min" = none := PySem.W.mg_none_of X G z_min
  have y_int : mg "int" = none := PySem.W.mg_none_of X G z_int
  have y_bool : mg "bool" = none := PySem.W.mg_none_of X G z_bool
  have y_tuple : mg "tuple" = none := PySem.W.mg_none_of X G z_tuple
  have y_divmod : mg "divmod" = none := PySem.W.mg_none_of X G z_divmod
  have y_abs : mg "abs" = none := PySem.W.mg_none_of X G z_abs
  have y_list : mg "list" = none := PySem.W.mg_none_of X G z_list
  have y_all : mg "all" = none := PySem.W.mg_none_of X G z_all
  have y_set : mg "set" = none := PySem.W.mg_none_of X G z_set
  have mc_MOST_HOUSES : mg "MOST_HOUSES" = some (.int 10 tk_MOST_HOUSES) := PySem.W.mg_of X G v_MOST_HOUSES
  have mc_MARKS : mg "MARKS" = some (.str "abcdefghijkl" tk_MARKS) := PySem.W.mg_of X G v_MARKS
  have mc_UNREAD : mg "UNREAD" = some (.str "?" tk_UNREAD) := PySem.W.mg_of X G v_UNREAD
  have mc_MOST_WORD : mg "MOST_WORD" = some (.int 200 tk_MOST_WORD) := PySem.W.mg_of X G v_MOST_WORD
  have mc_LEAST_ROUND : mg "LEAST_ROUND" = some (.int 3 tk_LEAST_ROUND) := PySem.W.mg_of X G v_LEAST_ROUND
  have m_law_purse : mg "_law_purse" = some (.ref f_law_purse) := PySem.W.mg_of X G a_law_purse
  have F_law_purse := fun_mk (st := sPurse) l_law_purse c_law_purse k_law_purse
  have b_law_purse := F_law_purse.binds (ps := ["script", "k"]) fun _ _ _ _ _ _ us hl => match us, hl with | [_, _], _ => rfl
  have m_law_take : mg "_law_take" = some (.ref f_law_take) := PySem.W.mg_of X G a_law_take
  have F_law_take := fun_mk (st := sTake) l_law_take c_law_take k_law_take
  have b_law_take := F_law_take.binds (ps := ["purse", "many"]) fun _ _ _ _ _ _ us hl => match us, hl with | [_, _], _ => rfl
  have m_law_edges : mg "_law_edges" = some (.ref f_law_edges) := PySem.W.mg_of X G a_law_edges
  have F_law_edges := fun_mk (st := sEdges) l_law_edges c_law_edges k_law_edges
  have b_law_edges := F_law_edges.binds (ps := ["purse", "many"]) fun _ _ _ _ _ _ us hl => match us, hl with | [_, _], _ => rfl
  have m_law_free : mg "_law_free" = some (.ref f_law_free) := PySem.W.mg_of X G a_law_free
  have F_law_free := fun_mk (st := sFree) l_law_free c_law_free k_law_free
  have b_law_free := F_law_free.binds (ps := ["purse", "used", "spread"]) fun _ _ _ _ _ _ us hl => match us, hl with | [_, _, _], _ => rfl
  have m_law_ties : mg "_law_ties" = some (.ref f_law_ties) := PySem.W.mg_of X G a_law_ties
  have F_law_ties := fun_mk (st := sTies3) l_law_ties c_law_ties k_law_ties
  have b_law_ties := F_law_ties.binds (ps := ["purse", "many"]) fun _ _ _ _ _ _ us hl => match us, hl with | [_, _], _ => rfl
  have m_law_plain : mg "_law_plain" = some (.ref f_law_plain) := PySem.W.mg_of X G a_law_plain
  have F_law_plain := fun_mk (st := sPlain3) l_law_plain c_law_plain k_law_plain
  have b_law_plain := F_law_plain.binds (ps := ["ties_here"]) fun _ _ _ _ _ _ us hl => match us, hl with | [_], _ => rfl
  have m_law_text : mg "_law_text" = some (.ref f_law_text) := PySem.W.mg_of X G a_law_text
  have F_law_text := fun_mk (st := sText3) l_law_text c_law_text k_law_text
  have b_law_text := F_law_text.binds (ps := ["purse", "ties_here"]) fun _ _ _ _ _ _ us hl => match us, hl with | [_, _], _ => rfl
  have m_law_right : mg "_law_right" = some (.ref f_law_right) := PySem.W.mg_of X G a_law_right
  have F_law_right := fun_mk (st := sRight) l_law_right c_law_right k_law_right
  have b_law_right := F_law_right.binds (ps := ["purse"]) fun _ _ _ _ _ _ us hl => match us, hl with | [_], _ => rfl
  have m_law : mg "law" = some (.ref f_law) := PySem.W.mg_of X G a_law
  have F_law := fun_mk (st := sLaw) l_law c_law k_law
  have b_law := F_law.binds (ps := ["script"]) fun _ _ _ _ _ _ us hl => match us, hl with | [_], _ => rfl
  have m_read_ties : mg "read_ties" = some (.ref f_read_ties) := PySem.W.mg_of X G a_read_ties
  have F_read_ties := fun_mk (st := sTies) l_read_ties c_read_ties k_read_ties
  have b_read_ties := F_read_ties.binds (ps := ["text"]) fun _ _ _ _ _ _ us hl => match us, hl with | [_], _ => rfl
  have m_read_torn : mg "read_torn" = some (.ref f_read_torn) := PySem.W.mg_of X G a_read_torn
  have F_read_torn := fun_mk (st := sTorn) l_read_torn c_read_torn k_read_torn
  have b_read_torn := F_read_torn.binds (ps := ["text"]) fun _ _ _ _ _ _ us hl => match us, hl with | [_], _ => rfl
  have m_read_line : mg "read_line" = some (.ref f_read_line) := PySem.W.mg_of X G a_read_line
  have F_read_line := fun_mk (st := sLine) l_read_line c_read_line k_read_line
  have b_read_line := F_read_line.binds (ps := ["line"]) fun _ _ _ _ _ _ us hl => match us, hl with | [_], _ => rfl
  have m_may_be_mark : mg "may_be_mark" = some (.ref f_may_be_mark) := PySem.W.mg_of X G a_may_be_mark
  have F_may_be_mark := fun_mk (st := sMay) l_may_be_mark c_may_be_mark k_may_be_mark
  have b_may_be_mark := F_may_be_mark.binds (ps := ["part"]) fun _ _ _ _ _ _ us hl => match us, hl with | [_], _ => rfl
  have m_read_house : mg "read_house" = some (.ref f_read_house) := PySem.W.mg_of X G a_read_house
  have F_read_house := fun_mk (st := sRHouse) l_read_house c_read_house k_read_house
  have b_read_house := F_read_house.binds (ps := ["part"]) fun _ _ _ _ _ _ us hl => match us, hl with | [_], _ => rfl
  have m_read_number : mg "read_number" = some (.ref f_read_number) := PySem.W.mg_of X G a_read_number
  have F_read_number := fun_mk (st := sRNum) l_read_number c_read_number k_read_number
  have b_read_number := F_read_number.binds (ps := ["part", "most"]) fun _ _ _ _ _ _ us hl => match us, hl with | [_, _], _ => rfl
  have m_tie_between : mg "tie_between" = some (.ref f_tie_between) := PySem.W.mg_of X G a_tie_between
  have F_tie_between := fun_mk (st := sBetw) l_tie_between c_tie_between k_tie_between
  have b_tie_between := F_tie_between.binds (ps := ["house", "mark", "other", "back"]) fun _ _ _ _ _ _ us hl => match us, hl with | [_, _, _, _], _ => rfl
  have m_are_apart : mg "are_apart" = some (.ref f_are_apart) := PySem.W.mg_of X G a_are_apart
  have F_are_apart := fun_mk (st := sApart) l_are_apart c_are_apart k_are_apart
  have b_are_apart := F_are_apart.binds (ps := ["ties"]) fun _ _ _ _ _ _ us hl => match us, hl with | [_], _ => rfl
  have m_hang_together : mg "hang_together" = some (.ref f_hang_together) := PySem.W.mg_of X G a_hang_together
  have F_hang_together := fun_mk (st := sHang) l_hang_together c_hang_together k_hang_together
  have b_hang_together := F_hang_together.binds (ps := ["ties"]) fun _ _ _ _ _ _ us hl => match us, hl with | [_], _ => rfl
  have m_count_houses : mg "count_houses" = some (.ref f_count_houses) := PySem.W.mg_of X G a_count_houses
  have F_count_houses := fun_mk (st := sCount) l_count_houses c_count_houses k_count_houses
  have b_count_houses := F_count_houses.binds (ps := ["ties"]) fun _ _ _ _ _ _ us hl => match us, hl with | [_], _ => rfl
  have m_plain_text : mg "plain_text" = some (.ref f_plain_text) := PySem.W.mg_of X G a_plain_text
  have F_plain_text := fun_mk (st := sPlain) l_plain_text c_plain_text k_plain_text
  have b_plain_text := F_plain_text.binds (ps := ["ties"]) fun _ _ _ _ _ _ us hl => match us, hl with | [_], _ => rfl
  have m_is_integer : mg "is_integer" = some (.ref f_is_integer) := PySem.W.mg_of X G a_is_integer
  have F_is_integer := fun_mk (st := sInt) l_is_integer c_is_integer k_is_integer
  have b_is_integer := F_is_integer.binds (ps := ["value"]) fun _ _ _ _ _ _ us hl => match us, hl with | [_], _ => rfl
  have m_is_count : mg "is_count" = some (.ref f_is_count) := PySem.W.mg_of X G a_is_count
  have F_is_count := fun_mk (st := sCountK) l_is_count c_is_count k_is_count
  have b_is_count := F_is_count.binds (ps := ["value"]) fun _ _ _ _ _ _ us hl => match us, hl with | [_], _ => rfl
  have m_is_index : mg "is_index" = some (.ref f_is_index) := PySem.W.mg_of X G a_is_index
  have F_is_index := fun_mk (st := sIndex) l_is_index c_is_index k_is_index
  have b_is_index := F_is_index.binds (ps := ["value", "many"]) fun _ _ _ _ _ _ us hl => match us, hl with | [_, _], _ => rfl
  have m_is_house : mg "is_house" = some (.ref f_is_house) := PySem.W.mg_of X G a_is_house
  have F_is_house := fun_mk (st := sHouse) l_is_house c_is_house k_is_house
  have b_is_house := F_is_house.binds (ps := ["value", "houses"]) fun _ _ _ _ _ _ us hl => match us, hl with | [_, _], _ => rfl
  have m_is_mark : mg "is_mark" = some (.ref f_is_mark) := PySem.W.mg_of X G a_is_mark
  have F_is_mark := fun_mk (st := sMark) l_is_mark c_is_mark k_is_mark
  have b_is_mark := F_is_mark.binds (ps := ["value"]) fun _ _ _ _ _ _ us hl => match us, hl with | [_], _ => rfl
  have m_doors_of : mg "doors_of" = some (.ref f_doors_of) := PySem.W.mg_of X G a_doors_of
  have F_doors_of := fun_mk (st := sDoors) l_doors_of c_doors_of k_doors_of
  have b_doors_of := F_doors_of.binds (ps := ["ties"]) fun _ _ _ _ _ _ us hl => match us, hl with | [_], _ => rfl
  have m_law_roads : mg "_law_roads" = some (.ref f_law_roads) := PySem.W.mg_of X G a_law_roads
  have F_law_roads := fun_mk (st := sRoads) l_law_roads c_law_roads k_law_roads
  have b_law_roads := F_law_roads.binds (ps := ["ties_here"]) fun _ _ _ _ _ _ us hl => match us, hl with | [_], _ => rfl
  have m_law_visit_right : mg "_law_visit_right" = some (.ref f_law_visit_right) := PySem.W.mg_of X G a_law_visit_right
  have F_law_visit_right := fun_mk (st := sVRight) l_law_visit_right c_law_visit_right k_law_visit_right
  have b_law_visit_right := F_law_visit_right.binds (ps := ["made", "roads", "start"]) fun _ _ _ _ _ _ us hl => match us, hl with | [_, _, _], _ => rfl
  have m_visit : mg "visit" = some (.ref f_visit) := PySem.W.mg_of X G a_visit
  have F_visit := fun_mk (st := sVisit) l_visit c_visit k_visit
  have b_visit := F_visit.binds (ps := ["web", "house"]) fun _ _ _ _ _ _ us hl => match us, hl with | [_, _], _ => rfl
  have m_ways_of : mg "ways_of" = some (.ref f_ways_of) := PySem.W.mg_of X G a_ways_of
  have F_ways_of := fun_mk (st := sWays59) l_ways_of c_ways_of k_ways_of
  have b_ways_of := F_ways_of.binds (ps := ["web"]) fun _ _ _ _ _ _ us hl => match us, hl with | [_], _ => rfl
  have m_visit_behind : mg "visit_behind" = some (.ref f_visit_behind) := PySem.W.mg_of X G a_visit_behind
  have F_visit_behind := fun_mk (st := sBehind) l_visit_behind c_visit_behind k_visit_behind
  have b_visit_behind := F_visit_behind.binds (ps := ["ways", "house", "seen"]) fun _ _ _ _ _ _ us hl => match us, hl with | [_, _, _], _ => rfl
  have m_steps_without : mg "steps_without" = some (.ref f_steps_without) := PySem.W.mg_of X G a_steps_without
  have F_steps_without := fun_mk (st := sSteps) l_steps_without c_steps_without k_steps_without
  have b_steps_without := F_steps_without.binds (ps := ["web"]) fun _ _ _ _ _ _ us hl => match us, hl with | [_], _ => rfl
  have m_check_house : mg "check_house" = some (.ref f_check_house) := PySem.W.mg_of X G a_check_house
  have F_check_house := fun_mk (st := sCkHouse) l_check_house c_check_house k_check_house
  have b_check_house := F_check_house.binds (ps := ["web", "house"]) fun _ _ _ _ _ _ us hl => match us, hl with | [_, _], _ => rfl
  have m_check_web : mg "check_web" = some (.ref f_check_web) := PySem.W.mg_of X G a_check_web
  have F_check_web := fun_mk (st := sCkWeb) l_check_web c_check_web k_check_web
  have b_check_web := F_check_web.binds (ps := ["web"]) fun _ _ _ _ _ _ us hl => match us, hl with | [_], _ => rfl
  have m_is_word : mg "is_word" = some (.ref f_is_word) := PySem.W.mg_of X G a_is_word
  have F_is_word := fun_mk (st := sWord) l_is_word c_is_word k_is_word
  have b_is_word := F_is_word.binds (ps := ["value"]) fun _ _ _ _ _ _ us hl => match us, hl with | [_], _ => rfl
  have m_check_round : mg "check_round" = some (.ref f_check_round) := PySem.W.mg_of X G a_check_round
  have F_check_round := fun_mk (st := sCkRound) l_check_round c_check_round k_check_round
  have b_check_round := F_check_round.binds (ps := ["houses"]) fun _ _ _ _ _ _ us hl => match us, hl with | [_], _ => rfl
  have m_web_of : mg "web_of" = some (.ref f_web_of) := PySem.W.mg_of X G a_web_of
  have F_web_of := fun_mk (st := sWebOf) l_web_of c_web_of k_web_of
  have b_web_of := F_web_of.binds (ps := ["ties"]) fun _ _ _ _ _ _ us hl => match us, hl with | [_], _ => rfl
  have m_ring : mg "ring" = some (.ref f_ring) := PySem.W.mg_of X G a_ring
  have F_ring := fun_mk (st := sRing) l_ring c_ring k_ring
  have b_ring := F_ring.binds (ps := ["houses"]) fun _ _ _ _ _ _ us hl => match us, hl with | [_], _ => rfl
  have m_board : mg "board" = some (.ref f_board) := PySem.W.mg_of X G a_board
  have F_board := fun_mk (st := sBoard) l_board c_board k_board
  have b_board := F_board.binds (ps := ["wide", "high"]) fun _ _ _ _ _ _ us hl => match us, hl with | [_, _], _ => rfl
  have mWeb : mg "Web" = some (.ref C) := PySem.W.mg_of X G aC
  have F_Winit := fun_mk (st := sInit) l_Winit c_Winit k_Winit
  have b_Winit := F_Winit.binds (ps := ["self", "text"]) fun _ _ _ _ _ _ us hl => match us, hl with | [_, _], _ => rfl
  have F_Wcheck_house := fun_mk (st := sWCheck) l_Wcheck_house c_Wcheck_house k_Wcheck_house
  have b_Wcheck_house := F_Wcheck_house.binds (ps := ["self", "house"]) fun _ _ _ _ _ _ us hl => match us, hl with | [_, _], _ => rfl
  have m_Wcheck_house : Meth K C "_check_house" f_Wcheck_house := ⟨a_Wcheck_house, i_Wcheck_house, k_Wcheck_house⟩
  have F_Wat := fun_mk (st := sWAt) l_Wat c_Wat k_Wat
  have b_Wat := F_Wat.binds (ps := ["self", "house"]) fun _ _ _ _ _ _ us hl => match us, hl with | [_, _], _ => rfl
  have m_Wat : Meth K C "at" f_Wat := ⟨a_Wat, i_Wat, k_Wat⟩
  have F_Wgo := fun_mk (st := sGo) l_Wgo c_Wgo k_Wgo
  have b_Wgo := F_Wgo.binds (ps := ["self", "house", "word"]) fun _ _ _ _ _ _ us hl => match us, hl with | [_, _, _], _ => rfl
  have m_Wgo : Meth K C "go" f_Wgo := ⟨a_Wgo, i_Wgo, k_Wgo⟩
  have F_Whouses := fun_mk (st := sWHouses) l_Whouses c_Whouses k_Whouses
  have b_Whouses := F_Whouses.binds (ps := ["self"]) fun _ _ _ _ _ _ us hl => match us, hl with | [_], _ => rfl
  have q_Whouses : PropOf K C "houses" p_Whouses f_Whouses := ⟨a_Whouses, g_Whouses, t_Whouses, ⟨_, r_Whouses⟩⟩
  have F_Wties := fun_mk (st := sWTies) l_Wties c_Wties k_Wties
  have b_Wties := F_Wties.binds (ps := ["self"]) fun _ _ _ _ _ _ us hl => match us, hl with | [_], _ => rfl
  have q_Wties : PropOf K C "ties" p_Wties f_Wties := ⟨a_Wties, g_Wties, t_Wties, ⟨_, r_Wties⟩⟩
  have cW : WebC K C := ⟨⟨pg, hd, po, sa⟩, n0, n1, n2, n3⟩
  have wi : WebI K C := ⟨wha, whn, wht, whm, kit_self⟩
  have MW : Mk K C f_Winit := ⟨mk, a_Winit, i_Winit, kC⟩
  have TS : TTake mg := ⟨y_int, y_divmod, y_len, y_abs⟩
  have RFb : ∀ base : Heap, RF l.prog w K mg base := fun base => by

    have GCount : FnOk l.prog w K mg base CX0 1 _ _ ["ties"] (spCount K) := ok_count F_count_houses y_max
    have GDoors : FnOk l.prog w K mg base CX0 2 _ _ ["ties"] (spDoors K) := ok_doors F_doors_of y_max y_range F_count_houses b_count_houses m_count_houses
    have GInt : FnOk l.prog w K mg base CX0 1 _ _ ["value"] spInt := ok_isint F_is_integer y_isinstance y_int y_bool
    have GCnt : FnOk l.prog w K mg base CX0 2 _ _ ["value"] spCountK := ok_iscount F_is_count GInt F_is_integer b_is_integer m_is_integer
    have GIdx : FnOk l.prog w K mg base CX0 3 _ _ ["value", "many"] spIndex := ok_isindex F_is_index GCnt F_is_count b_is_count m_is_count
    have GIsM : FnOk l.prog w K mg base CX0 1 _ _ ["value"] spMark := ok_ismark F_is_mark y_isinstance y_str y_len mc_MARKS
    have GIsH : FnOk l.prog w K mg base CX0 4 _ _ ["value", "houses"] spHouse := ok_ishouse F_is_house GIdx F_is_index b_is_index m_is_index
    have GMay : FnOk l.prog w K mg base CX0 2 _ _ ["part"] spMay := ok_may F_may_be_mark mc_UNREAD GIsM F_is_mark b_is_mark m_is_mark
    have GRNu : FnOk l.prog w K mg base CX0 1 _ _ ["part", "most"] spRNum := ok_rnum F_read_number y_range y_str
    have GRHo : FnOk l.prog w K mg base CX0 2 _ _ ["part"] spRHouse := ok_rhouse F_read_house mc_MOST_HOUSES GRNu F_read_number b_read_number m_read_number
    have GBtw : FnOk l.prog w K mg base CX0 1 _ _ ["house", "mark", "other", "back"] spBetw := ok_betw F_tie_between
    have GLine : FnOk l.prog w K mg base CX0 3 _ _ ["line"] (spLine K) := ok_line F_read_line y_len GRHo F_read_house b_read_house m_read_house GMay F_may_be_mark b_may_be_mark m_may_be_mark GBtw F_tie_between b_tie_between m_tie_between
    have GApart : FnOk l.prog w K mg base CX0 1 _ _ ["ties"] (spApart K) := ok_apart F_are_apart mc_UNREAD
    have GHang : FnOk l.prog w K mg base CX0 2 _ _ ["ties"] (spApart K) := ok_hang F_hang_together y_len y_max F_count_houses b_count_houses m_count_houses
    have GTorn : FnOk l.prog w K mg base CX0 4 _ _ ["text"] (spTies K) := ok_torn F_read_torn y_sorted GLine F_read_line b_read_line m_read_line GApart F_are_apart b_are_apart m_are_apart GHang F_hang_together b_hang_together m_hang_together
    have GTies : FnOk l.prog w K mg base CX0 5 _ _ ["text"] (spTies K) := ok_ties F_read_ties y_isinstance y_str mc_UNREAD GTorn F_read_torn b_read_torn m_read_torn
    have GPlT : FnOk l.prog w K mg base CX0 1 _ _ ["ties"] (spPlain K) := ok_plain F_plain_text y_sorted
    have GIni : FnOk l.prog w K mg base CX0 6 _ _ ["self", "text"] (spInit C) := ok_init F_Winit cW y_tuple GTies F_read_ties b_read_ties m_read_ties GPlT F_plain_text b_plain_text m_plain_text GDoors F_doors_of b_doors_of m_doors_of
    have GChk : FnOk l.prog w K mg base CX0 5 _ _ ["self", "house"] (spWCheck C) := ok_wcheck F_Wcheck_house cW y_len GIsH F_is_house b_is_house m_is_house
    have GHo : FnOk l.prog w K mg base CX0 1 _ _ ["self"] (spWHouses C) := ok_whouses F_Whouses cW y_len

    have GTake : FnOk l.prog w K mg base CX0 1 _ _ ["purse", "many"] spTake := ok_take F_law_take TS
    have GEdg : FnOk l.prog w K mg base CX0 2 _ _ ["purse", "many"] spEdges := ok_edges F_law_edges y_range y_sorted y_tuple GTake F_law_take b_law_take m_law_take
    have GFree : FnOk l.prog w K mg base CX0 2 _ _ ["purse", "used", "spread"] spFree := ok_free F_law_free y_len y_min GTake F_law_take b_law_take m_law_take
    have GTie3 : FnOk l.prog w K mg base CX0 3 _ _ ["purse", "many"] spTies3 := ok_ties3 F_law_ties y_range GTake F_law_take b_law_take m_law_take GFree F_law_free b_law_free m_law_free GEdg F_law_edges b_law_edges m_law_edges
    have GPln3 : FnOk l.prog w K mg base CX0 1 _ _ ["ties_here"] (spText K) := ok_plain3 F_law_plain y_str
    have GTxt3 : FnOk l.prog w K mg base CX0 2 _ _ ["purse", "ties_here"] spText3 := ok_text3 F_law_text y_list y_range y_len GTake F_law_take b_law_take m_law_take GPln3 F_law_plain b_law_plain m_law_plain
    have GRoad : FnOk l.prog w K mg base CX0 1 _ _ ["ties_here"] (spDoors K) := ok_roads F_law_roads y_max y_range

    have GWord : FnOk l.prog w K mg base CX0 2 _ _ ["value"] spWord := ok_word F_is_word y_isinstance y_str y_len y_all mc_MOST_WORD GIsM F_is_mark b_is_mark m_is_mark
    have GGo : FnOk l.prog w K mg base CX0 6 _ _ ["self", "house", "word"] (spGo C) := ok_go F_Wgo cW GChk b_Wcheck_house m_Wcheck_house GWord F_is_word b_is_word m_is_word
    have GCkWeb : FnOk l.prog w K mg base CX0 1 _ _ ["web"] (spCkWeb C) := ok_ckweb F_check_web cW wi y_isinstance mWeb
    have GAt : FnOk l.prog w K mg base CX0 6 _ _ ["self", "house"] (spWAt C) := ok_wat F_Wat cW y_sorted GChk b_Wcheck_house m_Wcheck_house

    have GCkR : FnOk l.prog w K mg base CX0 2 _ _ ["houses"] spCkRound := ok_ckround F_check_round GInt F_is_integer b_is_integer m_is_integer mc_LEAST_ROUND mc_MOST_HOUSES
    have GWOf : FnOk l.prog w K mg base CX0 8 _ _ ["ties"] (spWebOf C) := ok_webof F_web_of GIni b_Winit MW mWeb GPlT F_plain_text b_plain_text m_plain_text
    have GRing : FnOk l.prog w K mg base CX0 9 _ _ ["houses"] (spRing C) := ok_ring F_ring y_range GCkR F_check_round b_check_round m_check_round GWOf F_web_of b_web_of m_web_of GBtw F_tie_between b_tie_between m_tie_between
    have GBrd : FnOk l.prog w K mg base CX0 9 _ _ ["wide", "high"] (spBoard C) := ok_board F_board y_range mc_MOST_HOUSES GCkR F_check_round b_check_round m_check_round GWOf F_web_of b_web_of m_web_of GBtw F_tie_between b_tie_between m_tie_between

    have GTie : FnOk l.prog w K mg base CX0 1 _ _ ["self"] (spWTies C) := ok_wties F_Wties cW
    have GCkH : FnOk l.prog w K mg base CX0 5 _ _ ["web", "house"] (spCkHouse C) := ok_ckhouse F_check_house cW GIsH F_is_house b_is_house m_is_house GHo b_Whouses q_Whouses
    have GWays : FnOk l.prog w K mg base CX0 3 _ _ ["web"] (spWays C) := ok_ways59 F_ways_of cW y_range GTie b_Wties q_Wties GHo b_Whouses q_Whouses
    have GVis : FnOk l.prog w K mg base CX0 11 _ _ ["web", "house"] (spVisit C) := ok_visit F_visit GCkWeb F_check_web b_check_web m_check_web GCkH F_check_house b_check_house m_check_house GWays F_ways_of b_ways_of m_ways_of (ok_behind F_visit_behind b_visit_behind m_visit_behind 10) F_visit_behind b_visit_behind m_visit_behind
    have RVb : RV l.prog w K mg base C := { cW := cW, fVis := f_visit, gAt := f_Wat, gGo := f_Wgo, fdVis := _, fdAt := _, fdGo := _, GVis := GVis, bVis := b_visit, mVis := m_visit, kVis := k_visit, GAt := GAt, bAt := b_Wat, mAt := m_Wat, GGo := GGo, bGo := b_Wgo, mGo := m_Wgo, misi := y_isinstance, mstr := y_str, mlen := y_len, msorted := y_sorted, mset := y_set, mlist := y_list, mrange := y_range }
    exact {
      C := C, cW := cW
      fTake := f_law_take, fTies := f_law_ties, fText := f_law_text, fRoad := f_law_roads, fVR := f_law_visit_right, fVis := f_visit, fSte := f_steps_without, fRing := f_ring, fBoard := f_board, fIni := f_Winit, gTie := f_Wties, pTie0 := p_Wties, gHou := f_Whouses, pHou0 := p_Whouses
      fdTake := _, fdTies := _, fdText := _, fdRoad := _, fdVR := _, fdVis := _, fdSte := _, fdRing := _, fdBoard := _, fdIni := _, fdTie := _, fdHou := _
      GTake := GTake, bTake := b_law_take, mTake := m_law_take, kTake := k_law_take
      GTies := GTie3, bTies := b_law_ties, mTies := m_law_ties, kTies := k_law_ties
      GText := GTxt3, bText := b_law_text, mText := m_law_text, kText := k_law_text
      GRoad := GRoad, bRoad := b_law_roads, mRoad := m_law_roads, kRoad := k_law_roads
      GVR := ok_vright RVb F_law_visit_right, bVR := b_law_visit_right, mVR := m_law_visit_right, kVR := k_law_visit_right
      GVis := GVis, bVis := b_visit, mVis := m_visit, kVis := k_visit
      GSte := ok_steps F_steps_without cW y_len GCkWeb F_check_web b_check_web m_check_web GTie b_Wties q_Wties, bSte := b_steps_without, mSte := m_steps_without, kSte := k_steps_without
      GRing := GRing, bRing := b_ring, mRing := m_ring, kRing := k_ring
      GBoard := GBrd, bBoard := b_board, mBoard := m_board, kBoard := k_board
      GTie := GTie, bTie := b_Wties, pTie := q_Wties
      GHou := GHo, bHou := b_Whouses, pHou := q_Whouses
      GIni := GIni, bIni := b_Winit, MIni := MW, mIni := mWeb
      kbVis := kb_vis F_visit, kbSte := kb_ste F_steps_without
      mrange := y_range, mlen := y_len, mlist := y_list }
  refine ⟨PySem.W.fnOf "law" "law" (defArgs sLaw) (defBody sLaw) (defScope sLaw) .none kV_law dc_law pm_law an_law cd_law ct_law, [], spLaw K, fun p hp => (by cases hp), fun p hp => (by cases hp), fun p hp => (by cases hp), fun s u => .of_eq rfl, fun H a ns _ _ hT hS => ⟨a, ns, rfl, hS, fun _ => rfl⟩, fun base KB GB hTB => ?_⟩
  exact ok_law (RFb base) F_law (ok_right (RFb base) F_law_right) b_law_right m_law_right k_law_right (ok_purse F_law_purse TS) b_law_purse m_law_purse k_law_purse y_all y_max y_min

end Wh

open PySem PySem.W PyProof.Rows
set_option maxRecDepth 100000 in
set_option maxHeartbeats 0 in
theorem PySem.Challenge.cw_whichhouse_k59_whole_visits_holds : PySem.Challenge.rw_whichhouse_k59_whole_visits.Holds := by
  w_on; o_law; k_head; (case hw => w_witness2)
  k_fill
  refine LamX.walk_ofTs (n := 63) (k := 14) (x := "script") (CX := fun _ => C8.CX0) rfl (by decide) rfl ⟨rfl, by decide, by decide⟩ (fun w h Y => PySem.W.kIn_of Y) ?F (fun _ _ _ _ _ z => z)
  case F =>
    intro w mg fa h Y KX G hmg
    refine' Wh.all_mk KX G hmg ?a_law_purse ?l_law_purse ?c_law_purse ?k_law_purse ?a_law_take ?l_law_take ?c_law_take ?k_law_take ?a_law_edges ?l_law_edges ?c_law_edges ?k_law_edges ?a_law_free ?l_law_free ?c_law_free ?k_law_free ?a_law_ties ?l_law_ties ?c_law_ties ?k_law_ties ?a_law_plain ?l_law_plain ?c_law_plain ?k_law_plain ?a_law_text ?l_law_text ?c_law_text ?k_law_text ?a_law_right ?l_law_right ?c_law_right ?k_law_right ?a_law ?l_law ?c_law ?k_law ?a_read_ties ?l_read_ties ?c_read_ties ?k_read_ties ?a_read_torn ?l_read_torn ?c_read_torn ?k_read_torn ?a_read_line ?l_read_line ?c_read_line ?k_read_line ?a_may_be_mark ?l_may_be_mark ?c_may_be_mark ?k_may_be_mark ?a_read_house ?l_read_house ?c_read_house ?k_read_house ?a_read_number ?l_read_number ?c_read_number ?k_read_number ?a_tie_between ?l_tie_between ?c_tie_between ?k_tie_between ?a_are_apart ?l_are_apart ?c_are_apart ?k_are_apart ?a_hang_together ?l_hang_together ?c_hang_together ?k_hang_together ?a_count_houses ?l_count_houses ?c_count_houses ?k_count_houses ?a_plain_text ?l_plain_text ?c_plain_text ?k_plain_text ?a_is_integer ?l_is_integer ?c_is_integer ?k_is_integer ?a_is_count ?l_is_count ?c_is_count ?k_is_count ?a_is_index ?l_is_index ?c_is_index ?k_is_index ?a_is_house ?l_is_house ?c_is_house ?k_is_house ?a_is_mark ?l_is_mark ?c_is_mark ?k_is_mark ?a_doors_of ?l_doors_of ?c_doors_of ?k_doors_of ?a_law_roads ?l_law_roads ?c_law_roads ?k_law_roads ?a_law_visit_right ?l_law_visit_right ?c_law_visit_right ?k_law_visit_right ?a_visit ?l_visit ?c_visit ?k_visit ?a_ways_of ?l_ways_of ?c_ways_of ?k_ways_of ?a_visit_behind ?l_visit_behind ?c_visit_behind ?k_visit_behind ?a_steps_without ?l_steps_without ?c_steps_without ?k_steps_without ?a_check_house ?l_check_house ?c_check_house ?k_check_house ?a_check_web ?l_check_web ?c_check_web ?k_check_web ?a_is_word ?l_is_word ?c_is_word ?k_is_word ?a_check_round ?l_check_round ?c_check_round ?k_check_round ?a_web_of ?l_web_of ?c_web_of ?k_web_of ?a_ring ?l_ring ?c_ring ?k_ring ?a_board ?l_board ?c_board ?k_board ?aC ?a_Winit ?i_Winit ?l_Winit ?c_Winit ?k_Winit ?a_Wcheck_house ?i_Wcheck_house ?l_Wcheck_house ?c_Wcheck_house ?k_Wcheck_house ?a_Wat ?i_Wat ?l_Wat ?c_Wat ?k_Wat ?a_Wgo ?i_Wgo ?l_Wgo ?c_Wgo ?k_Wgo ?a_Whouses ?g_Whouses ?t_Whouses ?r_Whouses ?l_Whouses ?c_Whouses ?k_Whouses ?a_Wties ?g_Wties ?t_Wties ?r_Wties ?l_Wties ?c_Wties ?k_Wties ?pg ?hd ?po ?sa ?n0 ?n1 ?n2 ?n3 ?mk ?kC ?wha ?whn ?wht ?whm ?z_isinstance ?z_str ?z_sorted ?z_range ?z_len ?z_max ?z_min ?z_int ?z_bool ?z_tuple ?z_divmod ?z_abs ?z_list ?z_all ?z_set ?v_MOST_HOUSES ?v_MARKS ?v_UNREAD ?v_MOST_WORD ?v_LEAST_ROUND
    (case a_law_purse => k_is)
    (case l_law_purse => k_is)
    (case c_law_purse => k_is)
    (case k_law_purse => k_is)
    (case a_law_take => k_is)
    (case l_law_take => k_is)
    (case c_law_take => k_is)
    (case k_law_take => k_is)
    (case a_law_edges => k_is)
    (case l_law_edges => k_is)
    (case c_law_edges => k_is)
    (case k_law_edges => k_is)
    (case a_law_free => k_is)
    (case l_law_free => k_is)
    (case c_law_free => k_is)
    (case k_law_free => k_is)
    (case a_law_ties => k_is)
    (case l_law_ties => k_is)
    (case c_law_ties => k_is)
    (case k_law_ties => k_is)
    (case a_law_plain => k_is)
    (case l_law_plain => k_is)
    (case c_law_plain => k_is)
    (case k_law_plain => k_is)
    (case a_law_text => k_is)
    (case l_law_text => k_is)
    (case c_law_text => k_is)
    (case k_law_text => k_is)
    (case a_law_right => k_is)
    (case l_law_right => k_is)
    (case c_law_right => k_is)
    (case k_law_right => k_is)
    (case a_law => k_is)
    (case l_law => k_is)
    (case c_law => k_is)
    (case k_law => k_is)
    (case a_read_ties => k_is)
    (case l_read_ties => k_is)
    (case c_read_ties => k_is)
    (case k_read_ties => k_is)
    (case a_read_torn => k_is)
    (case l_read_torn => k_is)
    (case c_read_torn => k_is)
    (case k_read_torn => k_is)
    (case a_read_line => k_is)
    (case l_read_line => k_is)
    (case c_read_line => k_is)
    (case k_read_line => k_is)
    (case a_may_be_mark => k_is)
    (case l_may_be_mark => k_is)
    (case c_may_be_mark => k_is)
    (case k_may_be_mark => k_is)
    (case a_read_house => k_is)
    (case l_read_house => k_is)
    (case c_read_house => k_is)
    (case k_read_house => k_is)
    (case a_read_number => k_is)
    (case l_read_number => k_is)
    (case c_read_number => k_is)
    (case k_read_number => k_is)
    (case a_tie_between => k_is)
    (case l_tie_between => k_is)
    (case c_tie_between => k_is)
    (case k_tie_between => k_is)
    (case a_are_apart => k_is)
    (case l_are_apart => k_is)
    (case c_are_apart => k_is)
    (case k_are_apart => k_is)
    (case a_hang_together => k_is)
    (case l_hang_together => k_is)
    (case c_hang_together => k_is)
    (case k_hang_together => k_is)
    (case a_count_houses => k_is)
    (case l_count_houses => k_is)
    (case c_count_houses => k_is)
    (case k_count_houses => k_is)
    (case a_plain_text => k_is)
    (case l_plain_text => k_is)
    (case c_plain_text => k_is)
    (case k_plain_text => k_is)
    (case a_is_integer => k_is)
    (case l_is_integer => k_is)
    (case c_is_integer => k_is)
    (case k_is_integer => k_is)
    (case a_is_count => k_is)
    (case l_is_count => k_is)
    (case c_is_count => k_is)
    (case k_is_count => k_is)
    (case a_is_index => k_is)
    (case l_is_index => k_is)
    (case c_is_index => k_is)
    (case k_is_index => k_is)
    (case a_is_house => k_is)
    (case l_is_house => k_is)
    (case c_is_house => k_is)
    (case k_is_house => k_is)
    (case a_is_mark => k_is)
    (case l_is_mark => k_is)
    (case c_is_mark => k_is)
    (case k_is_mark => k_is)
    (case a_doors_of => k_is)
    (case l_doors_of => k_is)
    (case c_doors_of => k_is)
    (case k_doors_of => k_is)
    (case a_law_roads => k_is)
    (case l_law_roads => k_is)
    (case c_law_roads => k_is)
    (case k_law_roads => k_is)
    (case a_law_visit_right => k_is)
    (case l_law_visit_right => k_is)
    (case c_law_visit_right => k_is)
    (case k_law_visit_right => k_is)
    (case a_visit => k_is)
    (case l_visit => k_is)
    (case c_visit => k_is)
    (case k_visit => k_is)
    (case a_ways_of => k_is)
    (case l_ways_of => k_is)
    (case c_ways_of => k_is)
    (case k_ways_of => k_is)
    (case a_visit_behind => k_is)
    (case l_visit_behind => k_is)
    (case c_visit_behind => k_is)
    (case k_visit_behind => k_is)
    (case a_steps_without => k_is)
    (case l_steps_without => k_is)
    (case c_steps_without => k_is)
    (case k_steps_without => k_is)
    (case a_check_house => k_is)
    (case l_check_house => k_is)
    (case c_check_house => k_is)
    (case k_check_house => k_is)
    (case a_check_web => k_is)
    (case l_check_web => k_is)
    (case c_check_web => k_is)
    (case k_check_web => k_is)
    (case a_is_word => k_is)
    (case l_is_word => k_is)
    (case c_is_word => k_is)
    (case k_is_word => k_is)
    (case a_check_round => k_is)
    (case l_check_round => k_is)
    (case c_check_round => k_is)
    (case k_check_round => k_is)
    (case a_web_of => k_is)
    (case l_web_of => k_is)
    (case c_web_of => k_is)
    (case k_web_of => k_is)
    (case a_ring => k_is)
    (case l_ring => k_is)
    (case c_ring => k_is)
    (case k_ring => k_is)
    (case a_board => k_is)
    (case l_board => k_is)
    (case c_board => k_is)
    (case k_board => k_is)
    (case aC => k_is)
    (case a_Winit => k_is)
    (case i_Winit => k_is)
    (case l_Winit => k_is)
    (case c_Winit => k_is)
    (case k_Winit => k_is)
    (case a_Wcheck_house => k_is)
    (case i_Wcheck_house => k_is)
    (case l_Wcheck_house => k_is)
    (case c_Wcheck_house => k_is)
    (case k_Wcheck_house => k_is)
    (case a_Wat => k_is)
    (case i_Wat => k_is)
    (case l_Wat => k_is)
    (case c_Wat => k_is)
    (case k_Wat => k_is)
    (case a_Wgo => k_is)
    (case i_Wgo => k_is)
    (case l_Wgo => k_is)
    (case c_Wgo => k_is)
    (case k_Wgo => k_is)
    (case a_Whouses => k_is)
    (case g_Whouses => k_is)
    (case t_Whouses => k_is)
    (case r_Whouses => k_is)
    (case l_Whouses => k_is)
    (case c_Whouses => k_is)
    (case k_Whouses => k_is)
    (case a_Wties => k_is)
    (case g_Wties => k_is)
    (case t_Wties => k_is)
    (case r_Wties => k_is)
    (case l_Wties => k_is)
    (case c_Wties => k_is)
    (case k_Wties => k_is)
    (case pg => k_is)
    (case hd => k_is)
    (case po => k_is)
    (case sa => k_is)
    (case n0 => k_is)
    (case n1 => k_is)
    (case n2 => k_is)
    (case n3 => k_is)
    (case mk => k_is)
    (case kC => k_is)
    (case wha => k_is)
    (case whn => k_is)
    (case wht => k_is)
    (case whm => k_is)
    (case z_isinstance => k_is)
    (case z_str => k_is)
    (case z_sorted => k_is)
    (case z_range => k_is)
    (case z_len => k_is)
    (case z_max => k_is)
    (case z_min => k_is)
    (case z_int => k_is)
    (case z_bool => k_is)
    (case z_tuple => k_is)
    (case z_divmod => k_is)
    (case z_abs => k_is)
    (case z_list => k_is)
    (case z_all => k_is)
    (case z_set => k_is)
    (case v_MOST_HOUSES => k_is)
    (case v_MARKS => k_is)
    (case v_UNREAD => k_is)
    (case v_MOST_WORD => k_is)
    (case v_LEAST_ROUND => k_is)
