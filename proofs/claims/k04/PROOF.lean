import PyProof.Rows.All
import Wide.All
import OpenK.AllK
import Wide.FinOn
import HandS.ForMost
import HandS.SortRule
import HandS.Deep
import HandS.DictTup
import HandS.Small
import HandS.MakeKwOnly
import HandS.IsInst
import HandS.FStr
import HandS.OwnEq
import HandS.Property
import HandS.Lambda
import HandS.Exc
import HandS.TryOnly
import KE.KTryMore
import HandS.ExcIs
import HandS.ExcField
import HandS.CallRecv
import KE.KExcIs
import KE.SortData
import HandS.Walk
import HandS.RaiseMore
import HandS.Conv
import PyProof.InstNe
import OpenK.KOwn
import PyProof.Rows.TmSorted
import HandS.More
import HandS.ExcInit
import HandS.WordsExc
import KE.KNestM
import HandS.EndTab
import PySem.Challenge.RW_whichhouse_k04_whole_changed_marks
set_option Elab.async false
set_option linter.all false
set_option maxRecDepth 100000
set_option maxHeartbeats 2000000
namespace Wh
open PySem L2
/-! ### heaps -/
/-- all that was tracked is as it was, but what stands at c -/
def But (c : Addr) (H H' : Hp) : Prop := ∀ b o, H b = some o → b ≠ c → H' b = some o
theorem But.refl (c : Addr) (H : Hp) : But c H H := fun _ _ h _ => h
theorem But.trans {c : Addr} {H H1 H2 : Hp} (a : But c H H1) (b : But c H1 H2) : But c H H2 := fun d o h n => b d o (a d o h n) n
theorem _root_.L2.Same.but {c : Addr} {H H' : Hp} (a : Same H H') : But c H H' := fun d o h _ => a d o h
theorem same_upd {H : Hp} {p : Addr} {o : HO} (h : H p = none) : Same H (upd H p o) := fun b x e => by
  rw [upd_ne (ne_of_none e h)]
  exact e
theorem _root_.L2.Same.put {H H' : Hp} {p : Addr} {o : HO} (s : Same H H') (h : H' p = none) : Same H (upd H' p o) := Same.trans s (same_upd h)
/-- an object of one's own, new since H, is written again -/
theorem _root_.L2.Same.own {H H' : Hp} {p : Addr} {o : HO} (s : Same H H') (h : H p = none) : Same H (upd H' p o) := fun b x e => by
  rw [upd_ne (ne_of_none e h)]
  exact s b x e
theorem But.put {c : Addr} {H H' : Hp} {p : Addr} {o : HO} (a : But c H H') (h : H' p = none) : But c H (upd H' p o) := fun d x e n => same_upd h d x (a d x e n)
theorem But.own {c : Addr} {H H' : Hp} {p : Addr} {o : HO} (a : But c H H') (h : H p = none) : But c H (upd H' p o) := fun d x e n => by
  rw [upd_ne (ne_of_none e h)]
  exact a d x e n
theorem But.at {c : Addr} {H H' : Hp} {o : HO} (a : But c H H') : But c H (upd H' c o) := fun d x e n => by
  rw [upd_ne n]
  exact a d x e n
theorem put_ne {H : Hp} {b c : Addr} {o u : HO} (e : H b = some o) (n : b ≠ c) : upd H c u b = some o := (upd_ne n).trans e
/-- what was there stands when a new object is laid -/
theorem put_old {H : Hp} {b p : Addr} {o u : HO} (e : H b = some o) (h : H p = none) : upd H p u b = some o := put_ne e (ne_of_none e h)
theorem ne_new {H : Hp} {c p : Addr} {o : HO} (h : upd H c o p = none) : c ≠ p := fun e => by
  rw [← e, upd_same] at h
  cases h
theorem new_of {H : Hp} {c p : Addr} {o : HO} (h : upd H c o p = none) : H p = none := (upd_ne (ne_new h).symm).symm.trans h
theorem _root_.L2.Room.u65 {k : Nat} {A : Around} (r : Room k A) : A.units + 65 < cLine := by
  have := r.un
  omega
/-- a cup: two ints -/
def Cup (H : Hp) (c : Addr) : Prop := ∃ a b : Int, H c = some (.lst [.int a, .int b])
theorem Cup.same {H H' : Hp} {c : Addr} (h : Cup H c) (s : Same H H') : Cup H' c := by
  obtain ⟨a, b, e⟩ := h
  exact ⟨a, b, s _ _ e⟩
theorem Cup.put {H : Hp} {c p : Addr} {o : HO} (h : Cup H c) (n : H p = none) : Cup (upd H p o) c := h.same (same_upd n)
theorem Cup.ne {H : Hp} {c p : Addr} (h : Cup H c) (n : H p = none) : c ≠ p := by
  obtain ⟨a, b, e⟩ := h
  exact ne_of_none e n
/-! ### the ways of an expression are joined -/
def tMid (t : TE) : TE := fun σ H Q => ∃ Q0 : VK, t σ H Q0 ∧ ∀ x H1, Q0 x H1 → Q x H1
theorem pe_mid {X : Cx} {e : Expr} {t : TE} (h : PE X e t) : PE X e (tMid t) := ⟨fun pins s σ H Q I ⟨Q0, h0, hk⟩ =>
  thn (h.run pins s σ H Q0 I h0) fun _ _ ⟨v, H1, I1, r1, q1⟩ => ⟨v, H1, I1, r1, hk v H1 q1⟩⟩
/-! ### f-strings, their reading by a name -/
def tFs (ts : List TE) : TE := fun σ H Q => tJs ts Str.empty σ H fun out H1 => Q (.str out) H1
theorem pe_fs {X : Cx} {v1 v2 : Expr} {rest : List Expr} {ts : List TE} {pos : Pos} (h : PJ X (v1 :: v2 :: rest) ts) : PE X (.JoinedStr (v1 :: v2 :: rest) pos) (tFs ts) := pe_joined h
/-! ### rules over the written part by its name (within comprehensions of comprehensions) -/
section
variable {X : Cx}
theorem ix_listK (K : PySem.W.Frag) (h : X.K = K) : IxR X (rIxL K) := h ▸ ix_list
theorem ix_tupK (K : PySem.W.Frag) (h : X.K = K) : IxR X (rIxT K) := h ▸ ix_tup
theorem op_notInK (K : PySem.W.Frag) (h : X.K = K) : OpR X (compareOp .NotIn) (rIn K true) := h ▸ op_notIn_seq
theorem op_inK (K : PySem.W.Frag) (h : X.K = K) : OpR X (compareOp .In) (rIn K false) := h ▸ op_in_seq
def rJoin (K : PySem.W.Frag) : V → List V → Hp → VK → Prop := fun x xs H Q => ∃ a p, ∃ ys : List Str, x = .str a ∧ xs = [.ref p] ∧ (SqL K H p (ys.map V.str) ∨ SqT K H p (ys.map V.str)) ∧
    (ys.map (·.length)).sum + ys.length * a.length ≤ 16777216 ∧ Q (.str (Txt.join a ys)) H
theorem mt_joinK (K : PySem.W.Frag) (h : X.K = K) : MtR X "str.join" (rJoin K) := h ▸ mt_join
theorem pe_joinK (K : PySem.W.Frag) (h : X.K = K) {o e : Expr} {to te : TE} {apos pos : Pos} (ho : PE X o to) (he : PE X e te) (hs : starEach [e] X.env = [(false, eval e X.env)] := by rfl) (hbase : attributeBase o "join" X.env (eval o X.env) = eval o X.env := by rfl) (hline : (apos.endLine == pos.line) = true := by rfl) :
    PE X (.Call (.Attribute o "join" apos) [e] [] pos) (tM1 (rJoin K) to te) := pe_m1 PySem.F.slot_str_join PySem.F.type_str_join (mt_joinK K h) ho he hs hbase hline
theorem pg_tupK (K : PySem.W.Frag) (n : Nat) (hK : X.K = K) {es : List Expr} {k : Nat} {t : TGs} {pos : Pos} (hc : X.calm = true) (h : PGs X es t)
    (hn : (assignEach es X.env).length = n := by rfl) (hst : (assignEach es X.env).findIdx? (·.1) = none := by rfl) : PG X (.Tuple es k pos) (gTup K n t) := hK ▸ pg_tup hc h hn hst
theorem pi_listK (K : PySem.W.Frag) (h : X.K = K) {tg l : Expr} {tl : TE} (hl : PE X l tl) : PI X tg l (iList K tl) := h ▸ pi_list hl
theorem pi_tupK (K : PySem.W.Frag) (h : X.K = K) {tg l : Expr} {tl : TE} (hl : PE X l tl) : PI X tg l (iTup K tl) := h ▸ pi_tup hl
theorem sl_listK (K : PySem.W.Frag) (h : X.K = K) : SlR X (rSlL K) := h ▸ sl_list
end
end Wh

namespace Wh
open PySem PySem.Spec PyProof.Rows L2
/-! ### a first except clause with any test that says yes, and a name -/
/-- what stands stays: an error in flight stays so when objects are added -/
theorem fly_add {B h h' : Heap} {l : List Env} {e : Addr} {Z : Obj → Prop} (R : HandSPX.FlyingZ B l e Z h) (add : ∀ b o, h.get? b = some o → h'.get? b = some o) : HandSPX.FlyingZ B l e Z h' := by
  rcases R with ⟨keep, fresh, frames, oe, ws, tr, otr, trs, at_, isZ, fields, noctx, ne1, ne2, trAt, trFields, nofl⟩
  refine ⟨fun b o q => add b o (keep b o q), fresh, ?_, oe, ws, tr, otr, trs, add _ _ at_, isZ, fields, noctx, ne1, ne2, add _ _ trAt, trFields, nofl⟩
  exact frames.of_keeps fun b o q _ => ⟨o, add b o q, rfl⟩
/-- the test, asked while the error stands at a: it makes new objects at most, and says yes to errors of the classes that `yes` names -/
def Asks (X : Cx) (test : Expr) (yes : Value → Prop) : Prop := ∀ (a : Addr) (oe : Obj) (cls : Value) (pn pins : List (Addr × Obj)) (σ : L2.St) (H : Hp) (s : Shared), L2.Inv (X.suite a ((a, oe) :: pn)) pins σ H s → s.heap.get? a = some oe → oe.cls = cls → yes cls →
  ∀ {Q : Value → Shared → Prop} {E : Value → Shared → Prop}, (∀ (v : Value) (h' : Heap), (∀ b o, s.heap.get? b = some o → h'.get? b = some o) → PySem.W.Looks (model X.prog X.w) h' (excMatches (.ref a) v) true → Q v { s with heap := h' }) →
    wpAny (model X.prog X.w) (X.A.mark (some (.ref a))) (eval test X.env) Q E s
/-- the ends of a suite that holds an error by a name in slot i: behind it the slot is empty -/
def letGo (i : Nat) (D : Ends) : Ends where
  nx := fun τ G => D.nx (τ.set i none) G
  rt := D.rt
  bk := fun τ G => D.bk (τ.set i none) G
  ct := fun τ G => D.ct (τ.set i none) G
def wWhen (N : Nat) (yes : Value → Prop) (i : Nat) (ts : Addr → Value → Option Addr → TS) (D : Ends) : WX := fun cls d σ H => yes cls ∧ (σ.length = N → ∀ a, H a = none → ts a cls d (letGo i D) (σ.set i (some (.ref a))) H)
section
variable {X : Cx}
/-- an end of the tried body is an end of the whole -/
theorem sp_tried {pn : List (Addr × Obj)} {pins : List (Addr × Obj)} {xe : Value → Shared → Prop} {D : Ends} {f : Flow} {s : Shared} (ok : X.Ok) (q : SP (X.tr (pn ++ pins) xe) [] D f s) (e : pn = X.pn) : SP X pins D f s := by
  subst e
  match f, q with
  | .next, ⟨τ, G, J, z⟩ => exact ⟨τ, G, J.ofTry ok, z⟩
  | .brk, ⟨τ, G, J, z⟩ => exact ⟨τ, G, J.ofTry ok, z⟩
  | .cont, ⟨τ, G, J, z⟩ => exact ⟨τ, G, J.ofTry ok, z⟩
  | .ret _, ⟨v, τ, G, J, r, z⟩ => exact ⟨v, τ, G, J.ofTry ok, r, z⟩
/-- behind the suite its name goes -/
theorem sp_named {n : Str} {i : Nat} {a : Addr} {oe : Obj} {pins : List (Addr × Obj)} {p : Pos} {D : Ends} {f : Flow} {s : Shared} (ok : X.Ok) (nd : X.N.Nodup) (at_ : X.N[i]? = some n) (loc : X.env.kindOf n = some .local)
    (q : SP (X.suite a ((a, oe) :: (X.pn ++ pins))) [] (letGo i D) f s) : wpAny (model X.prog X.w) X.A (do bindName X.env n .none; unbindBehindTheSuite X.env n p) (fun _ s' => SP X pins D f s') X.xe s := by
  match f, q with
  | .next, ⟨τ, G, J, z⟩ => exact gone_ok (J.unsuite ok) nd at_ loc fun _ I => ⟨_, G, I, z⟩
  | .brk, ⟨τ, G, J, z⟩ => exact gone_ok (J.unsuite ok) nd at_ loc fun _ I => ⟨_, G, I, z⟩
  | .cont, ⟨τ, G, J, z⟩ => exact gone_ok (J.unsuite ok) nd at_ loc fun _ I => ⟨_, G, I, z⟩
  | .ret _, ⟨v, τ, G, J, r, z⟩ => exact gone_ok (J.unsuite ok) nd at_ loc fun _ I => ⟨v, _, G, I, r, z⟩
/-- an error's object is no frame -/
theorem err_noframe {B h : Heap} {l : List Env} {a : Addr} {o : Obj} {vs : Array Value} (fr : h.FunFrames B l) (at_ : h.get? a = some o) (fields : o.data = .fields vs) : a ∉ frs l := fun m => by
  obtain ⟨_, u, eu, no⟩ := fr.mem m
  cases at_.symm.trans eu
  exact no _ fields
theorem ps_try_when {test : Expr} {yes : Value → Prop} {n : Str} {i : Nat} {body suite : List Stmt} {b₀ : Stmt} {p p' : Pos} {rest : List ExceptHandler} {tb : WX → TS} {ts : Addr → Value → Option Addr → TS}
    (stk : X.stack = X.env :: X.outer) (frm : X.env.frame = some X.env.locals) (nd : X.N.Nodup) (at_ : X.N[i]? = some n) (loc : X.env.kindOf n = some .local) (ask : Asks X test yes)
    (bod : ∀ (W : WX) (pn : List (Addr × Obj)) (xe : Value → Shared → Prop), Takes (X.tr pn xe) W → PSs (X.tr pn xe) body (tb W))
    (sui : ∀ (a : Addr) (oe : Obj) (cls : Value) (d : Option Addr) (pn : List (Addr × Obj)), Zc cls d oe → (∃ vs, oe.data = .fields vs) → PSs (X.suite a ((a, oe) :: pn)) (b₀ :: suite) (ts a cls d)) :
    PS X (.Try body (.ExceptHandler (some test) (some n) (b₀ :: suite) p' :: rest) [] [] p) (fun D σ H => tb (wWhen X.N.length yes i ts D) D σ H) where
  run pins s σ H D I rd := by
    have ok := I.ok
    have top : X.A.frames = some (X.env :: X.outer) := ok.frames.trans (congrArg some stk)
    refine wpAny_Try_except ?_
    let caught : Value → Shared → Prop := fun e s₁ => wpAny (model X.prog X.w) X.A (noteFrame e X.env) (fun _ s₂ => wpAny (model X.prog X.w) X.A (setFlight e none) (fun _ s₃ => wpAny (model X.prog X.w) X.A (handleBy e X.env (.ExceptHandler (some test) (some n) (b₀ :: suite) p' :: rest)) (SP X pins D) X.xe s₃) X.xe s₂) X.xe s₁
    have takes : Takes (X.tr (X.pn ++ pins) caught) (wWhen X.N.length yes i ts D) := by
      rintro _ s' ⟨a, B, sI, pins', τ, G, cls, d, rfl, J0, nb, up, sky, na, os, bare, isYes, go⟩
      have J : L2.Inv X pins τ G sI := J0.ofTry ok
      have sky1 : Sky B (X.env :: X.outer) a (Zc cls d) X.env.locals s'.heap := stk ▸ sky
      refine Sky.land (A := X.A) (Q := fun _ s₃ => wpAny (model X.prog X.w) X.A (handleBy (.ref a) X.env (.ExceptHandler (some test) (some n) (b₀ :: suite) p' :: rest)) (SP X pins D) X.xe s₃) Zc.steady top frm sky1 fun g fly upg => ?_
      have Jg : L2.Inv X pins τ G { s' with heap := g } := J.landed nb fly.1 (up.trans upg) os bare
      obtain ⟨oe, vs, here, isZ, fields⟩ := fly.there
      have outF := err_noframe fly.2.2.1 here fields
      have notL : a ≠ X.env.locals := fun z => outF (List.mem_filterMap.mpr ⟨X.env, .head _, frm.trans (congrArg some z.symm)⟩)
      have notFs : a ∉ X.fs := fun m => by
        obtain ⟨e, he, q⟩ := List.mem_filterMap.mp m
        exact outF (List.mem_filterMap.mpr ⟨e, .tail _ he, q⟩)
      refine wpAny_handleBy_cons (codeAny_handlers_test (ask a oe cls (X.pn ++ pins) _ τ G _ (Jg.suite here fields na notL notFs) here isZ.1 isYes fun v g2 add says => says.here ?_)) (fun z => by cases z)
      refine codeAny_handlers_suite_as (HandSPX.lands_againZ (fly_add fly add) fun g3 fly3 up3 => ?_)
      have J3 : L2.Inv X pins τ G { s' with heap := g3 } := J.landed nb fly3.1 (((up.trans upg).trans (Heap.UpToSlots.of_keeps add)).trans up3) os bare
      obtain ⟨oe3, vs3, here3, isZ3, fields3⟩ := fly3.there
      refine store_ok (X := X.suite a ((a, oe3) :: (X.pn ++ pins))) (v := .ref a) (J3.suite here3 fields3 na notL notFs) nd at_ (.inl loc) rfl (fun s5 S5 => ?_) (.inr loc)
      exact wpAny_mono ((sui a oe3 cls d (X.pn ++ pins) isZ3 ⟨_, fields3⟩).run [] s5 _ G _ S5 (go J.len a na)) (fun f s6 q => sp_named ok nd at_ loc q) fun _ _ z => z.elim
    refine wpAny_mono ((bod _ _ _ takes).run [] s σ H D (I.toTry _) rd) (fun f s1 q => ?_) fun _ _ z => z
    have q' := sp_tried ok q rfl
    match f, q' with
    | .next, q' => exact wpAny_execs_nil q'
    | .brk, q' => exact q'
    | .cont, q' => exact q'
    | .ret _, q' => exact q'
/-- the test is a tuple of four names of classes -/
theorem asks4 {x1 x2 x3 x4 : Str} {c1 c2 c3 c4 : Value} {p1 p2 p3 p4 tp : Pos} {kk : Nat} (n1 : Names X x1 c1) (n2 : Names X x2 c2) (n3 : Names X x3 c3) (n4 : Names X x4 c4) :
    Asks X (.Tuple [.Name x1 p1, .Name x2 p2, .Name x3 p3, .Name x4 p4] kk tp) (fun cls => PySem.W.exmAny X.K cls [c1, c2, c3, c4] = some true) := by
  intro a oe cls pn pins σ H s S here isC yes Q E done
  have name : ∀ {x : Str} {q : Pos} {c : Value} {R : Value → Shared → Prop}, Names X x c → R c s → wpAny (model X.prog X.w) (X.A.mark (some (.ref a))) (eval (.Name x q) X.env) R E s := fun {x q c R} ⟨g, nb, k⟩ r => by
    rcases k with m | ⟨m, bt, nn⟩
    · exact ld_glob (X := X.suite a ((a, oe) :: pn)) S g m r nb
    · exact ld_blt (X := X.suite a ((a, oe) :: pn)) S g m bt r nn nb
  refine wpAny_Tuple (wpAny_items_cons (name n1 (wpAny_items_cons (name n2 (wpAny_items_cons (name n3 (wpAny_items_cons (name n4 (wpAny_items_nil ⟨by rw [sizeLine_eq]; exact (by decide : 4 ≤ 16777216), ?_⟩)))))))))
  have add : ∀ b o, s.heap.get? b = some o → (s.heap.push { cls := .type "tuple", data := .seq [c1, c2, c3, c4].toArray }).get? b = some o := fun _ _ q => Heap.get?_push_of_some _ q
  have ty : PySem.W.Looks (model X.prog X.w) s.heap (typeOf (.ref a)) cls := fun A R E' s' k r => wpAny_typeOf_ref (k _ _ here) (isC ▸ r)
  exact done _ _ add (PySem.W.exm_tup4 (M := model X.prog X.w) (S.kIn.keeps add) (ty.keeps add) (Heap.get?_push_size s.heap rfl) yes)
end
end Wh

namespace Wh
open PySem PySem.Spec PyProof.Rows L2
/-! ### isinstance(e, c), e the exception that the suite holds, with fields -/
def rIsD (K : PySem.W.Frag) (a : Addr) (cls : Value) (d : Option Addr) : List V → Hp → VK → Prop := fun xs H Q => ∃ (D : Addr) (c : V) (cv : Value) (b : Bool) (dd : Addr) (fs : List (Str × V)), cls = .ref D ∧ L2.ExcC K D ∧ d = some dd ∧ H dd = some (.xd fs) ∧
  xs = [.ref a, c] ∧ (∀ u, RelV c u → u = cv) ∧ PySem.W.kitOne K (.ref D) cv = some b ∧ Q (.bl b) H
theorem call_isD {X : Cx} {a : Addr} {cls : Value} {d : Option Addr} {oe : Obj} {pn : List (Addr × Obj)} (hz : Zc cls d oe) (hf : ∃ vs, oe.data = .fields vs) : CallR (X.suite a ((a, oe) :: pn)) (.builtin "isinstance") (rIsD X.K a cls d) := by
  intro pins s σ H xs us Q I r h
  obtain ⟨D, c, cv, b, dd, fs, ec, C, ed, hdd, rfl, hcv, e, q⟩ := h
  subst ec
  subst ed
  cases r with
  | cons rx rr =>
    cases rr with
    | cons rt rr =>
      cases rr
      cases rx
      have ec := hcv _ rt
      subst ec
      obtain ⟨hget, _⟩ := I.pin (a, oe) (List.mem_append.mpr (.inl List.mem_cons_self))
      obtain ⟨vs, hv⟩ := hf
      have hx : ObjOk X.prog X.w H s.heap dd (.xd fs) := I.hok dd _ hdd
      obtain ⟨mA, hns, hr⟩ := hx
      obtain ⟨od, ho, hl⟩ := lookIn_ns hns
      have J : PySem.W.InstAt s.heap a oe D (some od) := ⟨hget, hz.1, by unfold PySem.W.notCls; rw [hv] <;> rfl, by rw [hz.2]; exact ho⟩
      have hcl : (PySem.W.clsIn X.K D).isSome = true := by
        obtain ⟨cd, hc, _⟩ := PySem.W.any_some C.hd
        rw [hc]
        rfl
      exact PySem.W.kia_one (PySem.W.kitx_exc hcl C.hg C.hk C.hs C.ha C.hn C.ht C.hm) I.kIn J e (fun z => nomatch z) fun tk => ⟨.bl b, H, I.tok tk, rfl, q⟩
def rReprS : List V → Hp → VK → Prop := fun xs H Q => ∃ x, xs = [V.str x] ∧ (reprText x).length ≤ sizeLine ∧ Q (.str (reprText x)) H
theorem call_repr_str {X : Cx} : CallR X (.builtin "repr") rReprS := by
  intro pins s σ H xs us Q I r h
  obtain ⟨x, rfl, hz, q⟩ := h
  obtain ⟨u, rfl, rx⟩ := vals1 r
  obtain ⟨t, rfl⟩ := rx
  exact PySem.P.repr_of_str ⟨.str _, H, I.tok _, ⟨_, rfl⟩, q⟩ hz
end Wh

namespace Wh
open PySem L2 PySem.Spec PyProof.Rows
/-! ### sorted(xs) of data that are alike: the one stable arrangement -/
def rSortD (K : PySem.W.Frag) : List V → Hp → VK → Prop := fun vs H Q => ∃ (a : Addr) (bs : List (V × PyData)), vs = [V.ref a] ∧ SqL K H a (bs.map (·.1)) ∧ (∀ b ∈ bs, Dp K H b.1 b.2) ∧
  PySem.W.AllAlike (bs.map (·.2)) ∧ PySem.W.Sortable (bs.map (·.2)) ∧ (∀ b ∈ bs, b.2.depth ≤ 8) ∧
  ∀ p, H p = none → Q (.ref p) (upd H p (.lst ((bs.mergeSort (PySem.W.dataLe false (·.2))).map (·.1))))
theorem each_vals : ∀ {bs : List (V × PyData)} {us : List Value}, Vals (bs.map (·.1)) us → PySem.W.EachIs (fun (v : Value) (b : V × PyData) => RelV b.1 v) us bs
  | [], _, .nil => .nil
  | _ :: _, _, .cons r t => .cons r (each_vals t)
theorem vals_each : ∀ {bs : List (V × PyData)} {us : List Value}, PySem.W.EachIs (fun (v : Value) (b : V × PyData) => RelV b.1 v) us bs → Vals (bs.map (·.1)) us
  | _, _, .nil => .nil
  | _, _, .cons r t => .cons r (vals_each t)
theorem each_reads {X : Cx} {pins : List (Addr × Obj)} {σ : L2.St} {H : Hp} {s : Shared} (I : Inv X pins σ H s) : ∀ {bs : List (V × PyData)} {us : List Value}, Vals (bs.map (·.1)) us → (∀ b ∈ bs, Dp X.K H b.1 b.2) →
    PySem.W.EachIs (fun (v : Value) (b : V × PyData) => ∃ as, Reads s.heap v b.2 as) us bs
  | [], _, .nil, _ => .nil
  | b :: bs, _, .cons r t, h => .cons (Dp.reads I b.2 b.1 _ (h b List.mem_cons_self) r) (each_reads I t fun c hc => h c (List.mem_cons_of_mem _ hc))
section
variable {X : Cx}
theorem cr_sortD (hu : X.A.units + 64 < cLine) : CallR X (.builtin "sorted") (rSortD X.K) := by
  intro pins s σ H vs us Q I r h
  obtain ⟨a, bs, rfl, hs, hd, hal, hk, hdp, q⟩ := h
  obtain ⟨its, rv, hl, hz⟩ := I.list hs
  obtain ⟨u, rfl, ru⟩ := vals1 r
  obtain rfl : u = Value.ref a := ru
  have hlen : its.length = bs.length := by rw [← rv.length, List.length_map]
  refine PySem.W.sorted_data (vs := its) (bs := bs) (enc := (·.2)) (R := fun (v : Value) (b : V × PyData) => RelV b.1 v) hl.isList (each_vals rv) (each_reads I rv hd) hal hk (by rw [List.length_map] at hz; exact hz) (fun b hb => ?_) fun out ho he => ?_
  · have h1 := hdp b hb
    omega
  · obtain ⟨ep, he'⟩ := PyProof.Rows.sortedAll_at s.heap its (List.toArray out)
    refine ⟨.ref _, upd H (s.heap.objs.size + 1) (.lst ((bs.mergeSort (PySem.W.dataLe false (·.2))).map (·.1))), I.laid (t' := s.toks) (fun _ _ => PyProof.Rows.sortedAll_old) (Nat.le_succ _) ⟨?_, out, ep, vals_each he, he'⟩, rfl, q _ (I.hok.fresh (Nat.le_succ _))⟩
    rw [List.length_map, (List.mergeSort_perm bs _).length_eq]
    rw [List.length_map] at hz
    exact hz
end
end Wh

namespace Wh
open PySem L2
/-! ### pairs of houses, ties -/
abbrev Pr := Nat × Nat
def prV (p : Pr) : List V := [.int (p.1 : Int), .int (p.2 : Int)]
structure Tie where
  a : Nat
  m : Nat
  b : Nat
  o : Nat
  deriving DecidableEq
def sgn (c : Nat) : Str := ⟨#[c]⟩
def tieV (t : Tie) : List V := [.int (t.a : Int), .str (sgn t.m), .int (t.b : Int), .str (sgn t.o)]
/-- a row of new tuples -/
def At {α : Type} (f : α → List V) (H : Hp) (ps : List (Addr × α)) : Prop := ∀ p ∈ ps, H p.1 = some (.tup (f p.2))
def refs {α : Type} (ps : List (Addr × α)) : List V := ps.map fun p => V.ref p.1
theorem refs_app {α : Type} (ps qs : List (Addr × α)) : refs (ps ++ qs) = refs ps ++ refs qs := List.map_append
theorem refs_len {α : Type} (ps : List (Addr × α)) : (refs ps).length = ps.length := List.length_map _
theorem At.mono {α : Type} {f : α → List V} {H H' : Hp} {ps : List (Addr × α)} (h : At f H ps) (k : ∀ b xs, H b = some (.tup xs) → H' b = some (.tup xs)) : At f H' ps := fun p hp => k _ _ (h p hp)
theorem At.same {α : Type} {f : α → List V} {H H' : Hp} {ps : List (Addr × α)} (h : At f H ps) (s : Same H H') : At f H' ps := h.mono fun b xs e => s b _ e
theorem At.snoc {α : Type} {f : α → List V} {H : Hp} {ps : List (Addr × α)} {p : Addr} {x : α} (h : At f H ps) (e : H p = some (.tup (f x))) : At f H (ps ++ [(p, x)]) := fun q hq => by
  rcases List.mem_append.mp hq with z | z
  · exact h q z
  · rw [List.mem_singleton.mp z]
    exact e
/-- tuples are never at a list's address -/
theorem But.tup {c : Addr} {H H' : Hp} (h : But c H H') {ys : List V} (hc : H c = some (.lst ys)) : ∀ b xs, H b = some (.tup xs) → H' b = some (.tup xs) := fun b xs e => h b _ e (ne_of e hc (by intro z; cases z))
theorem Cup.tup {c : Addr} {H H' : Hp} (hc : Cup H c) (h : But c H H') : ∀ b xs, H b = some (.tup xs) → H' b = some (.tup xs) := by
  obtain ⟨x, y, e⟩ := hc
  exact h.tup e
theorem At.but {α : Type} {f : α → List V} {H H' : Hp} {ps : List (Addr × α)} {c : Addr} (h : At f H ps) (hc : Cup H c) (b : But c H H') : At f H' ps := h.mono (hc.tup b)
theorem upd_tup {H : Hp} {l : Addr} {ys : List V} {o : HO} (hl : H l = some (.lst ys)) : ∀ b xs, H b = some (.tup xs) → upd H l o b = some (.tup xs) := fun b xs e => put_ne e (ne_of e hl (by intro z; cases z))
theorem Cup.of_lst {H : Hp} {c l : Addr} {o : HO} (h : Cup H c) (n : c ≠ l) : Cup (upd H l o) c := by
  obtain ⟨x, y, e⟩ := h
  exact ⟨x, y, put_ne e n⟩
theorem At.perm {α : Type} {f : α → List V} {H : Hp} {ps qs : List (Addr × α)} (h : At f H ps) (p : ps.Perm qs) : At f H qs := fun q hq => h q (p.mem_iff.mpr hq)
/-! ### drawn pairs -/
structure PairsOk (n : Nat) (qs : List Pr) : Prop where
  lt : ∀ q ∈ qs, q.1 < q.2 ∧ q.2 < n
  hang : ∀ h, 1 ≤ h → h < n → ∃ q ∈ qs, q.2 = h
  nd : qs.Nodup
theorem pairsOk_first {n : Nat} {qs : List Pr} (h1 : qs.map (·.2) = List.range' 1 (n - 1)) (h2 : ∀ q ∈ qs, q.1 < q.2) : PairsOk n qs := by
  refine ⟨fun q hq => ⟨h2 q hq, ?_⟩, fun h a b => ?_, ?_⟩
  · have m : q.2 ∈ qs.map (·.2) := List.mem_map_of_mem hq
    rw [h1, List.mem_range'] at m
    obtain ⟨i, hi, e⟩ := m
    omega
  · have m : h ∈ List.range' 1 (n - 1) := by
      rw [List.mem_range']
      exact ⟨h - 1, by omega, by omega⟩
    rw [← h1, List.mem_map] at m
    exact m
  · have nd : (qs.map (·.2)).Nodup := by
      rw [h1]
      exact List.nodup_range'
    exact List.Pairwise.of_map _ (fun a b h e => h (congrArg _ e)) nd
theorem PairsOk.perm {n : Nat} {qs rs : List Pr} (h : PairsOk n qs) (p : qs.Perm rs) : PairsOk n rs :=
  ⟨fun q hq => h.lt q (p.mem_iff.mpr hq), fun x a b => let ⟨q, hq, e⟩ := h.hang x a b; ⟨q, p.mem_iff.mp hq, e⟩, p.nodup_iff.mp h.nd⟩
theorem PairsOk.snoc {n : Nat} {qs : List Pr} (h : PairsOk n qs) {p : Pr} (h1 : p.1 < p.2) (h2 : p.2 < n) (h3 : p ∉ qs) : PairsOk n (qs ++ [p]) := by
  refine ⟨fun q hq => ?_, fun x a b => ?_, ?_⟩
  · rcases List.mem_append.mp hq with z | z
    · exact h.lt q z
    · rw [List.mem_singleton.mp z]
      exact ⟨h1, h2⟩
  · obtain ⟨q, hq, e⟩ := h.hang x a b
    exact ⟨q, List.mem_append_left _ hq, e⟩
  · exact nd_snoc h.nd h3
/-! ### data: ints, texts, None; tuples of them -/
def vD : V → PyData
  | .int i => .int i
  | .str x => .str x
  | _ => .none
def nb : V → Bool
  | .int _ => true
  | .str x => strOkB x
  | .non => true
  | _ => false
where strOkB (x : Str) : Bool := PyData.canLay0 (.str x)
theorem nb_str {x : Str} (h : PyData.canLay0 (.str x) = true) : nb (.str x) = true := h
theorem vD_eqv : ∀ {x y : V}, nb x = true → nb y = true → PyData.eqv (vD x) (vD y) = decide (x = y) := by
  intro x y hx hy
  cases x <;> cases y <;> first | (simp [nb] at hx; done) | (simp [nb] at hy; done) | (simp [vD, PyData.eqv]; done) | skip
  · rename_i i j
    show (i == j) = _
    by_cases e : i = j <;> simp [e]
  · rename_i i j
    show (i == j) = _
    by_cases e : i = j <;> simp [e]
theorem vD_lay {x : V} (h : nb x = true) : (vD x).canLay0 = true := by
  cases x <;> first | (simp [nb] at h; done) | exact h | simp [vD, PyData.canLay0]
theorem vD_depth (x : V) : (vD x).depth = 0 := by
  cases x <;> simp [vD, PyData.depth]
theorem vDs_eqv : ∀ {xs ys : List V}, xs.all nb = true → ys.all nb = true → PyData.eqvAll (xs.map vD) (ys.map vD) = decide (xs = ys)
  | [], [], _, _ => by simp [PyData.eqvAll]
  | [], _ :: _, _, _ => by simp [PyData.eqvAll]
  | _ :: _, [], _, _ => by simp [PyData.eqvAll]
  | x :: xs, y :: ys, hx, hy => by
    rw [List.all_cons, Bool.and_eq_true] at hx hy
    rw [List.map_cons, List.map_cons, PyData.eqvAll, vD_eqv hx.1 hy.1, vDs_eqv hx.2 hy.2]
    by_cases e1 : x = y
    · by_cases e2 : xs = ys
      · simp [e1, e2]
      · simp [e2]
    · simp [e1]
theorem vDs_lay : ∀ {xs : List V}, xs.all nb = true → PyData.canLayAll0 (xs.map vD) = true
  | [], _ => by simp [PyData.canLayAll0]
  | x :: xs, h => by
    rw [List.all_cons, Bool.and_eq_true] at h
    rw [List.map_cons, PyData.canLayAll0, vD_lay h.1, vDs_lay h.2]
    rfl
theorem vDs_depth : ∀ (xs : List V), PyData.depthAll (xs.map vD) = 0
  | [] => by simp [PyData.depthAll]
  | x :: xs => by
    rw [List.map_cons, PyData.depthAll, vD_depth, vDs_depth xs]
    rfl
theorem vDs_dp (K : PySem.W.Frag) (H : Hp) : ∀ {xs : List V}, xs.all nb = true → DpAll K H xs (xs.map vD)
  | [], _ => .nil
  | x :: xs, h => by
    rw [List.all_cons, Bool.and_eq_true] at h
    refine .cons ?_ (vDs_dp K H h.2)
    have h1 := h.1
    cases x <;> first | (simp [nb] at h1; done) | constructor
/-- a flat tuple -/
def tD (xs : List V) : PyData := .tuple (xs.map vD)
theorem tD_lay {xs : List V} (h : xs.all nb = true) : (tD xs).canLay0 = true := by
  show PyData.canLay0 (.tuple (xs.map vD)) = true
  rw [PyData.canLay0]
  exact vDs_lay h
theorem tD_depth (xs : List V) : (tD xs).depth = 1 := by
  show PyData.depth (.tuple (xs.map vD)) = 1
  rw [PyData.depth, vDs_depth]
theorem tD_shaped {xs : List V} (h : xs.all nb = true) : SeqAt.shaped (tD xs) = true := by
  show ((tD xs).canLay0 && decide ((tD xs).depth ≤ 64)) = true
  rw [tD_lay h, tD_depth]
  rfl
theorem tD_eqv {xs ys : List V} (hx : xs.all nb = true) (hy : ys.all nb = true) : PyData.eqv (tD xs) (tD ys) = decide (xs = ys) := by
  show PyData.eqv (.tuple (xs.map vD)) (.tuple (ys.map vD)) = _
  rw [PyData.eqv]
  exact vDs_eqv hx hy
theorem tD_dp (K : PySem.W.Frag) {H : Hp} {p : Addr} {xs : List V} (h : xs.all nb = true) (e : H p = some (.tup xs)) : Dp K H (.ref p) (tD xs) := .tup (SqT.of e) (vDs_dp K H h)
/-- rows of flat tuples -/
def rowD {α : Type} (f : α → List V) (ps : List (Addr × α)) : List PyData := ps.map fun p => tD (f p.2)
theorem rowD_dp {α : Type} {f : α → List V} (K : PySem.W.Frag) {H : Hp} : ∀ {ps : List (Addr × α)}, (∀ p ∈ ps, (f p.2).all nb = true) → At f H ps → DpAll K H (refs ps) (rowD f ps)
  | [], _, _ => .nil
  | p :: ps, hn, h => .cons (tD_dp K (hn p List.mem_cons_self) (h p List.mem_cons_self)) (rowD_dp K (fun q hq => hn q (List.mem_cons_of_mem _ hq)) fun q hq => h q (List.mem_cons_of_mem _ hq))
theorem rowD_lay {α : Type} {f : α → List V} : ∀ {ps : List (Addr × α)}, (∀ p ∈ ps, (f p.2).all nb = true) → PyData.canLayAll0 (rowD f ps) = true
  | [], _ => by simp [rowD, PyData.canLayAll0]
  | p :: ps, hn => by
    show PyData.canLayAll0 (tD (f p.2) :: rowD f ps) = true
    rw [PyData.canLayAll0, tD_lay (hn p List.mem_cons_self), rowD_lay fun q hq => hn q (List.mem_cons_of_mem _ hq)]
    rfl
theorem rowD_depth {α : Type} {f : α → List V} : ∀ (ps : List (Addr × α)), PyData.depthAll (rowD f ps) ≤ 1
  | [] => by simp [rowD, PyData.depthAll]
  | p :: ps => by
    show PyData.depthAll (tD (f p.2) :: rowD f ps) ≤ 1
    have h := rowD_depth (f := f) ps
    rw [PyData.depthAll, tD_depth]
    omega
theorem rowD_shaped {α : Type} {f : α → List V} {ps : List (Addr × α)} (hn : ∀ p ∈ ps, (f p.2).all nb = true) : SeqAt.shaped (.list (rowD f ps)) = true := by
  show (PyData.canLay0 (.list (rowD f ps)) && decide (PyData.depth (.list (rowD f ps)) ≤ 64)) = true
  have h := rowD_depth (f := f) ps
  rw [PyData.canLay0, PyData.depth, rowD_lay hn, decide_eq_true (by omega)]
  rfl
theorem rowD_any {α : Type} [DecidableEq α] {f : α → List V} (inj : ∀ a b, f a = f b → a = b) (x : α) (hx : (f x).all nb = true) : ∀ {ps : List (Addr × α)}, (∀ p ∈ ps, (f p.2).all nb = true) →
    ((rowD f ps).any fun z => PyData.eqv z (tD (f x))) = decide (x ∈ ps.map (·.2))
  | [], _ => rfl
  | p :: ps, hn => by
    show (PyData.eqv (tD (f p.2)) (tD (f x)) || (rowD f ps).any fun z => PyData.eqv z (tD (f x))) = _
    rw [rowD_any inj x hx fun q hq => hn q (List.mem_cons_of_mem _ hq), tD_eqv (hn p List.mem_cons_self) hx, List.map_cons]
    by_cases e : f p.2 = f x
    · rw [decide_eq_true e, inj _ _ e]
      simp
    · have n : ¬ x = p.2 := fun z => e (by rw [z])
      rw [decide_eq_false e, Bool.false_or]
      simp [n]
theorem rowD_any_iff {α : Type} {f : α → List V} (inj : ∀ a b, f a = f b → a = b) (x : α) (hx : (f x).all nb = true) {ps : List (Addr × α)} (hn : ∀ p ∈ ps, (f p.2).all nb = true) :
    ((rowD f ps).any fun z => PyData.eqv z (tD (f x))) = true ↔ x ∈ ps.map (·.2) := by
  classical
  rw [rowD_any inj x hx hn, decide_eq_true_iff]
theorem prV_nb (q : Pr) : (prV q).all nb = true := rfl
theorem prV_inj (a b : Pr) (h : prV a = prV b) : a = b := by
  obtain ⟨a1, a2⟩ := a
  obtain ⟨b1, b2⟩ := b
  simp [prV] at h
  simp
  omega
end Wh

namespace Wh
open PySem L2
/-! ### marks at houses -/
def letters : List Nat := [97, 98, 99, 100, 101, 102, 103, 104, 105, 106, 107, 108]
theorem letters_nd : letters.Nodup := by decide
def sV (c : Nat) : V := .str (sgn c)
def Tie.pr (t : Tie) : Pr := (t.a, t.b)
def endsAt (h : Nat) (t : Tie) : List Nat := (if t.a = h then [t.m] else []) ++ (if t.b = h then [t.o] else [])
def marksAt (h : Nat) (ts : List Tie) : List Nat := ts.flatMap (endsAt h)
theorem marksAt_snoc (h : Nat) (ts : List Tie) (t : Tie) : marksAt h (ts ++ [t]) = marksAt h ts ++ endsAt h t := by
  unfold marksAt
  rw [List.flatMap_append, List.flatMap_singleton]
theorem marksAt_len (h : Nat) : ∀ {ts : List Tie}, (∀ t ∈ ts, t.a < t.b) → (marksAt h ts).length ≤ ts.length
  | [], _ => Nat.le_refl _
  | t :: ts, hl => by
    have ih := marksAt_len h (ts := ts) fun u hu => hl u (List.mem_cons_of_mem _ hu)
    have h1 := hl t List.mem_cons_self
    show (endsAt h t ++ marksAt h ts).length ≤ ts.length + 1
    rw [List.length_append]
    have h2 : (endsAt h t).length ≤ 1 := by
      unfold endsAt
      by_cases e1 : t.a = h
      · have e2 : ¬ t.b = h := by omega
        rw [if_pos e1, if_neg e2]
        exact Nat.le_refl _
      · rw [if_neg e1]
        split <;> simp
    omega
theorem nd_sub_len {α : Type} [DecidableEq α] : ∀ {l s : List α}, l.Nodup → (∀ x ∈ l, x ∈ s) → l.length ≤ s.length
  | [], s, _, _ => Nat.zero_le _
  | x :: l, s, hn, hs => by
    have hx : x ∈ s := hs x List.mem_cons_self
    have ih := nd_sub_len (l := l) (s := s.erase x) (List.nodup_cons.mp hn).2 fun y hy => by
      have ne : y ≠ x := fun e => (List.nodup_cons.mp hn).1 (e ▸ hy)
      exact (List.mem_erase_of_ne ne).mpr (hs y (List.mem_cons_of_mem _ hy))
    have e := List.length_erase_of_mem hx
    have p : 0 < s.length := List.length_pos_of_mem hx
    show l.length + 1 ≤ s.length
    omega
/-- the letters that are not yet marks -/
def notIn (ms : List Nat) (c : Nat) : Bool := !ms.contains c
def free (ms : List Nat) : List Nat := letters.filter (notIn ms)
theorem filt_yes {l : List Nat} {p : Nat → Bool} {z : Nat} (h : p z = true) : (l ++ [z]).filter p = l.filter p ++ [z] := by
  rw [List.filter_append, List.filter_cons_of_pos h]
  rfl
theorem filt_no {l : List Nat} {p : Nat → Bool} {z : Nat} (h : p z = false) : (l ++ [z]).filter p = l.filter p := by
  rw [List.filter_append, List.filter_cons_of_neg (by rw [h]; exact Bool.false_ne_true), List.filter_nil, List.append_nil]
theorem free_pos {ms : List Nat} (h : ms.length < 12) : 1 ≤ (free ms).length := by
  rcases Nat.eq_zero_or_pos (free ms).length with z | z
  · exfalso
    have h2 : ∀ x ∈ letters, x ∈ ms := fun x hx => by
      by_cases q : x ∈ ms
      · exact q
      · have m : x ∈ free ms := List.mem_filter.mpr ⟨hx, by simp [notIn, q]⟩
        rw [List.eq_nil_of_length_eq_zero z] at m
        cases m
    have := nd_sub_len letters_nd h2
    have e : letters.length = 12 := rfl
    omega
  · exact z
theorem free_mem {ms : List Nat} {c : Nat} (h : c ∈ free ms) : c ∈ letters ∧ c ∉ ms := by
  have q := List.mem_filter.mp h
  exact ⟨q.1, by simpa [notIn] using q.2⟩
theorem inV_sV (c : Nat) (ms : List Nat) : inV (sV c) (ms.map sV) = ms.contains c := by
  unfold inV
  rw [List.any_map]
  induction ms with
  | nil => rfl
  | cons m ms ih =>
    rw [List.any_cons, List.contains_cons, ih]
    have e : ((fun y => eqV y (sV c)) ∘ sV) m = (c == m) := by
      show (sgn m == sgn c) = (c == m)
      by_cases q : c = m
      · rw [q, beq_self_eq_true, beq_self_eq_true]
      · have n : ¬ sgn m = sgn c := fun z => q (by
          have z2 := congrArg (fun s : Str => s.cps.toList) z
          simp [sgn] at z2
          omega)
        rw [beq_eq_false_iff_ne.mpr n, beq_eq_false_iff_ne.mpr q]
    rw [e]
theorem flat_sV (ms : List Nat) : (ms.map sV).all flatV = true := by
  rw [List.all_map, List.all_eq_true]
  intro _ _
  rfl
theorem letters_str : ("abcdefghijkl" : Str).cps = #[97, 98, 99, 100, 101, 102, 103, 104, 105, 106, 107, 108] := by decide +kernel
/-- xs[:k], k a natural number -/
theorem cut_to {xs : List V} {k : Nat} : cutV xs none (some (k : Int)) = xs.take k := by
  unfold cutV
  rw [HT.sIx_none, List.drop_zero]
  rw [show HT.sIx xs.length xs.length (some (k : Int)) = min k xs.length from HT.sIx_nat xs.length xs.length k]
  rw [Nat.sub_zero]
  by_cases h : k ≤ xs.length
  · rw [Nat.min_eq_left h]
  · rw [Nat.min_eq_right (by omega), List.take_length, List.take_of_length_le (by omega)]
/-- the state of the drawing: the cup, the list of lists of used marks, the told ties -/
structure Wk (H : Hp) (c u tl : Addr) (us : List Addr) (n : Nat) (ts : List (Addr × Tie)) : Prop where
  cup : Cup H c
  hu : H u = some (.lst (us.map V.ref))
  ul : us.length = n
  nd : (c :: u :: tl :: us).Nodup
  ht : H tl = some (.lst (refs ts))
  hA : At tieV H ts
  hm : ∀ (h : Nat) (a : Addr), us[h]? = some a → H a = some (.lst ((marksAt h (ts.map (·.2))).map sV))
end Wh

namespace Wh
open PySem L2
/-! ### sorted(rows of flat tuples) -/
theorem sort_rows {α : Type} {K : PySem.W.Frag} {H : Hp} {a : Addr} {Q : VK} (f : α → List V) (le : α → α → Bool) {ps : List (Addr × α)} (hl : SqL K H a (refs ps)) (hA : At f H ps) (hn : ∀ p ∈ ps, (f p.2).all nb = true)
    (hal : ∀ x y : α, PySem.W.alike (tD (f x)) (tD (f y)) = true) (hne : ∀ x : α, ∃ v r, f x = v :: r) (hle : ∀ x y : α, (!PySem.W.dataLt (tD (f y)) (tD (f x))) = le x y)
    (h : ∀ z, H z = none → Q (.ref z) (upd H z (.lst (refs (ps.mergeSort fun p q => le p.2 q.2))))) : rSortD K [.ref a] H Q := by
  refine ⟨a, ps.map fun p => (V.ref p.1, tD (f p.2)), rfl, ?_, ?_, ?_, ?_, ?_, fun z nz => ?_⟩
  · rw [List.map_map]
    exact hl
  · intro b hb
    obtain ⟨p, hp, rfl⟩ := List.mem_map.mp hb
    exact tD_dp K (hn p hp) (hA p hp)
  · intro d hd d' hd'
    rw [List.map_map] at hd hd'
    obtain ⟨p, hp, rfl⟩ := List.mem_map.mp hd
    obtain ⟨q, hq, rfl⟩ := List.mem_map.mp hd'
    exact hal p.2 q.2
  · refine .inl fun d hd => ?_
    rw [List.map_map] at hd
    obtain ⟨p, hp, rfl⟩ := List.mem_map.mp hd
    obtain ⟨v, r, e⟩ := hne p.2
    exact ⟨vD v, r.map vD, by show PyData.tuple ((f p.2).map vD) = _; rw [e]; rfl⟩
  · intro b hb
    obtain ⟨p, hp, rfl⟩ := List.mem_map.mp hb
    show (tD (f p.2)).depth ≤ 8
    rw [tD_depth]
    decide
  · have e : ((ps.map fun p => (V.ref p.1, tD (f p.2))).mergeSort (PySem.W.dataLe false (·.2))).map (·.1) = refs (ps.mergeSort fun p q => le p.2 q.2) := by
      rw [← PySem.W.sort_maps (r := fun p q : Addr × α => le p.2 q.2) (s := PySem.W.dataLe false (·.2)) (fun p : Addr × α => (V.ref p.1, tD (f p.2))) (fun p _ q _ => ?_), List.map_map]
      · rfl
      · rw [PySem.W.dataLe_eq]
        exact (hle p.2 q.2).symm
    rw [e]
    exact h z nz
/-! ### pairs by order -/
def prLe (x y : Pr) : Bool := decide (x.1 < y.1 ∨ (x.1 = y.1 ∧ x.2 ≤ y.2))
theorem prLe_iff {x y : Pr} : prLe x y = true ↔ x.1 < y.1 ∨ (x.1 = y.1 ∧ x.2 ≤ y.2) := decide_eq_true_iff
theorem prLe_data (x y : Pr) : (!PySem.W.dataLt (tD (prV y)) (tD (prV x))) = prLe x y := by
  have h := congrFun (congrFun (PySem.W.dataLe_ii (β := Pr) (fun p => (p.1 : Int)) (fun p => (p.2 : Int))) x) y
  rw [PySem.W.dataLe_eq] at h
  refine Eq.trans h ?_
  unfold prLe
  congr 1
  simp only [eq_iff_iff]
  omega
theorem prLe_trans (a b c : Pr) (h1 : prLe a b = true) (h2 : prLe b c = true) : prLe a c = true := by
  rw [prLe_iff] at *
  omega
theorem prLe_total (a b : Pr) : (prLe a b || prLe b a) = true := by
  rw [Bool.or_eq_true, prLe_iff, prLe_iff]
  omega
theorem pr_alike (x y : Pr) : PySem.W.alike (tD (prV x)) (tD (prV y)) = true := by
  show PySem.W.alike (.tuple [.int _, .int _]) (.tuple [.int _, .int _]) = true
  simp [PySem.W.alike, PySem.W.alikeAll]
/-- x strictly ahead of y -/
def PrLt (x y : Pr) : Prop := x.1 < y.1 ∨ (x.1 = y.1 ∧ x.2 < y.2)
theorem sorted_prs (ps : List (Addr × Pr)) (hn : (ps.map (·.2)).Nodup) : ((ps.mergeSort fun p q => prLe p.2 q.2).map (·.2)).Pairwise PrLt ∧ (ps.mergeSort fun p q => prLe p.2 q.2).Perm ps := by
  have hp := List.mergeSort_perm ps fun p q => prLe p.2 q.2
  refine ⟨?_, hp⟩
  have hs := List.pairwise_mergeSort (le := fun p q : Addr × Pr => prLe p.2 q.2) (fun a b c => prLe_trans a.2 b.2 c.2) (fun a b => prLe_total a.2 b.2) ps
  have hn2 : ((ps.mergeSort fun p q => prLe p.2 q.2).map (·.2)).Nodup := (hp.map _).nodup_iff.mpr hn
  generalize (ps.mergeSort fun p q => prLe p.2 q.2) = qs at hs hn2
  rw [List.pairwise_map]
  have hn3 : qs.Pairwise fun a b => a.2 ≠ b.2 := List.pairwise_map.mp hn2
  refine (hs.and hn3).imp fun {a b} ⟨h1, h2⟩ => ?_
  rw [prLe_iff] at h1
  unfold PrLt
  have : ¬ (a.2.1 = b.2.1 ∧ a.2.2 = b.2.2) := fun ⟨e1, e2⟩ => h2 (Prod.ext e1 e2)
  omega
/-- a drawn web: its ties in the order of their houses -/
structure Told (n : Nat) (ts : List Tie) : Prop where
  n2 : 2 ≤ n
  n8 : n ≤ 8
  lt : ∀ t ∈ ts, t.a < t.b ∧ t.b < n
  hang : ∀ h, 1 ≤ h → h < n → ∃ t ∈ ts, t.b = h
  srt : (ts.map Tie.pr).Pairwise PrLt
  let_ : ∀ t ∈ ts, t.m ∈ letters ∧ t.o ∈ letters
  uniq : ∀ h, (marksAt h ts).Nodup
  len : ts.length ≤ 9
theorem refs_get {α : Type} {ps : List (Addr × α)} {k : Nat} {x : V} (h : (refs ps)[k]? = some x) : ∃ p, ps[k]? = some p ∧ x = V.ref p.1 := by
  unfold refs at h
  rw [List.getElem?_map] at h
  obtain ⟨p, hp, e⟩ := Option.map_eq_some_iff.mp h
  exact ⟨p, hp, e.symm⟩
/-- at a stands a list of some letters, none of ms, one at least -/
structure FreeAt (H : Hp) (c a : Addr) (xs ms : List Nat) : Prop where
  at_ : H a = some (.lst (xs.map sV))
  ne : a ≠ c
  pos : 1 ≤ xs.length
  most : xs.length ≤ 12
  mem : ∀ z ∈ xs, z ∈ letters ∧ z ∉ ms
theorem FreeAt.but {H H' : Hp} {c a : Addr} {xs ms : List Nat} (f : FreeAt H c a xs ms) (b : But c H H') : FreeAt H' c a xs ms := ⟨b _ _ f.at_ f.ne, f.ne, f.pos, f.most, f.mem⟩
theorem Wk.upd_new {H : Hp} {c u tl : Addr} {us : List Addr} {n : Nat} {ts : List (Addr × Tie)} {p : Addr} {o : HO} (w : Wk H c u tl us n ts) (np : H p = none) : Wk (upd H p o) c u tl us n ts :=
  ⟨w.cup.put np, put_old w.hu np, w.ul, w.nd, put_old w.ht np, w.hA.same (same_upd np), fun h a e => put_old (w.hm h a e) np⟩
theorem Wk.but {H H' : Hp} {c u tl : Addr} {us : List Addr} {n : Nat} {ts : List (Addr × Tie)} (w : Wk H c u tl us n ts) (b : But c H H') (hc : Cup H' c) : Wk H' c u tl us n ts := by
  have nd := w.nd
  rw [List.nodup_cons, List.nodup_cons, List.nodup_cons] at nd
  obtain ⟨h1, h2, h3, h4⟩ := nd
  have cu : u ≠ c := fun e => h1 (by simp [e])
  have ct : tl ≠ c := fun e => h1 (by simp [e])
  have cs : ∀ a ∈ us, a ≠ c := fun a ha e => h1 (by simp [← e, ha])
  exact ⟨hc, b _ _ w.hu cu, w.ul, w.nd, b _ _ w.ht ct, w.hA.but w.cup b, fun h a e => b _ _ (w.hm h a e) (cs a (List.mem_of_getElem? e))⟩
theorem Wk.dist {H : Hp} {c u tl : Addr} {us : List Addr} {n : Nat} {ts : List (Addr × Tie)} (w : Wk H c u tl us n ts) {h : Nat} {a : Addr} (e : us[h]? = some a) : a ≠ c ∧ a ≠ u ∧ a ≠ tl := by
  have nd := w.nd
  rw [List.nodup_cons, List.nodup_cons, List.nodup_cons] at nd
  obtain ⟨h1, h2, h3, h4⟩ := nd
  have m := List.mem_of_getElem? e
  exact ⟨fun z => h1 (by simp [← z, m]), fun z => h2 (by simp [← z, m]), fun z => h3 (by simp [← z, m])⟩
theorem Wk.us_nd {H : Hp} {c u tl : Addr} {us : List Addr} {n : Nat} {ts : List (Addr × Tie)} (w : Wk H c u tl us n ts) : us.Nodup ∧ c ≠ u ∧ c ≠ tl ∧ u ≠ tl := by
  have nd := w.nd
  rw [List.nodup_cons, List.nodup_cons, List.nodup_cons] at nd
  obtain ⟨h1, h2, h3, h4⟩ := nd
  exact ⟨h4, fun z => h1 (by simp [z]), fun z => h1 (by simp [z]), fun z => h2 (by simp [z])⟩
theorem endsAt_a {t : Tie} (h : t.a ≠ t.b) : endsAt t.a t = [t.m] := by
  unfold endsAt
  rw [if_pos rfl, if_neg (fun e => h e.symm)]
  rfl
theorem endsAt_b {t : Tie} (h : t.a ≠ t.b) : endsAt t.b t = [t.o] := by
  unfold endsAt
  rw [if_neg h, if_pos rfl]
  rfl
theorem endsAt_no {h : Nat} {t : Tie} (h1 : h ≠ t.a) (h2 : h ≠ t.b) : endsAt h t = [] := by
  unfold endsAt
  rw [if_neg (fun e => h1 e.symm), if_neg (fun e => h2 e.symm)]
  rfl
/-- one more tie is told -/
theorem Wk.step {H : Hp} {c u tl : Addr} {us : List Addr} {n : Nat} {ts : List (Addr × Tie)} (w : Wk H c u tl us n ts) (t : Tie) (ne : t.a ≠ t.b) {a1 a2 p : Addr} (h1 : us[t.a]? = some a1) (h2 : us[t.b]? = some a2)
    (np : (upd (upd H a1 (.lst ((marksAt t.a (ts.map (·.2))).map sV ++ [sV t.m]))) a2 (.lst ((marksAt t.b (ts.map (·.2))).map sV ++ [sV t.o]))) p = none) :
    Wk (upd (upd (upd (upd H a1 (.lst ((marksAt t.a (ts.map (·.2))).map sV ++ [sV t.m]))) a2 (.lst ((marksAt t.b (ts.map (·.2))).map sV ++ [sV t.o]))) p (.tup (tieV t))) tl (.lst (refs ts ++ [.ref p]))) c u tl us n (ts ++ [(p, t)]) := by
  obtain ⟨d1, d2, d3⟩ := w.dist h1
  obtain ⟨e1, e2, e3⟩ := w.dist h2
  obtain ⟨und, cu, ct, ut⟩ := w.us_nd
  have n12 : a1 ≠ a2 := fun z => ne (nd_ix und h1 (by rw [z]; exact h2))
  have np2 := new_of np
  have np3 := new_of np2
  have keep : ∀ {b o}, H b = some o → b ≠ a1 → b ≠ a2 → b ≠ tl → (upd (upd (upd (upd H a1 (.lst ((marksAt t.a (ts.map (·.2))).map sV ++ [sV t.m]))) a2 (.lst ((marksAt t.b (ts.map (·.2))).map sV ++ [sV t.o]))) p (.tup (tieV t))) tl (.lst (refs ts ++ [.ref p]))) b = some o := fun {b o} e x1 x2 x3 =>
    put_ne (put_ne (put_ne (put_ne e x1) x2) (ne_of_none e np3)) x3
  have ptl : p ≠ tl := (ne_of_none w.ht np3).symm
  refine ⟨?_, keep w.hu (fun z => d2 z.symm) (fun z => e2 z.symm) ut, w.ul, w.nd, ?_, ?_, fun h a e => ?_⟩
  · obtain ⟨x, y, e⟩ := w.cup
    exact ⟨x, y, keep e (fun z => d1 z.symm) (fun z => e1 z.symm) ct⟩
  · rw [upd_same, refs_app]
    rfl
  · refine At.snoc (fun q hq => ?_) (put_ne upd_same ptl)
    have e := w.hA q hq
    exact keep e (ne_of e (w.hm _ _ h1) (by intro z; cases z)) (ne_of e (w.hm _ _ h2) (by intro z; cases z)) (ne_of e w.ht (by intro z; cases z))
  · obtain ⟨f1, f2, f3⟩ := w.dist e
    rw [List.map_append, show [(p, t)].map (·.2) = [t] from rfl, marksAt_snoc, List.map_append]
    by_cases ha : h = t.a
    · have ea : a = a1 := Option.some.inj ((ha ▸ e).symm.trans h1)
      rw [ha, endsAt_a ne, ea]
      exact put_ne (put_ne (put_ne upd_same n12) (ne_new np2)) d3
    · by_cases hb : h = t.b
      · have eb : a = a2 := Option.some.inj ((hb ▸ e).symm.trans h2)
        rw [hb, endsAt_b ne, eb]
        exact put_ne (put_ne upd_same (ne_new np)) e3
      · rw [endsAt_no ha hb, List.map_nil, List.append_nil]
        exact keep (w.hm h a e) (fun z => ha (nd_ix und e (by rw [z]; exact h1))) (fun z => hb (nd_ix und e (by rw [z]; exact h2))) f3
end Wh

namespace Wh
open PySem L2
/-! ### the texts of ties -/
theorem num_str : ∀ a : Nat, a < 10 → ((toString (a : Int) : String) : Str) = sgn (48 + a) := by decide +kernel
theorem num_log {a : Nat} (h : a < 1000) : ((a : Int)).natAbs.log2 < 1920 := by
  have e : ((a : Int)).natAbs = a := rfl
  rw [e]
  by_cases z : a = 0
  · rw [z]
    decide
  · exact Nat.lt_of_le_of_lt (Nat.le_of_lt_succ (Nat.lt_succ_of_lt ((Nat.log2_lt z).mpr (Nat.lt_of_lt_of_le h (by decide : 1000 ≤ 2 ^ 10))))) (by decide)
def lineL (t : Tie) : List Nat := [48 + t.a, 32, t.m, 32, 48 + t.b, 32, t.o]
def lineS (t : Tie) : Str := SX.S (lineL t)
def textL (ts : List Tie) : List Nat := TL.joinL [10] (ts.map lineL)
def webS (ts : List Tie) : Str := SX.S (textL ts)
def partsS (t : Tie) : List Str := [sgn (48 + t.a), sgn t.m, sgn (48 + t.b), sgn t.o]
theorem line_join (t : Tie) : Txt.join (" " : Str) (partsS t) = lineS t := by
  have e : partsS t = [[48 + t.a], [t.m], [48 + t.b], [t.o]].map SX.S := rfl
  have e2 : (" " : Str) = SX.S [32] := by decide +kernel
  rw [e, e2, SX.join_S]
  rfl
theorem text_join (ts : List Tie) : Txt.join ("\n" : Str) (ts.map lineS) = webS ts := by
  have e : ts.map lineS = (ts.map lineL).map SX.S := by rw [List.map_map]; rfl
  have e2 : ("\n" : Str) = SX.S [10] := by decide +kernel
  rw [e, e2, SX.join_S]
  rfl
theorem lineS_len (t : Tie) : (lineS t).length = 7 := by
  unfold lineS
  rw [SX.S_len]
  rfl
theorem lines_sum : ∀ ts : List Tie, ((ts.map lineS).map (·.length)).sum = 7 * ts.length
  | [] => rfl
  | t :: ts => by
    rw [List.map_cons, List.map_cons, List.sum_cons, lines_sum ts, lineS_len, List.length_cons]
    omega
theorem textL_len : ∀ ts : List Tie, (textL ts).length ≤ 8 * ts.length
  | [] => Nat.le_refl _
  | [t] => by
    show (lineL t).length ≤ 8
    show 7 ≤ 8
    omega
  | t :: u :: r => by
    have ih := textL_len (u :: r)
    show (lineL t ++ ([10] ++ textL (u :: r))).length ≤ _
    rw [List.length_append, List.length_append]
    have e : (lineL t).length = 7 := rfl
    have e2 : ([10] : List Nat).length = 1 := rfl
    have e3 : (t :: u :: r).length = (u :: r).length + 1 := rfl
    omega
theorem webS_len (ts : List Tie) : (webS ts).length ≤ 8 * ts.length := by
  unfold webS
  rw [SX.S_len]
  exact textL_len ts
theorem no_nl {t : Tie} (ha : t.a < 10) (hb : t.b < 10) (hm : t.m ∈ letters) (ho : t.o ∈ letters) : 10 ∉ lineL t := by
  have big : ∀ z ∈ letters, 97 ≤ z ∧ z ≤ 108 := by decide
  have h1 := big _ hm
  have h2 := big _ ho
  unfold lineL
  simp only [List.mem_cons, List.not_mem_nil, or_false]
  omega
theorem text_split {ts : List Tie} (hne : ts ≠ []) (h : ∀ t ∈ ts, 10 ∉ lineL t) : Txt.split (webS ts) ("\n" : Str) = ts.map lineS := by
  rw [← text_join]
  have e2 : ("\n" : Str) = SX.S [10] := by decide +kernel
  rw [e2]
  refine TL.split_join (s := 10) (S := []) rfl (by decide +kernel) (by simpa using hne) fun p hp => ?_
  obtain ⟨t, ht, rfl⟩ := List.mem_map.mp hp
  exact h t ht
theorem line_split {t : Tie} (hm : t.m ∈ letters) (ho : t.o ∈ letters) : Txt.split (lineS t) (" " : Str) = partsS t := by
  have big : ∀ z ∈ letters, 97 ≤ z ∧ z ≤ 108 := by decide
  have h1 := big _ hm
  have h2 := big _ ho
  rw [← line_join]
  have e2 : (" " : Str) = SX.S [32] := by decide +kernel
  rw [e2]
  refine TL.split_join (s := 32) (S := []) rfl (by decide +kernel) (by simp [partsS]) fun p hp => ?_
  unfold partsS at hp
  simp only [List.mem_cons, List.not_mem_nil, or_false] at hp
  have sg : ∀ z : Nat, TL.tl (sgn z) = [z] := fun _ => rfl
  rcases hp with rfl | rfl | rfl | rfl <;> (rw [sg]; simp; omega)
theorem joinL_mem {x : Nat} : ∀ {ls : List (List Nat)}, x ∈ TL.joinL [10] ls → x = 10 ∨ ∃ l ∈ ls, x ∈ l
  | [], h => by cases h
  | [l], h => .inr ⟨l, List.mem_cons_self, h⟩
  | l :: m :: r, h => by
    have h' : x ∈ l ++ ([10] ++ TL.joinL [10] (m :: r)) := h
    rcases List.mem_append.mp h' with z | z
    · exact .inr ⟨l, List.mem_cons_self, z⟩
    · rcases List.mem_append.mp z with z | z
      · exact .inl (List.mem_singleton.mp z)
      · rcases joinL_mem z with z | ⟨k, hk, z⟩
        · exact .inl z
        · exact .inr ⟨k, List.mem_cons_of_mem _ hk, z⟩
theorem no_unread {ts : List Tie} (h : ∀ t ∈ ts, t.a < 10 ∧ t.b < 10 ∧ t.m ∈ letters ∧ t.o ∈ letters) : 63 ∉ (webS ts).cps.toList := fun z => by
  have big : ∀ z ∈ letters, 97 ≤ z ∧ z ≤ 108 := by decide
  have z' : 63 ∈ textL ts := z
  rcases joinL_mem z' with e | ⟨l, hl, e⟩
  · omega
  · obtain ⟨t, ht, rfl⟩ := List.mem_map.mp hl
    obtain ⟨ha, hb, hm, ho⟩ := h t ht
    have h1 := big _ hm
    have h2 := big _ ho
    unfold lineL at e
    simp only [List.mem_cons, List.not_mem_nil, or_false] at e
    omega
end Wh

namespace Wh
open PySem L2
/-! ### webs, their ties in any order -/
structure WebOk (n : Nat) (ts : List Tie) : Prop where
  n2 : 2 ≤ n
  n10 : n ≤ 10
  lt : ∀ t ∈ ts, t.a < t.b ∧ t.b < n
  hang : ∀ h, 1 ≤ h → h < n → ∃ t ∈ ts, t.b = h
  pnd : (ts.map Tie.pr).Nodup
  let_ : ∀ t ∈ ts, t.m ∈ letters ∧ t.o ∈ letters
  uniq : ∀ h, (marksAt h ts).Nodup
  len : ts.length ≤ 100
theorem prLt_ne {x y : Pr} (h : PrLt x y) : x ≠ y := fun e => by
  subst e
  unfold PrLt at h
  omega
theorem Told.ok {n : Nat} {ts : List Tie} (h : Told n ts) : WebOk n ts :=
  ⟨h.n2, by have := h.n8; omega, h.lt, h.hang, h.srt.imp prLt_ne, h.let_, h.uniq, by have := h.len; omega⟩
theorem marksAt_perm {ts us : List Tie} (p : ts.Perm us) (h : Nat) : (marksAt h ts).Perm (marksAt h us) := p.flatMap_right _
theorem WebOk.perm {n : Nat} {ts us : List Tie} (w : WebOk n ts) (p : ts.Perm us) : WebOk n us :=
  ⟨w.n2, w.n10, fun t ht => w.lt t (p.mem_iff.mpr ht), fun h a b => let ⟨t, ht, e⟩ := w.hang h a b; ⟨t, p.mem_iff.mp ht, e⟩, (p.map _).nodup_iff.mp w.pnd, fun t ht => w.let_ t (p.mem_iff.mpr ht), fun h => (marksAt_perm p h).nodup_iff.mp (w.uniq h), by rw [← p.length_eq]; exact w.len⟩
theorem WebOk.ne {n : Nat} {ts : List Tie} (w : WebOk n ts) : ts ≠ [] := fun e => by
  obtain ⟨t, ht, _⟩ := w.hang 1 (Nat.le_refl _) w.n2
  rw [e] at ht
  cases ht
theorem WebOk.top {n : Nat} {ts : List Tie} (w : WebOk n ts) : ∃ t ∈ ts, t.b + 1 = n := by
  have := w.n2
  obtain ⟨t, ht, e⟩ := w.hang (n - 1) (by omega) (by omega)
  exact ⟨t, ht, by omega⟩
theorem letters_big : ∀ z ∈ letters, 97 ≤ z ∧ z ≤ 108 := by decide
theorem tieV_nb {t : Tie} (hm : t.m ∈ letters) (ho : t.o ∈ letters) : (tieV t).all nb = true := by
  have h1 := letters_big _ hm
  have h2 := letters_big _ ho
  have e : ∀ z : Nat, z ≤ 108 → PyData.canLay0 (.str (sgn z)) = true := fun z hz => by
    rw [PyData.canLay0]
    show (sgn z).cps.all (· < 0x110000) = true
    simp [sgn]
    omega
  show (true && (nb (.str (sgn t.m)) && (true && (nb (.str (sgn t.o)) && true)))) = true
  rw [nb_str (e _ h1.2), nb_str (e _ h2.2)]
  rfl
theorem sgn_inj {a b : Nat} (h : sgn a = sgn b) : a = b := by
  have z := congrArg (fun s : Str => s.cps.toList) h
  simp [sgn] at z
  omega
theorem tieV_inj (x y : Tie) (h : tieV x = tieV y) : x = y := by
  obtain ⟨a, m, b, o⟩ := x
  obtain ⟨a2, m2, b2, o2⟩ := y
  unfold tieV at h
  injection h with h1 h
  injection h with h2 h
  injection h with h3 h
  injection h with h4 _
  injection h1 with h1
  injection h2 with h2
  injection h3 with h3
  injection h4 with h4
  have e2 := sgn_inj h2
  have e4 := sgn_inj h4
  have e1 : a = a2 := by
    have : (a : Int) = (a2 : Int) := h1
    omega
  have e3 : b = b2 := by
    have : (b : Int) = (b2 : Int) := h3
    omega
  subst e1 e2 e3 e4
  rfl
/-! ### doors: for each house a dict -/
def endsD (h : Nat) (t : Tie) : List (Nat × Nat) := (if t.a = h then [(t.m, t.b)] else []) ++ (if t.b = h then [(t.o, t.a)] else [])
def doorsAt (h : Nat) (ts : List Tie) : List (Nat × Nat) := ts.flatMap (endsD h)
def kD (d : Nat × Nat) : Key × V := (Sum.inr (sgn d.1), V.int (d.2 : Int))
def doorsK (h : Nat) (ts : List Tie) : List (Key × V) := (doorsAt h ts).map kD
theorem endsD_fst (h : Nat) (t : Tie) : (endsD h t).map (·.1) = endsAt h t := by
  unfold endsD endsAt
  rw [List.map_append]
  congr 1 <;> split <;> rfl
theorem doorsAt_fst (h : Nat) : ∀ ts : List Tie, (doorsAt h ts).map (·.1) = marksAt h ts
  | [] => rfl
  | t :: ts => by
    show (endsD h t ++ doorsAt h ts).map (·.1) = endsAt h t ++ marksAt h ts
    rw [List.map_append, endsD_fst, doorsAt_fst h ts]
theorem doorsAt_snoc (h : Nat) (ts : List Tie) (t : Tie) : doorsAt h (ts ++ [t]) = doorsAt h ts ++ endsD h t := by
  unfold doorsAt
  rw [List.flatMap_append, List.flatMap_singleton]
theorem doorsK_keys (h : Nat) (ts : List Tie) : (doorsK h ts).map (·.1) = (marksAt h ts).map fun m => (Sum.inr (sgn m) : Key) := by
  rw [← doorsAt_fst]
  unfold doorsK
  rw [List.map_map, List.map_map]
  rfl
theorem doorsK_len (h : Nat) (ts : List Tie) : (doorsK h ts).length = (marksAt h ts).length := by
  have e := congrArg List.length (doorsK_keys h ts)
  rw [List.length_map, List.length_map] at e
  exact e
theorem endsD_a {t : Tie} (h : t.a ≠ t.b) : endsD t.a t = [(t.m, t.b)] := by
  unfold endsD
  rw [if_pos rfl, if_neg (fun e => h e.symm)]
  rfl
theorem endsD_b {t : Tie} (h : t.a ≠ t.b) : endsD t.b t = [(t.o, t.a)] := by
  unfold endsD
  rw [if_neg h, if_pos rfl]
  rfl
theorem endsD_no {h : Nat} {t : Tie} (h1 : h ≠ t.a) (h2 : h ≠ t.b) : endsD h t = [] := by
  unfold endsD
  rw [if_neg (fun e => h1 e.symm), if_neg (fun e => h2 e.symm)]
  rfl
structure Dr (H : Hp) (dl : Addr) (ds : List Addr) (n : Nat) (ts : List Tie) : Prop where
  hl : H dl = some (.lst (ds.map V.ref))
  len : ds.length = n
  nd : (dl :: ds).Nodup
  hd : ∀ (h : Nat) (a : Addr), ds[h]? = some a → H a = some (.dK (doorsK h ts))
theorem Dr.same {H H' : Hp} {dl : Addr} {ds : List Addr} {n : Nat} {ts : List Tie} (d : Dr H dl ds n ts) (s : Same H H') : Dr H' dl ds n ts := ⟨s _ _ d.hl, d.len, d.nd, fun h a e => s _ _ (d.hd h a e)⟩
/-- a key that is not yet there is put behind -/
theorem put_mark {h : Nat} {ts : List Tie} {m : Nat} (v : V) (hm : m ∉ marksAt h ts) : putK (doorsK h ts) (Sum.inr (sgn m) : Key) v = doorsK h ts ++ [(Sum.inr (sgn m), v)] := by
  refine putK_new _ ?_
  cases e : valV (doorsK h ts) (Sum.inr (sgn m) : Key) with
  | none => rfl
  | some u =>
    have q := valV_in e
    rw [doorsK_keys, List.mem_map] at q
    obtain ⟨m2, h2, e2⟩ := q
    have e3 := sgn_inj (Sum.inr.inj e2)
    exact absurd (e3 ▸ h2) hm
theorem Dr.step {H : Hp} {dl : Addr} {ds : List Addr} {n : Nat} {ts : List Tie} (w : Dr H dl ds n ts) (t : Tie) (ne : t.a ≠ t.b) {a1 a2 : Addr} (h1 : ds[t.a]? = some a1) (h2 : ds[t.b]? = some a2) :
    Dr (upd (upd H a1 (.dK (doorsK t.a ts ++ [kD (t.m, t.b)]))) a2 (.dK (doorsK t.b ts ++ [kD (t.o, t.a)]))) dl ds n (ts ++ [t]) := by
  obtain ⟨h3, und⟩ := List.nodup_cons.mp w.nd
  have n12 : a1 ≠ a2 := fun z => ne (nd_ix und h1 (by rw [z]; exact h2))
  have d1 : dl ≠ a1 := fun z => h3 (z ▸ List.mem_of_getElem? h1)
  have d2 : dl ≠ a2 := fun z => h3 (z ▸ List.mem_of_getElem? h2)
  refine ⟨put_ne (put_ne w.hl d1) d2, w.len, w.nd, fun h a e => ?_⟩
  unfold doorsK
  rw [doorsAt_snoc, List.map_append]
  by_cases ha : h = t.a
  · have ea : a = a1 := Option.some.inj ((ha ▸ e).symm.trans h1)
    rw [ha, endsD_a ne, ea]
    exact put_ne upd_same n12
  · by_cases hb : h = t.b
    · have eb : a = a2 := Option.some.inj ((hb ▸ e).symm.trans h2)
      rw [hb, endsD_b ne, eb]
      exact upd_same
    · rw [endsD_no ha hb, List.map_nil, List.append_nil]
      exact put_ne (put_ne (w.hd h a e) (fun z => ha (nd_ix und e (by rw [z]; exact h1)))) (fun z => hb (nd_ix und e (by rw [z]; exact h2)))
theorem take_split {α : Type} {l : List α} {i : Nat} {t : α} (h : l[i]? = some t) : l = l.take i ++ t :: l.drop (i + 1) := by
  obtain ⟨hi, e⟩ := List.getElem?_eq_some_iff.mp h
  rw [← e, List.getElem_cons_drop, List.take_append_drop]
theorem marksAt_app (h : Nat) (ts us : List Tie) : marksAt h (ts ++ us) = marksAt h ts ++ marksAt h us := by
  unfold marksAt
  rw [List.flatMap_append]
theorem mark_new {ts : List Tie} {i : Nat} {t : Tie} (h : Nat) (hn : (marksAt h ts).Nodup) (hi : ts[i]? = some t) {m : Nat} (hm : m ∈ endsAt h t) : m ∉ marksAt h (ts.take i) := by
  rw [take_split hi, marksAt_app] at hn
  have h2 := (List.nodup_append.mp hn).2.2
  intro z
  exact h2 m z m (List.mem_append_left _ hm) rfl
theorem mark_new_a {ts : List Tie} {i : Nat} {t : Tie} (hn : ∀ h, (marksAt h ts).Nodup) (hi : ts[i]? = some t) (ne : t.a ≠ t.b) : t.m ∉ marksAt t.a (ts.take i) := mark_new _ (hn _) hi (by rw [endsAt_a ne]; exact List.mem_singleton.mpr rfl)
theorem mark_new_b {ts : List Tie} {i : Nat} {t : Tie} (hn : ∀ h, (marksAt h ts).Nodup) (hi : ts[i]? = some t) (ne : t.a ≠ t.b) : t.o ∉ marksAt t.b (ts.take i) := mark_new _ (hn _) hi (by rw [endsAt_b ne]; exact List.mem_singleton.mpr rfl)
theorem marksAt_take_len (h : Nat) {n : Nat} {ts : List Tie} (w : WebOk n ts) (i : Nat) : (marksAt h (ts.take i)).length ≤ 100 := by
  have h1 := marksAt_len h (ts := ts.take i) fun t ht => (w.lt t (List.mem_of_mem_take ht)).1
  have h2 := w.len
  rw [List.length_take] at h1
  omega
end Wh

namespace Wh
open PySem L2
/-! ### a mark at a house is changed -/
def chg (h m o : Nat) (t : Tie) : Tie := if t.a = h ∧ t.m = m then ⟨t.a, o, t.b, t.o⟩ else if t.b = h ∧ t.o = m then ⟨t.a, t.m, t.b, o⟩ else t
def ren (m o x : Nat) : Nat := if x = m then o else x
theorem chg_a (h m o : Nat) (t : Tie) : (chg h m o t).a = t.a := by
  unfold chg
  split
  · rfl
  · split <;> rfl
theorem chg_b (h m o : Nat) (t : Tie) : (chg h m o t).b = t.b := by
  unfold chg
  split
  · rfl
  · split <;> rfl
theorem chg_pr (h m o : Nat) (t : Tie) : (chg h m o t).pr = t.pr := by
  show ((chg h m o t).a, (chg h m o t).b) = (t.a, t.b)
  rw [chg_a, chg_b]
theorem chg_m (h m o : Nat) {t : Tie} (ne : t.a ≠ t.b) : (chg h m o t).m = if t.a = h then ren m o t.m else t.m := by
  unfold chg ren
  by_cases h1 : t.a = h <;> by_cases h2 : t.m = m <;> by_cases h3 : t.b = h ∧ t.o = m <;> simp [h1, h2, h3]
theorem chg_o (h m o : Nat) {t : Tie} (ne : t.a ≠ t.b) : (chg h m o t).o = if t.b = h then ren m o t.o else t.o := by
  unfold chg ren
  by_cases h1 : t.b = h
  · have h2 : ¬ t.a = h := fun e => ne (e.trans h1.symm)
    by_cases h3 : t.o = m <;> simp [h1, h2, h3]
  · by_cases h2 : t.a = h ∧ t.m = m <;> simp [h1, h2]
theorem endsAt_chg (h m o k : Nat) {t : Tie} (ne : t.a ≠ t.b) : endsAt k (chg h m o t) = if k = h then (endsAt h t).map (ren m o) else endsAt k t := by
  unfold endsAt
  rw [chg_a, chg_b, chg_m h m o ne, chg_o h m o ne]
  by_cases hk : k = h
  · subst hk
    rw [if_pos rfl]
    by_cases h1 : t.a = k
    · have h2 : ¬ t.b = k := fun e => ne (h1.trans e.symm)
      simp [h1, h2]
    · by_cases h2 : t.b = k <;> simp [h1, h2]
  · rw [if_neg hk]
    by_cases h1 : t.a = k
    · have h3 : ¬ t.a = h := fun e => hk (h1.symm.trans e)
      have h2 : ¬ t.b = k := fun e => ne (h1.trans e.symm)
      have h4 : ¬ k = h := hk
      simp [h1, h2, h4]
    · by_cases h2 : t.b = k
      · have h4 : ¬ k = h := hk
        simp [h1, h2, h4]
      · simp [h1, h2]
theorem marksAt_chg (h m o k : Nat) : ∀ {ts : List Tie}, (∀ t ∈ ts, t.a ≠ t.b) → marksAt k (ts.map (chg h m o)) = if k = h then (marksAt h ts).map (ren m o) else marksAt k ts
  | [], _ => by
    show ([] : List Nat) = _
    split <;> rfl
  | t :: ts, hn => by
    show endsAt k (chg h m o t) ++ marksAt k (ts.map (chg h m o)) = if k = h then (endsAt h t ++ marksAt h ts).map (ren m o) else endsAt k t ++ marksAt k ts
    rw [endsAt_chg h m o k (hn t List.mem_cons_self), marksAt_chg h m o k fun u hu => hn u (List.mem_cons_of_mem _ hu)]
    by_cases hk : k = h
    · rw [if_pos hk, if_pos hk, if_pos hk, List.map_append]
    · rw [if_neg hk, if_neg hk, if_neg hk]
theorem ren_nd {m o : Nat} : ∀ {xs : List Nat}, xs.Nodup → o ∉ xs → (xs.map (ren m o)).Nodup
  | [], _, _ => List.nodup_nil
  | x :: xs, hn, ho => by
    obtain ⟨h1, h2⟩ := List.nodup_cons.mp hn
    have ho2 : o ∉ xs := fun z => ho (List.mem_cons_of_mem _ z)
    have ho1 : o ≠ x := fun z => ho (z ▸ List.mem_cons_self)
    refine List.nodup_cons.mpr ⟨fun z => ?_, ren_nd h2 ho2⟩
    obtain ⟨y, hy, e⟩ := List.mem_map.mp z
    have yo : y ≠ o := fun z => ho2 (z ▸ hy)
    unfold ren at e
    by_cases c1 : y = m <;> by_cases c2 : x = m
    · exact h1 ((c2.trans c1.symm) ▸ hy)
    · rw [if_pos c1, if_neg c2] at e
      exact ho1 e
    · rw [if_neg c1, if_pos c2] at e
      exact yo e
    · rw [if_neg c1, if_neg c2] at e
      exact h1 (e ▸ hy)
theorem mem_ends {h : Nat} {t : Tie} {ts : List Tie} (ht : t ∈ ts) {x : Nat} (hx : x ∈ endsAt h t) : x ∈ marksAt h ts := List.mem_flatMap.mpr ⟨t, ht, hx⟩
theorem WebOk.lt2 {n : Nat} {ts : List Tie} (w : WebOk n ts) : ∀ t ∈ ts, t.a ≠ t.b := fun t ht e => by
  have := (w.lt t ht).1
  omega
theorem map_pr (h m o : Nat) (ts : List Tie) : (ts.map (chg h m o)).map Tie.pr = ts.map Tie.pr := by
  rw [List.map_map]
  exact List.map_congr_left fun t _ => chg_pr h m o t
theorem WebOk.chg {n : Nat} {ts : List Tie} (w : WebOk n ts) {h m o : Nat} (ho : o ∈ letters) (hn : o ∉ marksAt h ts) : WebOk n (ts.map (Wh.chg h m o)) := by
  refine ⟨w.n2, w.n10, fun t ht => ?_, fun k a b => ?_, by rw [map_pr]; exact w.pnd, fun t ht => ?_, fun k => ?_, by rw [List.length_map]; exact w.len⟩
  · obtain ⟨u, hu, rfl⟩ := List.mem_map.mp ht
    rw [chg_a, chg_b]
    exact w.lt u hu
  · obtain ⟨u, hu, e⟩ := w.hang k a b
    exact ⟨_, List.mem_map_of_mem hu, by rw [chg_b]; exact e⟩
  · obtain ⟨u, hu, rfl⟩ := List.mem_map.mp ht
    obtain ⟨h1, h2⟩ := w.let_ u hu
    have ne := w.lt2 u hu
    rw [chg_m h m o ne, chg_o h m o ne]
    unfold ren
    refine ⟨?_, ?_⟩
    · split
      · split
        · exact ho
        · exact h1
      · exact h1
    · split
      · split
        · exact ho
        · exact h2
      · exact h2
  · rw [marksAt_chg h m o k w.lt2]
    by_cases hk : k = h
    · rw [if_pos hk]
      exact ren_nd (w.uniq h) hn
    · rw [if_neg hk]
      exact w.uniq k
theorem chg_back1 {h m o : Nat} {t : Tie} (ne : t.a ≠ t.b) (hn : o ∉ endsAt h t) : chg h o m (chg h m o t) = t := by
  have h1 : t.a = h → t.m ≠ o := fun e z => hn (by
    unfold endsAt
    rw [if_pos e]
    exact List.mem_append_left _ (by rw [z]; exact List.mem_singleton.mpr rfl))
  have h2 : t.b = h → t.o ≠ o := fun e z => hn (by
    unfold endsAt
    rw [if_pos e]
    exact List.mem_append_right _ (by rw [z]; exact List.mem_singleton.mpr rfl))
  obtain ⟨a, m1, b, o1⟩ := t
  have ne' : (chg h m o ⟨a, m1, b, o1⟩).a ≠ (chg h m o ⟨a, m1, b, o1⟩).b := by
    rw [chg_a, chg_b]
    exact ne
  have e3 : (chg h o m (chg h m o ⟨a, m1, b, o1⟩)).m = m1 := by
    rw [chg_m h o m ne', chg_m h m o ne, chg_a]
    show (if a = h then ren o m (if a = h then ren m o m1 else m1) else if a = h then ren m o m1 else m1) = m1
    by_cases c : a = h
    · have := h1 c
      simp only [if_pos c]
      unfold ren
      by_cases d : m1 = m
      · rw [if_pos d, if_pos rfl, d]
      · rw [if_neg d, if_neg this]
    · simp only [if_neg c]
  have e4 : (chg h o m (chg h m o ⟨a, m1, b, o1⟩)).o = o1 := by
    rw [chg_o h o m ne', chg_o h m o ne, chg_b]
    show (if b = h then ren o m (if b = h then ren m o o1 else o1) else if b = h then ren m o o1 else o1) = o1
    by_cases c : b = h
    · have := h2 c
      simp only [if_pos c]
      unfold ren
      by_cases d : o1 = m
      · rw [if_pos d, if_pos rfl, d]
      · rw [if_neg d, if_neg this]
    · simp only [if_neg c]
  have e1 : (chg h o m (chg h m o ⟨a, m1, b, o1⟩)).a = a := by rw [chg_a, chg_a]
  have e2 : (chg h o m (chg h m o ⟨a, m1, b, o1⟩)).b = b := by rw [chg_b, chg_b]
  revert e1 e2 e3 e4
  generalize chg h o m (chg h m o ⟨a, m1, b, o1⟩) = u
  intro e1 e2 e3 e4
  obtain ⟨x1, x2, x3, x4⟩ := u
  simp only at e1 e2 e3 e4
  rw [e1, e2, e3, e4]
theorem chg_back {n : Nat} {ts : List Tie} (w : WebOk n ts) {h m o : Nat} (hn : o ∉ marksAt h ts) : (ts.map (chg h m o)).map (chg h o m) = ts := by
  rw [List.map_map]
  refine (List.map_congr_left fun t ht => ?_).trans (List.map_id _)
  exact chg_back1 (w.lt2 t ht) fun z => hn (mem_ends ht z)
/-- behind a change the mark is gone, the other letter is there -/
theorem chg_marks {n : Nat} {ts : List Tie} (w : WebOk n ts) (h m o : Nat) : marksAt h (ts.map (chg h m o)) = (marksAt h ts).map (ren m o) := by
  rw [marksAt_chg h m o h w.lt2, if_pos rfl]
theorem chg_has {n : Nat} {ts : List Tie} (w : WebOk n ts) {h m o : Nat} (hm : m ∈ marksAt h ts) : o ∈ marksAt h (ts.map (chg h m o)) := by
  rw [chg_marks w]
  exact List.mem_map.mpr ⟨m, hm, by unfold ren; rw [if_pos rfl]⟩
theorem chg_not {n : Nat} {ts : List Tie} (w : WebOk n ts) {h m o : Nat} (hmo : m ≠ o) : m ∉ marksAt h (ts.map (chg h m o)) := by
  rw [chg_marks w]
  intro z
  obtain ⟨y, _, e⟩ := List.mem_map.mp z
  unfold ren at e
  by_cases c : y = m
  · rw [if_pos c] at e
    exact hmo e.symm
  · rw [if_neg c] at e
    exact c e
end Wh

namespace Wh
open PySem L2
/-! ### houses and ends that stand apart -/
def kP (p : Pr) : List Key := [.inl (p.1 : Int), .inl (p.2 : Int)]
def kE (h m : Nat) : List Key := [.inl (h : Int), .inr (sgn m)]
def prK (ts : List Tie) : List (List Key × V) := ts.map fun t => (kP t.pr, .bl true)
def endK (ts : List Tie) : List (List Key × V) := ts.flatMap fun t => [(kE t.a t.m, .bl true), (kE t.b t.o, .bl true)]
theorem val_none {κ : Type} [DecidableEq κ] {kvs : List (κ × V)} {k : κ} (h : k ∉ kvs.map (·.1)) : valV kvs k = none := by
  cases e : valV kvs k with
  | none => rfl
  | some u => exact absurd (valV_in e) h
theorem kP_inj {p q : Pr} (h : kP p = kP q) : p = q := by
  obtain ⟨a, b⟩ := p
  obtain ⟨c, d⟩ := q
  unfold kP at h
  injection h with h1 h
  injection h with h2 _
  injection h1 with h1
  injection h2 with h2
  have e1 : (a : Int) = (c : Int) := h1
  have e2 : (b : Int) = (d : Int) := h2
  rw [show a = c by omega, show b = d by omega]
theorem kE_inj {h m h2 m2 : Nat} (e : kE h m = kE h2 m2) : h = h2 ∧ m = m2 := by
  unfold kE at e
  injection e with e1 e
  injection e with e2 _
  injection e1 with e1
  injection e2 with e2
  have e3 : (h : Int) = (h2 : Int) := e1
  exact ⟨by omega, sgn_inj e2⟩
theorem prK_no {ts : List Tie} {p : Pr} (h : p ∉ ts.map Tie.pr) : valV (prK ts) (kP p) = none := by
  refine val_none fun z => h ?_
  unfold prK at z
  rw [List.map_map] at z
  obtain ⟨t, ht, e⟩ := List.mem_map.mp z
  exact List.mem_map.mpr ⟨t, ht, kP_inj e⟩
theorem marks_of {h m : Nat} {ts : List Tie} {t : Tie} (ht : t ∈ ts) (hm : m ∈ endsAt h t) : m ∈ marksAt h ts := List.mem_flatMap.mpr ⟨t, ht, hm⟩
theorem endK_no {ts : List Tie} {h m : Nat} (hn : m ∉ marksAt h ts) : valV (endK ts) (kE h m) = none := by
  refine val_none fun z => hn ?_
  obtain ⟨kv, hkv, e⟩ := List.mem_map.mp z
  obtain ⟨t, ht, q⟩ := List.mem_flatMap.mp hkv
  simp only [List.mem_cons, List.not_mem_nil, or_false] at q
  refine marks_of ht ?_
  rcases q with rfl | rfl
  · obtain ⟨e1, e2⟩ := kE_inj e
    subst e1 e2
    unfold endsAt
    rw [if_pos rfl]
    exact List.mem_append_left _ (List.mem_singleton.mpr rfl)
  · obtain ⟨e1, e2⟩ := kE_inj e
    subst e1 e2
    unfold endsAt
    rw [if_pos (show t.b = t.b from rfl)]
    exact List.mem_append_right _ (List.mem_singleton.mpr rfl)
theorem prK_snoc (ts : List Tie) (t : Tie) : prK (ts ++ [t]) = prK ts ++ [(kP t.pr, .bl true)] := List.map_append
theorem endK_snoc (ts : List Tie) (t : Tie) : endK (ts ++ [t]) = endK ts ++ [(kE t.a t.m, .bl true)] ++ [(kE t.b t.o, .bl true)] := by
  unfold endK
  rw [List.flatMap_append, List.flatMap_singleton, List.append_assoc]
  rfl
theorem prK_len (ts : List Tie) : (prK ts).length = ts.length := List.length_map _
theorem endK_len : ∀ ts : List Tie, (endK ts).length = 2 * ts.length
  | [] => rfl
  | t :: ts => by
    show ([(kE t.a t.m, V.bl true), (kE t.b t.o, V.bl true)] ++ endK ts).length = _
    rw [List.length_append, endK_len ts]
    show 2 + 2 * ts.length = 2 * (ts.length + 1)
    omega
theorem pr_new {n : Nat} {ts : List Tie} (w : WebOk n ts) {i : Nat} {t : Tie} (hi : ts[i]? = some t) : t.pr ∉ (ts.take i).map Tie.pr := by
  have h := w.pnd
  rw [take_split hi, List.map_append, List.map_cons] at h
  intro z
  exact (List.nodup_append.mp h).2.2 _ z _ List.mem_cons_self rfl
/-- the other end too: its key is new, also behind the first -/
theorem endK_no2 {n : Nat} {ts : List Tie} (w : WebOk n ts) {i : Nat} {t : Tie} (hi : ts[i]? = some t) : valV (endK (ts.take i) ++ [(kE t.a t.m, .bl true)]) (kE t.b t.o) = none := by
  have ne : t.a ≠ t.b := by
    have := (w.lt t (List.mem_of_getElem? hi)).1
    omega
  refine val_none fun z => ?_
  rw [List.map_append] at z
  rcases List.mem_append.mp z with z | z
  · have h := endK_no (mark_new_b w.uniq hi ne)
    exact valV_not h z
  · have e := List.mem_singleton.mp z
    exact ne (kE_inj e).1.symm
/-! ### houses that are reached -/
def reachK (hs : List Nat) : List (Key × V) := hs.map fun (h : Nat) => (Sum.inl (h : Int), V.bl true)
theorem reach_mem {hs : List Nat} {h : Nat} : (Sum.inl (h : Int) : Key) ∈ (reachK hs).map (·.1) ↔ h ∈ hs := by
  unfold reachK
  rw [List.map_map, List.mem_map]
  constructor
  · rintro ⟨x, hx, e⟩
    have e2 : (x : Int) = (h : Int) := Sum.inl.inj e
    have e3 : x = h := by omega
    exact e3 ▸ hx
  · exact fun hh => ⟨h, hh, rfl⟩
theorem reach_val (hs : List Nat) (h : Nat) : (valV (reachK hs) (Sum.inl (h : Int) : Key)).isSome = decide (h ∈ hs) := by
  cases e : valV (reachK hs) (Sum.inl (h : Int) : Key) with
  | none =>
    have q := valV_not e
    rw [reach_mem] at q
    simp [q]
  | some u =>
    have q := valV_in e
    rw [reach_mem] at q
    simp [q]
def addH (hs : List Nat) (h : Nat) : List Nat := if h ∈ hs then hs else hs ++ [h]
theorem reach_put (hs : List Nat) (h : Nat) : putK (reachK hs) (Sum.inl (h : Int) : Key) (.bl true) = reachK (addH hs h) := by
  unfold addH
  by_cases hh : h ∈ hs
  · rw [if_pos hh]
    unfold putK
    have e : ((reachK hs).any fun kv => decide (kv.1 = (Sum.inl (h : Int) : Key))) = true := by
      rw [List.any_eq_true]
      exact ⟨(Sum.inl (h : Int), .bl true), List.mem_map.mpr ⟨h, hh, rfl⟩, by simp⟩
    rw [if_pos e]
    have e2 : ∀ kv ∈ reachK hs, (if kv.1 = (Sum.inl (h : Int) : Key) then (kv.1, V.bl true) else kv) = kv := by
      intro kv hkv
      obtain ⟨x, _, rfl⟩ := List.mem_map.mp hkv
      split <;> rfl
    rw [List.map_congr_left e2, List.map_id']
  · rw [if_neg hh, putK_new _ (val_none (fun z => hh (reach_mem.mp z)))]
    unfold reachK
    rw [List.map_append]
    rfl
theorem addH_mem {hs : List Nat} {h x : Nat} : x ∈ addH hs h ↔ x ∈ hs ∨ x = h := by
  unfold addH
  by_cases hh : h ∈ hs
  · rw [if_pos hh]
    exact ⟨.inl, fun z => z.elim id fun e => e ▸ hh⟩
  · rw [if_neg hh, List.mem_append, List.mem_singleton]
theorem addH_nd {hs : List Nat} (h : Nat) (n : hs.Nodup) : (addH hs h).Nodup := by
  unfold addH
  by_cases hh : h ∈ hs
  · rw [if_pos hh]
    exact n
  · rw [if_neg hh]
    exact nd_snoc n hh
theorem addH_len (hs : List Nat) (h : Nat) : hs.length ≤ (addH hs h).length ∧ ((addH hs h).length = hs.length → h ∈ hs) := by
  unfold addH
  by_cases hh : h ∈ hs
  · rw [if_pos hh]
    exact ⟨Nat.le_refl _, fun _ => hh⟩
  · rw [if_neg hh, List.length_append]
    exact ⟨Nat.le_add_right _ _, fun e => by simp at e⟩
/-- one pass over one tie -/
def passT (hs : List Nat) (t : Tie) : List Nat := if t.a ∈ hs ∨ t.b ∈ hs then addH (addH hs t.a) t.b else hs
structure Reach (n : Nat) (hs : List Nat) : Prop where
  nd : hs.Nodup
  lt : ∀ h ∈ hs, h < n
  zero : 0 ∈ hs
theorem Reach.len {n : Nat} {hs : List Nat} (r : Reach n hs) : hs.length ≤ n := by
  have := nd_sub_len (s := List.range n) r.nd fun x hx => List.mem_range.mpr (r.lt x hx)
  rwa [List.length_range] at this
theorem Reach.pass {n : Nat} {hs : List Nat} (r : Reach n hs) {t : Tie} (ha : t.a < n) (hb : t.b < n) : Reach n (passT hs t) ∧ hs.length ≤ (passT hs t).length ∧ ((passT hs t).length = hs.length → passT hs t = hs ∧ (t.a ∈ hs ↔ t.b ∈ hs)) := by
  unfold passT
  by_cases h : t.a ∈ hs ∨ t.b ∈ hs
  · rw [if_pos h]
    have l1 := addH_len hs t.a
    have l2 := addH_len (addH hs t.a) t.b
    refine ⟨⟨addH_nd _ (addH_nd _ r.nd), fun x hx => ?_, addH_mem.mpr (.inl (addH_mem.mpr (.inl r.zero)))⟩, by omega, fun e => ?_⟩
    · rcases addH_mem.mp hx with hx | rfl
      · rcases addH_mem.mp hx with hx | rfl
        · exact r.lt x hx
        · exact ha
      · exact hb
    · have m1 := l1.2 (by omega)
      have e1 : addH hs t.a = hs := by
        unfold addH
        rw [if_pos m1]
      rw [e1] at l2 e ⊢
      have m2 := l2.2 (by omega)
      refine ⟨?_, fun _ => m2, fun _ => m1⟩
      unfold addH
      rw [if_pos m2]
  · rw [if_neg h]
    exact ⟨r, Nat.le_refl _, fun _ => ⟨rfl, fun z => absurd (.inl z) h, fun z => absurd (.inr z) h⟩⟩
/-- nothing more is reached: all houses are -/
theorem reach_all {n : Nat} {ts : List Tie} (w : WebOk n ts) {hs : List Nat} (r : Reach n hs) (cl : ∀ t ∈ ts, t.a ∈ hs ↔ t.b ∈ hs) : hs.length = n := by
  have all : ∀ k, ∀ h, h ≤ k → h < n → h ∈ hs := by
    intro k
    induction k with
    | zero =>
      intro h hk _
      rw [show h = 0 by omega]
      exact r.zero
    | succ k ih =>
      intro h hk hn
      by_cases h0 : h = 0
      · rw [h0]
        exact r.zero
      · obtain ⟨t, ht, e⟩ := w.hang h (by omega) hn
        have l := (w.lt t ht).1
        have m := ih t.a (by omega) (by omega)
        rw [← e]
        exact (cl t ht).mp m
  have h1 := r.len
  have h2 := nd_sub_len (l := List.range n) (s := hs) List.nodup_range fun x hx => all n x (by have := List.mem_range.mp hx; omega) (List.mem_range.mp hx)
  rw [List.length_range] at h2
  omega
end Wh

namespace Wh
open PySem L2
/-! ### sorted rows: some arrangement by the order of the data -/
theorem sort_rows2 {α : Type} {K : PySem.W.Frag} {H : Hp} {a : Addr} {Q : VK} (f : α → List V) {ps : List (Addr × α)} (hl : SqL K H a (refs ps)) (hA : At f H ps) (hn : ∀ p ∈ ps, (f p.2).all nb = true)
    (hal : ∀ x y : α, PySem.W.alike (tD (f x)) (tD (f y)) = true) (hne : ∀ x : α, ∃ v r, f x = v :: r)
    (h : ∀ (z : Addr) (qs : List (Addr × α)), qs.Perm ps → qs.Pairwise (fun p q => (!PySem.W.dataLt (tD (f q.2)) (tD (f p.2))) = true) → H z = none → Q (.ref z) (upd H z (.lst (refs qs)))) : rSortD K [.ref a] H Q := by
  refine sort_rows f (fun x y => !PySem.W.dataLt (tD (f y)) (tD (f x))) hl hA hn hal hne (fun _ _ => rfl) fun z nz => h z _ (List.mergeSort_perm _ _) ?_ nz
  exact PySem.W.sort_pairwise (le := fun p q : Addr × α => !PySem.W.dataLt (tD (f q.2)) (tD (f p.2))) (PySem.W.sortLe_total (PyProof.Rows.listOrd PyProof.Rows.itemOrd) false fun p : Addr × α => PySem.W.keyToks (tD (f p.2))) ps
theorem tie_alike (x y : Tie) : PySem.W.alike (tD (tieV x)) (tD (tieV y)) = true := by
  show PySem.W.alike (.tuple [.int _, .str _, .int _, .str _]) (.tuple [.int _, .str _, .int _, .str _]) = true
  simp [PySem.W.alike, PySem.W.alikeAll]
/-! ### rows by the pairs of houses -/
def rowV (t : Tie) : List V := [.int (t.a : Int), .int (t.b : Int), .str (sgn t.m), .str (sgn t.o)]
theorem row_alike (x y : Tie) : PySem.W.alike (tD (rowV x)) (tD (rowV y)) = true := by
  show PySem.W.alike (.tuple [.int _, .int _, .str _, .str _]) (.tuple [.int _, .int _, .str _, .str _]) = true
  simp [PySem.W.alike, PySem.W.alikeAll]
theorem rowV_nb {t : Tie} (hm : t.m ∈ letters) (ho : t.o ∈ letters) : (rowV t).all nb = true := by
  have h := tieV_nb hm ho
  unfold tieV at h
  unfold rowV
  simp only [List.all_cons, List.all_nil, Bool.and_true, Bool.and_eq_true] at *
  exact ⟨h.1, h.2.2.1, h.2.1, h.2.2.2⟩
instance (x y : Pr) : Decidable (PrLt x y) := by unfold PrLt; infer_instance
theorem row_lt {x y : Tie} (h : x.pr ≠ y.pr) : PySem.W.dataLt (tD (rowV x)) (tD (rowV y)) = decide (PrLt x.pr y.pr) := by
  show PySem.W.dataLt (.tuple [.int (x.a : Int), .int (x.b : Int), .str (sgn x.m), .str (sgn x.o)]) (.tuple [.int (y.a : Int), .int (y.b : Int), .str (sgn y.m), .str (sgn y.o)]) = _
  have al : ∀ i j : Int, PySem.W.alike (.int i) (.int j) = true := fun _ _ => by simp [PySem.W.alike]
  rw [PySem.W.dataLt_tuple, PySem.W.dataLt_cons (al _ _), PySem.W.dataLt_cons (al _ _), PySem.W.dataLt_int, PySem.W.dataLt_int]
  have e1 : PyData.eqv (.int (x.a : Int)) (.int (y.a : Int)) = decide (x.a = y.a) := by
    rw [PyData.eqv]
    by_cases q : x.a = y.a
    · simp [q]
    · rw [decide_eq_false q, beq_eq_false_iff_ne]
      omega
  have e2 : PyData.eqv (.int (x.b : Int)) (.int (y.b : Int)) = decide (x.b = y.b) := by
    rw [PyData.eqv]
    by_cases q : x.b = y.b
    · simp [q]
    · rw [decide_eq_false q, beq_eq_false_iff_ne]
      omega
  rw [e1, e2]
  unfold PrLt Tie.pr
  by_cases q1 : x.a = y.a
  · have q2 : ¬ x.b = y.b := fun q2 => h (by unfold Tie.pr; rw [q1, q2])
    rw [if_pos (decide_eq_true q1), if_neg (by rw [decide_eq_false q2]; exact Bool.false_ne_true)]
    congr 1
    simp only [eq_iff_iff]
    omega
  · rw [if_neg (by rw [decide_eq_false q1]; exact Bool.false_ne_true)]
    congr 1
    simp only [eq_iff_iff]
    omega
theorem prLt_asym {x y : Pr} (h : PrLt x y) : ¬ PrLt y x := by
  unfold PrLt at *
  omega
theorem prLt_tri {x y : Pr} (h : x ≠ y) (h2 : ¬ PrLt y x) : PrLt x y := by
  obtain ⟨a, b⟩ := x
  obtain ⟨c, d⟩ := y
  unfold PrLt at *
  have : ¬ (a = c ∧ b = d) := fun ⟨e1, e2⟩ => h (by rw [e1, e2])
  simp only at *
  omega
/-- just one list is in order -/
theorem srt_uniq : ∀ {l m : List Tie}, (l.map Tie.pr).Pairwise PrLt → (m.map Tie.pr).Pairwise PrLt → l.Perm m → l = m
  | [], m, _, _, p => p.nil_eq
  | x :: l, [], _, _, p => absurd p.length_eq (by simp)
  | x :: l, y :: m, hl, hm, p => by
    rw [List.map_cons, List.pairwise_cons] at hl hm
    have e : x = y := by
      rcases List.mem_cons.mp (p.mem_iff.mp (List.mem_cons_self (a := x))) with e | hx
      · exact e
      · rcases List.mem_cons.mp (p.mem_iff.mpr (List.mem_cons_self (a := y))) with e | hy
        · exact e.symm
        · exact absurd (hl.1 _ (List.mem_map_of_mem hy)) (prLt_asym (hm.1 _ (List.mem_map_of_mem hx)))
    subst e
    rw [srt_uniq hl.2 hm.2 p.cons_inv]
/-- rows in order are ties in the order of their houses -/
theorem rows_srt {qs : List (Addr × Tie)} (hn : ((qs.map (·.2)).map Tie.pr).Nodup) (hs : qs.Pairwise (fun p q => (!PySem.W.dataLt (tD (rowV q.2)) (tD (rowV p.2))) = true)) : ((qs.map (·.2)).map Tie.pr).Pairwise PrLt := by
  rw [List.map_map] at hn ⊢
  rw [List.pairwise_map]
  have hn2 : qs.Pairwise fun a b => a.2.pr ≠ b.2.pr := List.pairwise_map.mp hn
  refine (hs.and hn2).imp fun {a b} ⟨h1, h2⟩ => ?_
  rw [row_lt (fun e => h2 e.symm), Bool.not_eq_true', decide_eq_false_iff_not] at h1
  exact prLt_tri h2 h1
/-! ### the pieces of a line -/
theorem line_app (t : Tie) : ((((((Str.empty ++ sgn (48 + t.a)) ++ (" " : Str)) ++ sgn t.m) ++ (" " : Str)) ++ sgn (48 + t.b)) ++ (" " : Str)) ++ sgn t.o = lineS t := by
  have e : (" " : Str) = SX.S [32] := by decide +kernel
  have e0 : Str.empty = SX.S [] := rfl
  have es : ∀ c : Nat, sgn c = SX.S [c] := fun _ => rfl
  rw [e, e0]
  simp only [es, SX.S_cat]
  rfl
theorem str_app (x y : Str) : (x ++ y).length = x.length + y.length := by
  rw [TL.len_tl (x ++ y), TL.len_tl x, TL.len_tl y, TL.tl_append, List.length_append]
theorem small_str {x : Str} (h : x.length ≤ 1000) : x.length ≤ sizeLine := Nat.le_of_lt (small1000 h)
theorem sgn_len (c : Nat) : (sgn c).length = 1 := rfl
theorem sp_len : (" " : Str).length = 1 := by decide +kernel
theorem emp_len : Str.empty.length = 0 := rfl
end Wh

namespace Wh
open PySem L2
/-! ### sorted ties: one row only -/
def tLt (x y : Tie) : Prop := x.a < y.a ∨ (x.a = y.a ∧ (x.m < y.m ∨ (x.m = y.m ∧ (x.b < y.b ∨ (x.b = y.b ∧ x.o < y.o)))))
instance (x y : Tie) : Decidable (tLt x y) := by unfold tLt; infer_instance
theorem int_eqv (i j : Nat) : PyData.eqv (.int (i : Int)) (.int (j : Int)) = decide (i = j) := by
  rw [PyData.eqv]
  by_cases q : i = j
  · simp [q]
  · rw [decide_eq_false q, beq_eq_false_iff_ne]
    omega
theorem sgn_eqv (i j : Nat) : PyData.eqv (.str (sgn i)) (.str (sgn j)) = decide (i = j) := by
  rw [PyData.eqv]
  by_cases q : i = j
  · simp [q]
  · rw [decide_eq_false q, beq_eq_false_iff_ne]
    exact fun e => q (sgn_inj e)
theorem sgn_lt (i j : Nat) : PySem.W.dataLt (.str (sgn i)) (.str (sgn j)) = decide (i < j) := by
  rw [PySem.W.dataLt_str]
  show decide ([i] < [j]) = decide (i < j)
  by_cases q : i < j
  · rw [decide_eq_true q]
    exact decide_eq_true (List.cons_lt_cons_iff.mpr (.inl q))
  · rw [decide_eq_false q]
    refine decide_eq_false fun e => ?_
    rcases List.cons_lt_cons_iff.mp e with z | ⟨_, z⟩
    · exact q z
    · exact absurd z (by simp)
theorem tie_lt (x y : Tie) : PySem.W.dataLt (tD (tieV x)) (tD (tieV y)) = decide (tLt x y) := by
  show PySem.W.dataLt (.tuple [.int (x.a : Int), .str (sgn x.m), .int (x.b : Int), .str (sgn x.o)]) (.tuple [.int (y.a : Int), .str (sgn y.m), .int (y.b : Int), .str (sgn y.o)]) = _
  have ai : ∀ i j : Int, PySem.W.alike (.int i) (.int j) = true := fun _ _ => by simp [PySem.W.alike]
  have as : ∀ i j : Str, PySem.W.alike (.str i) (.str j) = true := fun _ _ => by simp [PySem.W.alike]
  rw [PySem.W.dataLt_tuple, PySem.W.dataLt_cons (ai _ _), PySem.W.dataLt_cons (as _ _), PySem.W.dataLt_cons (ai _ _), PySem.W.dataLt_cons (as _ _), PySem.W.dataLt_int, PySem.W.dataLt_int, int_eqv, int_eqv, sgn_eqv, sgn_eqv, sgn_lt, sgn_lt]
  have il : ∀ i j : Nat, decide ((i : Int) < (j : Int)) = decide (i < j) := fun i j => by
    by_cases q : i < j
    · rw [decide_eq_true q]
      exact decide_eq_true (by omega)
    · rw [decide_eq_false q]
      exact decide_eq_false (by omega)
  rw [il, il]
  unfold tLt
  by_cases h1 : x.a = y.a <;> by_cases h2 : x.m = y.m <;> by_cases h3 : x.b = y.b <;> by_cases h4 : x.o = y.o <;> simp [h1, h2, h3, h4]
  exact PyProof.Rows.lex_irrefl _
theorem tLt_tri (x y : Tie) (h1 : ¬ tLt x y) (h2 : ¬ tLt y x) : x = y := by
  obtain ⟨a, m, b, o⟩ := x
  obtain ⟨a2, m2, b2, o2⟩ := y
  unfold tLt at h1 h2
  simp only at h1 h2
  have e1 : a = a2 := by omega
  have e2 : m = m2 := by omega
  have e3 : b = b2 := by omega
  have e4 : o = o2 := by omega
  subst e1 e2 e3 e4
  rfl
/-- two rows of the same ties, both sorted, are one -/
theorem ties_uniq : ∀ {l m : List Tie}, l.Pairwise (fun x y => ¬ tLt y x) → m.Pairwise (fun x y => ¬ tLt y x) → l.Perm m → l = m
  | [], _, _, _, p => p.nil_eq
  | x :: l, [], _, _, p => absurd p.length_eq (by simp)
  | x :: l, y :: m, hl, hm, p => by
    rw [List.pairwise_cons] at hl hm
    have e : x = y := by
      rcases List.mem_cons.mp (p.mem_iff.mp (List.mem_cons_self (a := x))) with e | hx
      · exact e
      · rcases List.mem_cons.mp (p.mem_iff.mpr (List.mem_cons_self (a := y))) with e | hy
        · exact e.symm
        · exact tLt_tri x y (hm.1 _ hx) (hl.1 _ hy)
    subst e
    rw [ties_uniq hl.2 hm.2 p.cons_inv]
theorem ties_srt {qs : List (Addr × Tie)} (h : qs.Pairwise (fun p q => (!PySem.W.dataLt (tD (tieV q.2)) (tD (tieV p.2))) = true)) : (qs.map (·.2)).Pairwise (fun x y => ¬ tLt y x) := by
  rw [List.pairwise_map]
  refine h.imp fun {p q} e => ?_
  rw [tie_lt] at e
  simpa using e
end Wh

namespace Wh
open PySem L2
/-! ### webs as objects -/
def webF (txt pl : Str) (l dl : Addr) : List (Str × V) := [("_text", .str txt), ("_plain", .str pl), ("_ties", .ref l), ("_doors", .ref dl)]
theorem putF_new (f : Str) (v : V) : putF f v [] = [(f, v)] := rfl
theorem putF_1 (v w : V) : putF ("_plain" : Str) w [(("_text" : Str), v)] = [(("_text" : Str), v), ("_plain", w)] := by
  unfold putF
  rw [if_neg (by decide +kernel)]
  rfl
theorem putF_2 (v w x : V) : putF ("_ties" : Str) x [(("_text" : Str), v), ("_plain", w)] = [(("_text" : Str), v), ("_plain", w), ("_ties", x)] := by
  unfold putF
  rw [if_neg (by decide +kernel)]
  unfold putF
  rw [if_neg (by decide +kernel)]
  rfl
theorem putF_3 (v w x y : V) : putF ("_doors" : Str) y [(("_text" : Str), v), ("_plain", w), ("_ties", x)] = [(("_text" : Str), v), ("_plain", w), ("_ties", x), ("_doors", y)] := by
  unfold putF
  rw [if_neg (by decide +kernel)]
  unfold putF
  rw [if_neg (by decide +kernel)]
  unfold putF
  rw [if_neg (by decide +kernel)]
  rfl
theorem ff_plain (t p : Str) (l d : Addr) : (webF t p l d).lookup ("_plain" : Str) = some (.str p) := by
  unfold webF
  rw [List.lookup_cons, show (("_plain" : Str) == ("_text" : Str)) = false by decide +kernel, List.lookup_cons, show (("_plain" : Str) == ("_plain" : Str)) = true by decide +kernel]
theorem ff_ties (t p : Str) (l d : Addr) : (webF t p l d).lookup ("_ties" : Str) = some (.ref l) := by
  unfold webF
  rw [List.lookup_cons, show (("_ties" : Str) == ("_text" : Str)) = false by decide +kernel, List.lookup_cons, show (("_ties" : Str) == ("_plain" : Str)) = false by decide +kernel, List.lookup_cons, show (("_ties" : Str) == ("_ties" : Str)) = true by decide +kernel]
theorem ff_doors (t p : Str) (l d : Addr) : (webF t p l d).lookup ("_doors" : Str) = some (.ref d) := by
  unfold webF
  rw [List.lookup_cons, show (("_doors" : Str) == ("_text" : Str)) = false by decide +kernel, List.lookup_cons, show (("_doors" : Str) == ("_plain" : Str)) = false by decide +kernel, List.lookup_cons, show (("_doors" : Str) == ("_ties" : Str)) = false by decide +kernel, List.lookup_cons, show (("_doors" : Str) == ("_doors" : Str)) = true by decide +kernel]
theorem ff_no (t p : Str) (l d : Addr) {f : Str} (h : (f == ("_text" : Str)) = false ∧ (f == ("_plain" : Str)) = false ∧ (f == ("_ties" : Str)) = false ∧ (f == ("_doors" : Str)) = false) : (webF t p l d).lookup f = none := by
  unfold webF
  rw [List.lookup_cons, h.1, List.lookup_cons, h.2.1, List.lookup_cons, h.2.2.1, List.lookup_cons, h.2.2.2]
  rfl
structure WebAt (C : Addr) (H : Hp) (x : Addr) (n : Nat) (ts : List Tie) : Prop where
  ex : ∃ (dx : Addr) (txt : Str) (l : Addr) (ps : List (Addr × Tie)) (dl : Addr) (ds : List Addr), H x = some (.ins C dx (webF txt (webS ts) l dl)) ∧ H l = some (.tup (refs ps)) ∧ At tieV H ps ∧ (ps.map (·.2)).Perm ts ∧ Dr H dl ds n (ps.map (·.2)) ∧ (ps.map (·.2)).Pairwise (fun x y => ¬ tLt y x)
  wk : WebOk n ts
  srt : (ts.map Tie.pr).Pairwise PrLt
theorem WebAt.same {C : Addr} {H H' : Hp} {x : Addr} {n : Nat} {ts : List Tie} (w : WebAt C H x n ts) (s : Same H H') : WebAt C H' x n ts := by
  obtain ⟨dx, txt, l, ps, dl, ds, h1, h2, h3, h4, h5, h6⟩ := w.ex
  exact ⟨⟨dx, txt, l, ps, dl, ds, s _ _ h1, s _ _ h2, h3.same s, h4, h5.same s, h6⟩, w.wk, w.srt⟩
theorem WebAt.isI {C : Addr} {H : Hp} {x : Addr} {n : Nat} {ts : List Tie} (w : WebAt C H x n ts) : ∃ dx fs, H x = some (.ins C dx fs) := by
  obtain ⟨dx, txt, l, ps, dl, ds, h1, _⟩ := w.ex
  exact ⟨dx, _, h1⟩
/-- what of the text the class Web must have -/
structure WebC (K : PySem.W.Frag) (C : Addr) : Prop where
  c : Cls K C
  n1 : NoAttr K C "_text"
  n2 : NoAttr K C "_plain"
  n3 : NoAttr K C "_ties"
  n4 : NoAttr K C "_doors"
theorem But.tupI {c : Addr} {H H' : Hp} (h : But c H H') {C dx : Addr} {fs : List (Str × V)} (hc : H c = some (.ins C dx fs)) : ∀ b xs, H b = some (.tup xs) → H' b = some (.tup xs) := fun b xs e => h b _ e (ne_of e hc (by intro z; cases z))
theorem At.butI {α : Type} {f : α → List V} {H H' : Hp} {ps : List (Addr × α)} {c : Addr} {C dx : Addr} {fs : List (Str × V)} (h : At f H ps) (hc : H c = some (.ins C dx fs)) (b : But c H H') : At f H' ps := h.mono (b.tupI hc)
/-! ### some texts of single letters -/
def sS (ms : List Nat) : Str := SX.S ms
theorem sS_len (ms : List Nat) : (sS ms).length = ms.length := SX.S_len ms
theorem sS_cps (ms : List Nat) : (sS ms).cps.toList = ms := rfl
theorem join_sgn (ms : List Nat) : Txt.join ("" : Str) (ms.map sgn) = sS ms := by
  have e2 : ("" : Str) = SX.S [] := by decide +kernel
  have e : ms.map sgn = (ms.map fun m => [m]).map SX.S := by rw [List.map_map]; rfl
  rw [e, e2, SX.join_S]
  unfold sS
  congr 1
  have : ∀ xs : List Nat, TL.joinL [] (xs.map fun m => [m]) = xs := by
    intro xs
    induction xs with
    | nil => rfl
    | cons x r ih =>
      cases r with
      | nil => rfl
      | cons y r =>
        show [x] ++ ([] ++ TL.joinL [] ((y :: r).map fun m => [m])) = _
        rw [ih]
        rfl
  exact this ms
theorem sgn_perm {ys : List Str} {ms : List Nat} (p : ys.Perm (ms.map sgn)) : ∃ ns : List Nat, ys = ns.map sgn ∧ ns.Perm ms := by
  refine ⟨ys.map fun y => y.cps.toList.headD 0, ?_, ?_⟩
  · rw [List.map_map]
    refine ((List.map_congr_left fun y hy => ?_).trans (List.map_id _)).symm
    obtain ⟨m, _, rfl⟩ := List.mem_map.mp (p.mem_iff.mp hy)
    rfl
  · have q := p.map fun y : Str => y.cps.toList.headD 0
    rw [List.map_map] at q
    have e : (List.map ((fun y : Str => y.cps.toList.headD 0) ∘ sgn) ms) = ms := (List.map_congr_left fun y hy => rfl).trans (List.map_id _)
    rw [e] at q
    exact q
theorem marks_let {n : Nat} {ts : List Tie} (w : WebOk n ts) (h : Nat) : ∀ x ∈ marksAt h ts, x ∈ letters := fun x hx => by
  obtain ⟨t, ht, hx⟩ := List.mem_flatMap.mp hx
  obtain ⟨h1, h2⟩ := w.let_ t ht
  unfold endsAt at hx
  rcases List.mem_append.mp hx with z | z
  · split at z
    · rw [List.mem_singleton.mp z]
      exact h1
    · cases z
  · split at z
    · rw [List.mem_singleton.mp z]
      exact h2
    · cases z
theorem marks12 {n : Nat} {ts : List Tie} (w : WebOk n ts) (h : Nat) : (marksAt h ts).length ≤ 12 := nd_sub_len (w.uniq h) (marks_let w h)
theorem sgn_sum : ∀ ns : List Nat, ((ns.map sgn).map (·.length)).sum = ns.length
  | [] => rfl
  | n :: ns => by
    rw [List.map_cons, List.map_cons, List.sum_cons, sgn_sum ns, sgn_len, List.length_cons]
    omega
end Wh

namespace Wh
open PySem PySem.Spec PyProof.Rows L2
/-! ### list(x), x a text -/
def rListS : List V → Hp → VK → Prop := fun xs H Q => ∃ x : Str, xs = [V.str x] ∧ x.length ≤ sizeLine ∧ ∀ p, H p = none → Q (.ref p) (upd H p (.lst (x.cps.toList.map fun c => V.str (sgn c))))
theorem call_list_S {X : Cx} (hc : X.calm = true) : CallR X (.type "list") rListS := by
  intro pins s σ H xs us Q I r h
  obtain ⟨x, e, hz, q⟩ := h
  subst e
  obtain ⟨u, eu, rx⟩ := vals1 r
  subst eu
  obtain ⟨t, rfl⟩ := rx
  refine call_list_str (I.ok.hd hc) x t (hn := hz) fun h' tk acc' c' hkeep hS hacc => ?_
  refine ⟨.ref s.heap.objs.size, upd H s.heap.objs.size (.lst (x.cps.toList.map fun c => V.str (sgn c))), I.laid hkeep (Nat.le_refl _) (show ObjOk X.prog X.w _ _ _ (.lst (x.cps.toList.map fun c => V.str (sgn c))) from ⟨?_, acc'.toList, c', ?_, ?_⟩), rfl, q _ (I.hok.fresh (Nat.le_refl _))⟩
  · rw [List.length_map]
    exact hz
  · refine vals_of_at (by rw [List.length_map]; simp [hacc.1]) fun j y w h1 h2 => ?_
    obtain ⟨c, u, hcv, hi⟩ := hacc.2 j w (by rw [← Array.getElem?_toList]; exact h2)
    rw [List.getElem?_map, Array.getElem?_toList, hcv] at h1
    cases h1
    exact ⟨u, hi⟩
  · simpa using hS
/-! ### x != y, own == , instances -/
structure NeF (K : PySem.W.Frag) (C f : Addr) : Prop where
  cls : ∃ nm q N bs hdct sn sub ab col dd k0 k1 k2 k3 k5 newId, K.lookup C = some (excClassObj nm q C N bs [.type "object"] hdct sn sub ab col dd k0 k1 k2 k3 k5 newId) ∧ PySem.W.nsOkIn K N = true ∧ PySem.W.nsIn K N "__eq__" = some (some (.ref f)) ∧ PySem.W.nsIn K N "__ne__" = some none
  fn : ∃ of, K.lookup f = some of ∧ of.cls = .type "function"
theorem obj_eq_name : typeLookup (.type "object") "__eq__" = pure (some (.builtin "object.__eq__")) := by rw [typeLookup_type, builtinLookup_eq_fast]; kernel_rfl
theorem ns_some_of {K : PySem.W.Frag} {h : Heap} {N : Addr} {mg : Str → Option Value} {n : Str} {v : Value} (X : K.In h) (G : h.Ns N mg) (e : PySem.W.nsIn K N n = some (some v)) : mg n = some v := by
  obtain ⟨o, es, ep, ho, hd, _, hf⟩ := G
  unfold PySem.W.nsIn at e
  split at e
  · rename_i c d es' n' sl q
    have := X _ _ q
    rw [ho] at this
    cases this
    cases hd
    split at e
    · rename_i en he
      cases e
      rw [← hf]
      unfold nsFind findBy
      rw [← Array.find?_toList, he]
      rfl
    · split at e <;> cases e
  · cases e
def rNeI (C : Addr) (sp : Sp) : R2 := fun x y H Q => ∃ a b dx dy fs gs, x = .ref a ∧ y = .ref b ∧ H a = some (.ins C dx fs) ∧ H b = some (.ins C dy gs) ∧ sp [.ref a, .ref b] H (fun v H' => ∃ c, v = .bl c ∧ Q (.bl (!c)) H') C8.E0
theorem op_neI {X : Cx} {n : Nat} {C f : Addr} {fd : FuncData} {ps : List Str} {sp : Sp} (F : FnOk X.prog X.w X.K X.mg X.base C8.CX0 n f fd ps sp) (T : NeF X.K C f) (hb : Binds X.K fd ps []) (hr : Room (n + 1) X.A) : OpR X (compareOp .NotEq) (rNeI C sp) := by
  intro pins s σ H x y v u Q I rx ry d
  obtain ⟨a, b, dx, dy, fs, gs, rfl, rfl, ha, hb', hsp⟩ := d
  cases rx
  cases ry
  obtain ⟨mA, J, _⟩ := ins_get I.hok ha
  obtain ⟨mB, J', _⟩ := ins_get I.hok hb'
  obtain ⟨od, J, _⟩ := J.look
  obtain ⟨od', J', _⟩ := J'.look
  obtain ⟨nm, q, N, bs, hdct, sn, sub, ab, col, dd, k0, k1, k2, k3, k5, newId, hC, hns, heq, hne⟩ := T.cls
  obtain ⟨of, hof, hofc⟩ := T.fn
  have KX := I.kIn
  have hN : s.heap.Ns N (s.heap.nsMap N) := .of_isNs (PySem.W.isNs_of_in KX hns)
  have OE : s.heap.OwnEqNoNe a C f "object" [.type "object"] := ⟨_, of, nm, q, N, bs, hdct, sn, sub, ab, col, dd, k0, k1, k2, k3, k5, newId, _, _, J.at_, J.cls, KX _ _ hC, hN, ns_some_of KX hN heq, KX _ _ hof, hofc, PySem.F.mro_object, obj_eq_name, PySem.W.ns_none_of KX hN hne⟩
  have r2 : Vals [V.ref a, V.ref b] [Value.ref a, Value.ref b] := .cons rfl (.cons rfl .nil)
  have hl := F.len _ _ _ _ hsp
  have e0 := I.env0.in1
  have hcall : wpAny (model X.prog X.w) X.A.in1 (call (.ref f) [.ref a, .ref b]) (fun v s' => ∃ c, v = .bool c ∧ EP X pins σ Q (.bool (!c)) s') X.xe s := by
    refine wpAny_call (codeAny_mono (F.run X.A.in1 X.stack s H ⟨[.ref a, .ref b], []⟩ [.ref a, .ref b] [.ref a, .ref b] _ C8.E0 hr.in1 e0 (by
      have := hb s [.ref a, .ref b] I.kIn (by simpa using hl)
      simpa using this) r2 hsp) fun r s' hq => ?_)
    cases r with
    | error e => exact hq.elim
    | ok fl =>
      cases fl with
      | ret w =>
        obtain ⟨z, H', I', rz, c, ez, q⟩ := I.after hq
        subst ez
        cases rz
        exact ⟨c, rfl, .bl (!c), H', I', rfl, q⟩
      | next => exact False.elim hq
      | brk => exact False.elim hq
      | cont => exact False.elim hq
  obtain ⟨hh, g, d', t, os⟩ := s
  exact compareOp_ne_ownEq PySem.F.cmp_object OE J'.at_ J'.cls (by have := hr.un; omega) hcall
/-! ### o.m(k = v, ..) -/
def tMethK (C : Addr) (m : Str) (sp : Sp) (gV : List V → List V → List V) (E : XK) (ta : TE) (tk : TA) : TE := fun σ H Q => ta σ H fun x H1 => ∃ a dx fs, x = .ref a ∧ H1 a = some (.ins C dx fs) ∧ fs.lookup m = none ∧ tk σ H1 fun zs H2 => sp (gV [x] zs) H2 Q E
theorem pe_methK0 {X : Cx} {CX : CXT} {k : Nat} {f C : Addr} {fd : FuncData} {ps ks : List Str} {sp : Sp} {E : XK} {m : Str} {pos apos : Pos} {o : Expr} {kws : List Keyword} {ta : TE} {tk : TA} {g : List Value → List Value → List Value} {gV : List V → List V → List V} {pl : Sem Bool}
    (he : PE X o ta) (c : Cls X.K C) (hm : Meth X.K C m f) (F : FnOk X.prog X.w X.K X.mg X.base CX k f fd ps sp) (hr : Room k X.A) (hb : KBinds X.K fd ps ks g gV) (hx : Passes CX X E) (hkw : PK X kws tk)
    (hall : (backToKw pos (keywordEach kws X.env)).all (·.1.isSome) = true := by rfl) (hks : (backToKw pos (keywordEach kws X.env)).filterMap (·.1) = ks := by rfl)
    (hpl : ((backTo pos (starEach [] X.env)).any (·.1) || (backToKw pos (keywordEach kws X.env)).any (·.1.isNone)) = false := by rfl)
    (ht : eval (.Call (.Attribute o m apos) [] kws pos) X.env = (do
      let ov ← eval o X.env
      standAt apos.atName
      let (f, first) ← holding [ov] (getMethod ov m pl)
      callWith pos f first (backTo pos (starEach [] X.env)) (backToKw pos (keywordEach kws X.env))) := by rfl) :
    PE X (.Call (.Attribute o m apos) [] kws pos) (tMethK C m sp gV E ta tk) := by
  refine ⟨fun pins s σ H Q I h => ?_⟩
  refine PySem.W.methodCall_KW (pl := pl) (thn (he.run pins s σ H _ I h) fun u s1 ⟨x, H1, I1, rx, a, dx, fs, ex, ea, l, q⟩ => ?_) ht
  subst ex
  obtain rfl : u = Value.ref a := rx
  refine getmeth_ok I1 ea c hm l ?_
  refine PySem.W.callWith_KW0 (first := [.ref a]) (h₀ := X.base) I.ok.mod.kin hm.kp hall ?_ hpl
  refine thn (hkw.run pos pins s1 σ H1 _ I1 q) fun ws s2 ⟨zs, H2, I2, rz, q2⟩ => ⟨I2.kIn, ?_⟩
  rw [hks]
  exact run_fnk (us := [.ref a]) (vs := [.ref a]) F hr hb hx I2 (.cons rfl .nil) rz q2
end Wh

namespace Wh
open PySem L2 LamX
/-- all that was tracked is as it was, but what stands at c, and the tables of code objects -/
def Kp (c : Addr) (H H' : Hp) : Prop := ∀ b o, H b = some o → b ≠ c → (∀ ps, o ≠ .tbl ps) → H' b = some o
theorem Kp.refl (c : Addr) (H : Hp) : Kp c H H := fun _ _ h _ _ => h
theorem Kp.trans {c : Addr} {H H1 H2 : Hp} (a : Kp c H H1) (b : Kp c H1 H2) : Kp c H H2 := fun d o h n t => b d o (a d o h n t) n t
theorem _root_.L2.Same.kp {c : Addr} {H H' : Hp} (s : Same H H') : Kp c H H' := fun b o h _ _ => s b o h
theorem But.kp {c : Addr} {H H' : Hp} (s : But c H H') : Kp c H H' := fun b o h n _ => s b o h n
theorem _root_.LamX.ExtN.kp {c : Addr} {H H' : Hp} (s : ExtN H H') : Kp c H H' := fun b o h _ t => s b o h t
theorem Cup.ne_refs {H : Hp} {c l : Addr} {ps : List Addr} (h : Cup H c) (e : H l = some (.lst (ps.map V.ref))) : l ≠ c := fun z => by
  obtain ⟨x, y, q⟩ := h
  rw [z, q] at e
  cases ps with
  | nil => cases e
  | cons p ps => cases e
theorem refs_eq {α : Type} (ps : List (Addr × α)) : refs ps = (ps.map (·.1)).map V.ref := by
  unfold refs
  rw [List.map_map]
  rfl
theorem Cup.ne_o {H : Hp} {c b : Addr} {o : HO} (h : Cup H c) (e : H b = some o) (n : ∀ xs, o ≠ .lst xs) : b ≠ c := fun z => by
  obtain ⟨x, y, q⟩ := h
  rw [z, q] at e
  exact n _ (Option.some.inj e).symm
theorem Cup.ext {H H' : Hp} {c : Addr} (h : Cup H c) (e : ExtN H H') : Cup H' c := by
  obtain ⟨x, y, q⟩ := h
  exact ⟨x, y, e _ _ q (fun ps z => by cases z)⟩
theorem Kp.tup {c : Addr} {H H' : Hp} (k : Kp c H H') (hc : Cup H c) {b : Addr} {xs : List V} (e : H b = some (.tup xs)) : H' b = some (.tup xs) := k _ _ e (hc.ne_o e fun ys z => by cases z) (fun ps z => by cases z)
theorem At.kp {α : Type} {f : α → List V} {H H' : Hp} {ps : List (Addr × α)} {c : Addr} (h : At f H ps) (k : Kp c H H') (hc : Cup H c) : At f H' ps := fun p hp => k.tup hc (h p hp)
theorem Kp.refs {c l : Addr} {H H' : Hp} {ps : List Addr} (k : Kp c H H') (hc : Cup H c) (e : H l = some (.lst (ps.map V.ref))) : H' l = some (.lst (ps.map V.ref)) := k _ _ e (hc.ne_refs e) (fun ps z => by cases z)
theorem Dr.kp {H H' : Hp} {dl c : Addr} {ds : List Addr} {n : Nat} {ts : List Tie} (d : Dr H dl ds n ts) (k : Kp c H H') (hc : Cup H c) : Dr H' dl ds n ts :=
  ⟨k.refs hc d.hl, d.len, d.nd, fun h a e => k _ _ (d.hd h a e) (hc.ne_o (d.hd h a e) fun ys z => by cases z) (fun ps z => by cases z)⟩
theorem WebAt.kp {C c : Addr} {H H' : Hp} {x : Addr} {n : Nat} {ts : List Tie} (w : WebAt C H x n ts) (k : Kp c H H') (hc : Cup H c) : WebAt C H' x n ts := by
  obtain ⟨dx, txt, l, ps, dl, ds, h1, h2, h3, h4, h5, h6⟩ := w.ex
  exact ⟨⟨dx, txt, l, ps, dl, ds, k _ _ h1 (hc.ne_o h1 fun ys z => by cases z) (fun ps z => by cases z), k.tup hc h2, h3.kp k hc, h4, h5.kp k hc, h6⟩, w.wk, w.srt⟩
theorem Tabs.but {T : List (Addr × Str)} {H H' : Hp} {c : Addr} (t : Tabs T H) (b : But c H H') (hc : Cup H c) : Tabs T H' := fun p hp => by
  obtain ⟨ps, h1, h2, h3⟩ := t p hp
  refine ⟨ps, b _ _ h1 (hc.ne_o h1 fun ys z => by cases z), h2, fun pos cv hcv => ?_⟩
  obtain ⟨d, e1, e2⟩ := h3 pos cv hcv
  exact ⟨d, e1, b _ _ e2 (hc.ne_o e2 fun ys z => by unfold CodeO at z; cases z)⟩
/-- within a turn: the cup, the tables, the web, what was told of it -/
structure St4 (C c : Addr) (T : List (Addr × Str)) (H0 H : Hp) (x l : Addr) (n : Nat) (ts : List Tie) : Prop where
  kp : Kp c H0 H
  cup : Cup H c
  tabs : Tabs T H
  web : WebAt C H x n ts
  told : ∃ ps, H l = some (.lst (refs ps)) ∧ At tieV H ps ∧ ps.map (·.2) = ts
section
variable {C c : Addr} {T : List (Addr × Str)} {H0 H H' : Hp} {x l : Addr} {n : Nat} {ts : List Tie}
theorem St4.step (s : St4 C c T H0 H x l n ts) (k : Kp c H H') (cu : Cup H' c) (tb : Tabs T H') : St4 C c T H0 H' x l n ts := by
  obtain ⟨ps, h1, h2, h3⟩ := s.told
  refine ⟨s.kp.trans k, cu, tb, s.web.kp k s.cup, ps, ?_, h2.kp k s.cup, h3⟩
  rw [refs_eq] at h1 ⊢
  exact k.refs s.cup h1
theorem St4.same (s : St4 C c T H0 H x l n ts) (e : Same H H') : St4 C c T H0 H' x l n ts := s.step e.kp (s.cup.same e) (s.tabs.ext e)
theorem St4.but (s : St4 C c T H0 H x l n ts) (e : But c H H') (cu : Cup H' c) : St4 C c T H0 H' x l n ts := s.step e.kp cu (Tabs.but s.tabs e s.cup)
theorem St4.ext (s : St4 C c T H0 H x l n ts) (e : ExtN H H') (tb : Tabs T H') : St4 C c T H0 H' x l n ts := s.step e.kp (s.cup.ext e) tb
end
theorem WebAt.fs {C : Addr} {H : Hp} {x : Addr} {n : Nat} {ts : List Tie} (w : WebAt C H x n ts) : ∃ dx fs, H x = some (.ins C dx fs) ∧ fs.lookup ("at" : Str) = none ∧ fs.lookup ("changed" : Str) = none := by
  obtain ⟨dx, txt, l, ps, dl, ds, h1, _⟩ := w.ex
  exact ⟨dx, _, h1, ff_no _ _ _ _ (by decide +kernel), ff_no _ _ _ _ (by decide +kernel)⟩
theorem marks_pos {n : Nat} {ts : List Tie} (w : WebOk n ts) {h : Nat} (hn : h < n) : 0 < (marksAt h ts).length := by
  have n2 := w.n2
  have ex : ∃ t ∈ ts, endsAt h t ≠ [] := by
    by_cases h0 : h = 0
    · obtain ⟨t, ht, e⟩ := w.hang 1 (Nat.le_refl _) (by omega)
      have := (w.lt t ht).1
      refine ⟨t, ht, ?_⟩
      unfold endsAt
      rw [if_pos (show t.a = h by omega)]
      intro z
      cases z
    · obtain ⟨t, ht, e⟩ := w.hang h (by omega) hn
      refine ⟨t, ht, ?_⟩
      unfold endsAt
      rw [if_pos e]
      intro z
      have := congrArg List.length z
      simp at this
  obtain ⟨t, ht, e⟩ := ex
  obtain ⟨y, hy⟩ := List.exists_mem_of_ne_nil _ e
  exact List.length_pos_of_mem (mem_ends ht hy)
/-! ### lists of flat data, equal -/
def lD (xs : List V) : PyData := .list (xs.map vD)
theorem lD_dp (K : PySem.W.Frag) {H : Hp} {p : Addr} {xs : List V} (h : xs.all nb = true) (e : H p = some (.lst xs)) : Dp K H (.ref p) (lD xs) := .lst (SqL.of e) (vDs_dp K H h)
theorem lD_shaped {xs : List V} (h : xs.all nb = true) : SeqAt.shaped (lD xs) = true := by
  show (PyData.canLay0 (.list (xs.map vD)) && decide (PyData.depth (.list (xs.map vD)) ≤ 64)) = true
  rw [PyData.canLay0, PyData.depth, vDs_lay h, vDs_depth]
  rfl
theorem lD_eqv {xs : List V} (h : xs.all nb = true) : PyData.eqv (lD xs) (lD xs) = true := by
  show PyData.eqv (.list (xs.map vD)) (.list (xs.map vD)) = true
  rw [PyData.eqv, vDs_eqv h h]
  exact decide_eq_true rfl
theorem rNeL {K : PySem.W.Frag} {H : Hp} {p q : Addr} {xs : List V} {Q : VK} (hp : H p = some (.lst xs)) (hq : H q = some (.lst xs)) (h : xs.all nb = true) (k : Q (.bl false) H) : rNeD K (.ref p) (.ref q) H Q :=
  ⟨_, _, lD_dp K h hp, lD_dp K h hq, lD_shaped h, lD_shaped h, by rw [lD_eqv h]; exact k⟩
theorem repr_nb : ∀ c ∈ letters, PyData.canLay0 (.str (reprText (sgn c))) = true := by
  intro c hc
  rw [PyData.canLay0]
  revert c
  decide +kernel
end Wh

namespace Wh
open PySem L2
/-! ### where a mark leads, where a word ends -/
def door (h m : Nat) (ts : List Tie) : Option Nat := ((doorsAt h ts).find? fun d => decide (d.1 = m)).map (·.2)
def walkN (ts : List Tie) : Nat → List Nat → Option Nat
  | h, [] => some h
  | h, m :: ms => (door h m ts).bind fun k => walkN ts k ms
theorem valV_door (h m : Nat) (ts : List Tie) : valV (doorsK h ts) (Sum.inr (sgn m) : Key) = (door h m ts).map (fun k : Nat => V.int (k : Int)) := by
  unfold valV doorsK door
  rw [List.find?_map]
  have e : ((fun kv : Key × V => decide (kv.1 = (Sum.inr (sgn m) : Key))) ∘ kD) = fun d => decide (d.1 = m) := by
    funext d
    show decide ((Sum.inr (sgn d.1) : Key) = Sum.inr (sgn m)) = decide (d.1 = m)
    by_cases c : d.1 = m
    · rw [c, decide_eq_true rfl, decide_eq_true rfl]
    · rw [decide_eq_false c, decide_eq_false fun z => c (sgn_inj (Sum.inr.inj z))]
  rw [e, Option.map_map, Option.map_map]
  rfl
theorem door_mem {h m k : Nat} {ts : List Tie} (e : door h m ts = some k) : (m, k) ∈ doorsAt h ts := by
  unfold door at e
  cases q : (doorsAt h ts).find? fun d => decide (d.1 = m) with
  | none =>
    rw [q] at e
    cases e
  | some d =>
    rw [q] at e
    have h1 := List.mem_of_find?_eq_some q
    have h2 : d.1 = m := of_decide_eq_true (List.find?_some (p := fun d : Nat × Nat => decide (d.1 = m)) q)
    have h3 : d.2 = k := Option.some.inj e
    obtain ⟨x, y⟩ := d
    simp only at h2 h3
    rw [h2, h3] at h1
    exact h1
theorem door_of {h m k : Nat} {ts : List Tie} (nd : (marksAt h ts).Nodup) (hm : (m, k) ∈ doorsAt h ts) : door h m ts = some k := by
  rw [← doorsAt_fst] at nd
  unfold door
  revert nd hm
  generalize doorsAt h ts = l
  intro nd hm
  induction l with
  | nil => cases hm
  | cons d l ih =>
    rw [List.map_cons] at nd
    obtain ⟨n1, n2⟩ := List.nodup_cons.mp nd
    rw [List.find?_cons]
    rcases List.mem_cons.mp hm with e | e
    · rw [← e]
      simp
    · have ne : d.1 ≠ m := fun z => n1 (List.mem_map.mpr ⟨(m, k), e, z.symm⟩)
      rw [decide_eq_false ne]
      exact ih n2 e
theorem doorsAt_perm {ts us : List Tie} (p : ts.Perm us) (h : Nat) : (doorsAt h ts).Perm (doorsAt h us) := p.flatMap_right _
theorem door_perm {n : Nat} {ts us : List Tie} (w : WebOk n ts) (p : ts.Perm us) (h m : Nat) : door h m ts = door h m us := by
  have pd := doorsAt_perm p h
  have nd2 : (marksAt h us).Nodup := (w.perm p).uniq h
  cases e : door h m ts with
  | some k => exact (door_of nd2 (pd.mem_iff.mp (door_mem e))).symm
  | none =>
    cases e2 : door h m us with
    | none => rfl
    | some k =>
      have := door_of (w.uniq h) (pd.mem_iff.mpr (door_mem e2))
      rw [e] at this
      cases this
theorem walkN_perm {n : Nat} {ts us : List Tie} (w : WebOk n ts) (p : ts.Perm us) : ∀ (ms : List Nat) (h : Nat), walkN ts h ms = walkN us h ms
  | [], _ => rfl
  | m :: ms, h => by
    show (door h m ts).bind _ = (door h m us).bind _
    rw [door_perm w p]
    cases door h m us with
    | none => rfl
    | some k => exact walkN_perm w p ms k
theorem door_lt {n h m k : Nat} {ts : List Tie} (w : WebOk n ts) (e : door h m ts = some k) : k < n := by
  have hm := door_mem e
  obtain ⟨t, ht, hm⟩ := List.mem_flatMap.mp hm
  have := w.lt t ht
  unfold endsD at hm
  rcases List.mem_append.mp hm with z | z
  · split at z
    · have e := List.mem_singleton.mp z
      injection e with e1 e2
      omega
    · cases z
  · split at z
    · have e := List.mem_singleton.mp z
      injection e with e1 e2
      omega
    · cases z
theorem walkN_app (ts : List Tie) : ∀ (xs ys : List Nat) (h : Nat), walkN ts h (xs ++ ys) = (walkN ts h xs).bind fun p => walkN ts p ys
  | [], _, _ => rfl
  | x :: xs, ys, h => by
    show (door h x ts).bind _ = ((door h x ts).bind _).bind _
    cases door h x ts with
    | none => rfl
    | some k => exact walkN_app ts xs ys k
theorem walk_step {ts : List Tie} {h p m : Nat} {ms : List Nat} {i : Nat} (hi : ms[i]? = some m) (hp : walkN ts h (ms.take i) = some p) : walkN ts h (ms.take (i + 1)) = door p m ts := by
  rw [List.take_succ, hi]
  show walkN ts h (ms.take i ++ [m]) = _
  rw [walkN_app, hp]
  show (door p m ts).bind _ = _
  cases door p m ts <;> rfl
theorem walk_stop {ts : List Tie} {h p m : Nat} {ms : List Nat} {i : Nat} (hi : ms[i]? = some m) (hp : walkN ts h (ms.take i) = some p) (hd : door p m ts = none) : walkN ts h ms = none := by
  rw [take_split hi, walkN_app, hp]
  show (door p m ts).bind _ = none
  rw [hd]
  rfl
def walkV : Option Nat → V
  | none => .non
  | some k => .int (k : Int)
end Wh

namespace Wh
open PySem L2
/-- a line's tie, the lesser house ahead -/
def nrm (t : Tie) : Tie := if t.a < t.b then t else ⟨t.b, t.o, t.a, t.m⟩
theorem nrm_id {t : Tie} (h : t.a < t.b) : nrm t = t := if_pos h
theorem nrm_map {ts : List Tie} (h : ∀ t ∈ ts, t.a < t.b) : ts.map nrm = ts := (List.map_congr_left fun t ht => nrm_id (h t ht)).trans (List.map_id _)
/-- a line that may be turned round -/
structure RawOk (t : Tie) : Prop where
  ne : t.a ≠ t.b
  a10 : t.a < 10
  b10 : t.b < 10
  lm : t.m ∈ letters
  lo : t.o ∈ letters
theorem raw_of {n : Nat} {ts : List Tie} (w : WebOk n (ts.map nrm)) : ∀ t ∈ ts, RawOk t := fun t ht => by
  have h1 := w.lt _ (List.mem_map_of_mem ht)
  have h2 := w.let_ _ (List.mem_map_of_mem ht)
  have h3 := w.n10
  unfold nrm at h1 h2
  by_cases c : t.a < t.b
  · rw [if_pos c] at h1 h2
    exact ⟨by omega, by omega, by omega, h2.1, h2.2⟩
  · rw [if_neg c] at h1 h2
    have h4 : t.b < t.a ∧ t.a < n := h1
    exact ⟨by omega, by omega, by omega, h2.2, h2.1⟩
/-- the text of a web, as it was given -/
def TextAt (C : Addr) (H : Hp) (x : Addr) (txt : Str) : Prop := ∃ (dx : Addr) (pl : Str) (l dl : Addr), H x = some (.ins C dx (webF txt pl l dl))
theorem TextAt.same {C : Addr} {H H' : Hp} {x : Addr} {txt : Str} (t : TextAt C H x txt) (s : Same H H') : TextAt C H' x txt := by
  obtain ⟨dx, pl, l, dl, h⟩ := t
  exact ⟨dx, pl, l, dl, s _ _ h⟩
theorem TextAt.kp {C c : Addr} {H H' : Hp} {x : Addr} {txt : Str} (t : TextAt C H x txt) (k : Kp c H H') (hc : Cup H c) : TextAt C H' x txt := by
  obtain ⟨dx, pl, l, dl, h⟩ := t
  exact ⟨dx, pl, l, dl, k _ _ h (hc.ne_o h fun ys z => by cases z) (fun ps z => by cases z)⟩
theorem ff_text (t p : Str) (l d : Addr) : (webF t p l d).lookup ("_text" : Str) = some (.str t) := by
  unfold webF
  rw [List.lookup_cons, show (("_text" : Str) == ("_text" : Str)) = true by decide +kernel]
end Wh

namespace Wh
open PySem PySem.Spec PyProof.Rows L2
/-! ### x == y, x an object with an own ==, y anything whose kind is known -/
def rEqI (K : PySem.W.Frag) (C : Addr) (sp : Sp) : R2 := fun x y H Q => ∃ (a dx : Addr) (fs : List (Str × V)) (t : Value), x = .ref a ∧ H a = some (.ins C dx fs) ∧ TyX K H y t ∧ PySem.W.notFirst K C t = true ∧ sp [.ref a, y] H (fun v H' => ∃ c, v = .bl c ∧ Q (.bl c) H') C8.E0
theorem op_eqI {X : Cx} {n : Nat} {C f : Addr} {fd : FuncData} {ps : List Str} {sp : Sp} (F : FnOk X.prog X.w X.K X.mg X.base C8.CX0 n f fd ps sp) (own : PySem.W.findIn X.K (.ref C) "__eq__" = some (some (.ref f))) (isF : PySem.W.isFn X.K (.ref f) = true) (bnd : Binds X.K fd ps []) (room : Room n X.A) : OpR X (compareOp .Eq) (rEqI X.K C sp) := by
  intro pins s σ H x y v u Q I rx ry d
  obtain ⟨a, dx, fs, t, rfl, ha, ty, first, hsp⟩ := d
  cases rx
  obtain ⟨mA, O, _⟩ := ins_get I.hok ha
  obtain ⟨od, at_, _⟩ := O.look
  obtain ⟨G, kit, g, _⟩ := kit_of I ry ty
  obtain ⟨m, fr⟩ := I.fr
  have vals : Vals [V.ref a, y] [Value.ref a, u] := .cons rfl (.cons ry .nil)
  have len := F.len _ _ _ _ hsp
  have bind : BindsTo s fd ⟨[.ref a, u], []⟩ (ps.zip [.ref a, u]) := by
    have z := bnd s [.ref a, u] I.kIn (by rw [List.append_nil]; exact len)
    rw [List.append_nil] at z
    exact z
  refine PySem.W.cmp_K (op := .Eq) (tb := t) room.units0 fr I.ok.mod.kin at_ (kit.ty _ _ I.kIn g) first own isF ?_
  refine wpAny_call (codeAny_mono (F.run X.A X.stack s H _ _ _ _ C8.E0 room I.env0 bind vals hsp) fun r s' end_ => ?_)
  match r, end_ with
  | .error _, z => exact z.elim
  | .ok .next, z => exact False.elim z
  | .ok .brk, z => exact False.elim z
  | .ok .cont, z => exact False.elim z
  | .ok (.ret w), z =>
    obtain ⟨o, H', I', ro, c, eo, q⟩ := I.after z
    subst eo
    cases ro
    exact ⟨.bl c, H', I', rfl, q⟩
/-! ### webs with one plain text are one -/
theorem lineS_inj {t u : Tie} (e : lineS t = lineS u) : t = u := by
  have z := congrArg (fun s : Str => s.cps.toList) e
  have z2 : lineL t = lineL u := z
  obtain ⟨a, m, b, o⟩ := t
  obtain ⟨a2, m2, b2, o2⟩ := u
  unfold lineL at z2
  simp only [List.cons.injEq] at z2
  obtain ⟨h1, _, h2, _, h3, _, h4, _⟩ := z2
  have e1 : a = a2 := by omega
  have e3 : b = b2 := by omega
  subst e1 e3 h2 h4
  rfl
theorem map_inj {α β : Type} {f : α → β} (h : ∀ x y, f x = f y → x = y) : ∀ {xs ys : List α}, xs.map f = ys.map f → xs = ys
  | [], [], _ => rfl
  | [], _ :: _, e => by cases e
  | _ :: _, [], e => by cases e
  | x :: xs, y :: ys, e => by
    rw [List.map_cons, List.map_cons] at e
    injection e with e1 e2
    rw [h x y e1, map_inj h e2]
theorem webS_inj {n m : Nat} {ts us : List Tie} (w1 : WebOk n ts) (w2 : WebOk m us) (e : webS ts = webS us) : ts = us := by
  have sp : ∀ {k : Nat} {rs : List Tie}, WebOk k rs → Txt.split (webS rs) ("\n" : Str) = rs.map lineS := fun {k rs} w => text_split w.ne fun t ht => by
    have h1 := w.lt t ht
    have h2 := w.n10
    exact no_nl (by omega) (by omega) (w.let_ t ht).1 (w.let_ t ht).2
  have z : ts.map lineS = us.map lineS := by rw [← sp w1, ← sp w2, e]
  exact map_inj (fun _ _ => lineS_inj) z
end Wh

namespace Wh
open PySem PySem.Spec L2 PyProof.Rows
/-! ### sorted letters: one row only -/
theorem lt_sgn (i j : Nat) : ltCps (sgn i).cps.toList (sgn j).cps.toList = decide (i < j) := by
  show ltCps [i] [j] = decide (i < j)
  unfold ltCps
  by_cases q : i < j
  · simp [q]
  · by_cases e : i = j
    · subst e
      simp [ltCps]
    · simp [q, e, ltCps]
theorem rising_all : ∀ (ns : List Nat) (p : Nat), risingS (sgn p) (ns.map sgn) = true → (∀ n ∈ ns, p ≤ n) ∧ ns.Pairwise (· ≤ ·)
  | [], _, _ => ⟨(fun _ h => by cases h), .nil⟩
  | n :: ns, p, h => by
    have h' : (!ltCps (sgn n).cps.toList (sgn p).cps.toList && risingS (sgn n) (ns.map sgn)) = true := h
    rw [lt_sgn, Bool.and_eq_true] at h'
    have h1 : ¬ n < p := by simpa using h'.1
    obtain ⟨h2, h3⟩ := rising_all ns n h'.2
    refine ⟨fun k hk => ?_, List.pairwise_cons.mpr ⟨h2, h3⟩⟩
    rcases List.mem_cons.mp hk with e | e
    · omega
    · have := h2 k e
      omega
theorem letters_srt : ∀ ns : List Nat, sortedS (ns.map sgn) = true → ns.Pairwise (· ≤ ·)
  | [], _ => .nil
  | n :: ns, h => by
    obtain ⟨h1, h2⟩ := rising_all ns n h
    exact List.pairwise_cons.mpr ⟨h1, h2⟩
theorem nat_uniq : ∀ {l m : List Nat}, l.Pairwise (· ≤ ·) → m.Pairwise (· ≤ ·) → l.Perm m → l = m
  | [], _, _, _, p => p.nil_eq
  | x :: l, [], _, _, p => absurd p.length_eq (by simp)
  | x :: l, y :: m, hl, hm, p => by
    rw [List.pairwise_cons] at hl hm
    have e : x = y := by
      rcases List.mem_cons.mp (p.mem_iff.mp (List.mem_cons_self (a := x))) with e | hx
      · exact e
      · rcases List.mem_cons.mp (p.mem_iff.mpr (List.mem_cons_self (a := y))) with e | hy
        · exact e.symm
        · have := hm.1 _ hx
          have := hl.1 _ hy
          omega
    subst e
    rw [nat_uniq hl.2 hm.2 p.cons_inv]
end Wh

namespace Wh
open PySem L2
def topS (i : Nat) : Stmt := PySem.Challenge.pw_whichhouse_k04_whole_changed_marks.main.body.getD i (.Pass ⟨0, 0, 0, 0⟩)
/-! ### sip -/
def spSip : Sp := fun vs H Q _ => ∃ (c : Addr) (top : Int), vs = [.ref c, .int top] ∧ Cup H c ∧ 1 ≤ top ∧ top < 1000 ∧
  ∀ (r : Int) (H' : Hp), But c H H' → Cup H' c → 0 ≤ r → r < top → Q (.int r) H'
abbrev sSip : Stmt := topS 41
theorem scSip : FnScope ["cup", "top", "part"] ["cup", "top"] (defScope sSip) := ⟨rfl, rfl, rfl, by decide +kernel, rfl, by decide +kernel, by decide +kernel⟩
structure TSip (mg : Str → Option Value) : Prop where
  int : mg "int" = none
  divmod : mg "divmod" = none
  len : mg "len" = none
  abs : mg "abs" = none
section
variable {P : Program} {w : World} {K : PySem.W.Frag} {mg : Str → Option Value} {base : Heap}
theorem k0 (x y : Int) : atI [V.int x, V.int y] 0 = some (V.int x) := rfl
theorem k1 (x y : Int) : atI [V.int x, V.int y] 1 = some (V.int y) := rfl
theorem ok_sip {f : Addr} {fd : FuncData} (F : Fun K "_law_sip" "_law_sip" sSip f fd) (T : TSip mg) : FnOk P w K mg base CX0 1 f fd ["cup", "top"] spSip := by
  refine F.ok scSip (fun vs H Q E h => ?_) (fun cdv A outer s H vs Q E hr h => ?_)
  · obtain ⟨c, top, rfl, _⟩ := h
    rfl
  · obtain ⟨c, top, rfl, ⟨a, b, hc⟩, ht1, ht2, k⟩ := h
    refine ⟨_, pss_cons (ps_asg (pe_op op_mod (pe_callTy call_int1 (by rfl) T.int (by decide +kernel) (pa_cons (pe_op op_add (pe_op op_mul (pe_ix ix_list (pv 0) pe_int (fun _ _ => rfl)) pe_int) pe_int) pa_nil)) pe_int) (pg_sub (pv 0) pe_int set_list))
      (pss_cons (ps_if (pt_cmpR op_gt (pe_ix ix_list (pv 0) pe_int (fun _ _ => rfl)) pe_int (nomark _))
        (pss_cons (ps_asg (pe_callB call_divmod (by rfl) T.divmod (by decide +kernel) (pa_cons (pe_ix ix_list (pv 0) pe_int (fun _ _ => rfl)) (pa_cons (pv 1) pa_nil)))
            (pg_tup (by rfl) (pgs_cons (pg_sub (pv 0) pe_int set_list) (pgs_cons (pg_name (i := 2) scSip.nd rfl (.inl rfl)) pgs_nil))))
          (pss_one (ps_ret (pv 2)))) pss_nil)
      (pss_one (ps_ret (pe_op op_mod (pe_callTy call_int1 (by rfl) T.int (by decide +kernel) (pa_cons (pe_op op_fdiv (pe_ix ix_list (pv 0) pe_int (fun _ _ => rfl)) pe_int) pa_nil)) (pv 1))))), ?_⟩
    refine ⟨_, rfl, c, _, _, _, rfl, rfl, SqL.of hc, k0 a b, a, 48271, rfl, rfl, .inr ⟨by decide, by decide⟩, _, _, rfl, rfl, .inl ⟨_, rfl, _, _, rfl, rfl, (by show (0 : Int) < 2147483629; decide), ?_⟩⟩
    refine ⟨_, rfl, c, _, _, 0, rfl, rfl, hc, rfl, ?_⟩
    refine ⟨_, rfl, c, _, _, _, rfl, rfl, SqL.of upd_same, k1 _ b, _, _, rfl, rfl, _, rfl, ?_⟩
    refine ite2 (fun _ => ?_) (fun _ => ?_)
    · refine ⟨_, rfl, c, _, _, _, rfl, rfl, SqL.of upd_same, k1 _ b, _, rfl, b, top, rfl, ⟨by omega, by omega⟩, fun p np => ?_⟩
      refine ⟨p, _, rfl, SqT.of upd_same, rfl, _, _, rfl, _, rfl, c, _, _, 1, rfl, rfl, put_ne upd_same (ne_new np), rfl, _, _, rfl, rfl, ?_⟩
      refine ⟨_, rfl, k (b % top) _ (But.at (But.put (But.at (But.refl c H)) np)) ⟨_, _, upd_same⟩ (Int.emod_nonneg _ (by omega)) (Int.emod_lt_of_pos _ (by omega))⟩
    · refine ⟨_, rfl, c, _, _, _, rfl, rfl, SqL.of upd_same, k0 _ b, _, _, rfl, rfl, ⟨by decide, by decide⟩, .inl ⟨_, rfl, _, rfl, _, _, rfl, rfl, (by show (0 : Int) < top; omega), ?_⟩⟩
      exact k _ _ (But.at (But.refl c H)) ⟨_, _, upd_same⟩ (Int.emod_nonneg _ (by omega)) (Int.emod_lt_of_pos _ (by omega))
/-! ### pick -/
abbrev sPick : Stmt := topS 42
theorem scPick : FnScope ["cup", "things"] ["cup", "things"] (defScope sPick) := ⟨rfl, rfl, rfl, by decide +kernel, rfl, by decide +kernel, by decide +kernel⟩
def spPick : Sp := fun vs H Q _ => ∃ (c t : Addr) (xs : List V), vs = [.ref c, .ref t] ∧ Cup H c ∧ t ≠ c ∧ H t = some (.lst xs) ∧ 1 ≤ xs.length ∧ xs.length < 1000 ∧
  ∀ (i : Nat) (v : V) (H' : Hp), But c H H' → Cup H' c → xs[i]? = some v → Q v H'
theorem ok_pick {f fS : Addr} {fd fdS : FuncData} (F : Fun K "_law_pick" "_law_pick" sPick f fd) (T : TSip mg) (FS : Fun K "_law_sip" "_law_sip" sSip fS fdS) (bS : Binds K fdS ["cup", "top"] []) (mS : mg "_law_sip" = some (.ref fS)) :
    FnOk P w K mg base CX0 2 f fd ["cup", "things"] spPick := by
  have GS : FnOk P w K mg base CX0 1 fS fdS ["cup", "top"] spSip := ok_sip FS T
  refine F.ok scPick (fun vs H Q E h => ?_) (fun cdv A outer s H vs Q E hr h => ?_)
  · obtain ⟨c, t, xs, rfl, _⟩ := h
    rfl
  · obtain ⟨c, t, xs, rfl, hc, ntc, ht, h1, h2, k⟩ := h
    refine ⟨_, pss_one (ps_ret (pe_ix ix_list (pv 1) (pe_call GS hr (by rfl) mS FS.kp bS .nil pass0 (pa_cons (pv 0) (pa_cons (pe_callB call_len_seq (by rfl) T.len PySem.boot_len (pa_cons (pv 1) pa_nil)) pa_nil))) (fun _ _ => rfl))), ?_⟩
    refine ⟨_, rfl, _, rfl, _, rfl, _, _, rfl, .inl (SqL.of ht), c, _, rfl, hc, by omega, by omega, fun r H' hb hc' r0 r1 => ?_⟩
    obtain ⟨j, rfl⟩ := Int.eq_ofNat_of_zero_le r0
    have hj : j < xs.length := by omega
    exact ⟨t, xs, _, xs[j], rfl, rfl, SqL.of (hb _ _ ht ntc), atI_nat (List.getElem?_eq_getElem hj), k j _ H' hb hc' (List.getElem?_eq_getElem hj)⟩
/-! ### cup -/
abbrev sCup : Stmt := topS 40
theorem scCup : FnScope ["script", "spot", "cell", "one"] ["script", "spot"] (defScope sCup) := ⟨rfl, rfl, rfl, by decide +kernel, rfl, by decide +kernel, by decide +kernel⟩
def spCup (K : PySem.W.Frag) : Sp := fun vs H Q _ => ∃ (a : Addr) (ns : List Int) (spot : Nat), vs = [.ref a, .int (spot : Int)] ∧ SqL K H a (ns.map V.int) ∧ spot ≤ 1000 ∧
  ∀ (c : Addr) (H' : Hp), Same H H' → H c = none → Cup H' c → Q (.ref c) H'
theorem cut_le (ns : List Int) : ∃ ms : List Int, cutV (ns.map V.int) none (some 2) = ms.map V.int := by
  unfold cutV
  exact ⟨(ns.drop _).take _, by rw [List.map_take, List.map_drop]⟩
theorem ok_cup {f : Addr} {fd : FuncData} (F : Fun K "_law_cup" "_law_cup" sCup f fd) (T : TSip mg) : FnOk P w K mg base CX0 1 f fd ["script", "spot"] (spCup K) := by
  refine F.ok scCup (fun vs H Q E h => ?_) (fun cdv A outer s H vs Q E hr h => ?_)
  · obtain ⟨a, ns, spot, rfl, _⟩ := h
    rfl
  · obtain ⟨a, ns, spot, rfl, ha, hs, k⟩ := h
    refine ⟨_, C8.pss_cut (ps_set (i := 2) scCup.nd rfl (.inl rfl) (pe_ifExp (pt_cmpR op_lt (pv 1) (pe_callB call_len_seq (by rfl) T.len PySem.boot_len (pa_cons (pv 0) pa_nil)) (nomark _))
        (pe_ix ix_list (pv 0) (pv 1) (fun _ _ => rfl)) (pe_op op_add (pe_op op_mul pe_int (pv 1)) pe_int)))
      (pss_cons (ps_for PassesOwn.never rfl (pi_list (pe_mid (pe_ifExp (pt_cmpR op_ge (pv 1) (pe_callB call_len_seq (by rfl) T.len PySem.boot_len (pa_cons (pv 0) pa_nil)) (nomark _)) (pe_slice sl_list (pv 0) po_none (po_some pe_int)) (pe_lst pa_nil))))
          (pg_name (i := 3) scCup.nd rfl (.inl rfl))
        (pss_one (ps_set (i := 2) scCup.nd rfl (.inl rfl) (pe_op op_mod (pe_callTy call_int1 (by rfl) T.int (by decide +kernel) (pa_cons (pe_op op_add (pe_op op_mul (pv 2) pe_int) (pv 3)) pa_nil)) pe_int))))
      (pss_one (ps_ret (pe_lst (pa_cons (pe_op op_mod (pe_callTy call_int1 (by rfl) T.int (by decide +kernel) (pa_cons (pe_op op_add (pe_op op_add (pe_op op_mul (pv 2) pe_int) (pe_op op_mul pe_int (pv 1))) pe_int) pa_nil)) pe_int)
        (pa_cons (pe_ifExp (PW.pt (pw_or (pt_cmpR op_lt (pv 2) pe_int (nomark _)) (pw_or1 (pt_cmpR op_ge (pv 2) (pe_op op_pow pe_int pe_int) (nomark _))))) (pe_callB call_abs (by rfl) T.abs (by decide +kernel) (pa_cons (pv 2) pa_nil)) pe_int) pa_nil)))))), ?_⟩
    refine ⟨fun σ' H' => H' = H ∧ ∃ cell : Int, σ' = [some (.ref a), some (.int (spot : Int)), some (.int cell), none], ?_, ?_⟩
    · refine ⟨_, rfl, _, rfl, a, _, rfl, .inl ha, _, _, rfl, rfl, _, rfl, ?_⟩
      refine ite2 (fun hlt => ?_) (fun _ => ?_)
      · have hlt := of_decide_eq_true hlt
        rw [List.length_map] at hlt
        have hj : spot < ns.length := by omega
        exact ⟨_, rfl, _, rfl, a, _, _, .int ns[spot], rfl, rfl, ha, atI_nat (by rw [List.getElem?_map, List.getElem?_eq_getElem hj]; rfl), rfl, _, rfl⟩
      · exact ⟨_, rfl, _, _, rfl, rfl, .inl ⟨by decide, by decide⟩, _, _, rfl, rfl, rfl, _, rfl⟩
    · rintro σ' H' ⟨rfl, cell, rfl⟩
      refine ⟨fun v H1 => ∃ (p : Addr) (ms : List Int), v = .ref p ∧ Same H' H1 ∧ SqL K H1 p (ms.map V.int), ?_, ?_⟩
      · refine ⟨_, rfl, _, rfl, a, _, rfl, .inl ha, _, _, rfl, rfl, _, rfl, ?_⟩
        refine ite2 (fun _ => ?_) (fun _ => ?_)
        · obtain ⟨ms, e⟩ := cut_le ns
          exact ⟨_, rfl, _, rfl, a, _, rfl, ha, fun p np => ⟨p, ms, rfl, same_upd np, e ▸ SqL.of upd_same⟩⟩
        · exact ⟨Nat.zero_le _, fun p np => ⟨p, [], rfl, same_upd np, SqL.of upd_same⟩⟩
      · rintro _ H1 ⟨p, ms, rfl, s1, hp⟩
        refine ⟨p, rfl, ⟨_, hp⟩, for_list (K := K) (a := p) (xs := ms.map V.int) (fun i σ H2 => H2 = H1 ∧ ∃ (cell : Int) (o : Option V), σ = [some (.ref a), some (.int (spot : Int)), some (.int cell), o])
          ⟨rfl, cell, none, rfl⟩ (fun i σ H2 _ ⟨e, _⟩ => e ▸ hp) ?_ ?_⟩
        · rintro i x σ H2 hi ⟨rfl, cell, o, rfl⟩
          obtain ⟨z, rfl⟩ : ∃ z, x = V.int z := by
            rw [List.getElem?_map] at hi
            cases e : ms[i]? with
            | none => rw [e] at hi; cases hi
            | some z => rw [e] at hi; exact ⟨z, (Option.some.inj hi).symm⟩
          exact ⟨_, rfl, _, _, rfl, rfl, .inr ⟨by decide, by decide⟩, _, rfl, _, _, rfl, rfl, .inl ⟨_, rfl, _, _, rfl, rfl, (by show (0 : Int) < 1000000007; decide), rfl, _, _, rfl⟩⟩
        · rintro σ H2 ⟨rfl, cell, o, rfl⟩
          refine ⟨_, rfl, _, _, rfl, rfl, .inr ⟨by decide, by decide⟩, _, rfl, _, _, rfl, rfl, .inl ⟨by decide, by decide⟩, _, _, rfl, rfl, _, _, rfl, rfl, .inl ⟨_, rfl, _, _, rfl, rfl, (by show (0 : Int) < 2147483629; decide), ?_⟩⟩
          refine ⟨_, rfl, _, _, rfl, rfl, _, rfl, ?_⟩
          have fin : ∀ x y : Int, ∀ p, H2 p = none → Q (.ref p) (upd H2 p (.lst [.int x, .int y])) := fun x y p np => k p _ (s1.put np) (s1.free np) ⟨_, _, upd_same⟩
          refine ite2 (fun _ => ?_) (fun _ => ?_)
          · exact ⟨_, rfl, _, rfl, by show 2 ≤ sizeLine; decide, fun p np => fin _ _ p np⟩
          · refine ⟨_, rfl, _, _, rfl, rfl, ⟨by decide, by decide, by decide⟩, _, _, rfl, rfl, _, rfl, ?_⟩
            refine ite2 (fun _ => ?_) (fun _ => ?_)
            · exact ⟨_, rfl, _, rfl, by show 2 ≤ sizeLine; decide, fun p np => fin _ _ p np⟩
            · exact ⟨by show 2 ≤ sizeLine; decide, fun p np => fin _ _ p np⟩
end
end Wh

namespace Wh
open PySem L2
abbrev sDrawn : Stmt := topS 43
theorem scDrawn : FnScope ["cup", "most", "many", "last", "pairs", "more", "pair", "used", "told", "first", "marks", "one", "two", "house", "mark"] ["cup", "most"] (defScope sDrawn) := ⟨rfl, rfl, rfl, by decide +kernel, rfl, by decide +kernel, by decide +kernel⟩
structure TDrawn (mg : Str → Option Value) : Prop extends TSip mg where
  range : mg "range" = none
  sorted : mg "sorted" = none
section
variable {P : Program} {w : World} {K : PySem.W.Frag} {mg : Str → Option Value} {base : Heap}
def spDrawn (K : PySem.W.Frag) : Sp := fun vs H Q _ => ∃ (c : Addr) (most : Nat), vs = [.ref c, .int (most : Int)] ∧ Cup H c ∧ 2 ≤ most ∧ most ≤ 8 ∧
  ∀ (tl : Addr) (ts : List (Addr × Tie)) (n : Nat) (H' : Hp), But c H H' → Cup H' c → H tl = none → H' tl = some (.lst (refs ts)) → At tieV H' ts → Told n (ts.map (·.2)) → n ≤ most → Q (.ref tl) H'
theorem ok_drawn {f fS fP : Addr} {fd fdS fdP : FuncData} (F : Fun K "_law_drawn" "_law_drawn" sDrawn f fd) (T : TDrawn mg) (FS : Fun K "_law_sip" "_law_sip" sSip fS fdS) (bS : Binds K fdS ["cup", "top"] []) (mS : mg "_law_sip" = some (.ref fS))
    (FP : Fun K "_law_pick" "_law_pick" sPick fP fdP) (bP : Binds K fdP ["cup", "things"] []) (mP : mg "_law_pick" = some (.ref fP)) :
    FnOk P w K mg base CX0 3 f fd ["cup", "most"] (spDrawn K) := by
  have GS : FnOk P w K mg base CX0 1 fS fdS ["cup", "top"] spSip := ok_sip FS T.toTSip
  have GP : FnOk P w K mg base CX0 2 fP fdP ["cup", "things"] spPick := ok_pick FP T.toTSip FS bS mS
  refine F.ok scDrawn (fun vs H Q E h => ?_) (fun cdv A outer s H vs Q E hr h => ?_)
  · obtain ⟨c, t, rfl, _⟩ := h
    rfl
  · obtain ⟨c, most, rfl, hc, h1, h2, hk⟩ := h
    have hr1 : Room 1 _ := hr.mono (by decide)
    have hu := hr.units
    have hu' := hr.u65
    refine ⟨_, (C8.pss_cut (ps_set (i := 2) scDrawn.nd rfl (.inl rfl) (pe_op op_add pe_int (pe_call GS hr1 (by rfl) mS FS.kp bS .nil pass0 (pa_cons (pv 0) (pa_cons (pe_op op_sub (pv 1) pe_int) pa_nil))))) (C8.pss_cut (ps_setLc (i := 4) (own := [("last", 3)]) (g := gName 3) (tt := tYes) rfl scDrawn.nd rfl rfl (sw_true rfl rfl rfl (by decide +kernel)) (pi_range2 (by rfl) T.range (pa_cons pe_int (pa_cons (pv 2) pa_nil))) (blkOk_by (N := ["cup", "most", "many", "last", "pairs", "more", "pair", "used", "told", "first", "marks", "one", "two", "house", "mark"]) (own := [("last", 3)]) (sc := defScope sDrawn) (by decide +kernel)) (fun _ _ _ _ _ => (pg_name (i := 3) scDrawn.nd rfl (.inl rfl))) (fun _ _ _ _ _ => pts_nil) (fun _ _ _ _ _ => (pe_tup (pa_cons (pe_call GS hr1 (by rfl) mS FS.kp bS .nil pass0 (pa_cons (pv 0) (pa_cons (pv 3) pa_nil))) (pa_cons (pv 3) pa_nil))))) (C8.pss_cut (ps_for PassesOwn.never rfl (pi_range1 (by rfl) T.range (pa_cons (pe_call GS hr1 (by rfl) mS FS.kp bS .nil pass0 (pa_cons (pv 0) (pa_cons pe_int pa_nil))) pa_nil)) (pg_name (i := 5) scDrawn.nd rfl (.inl rfl)) (C8.pss_cut (ps_set (i := 3) scDrawn.nd rfl (.inl rfl) (pe_op op_add pe_int (pe_call GS hr1 (by rfl) mS FS.kp bS .nil pass0 (pa_cons (pv 0) (pa_cons (pe_op op_sub (pv 2) pe_int) pa_nil))))) (C8.pss_cut (ps_set (i := 6) scDrawn.nd rfl (.inl rfl) (pe_tup (pa_cons (pe_call GS hr1 (by rfl) mS FS.kp bS .nil pass0 (pa_cons (pv 0) (pa_cons (pv 3) pa_nil))) (pa_cons (pv 3) pa_nil)))) (pss_one (ps_set (i := 4) scDrawn.nd rfl (.inl rfl) (pe_ifExp (pt_cmpR (op_inD hr.u65) (pv 6) (pv 4) (by rfl)) (pv 4) (pe_op op_cat (pv 4) (pe_lst (pa_cons (pv 6) pa_nil))))))))) (C8.pss_cut (ps_asg (pe_tup (pa_cons (pe_lc (own := [("house", 13)]) (g := gName 13) (tt := tYes) rfl scDrawn.nd (pi_range1 (by rfl) T.range (pa_cons (pv 2) pa_nil)) (blkOk_by (N := ["cup", "most", "many", "last", "pairs", "more", "pair", "used", "told", "first", "marks", "one", "two", "house", "mark"]) (own := [("house", 13)]) (sc := defScope sDrawn) (by decide +kernel)) (fun _ _ _ _ _ => (pg_name (i := 13) scDrawn.nd rfl (.inl rfl))) (fun _ _ _ _ _ => pts_nil) (fun _ _ _ _ _ => (pe_lst pa_nil))) (pa_cons (pe_lst pa_nil) pa_nil))) (pg_tup (by rfl) (pgs_cons (pg_name (i := 7) scDrawn.nd rfl (.inr rfl)) (pgs_cons (pg_name (i := 8) scDrawn.nd rfl (.inl rfl)) pgs_nil)))) (C8.pss_cut (ps_for PassesOwn.never rfl (pi_list (pe_mid (pe_callB (cr_sortD hr.units) (by rfl) T.sorted (by decide +kernel) (pa_cons (pv 4) pa_nil)))) (pg_tup (by rfl) (pgs_cons (pg_name (i := 9) scDrawn.nd rfl (.inl rfl)) (pgs_cons (pg_name (i := 3) scDrawn.nd rfl (.inl rfl)) pgs_nil))) (C8.pss_cut (ps_setLc (i := 10) (own := [("house", 13)]) (g := gName 13) (tt := tYes) rfl scDrawn.nd rfl rfl (sw_true rfl rfl rfl (by decide +kernel)) (pi_list (pe_lst (pa_cons (pv 9) (pa_cons (pv 3) pa_nil)))) (blkOk_by (N := ["cup", "most", "many", "last", "pairs", "more", "pair", "used", "told", "first", "marks", "one", "two", "house", "mark"]) (own := [("house", 13)]) (sc := defScope sDrawn) (by decide +kernel)) (fun _ _ _ _ _ => (pg_name (i := 13) scDrawn.nd rfl (Or.inr rfl))) (fun _ _ _ _ _ => pts_nil) (fun _ _ _ _ _ => (pe_slice (sl_listK K rfl) (pe_lc (own := [("mark", 14)]) (g := gName 14) rfl scDrawn.nd (pi_str pe_str) (blkOk_by (N := ["cup", "most", "many", "last", "pairs", "more", "pair", "used", "told", "first", "marks", "one", "two", "house", "mark"]) (own := [("mark", 14)]) (by show blkC _ (L2.relS _ (defScope sDrawn)) _ _ = true; decide +kernel)) (fun _ _ _ _ _ => (pg_name (i := 14) scDrawn.nd rfl (.inl rfl))) (fun _ _ _ _ _ => (pts_one (pt_cmpR (op_notInK K rfl) (pv 14) (pe_ix (ix_listK K rfl) (pv 7) (pv 13) (fun _ _ => rfl)) (by rfl)))) (fun _ _ _ _ _ => (pv 14))) po_none (po_some (pe_op op_add pe_int (pe_call GS hr1 (by rfl) mS FS.kp bS .nil pass0 (pa_cons (pv 0) (pa_cons pe_int pa_nil)))))))) (C8.pss_cut (ps_par (i := 11) (j := 12) (by rfl) scDrawn.nd rfl rfl (by decide) rfl rfl (pa_cons (pe_call GP hr (by rfl) mP FP.kp bP .nil pass0 (pa_cons (pv 0) (pa_cons (pe_ix ix_list (pv 10) pe_int (fun _ _ => rfl)) pa_nil))) (pa_cons (pe_call GP hr (by rfl) mP FP.kp bP .nil pass0 (pa_cons (pv 0) (pa_cons (pe_ix ix_list (pv 10) pe_int (fun _ _ => rfl)) pa_nil))) pa_nil)) (by rfl)) (pss_cons (ps_expr (pe_bm PySem.F.plainAttrs_list PySem.F.slot_list_append PySem.F.type_list_append mt_append (pe_ix ix_list (pv 7) (pv 9) (fun _ _ => rfl)) (pa_cons (pv 11) pa_nil))) (pss_cons (ps_expr (pe_bm PySem.F.plainAttrs_list PySem.F.slot_list_append PySem.F.type_list_append mt_append (pe_ix ix_list (pv 7) (pv 3) (fun _ _ => rfl)) (pa_cons (pv 12) pa_nil))) (pss_one (ps_expr (pe_bm PySem.F.plainAttrs_list PySem.F.slot_list_append PySem.F.type_list_append mt_append (pv 8) (pa_cons (pe_tup (pa_cons (pv 9) (pa_cons (pv 11) (pa_cons (pv 3) (pa_cons (pv 12) pa_nil))))) pa_nil))))))))) (pss_one (ps_ret (pv 8)))))))), ?_⟩
    refine ⟨fun σ H' => But c H H' ∧ Cup H' c ∧ ∃ n : Nat, 2 ≤ n ∧ n ≤ most ∧ σ = [some (.ref c), some (.int (most : Int)), some (.int (n : Int)), none, none, none, none, none, none, none, none, none, none, none, none], ?_, ?_⟩
    · refine ⟨_, rfl, _, rfl, _, _, rfl, rfl, c, (most : Int) - 1, rfl, hc, by omega, by omega, fun r H1 b1 c1 r0 r1 => ⟨2, r, rfl, rfl, b1, c1, ?_⟩⟩
      obtain ⟨j, rfl⟩ := Int.eq_ofNat_of_zero_le r0
      refine ⟨2 + j, by omega, by omega, ?_⟩
      have en : (2 : Int) + ((j : Nat) : Int) = ((2 + j : Nat) : Int) := by omega
      show [some (V.ref c), some (V.int (most : Int)), some (V.int ((2 : Int) + ((j : Nat) : Int))), none, none, none, none, none, none, none, none, none, none, none, none] = _
      rw [en]
    rintro σ H1 ⟨b1, c1, n, n2, n8, rfl⟩
    refine ⟨fun σ H' => But c H1 H' ∧ Cup H' c ∧ ∃ (l : Addr) (ps : List (Addr × Pr)), H' l = some (.lst (refs ps)) ∧ l ≠ c ∧ At prV H' ps ∧ PairsOk n (ps.map (·.2)) ∧ ps.length ≤ 7 ∧
      σ = [some (.ref c), some (.int (most : Int)), some (.int (n : Int)), none, some (.ref l), none, none, none, none, none, none, none, none, none, none], ?_, ?_⟩
    · refine ⟨_, rfl, 1, (n : Int), rfl, ⟨by omega, by omega, by omega, by omega⟩, fun D nD => ?_⟩
      have ncD : c ≠ D := c1.ne nD
      refine lc_range (lo := 1) (n := ((n : Int) - 1).toNat) (fun i H' => But c H1 H' ∧ Cup H' c ∧ ∃ ps : List (Addr × Pr), H' D = some (.lst (refs ps)) ∧ At prV H' ps ∧ (ps.map (·.2)).map (·.2) = List.range' 1 i ∧ ∀ p ∈ ps, p.2.1 < p.2.2)
        ⟨(But.refl c H1).put nD, c1.put nD, [], upd_same, (fun p hp => by cases hp), rfl, (fun p hp => by cases hp)⟩ ?_ ?_
      · rintro i H2 hi ⟨b2, c2, ps, hD, hA, hr, hlt⟩
        refine ⟨rfl, _, rfl, _, rfl, c, _, rfl, c2, by omega, by omega, fun x H3 b3 c3 x0 x1 => ⟨_, rfl, (by show 2 ≤ sizeLine; decide), fun p np => ?_⟩⟩
        obtain ⟨y, rfl⟩ := Int.eq_ofNat_of_zero_le x0
        have hD3 : H3 D = some (.lst (refs ps)) := b3 _ _ hD ncD.symm
        have nDp : D ≠ p := ne_of_none hD3 np
        have el : ps.length = i := by
          have e := congrArg List.length hr
          rw [List.length_map, List.length_map, List.length_range'] at e
          exact e
        refine ⟨refs ps, put_ne hD3 nDp, (by rw [refs_len, el]; exact small1000 (by omega)), ((b2.trans b3).put np).own nD, (c3.put np).of_lst ncD, ps ++ [(p, (y, 1 + i))], ?_, ?_, ?_, ?_⟩
        · rw [upd_same, refs_app]
          all_goals rfl
        · refine At.snoc (((hA.but c2 b3).same (same_upd np)).mono (upd_tup (put_ne hD3 nDp))) ?_
          refine put_ne (upd_same.trans ?_) nDp.symm
          show some (HO.tup [V.int (y : Int), V.int ((1 : Int) + (i : Int))]) = some (HO.tup [V.int (y : Int), V.int (((1 + i : Nat)) : Int)])
          rw [show ((1 : Int) + (i : Int)) = (((1 + i : Nat)) : Int) by omega]
        · rw [List.map_append, List.map_append, hr, List.range'_concat, Nat.one_mul]
          rfl
        · intro q hq
          rcases List.mem_append.mp hq with z | z
          · exact hlt q z
          · rw [List.mem_singleton.mp z]
            show y < 1 + i
            omega
      · rintro H2 ⟨b2, c2, ps, hD, hA, hr, hlt⟩
        have en : ((n : Int) - 1).toNat = n - 1 := by omega
        rw [en] at hr
        have el : ps.length = n - 1 := by
          have e := congrArg List.length hr
          rw [List.length_map, List.length_map, List.length_range'] at e
          exact e
        exact ⟨b2, c2, D, ps, hD, ncD.symm, hA, pairsOk_first hr (fun q hq => by obtain ⟨p, hp, rfl⟩ := List.mem_map.mp hq; exact hlt p hp), by omega, rfl⟩
    rintro σ H2 ⟨b2, c2, l, ps, hl, nlc, hA, ok, hlen, rfl⟩
    refine ⟨fun σ H' => But c H1 H' ∧ Cup H' c ∧ ∃ (l : Addr) (ps : List (Addr × Pr)) (v3 v5 v6 : Option V), H' l = some (.lst (refs ps)) ∧ l ≠ c ∧ At prV H' ps ∧ PairsOk n (ps.map (·.2)) ∧ ps.length ≤ 9 ∧
      σ = [some (.ref c), some (.int (most : Int)), some (.int (n : Int)), v3, some (.ref l), v5, v6, none, none, none, none, none, none, none, none], ?_, ?_⟩
    · refine ⟨_, rfl, c, 3, rfl, c2, by omega, by omega, fun r H3 b3 c3 r0 r1 => ⟨r, rfl, by omega, by omega, ?_⟩⟩
      refine for_range (lo := 0) (n := r.toNat) (fun i σ H' => But c H1 H' ∧ Cup H' c ∧ ∃ (l : Addr) (ps : List (Addr × Pr)) (v3 v5 v6 : Option V), H' l = some (.lst (refs ps)) ∧ l ≠ c ∧ At prV H' ps ∧ PairsOk n (ps.map (·.2)) ∧ ps.length ≤ 7 + i ∧
        σ = [some (.ref c), some (.int (most : Int)), some (.int (n : Int)), v3, some (.ref l), v5, v6, none, none, none, none, none, none, none, none])
        ⟨b2.trans b3, c3, l, ps, none, none, none, b3 _ _ hl nlc, nlc, hA.but c2 b3, ok, by omega, rfl⟩ ?_ ?_
      · rintro i σ H4 hi ⟨b4, c4, l, ps, v3, v5, v6, hl, nlc, hA, ok, hlen, rfl⟩
        refine ⟨fun σ H' => But c H4 H' ∧ Cup H' c ∧ ∃ (x : Nat) (v5 : Option V), 1 ≤ x ∧ x < n ∧ σ = [some (.ref c), some (.int (most : Int)), some (.int (n : Int)), some (.int (x : Int)), some (.ref l), v5, v6, none, none, none, none, none, none, none, none], ?_, ?_⟩
        · refine ⟨_, rfl, _, rfl, _, _, rfl, rfl, c, (n : Int) - 1, rfl, c4, by omega, by omega, fun r H5 b5 c5 r0 r1 => ⟨1, r, rfl, rfl, b5, c5, ?_⟩⟩
          obtain ⟨j, rfl⟩ := Int.eq_ofNat_of_zero_le r0
          refine ⟨1 + j, some (.int ((0 : Int) + (i : Int))), by omega, by omega, ?_⟩
          have en : (1 : Int) + ((j : Nat) : Int) = ((1 + j : Nat) : Int) := by omega
          show [some (V.ref c), some (V.int (most : Int)), some (V.int (n : Int)), some (V.int ((1 : Int) + ((j : Nat) : Int))), some (V.ref l), some (.int ((0 : Int) + (i : Int))), v6, none, none, none, none, none, none, none, none] = _
          rw [en]
        rintro σ H5 ⟨b5, c5, x, v5, x1, x2, rfl⟩
        refine ⟨fun σ H' => But c H4 H' ∧ Cup H' c ∧ ∃ (p : Addr) (y : Nat), H' p = some (.tup (prV (y, x))) ∧ y < x ∧ σ = [some (.ref c), some (.int (most : Int)), some (.int (n : Int)), some (.int (x : Int)), some (.ref l), v5, some (.ref p), none, none, none, none, none, none, none, none], ?_, ?_⟩
        · refine ⟨_, rfl, _, rfl, c, _, rfl, c5, by omega, by omega, fun r H6 b6 c6 r0 r1 => ⟨_, rfl, (by show 2 ≤ sizeLine; decide), fun p np => ⟨(b5.trans b6).put np, c6.put np, p, ?_⟩⟩⟩
          obtain ⟨y, rfl⟩ := Int.eq_ofNat_of_zero_le r0
          exact ⟨y, upd_same, by omega, rfl⟩
        rintro σ H6 ⟨b6, c6, p, y, hp, yx, rfl⟩
        have hl6 : H6 l = some (.lst (refs ps)) := b6 _ _ hl nlc
        have hA6 : At prV H6 ps := hA.but c4 b6
        refine ⟨_, rfl, _, rfl, tD (prV (y, x)), rowD prV ps, tD_dp K (prV_nb _) hp, .lst (SqL.of hl6) (rowD_dp K (fun _ _ => prV_nb _) hA6), tD_shaped (prV_nb _), rowD_shaped (fun _ _ => prV_nb _), _, rfl, ?_⟩
        have hiff := rowD_any_iff prV_inj (y, x) (prV_nb _) (ps := ps) (fun _ _ => prV_nb _)
        have bb : But c H1 H6 := b4.trans b6
        refine ite2 (fun _ => ?_) (fun hno => ?_)
        · exact ⟨_, rfl, bb, c6, l, ps, _, _, _, hl6, nlc, hA6, ok, by omega, rfl⟩
        · have hno : (y, x) ∉ ps.map (·.2) := fun z => hno (hiff.mpr z)
          refine ⟨_, rfl, _, rfl, by show 1 ≤ sizeLine; decide, fun q nq => ⟨l, q, refs ps, [.ref p], rfl, rfl, put_old hl6 nq, upd_same, (by rw [refs_len]; exact Nat.le_of_lt (small1000 (by show ps.length + 1 ≤ 1000; omega))), fun z nz => ?_⟩⟩
          refine ⟨(bb.put nq).put nz, (c6.put nq).put nz, z, ps ++ [(p, (y, x))], _, _, _, (upd_same.trans (by rw [refs_app]; rfl)), (((c6.put nq).ne nz).symm), ((At.snoc hA6 hp).same ((same_upd nq).put nz)), ?_, by rw [List.length_append]; show ps.length + 1 ≤ _; omega, rfl⟩
          rw [List.map_append]
          exact ok.snoc yx x2 hno
      · rintro σ H4 ⟨b4, c4, l, ps, v3, v5, v6, hl, nlc, hA, ok, hlen, rfl⟩
        exact ⟨b4, c4, l, ps, v3, v5, v6, hl, nlc, hA, ok, by omega, rfl⟩
    rintro σ H3 ⟨b3, c3, l, ps, v3, v5, v6, hl, nlc, hA, ok, hlen, rfl⟩
    refine ⟨fun σ H' => But c H3 H' ∧ ∃ (u tl : Addr) (us : List Addr), Wk H' c u tl us n [] ∧ H3 u = none ∧ H3 tl = none ∧ (∀ a ∈ us, H3 a = none) ∧
      σ = [some (.ref c), some (.int (most : Int)), some (.int (n : Int)), v3, some (.ref l), v5, v6, some (.ref u), some (.ref tl), none, none, none, none, none, none], ?_, ?_⟩
    · refine ⟨_, rfl, (n : Int), rfl, by omega, by omega, fun u nu => ?_⟩
      have ncu : c ≠ u := c3.ne nu
      rw [show ((n : Int)).toNat = n from Int.toNat_natCast n]
      refine lc_range (lo := 0) (n := n) (fun i H' => Same H3 H' ∧ ∃ us : List Addr, H' u = some (.lst (us.map V.ref)) ∧ us.length = i ∧ us.Nodup ∧ u ∉ us ∧ ∀ a ∈ us, H3 a = none ∧ H' a = some (.lst []))
        ⟨same_upd nu, [], upd_same, rfl, List.nodup_nil, (fun z => by cases z), (fun a z => by cases z)⟩ ?_ ?_
      · rintro i H4 hi ⟨s4, us, hu4, ul, und, nuu, hus⟩
        refine ⟨rfl, Nat.zero_le _, fun q nq => ?_⟩
        have nuq : u ≠ q := ne_of_none hu4 nq
        refine ⟨us.map V.ref, put_ne hu4 nuq, (by rw [List.length_map, ul]; exact small1000 (by omega)), ((s4.put nq).own nu), us ++ [q], ?_, ?_, ?_, ?_, ?_⟩
        · rw [upd_same, List.map_append]
          rfl
        · rw [List.length_append, ul]
          rfl
        · exact nd_snoc und fun z => by
            rw [(hus q z).2] at nq
            cases nq
        · intro z
          rcases List.mem_append.mp z with z | z
          · exact nuu z
          · exact nuq (List.mem_singleton.mp z)
        · intro a z
          rcases List.mem_append.mp z with z | z
          · have nau : a ≠ u := fun e => nuu (e ▸ z)
            exact ⟨(hus a z).1, by rw [upd_ne nau]; exact put_old (hus a z).2 nq⟩
          · rw [List.mem_singleton.mp z]
            exact ⟨s4.free nq, put_ne upd_same nuq.symm⟩
      · rintro H4 ⟨s4, us, hu4, ul, und, nuu, hus⟩
        refine ⟨Nat.zero_le _, fun tl ntl => ⟨by show 2 ≤ sizeLine; decide, fun q nq => ⟨q, _, rfl, SqT.of upd_same, rfl, _, _, rfl, _, _, rfl, rfl, ?_⟩⟩⟩
        have s5 : Same H4 (upd (upd H4 tl (.lst [])) q (.tup [.ref u, .ref tl])) := (same_upd ntl).put nq
        refine ⟨(s4.trans s5).but, u, tl, us, ⟨c3.same (s4.trans s5), s5 _ _ hu4, ul, ?_, (put_old upd_same nq), (fun p hp => by cases hp), fun h a hh => s5 _ _ (hus a (List.mem_of_getElem? hh)).2⟩, nu, s4.free ntl, fun a ha => (hus a ha).1, rfl⟩
        have cn : c ∉ us := fun z => by
          obtain ⟨x, y, e⟩ := c3
          rw [(hus c z).1] at e
          cases e
        have tn : tl ∉ us := fun z => by
          rw [(hus tl z).2] at ntl
          cases ntl
        have ut : u ≠ tl := ne_of_none hu4 ntl
        have ct : c ≠ tl := (c3.same s4).ne ntl
        exact List.nodup_cons.mpr ⟨by simp [ncu, ct, cn], List.nodup_cons.mpr ⟨by simp [ut, nuu], List.nodup_cons.mpr ⟨tn, und⟩⟩⟩
    rintro σ H4 ⟨b4, u, tl, us, wk, nu, ntl, nus, rfl⟩
    have hl4 : H4 l = some (.lst (refs ps)) := b4 _ _ hl nlc
    have hA4 : At prV H4 ps := hA.but c3 b4
    have bA : But c H H4 := (b1.trans b3).trans b4
    obtain ⟨srt, perm⟩ := sorted_prs ps ok.nd
    refine ⟨fun σ H' => But c H H' ∧ Cup H' c ∧ ∃ (tl : Addr) (ts : List (Addr × Tie)) (w1 w2 w3 w4 w5 w6 w7 w8 w9 w10 w11 : Option V), H' tl = some (.lst (refs ts)) ∧ At tieV H' ts ∧ Told n (ts.map (·.2)) ∧
      H tl = none ∧ σ = [some (.ref c), w1, w2, w3, w4, w5, w6, w7, some (.ref tl), w8, w9, w10, w11, none, none], ?_, ?_⟩
    · have hs : rSortD K [V.ref l] H4 (fun v H' => ∃ sp : Addr, v = .ref sp ∧ H4 sp = none ∧ H' = upd H4 sp (.lst (refs (ps.mergeSort fun p q => prLe p.2 q.2)))) :=
        sort_rows prV prLe (SqL.of hl4) hA4 (fun _ _ => prV_nb _) pr_alike (fun x => ⟨_, _, rfl⟩) prLe_data fun sp nsp => ⟨sp, rfl, nsp, rfl⟩
      refine ⟨fun v H' => ∃ sp : Addr, v = .ref sp ∧ H4 sp = none ∧ H' = upd H4 sp (.lst (refs (ps.mergeSort fun p q => prLe p.2 q.2))), ⟨_, rfl, hs⟩, ?_⟩
      rintro _ _ ⟨sp, rfl, nsp, rfl⟩
      generalize (ps.mergeSort fun p q => prLe p.2 q.2) = qs at srt perm
      have hA5 : At prV (upd H4 sp (.lst (refs qs))) qs := (At.same hA4 (same_upd nsp)).perm perm.symm
      have okq : PairsOk n (qs.map (·.2)) := ok.perm (perm.map _).symm
      have lenq : qs.length ≤ 9 := by
        rw [perm.length_eq]
        exact hlen
      have nown : sp ∉ c :: u :: tl :: us := by
        intro z
        rcases List.mem_cons.mp z with e | z
        · obtain ⟨x, y, e2⟩ := wk.cup
          rw [← e, nsp] at e2
          cases e2
        rcases List.mem_cons.mp z with e | z
        · have e2 := wk.hu
          rw [← e, nsp] at e2
          cases e2
        rcases List.mem_cons.mp z with e | z
        · have e2 := wk.ht
          rw [← e, nsp] at e2
          cases e2
        · obtain ⟨i, hi⟩ := List.getElem?_of_mem z
          have e2 := wk.hm i sp hi
          rw [nsp] at e2
          cases e2
      refine ⟨sp, rfl, ⟨_, SqL.of upd_same⟩, for_list (K := K) (a := sp) (xs := refs qs) (fun k σ H' => ∃ (ts : List (Addr × Tie)) (w1 w9 w10 w11 w12 : Option V), Wk H' c u tl us n ts ∧ But c H3 H' ∧ H' sp = some (.lst (refs qs)) ∧ At prV H' qs ∧
          (ts.map (·.2)).map Tie.pr = (qs.map (·.2)).take k ∧ (∀ t ∈ ts.map (·.2), t.m ∈ letters ∧ t.o ∈ letters) ∧ (∀ h, (marksAt h (ts.map (·.2))).Nodup) ∧
          σ = [some (.ref c), some (.int (most : Int)), some (.int (n : Int)), w1, some (.ref l), v5, v6, some (.ref u), some (.ref tl), w9, w10, w11, w12, none, none])
        ⟨[], v3, none, none, none, none, wk.upd_new nsp, b4.put nsp, upd_same, hA5, rfl, (fun t h => by cases h), (fun h => List.nodup_nil), rfl⟩ (fun k σ H' _ ⟨_, _, _, _, _, _, _, _, e, _⟩ => SqL.of e) ?_ ?_⟩
      · rintro k x σ H6 hx ⟨ts, w1, w9, w10, w11, w12, wk6, b6, hsp6, hA6, hpr, hlet, hun, rfl⟩
        obtain ⟨⟨p, q⟩, hkq, rfl⟩ := refs_get hx
        have hmq : (p, q) ∈ qs := List.mem_of_getElem? hkq
        have hp : H6 p = some (.tup (prV q)) := hA6 _ hmq
        obtain ⟨q12, qn⟩ := okq.lt q (List.mem_map_of_mem (f := (·.2)) hmq)
        have hk9 : k < 9 := by
          have := (List.getElem?_eq_some_iff.mp hkq).1
          omega
        have hl : ∀ t ∈ ts.map (·.2), t.a < t.b := fun t ht => by
          have m : t.pr ∈ (qs.map (·.2)).take k := by
            rw [← hpr]
            exact List.mem_map_of_mem ht
          exact (okq.lt _ (List.mem_of_mem_take m)).1
        have htl : (ts.map (·.2)).length ≤ k := by
          have e := congrArg List.length hpr
          rw [List.length_map, List.length_take] at e
          omega
        have lt12 : ∀ h, (marksAt h (ts.map (·.2))).length < 12 := fun h => by
          have := marksAt_len h hl
          omega
        have hi1 : q.1 < us.length := by
          rw [wk6.ul]
          omega
        have hi2 : q.2 < us.length := by
          rw [wk6.ul]
          omega
        refine ⟨p, _, rfl, SqT.of hp, rfl, _, _, rfl, _, _, rfl, rfl, ?_⟩
        refine ⟨fun σ H' => But c H6 H' ∧ Cup H' c ∧ ∃ (D a1 a2 : Addr) (x1 x2 : List Nat), H' D = some (.lst [.ref a1, .ref a2]) ∧ FreeAt H' c a1 x1 (marksAt q.1 (ts.map (·.2))) ∧ FreeAt H' c a2 x2 (marksAt q.2 (ts.map (·.2))) ∧ D ≠ c ∧
          σ = [some (.ref c), some (.int (most : Int)), some (.int (n : Int)), some (.int (q.2 : Int)), some (.ref l), v5, v6, some (.ref u), some (.ref tl), some (.int (q.1 : Int)), some (.ref D), w11, w12, none, none], ?_, ?_⟩
        · refine ⟨_, rfl, _, rfl, (by show 2 ≤ sizeLine; decide), fun L nL => ⟨L, rfl, ⟨_, SqL.of upd_same⟩, fun D nD => ?_⟩⟩
          have hL : (upd (upd H6 L (.lst [.int (q.1 : Int), .int (q.2 : Int)])) D (.lst [])) L = some (.lst [.int (q.1 : Int), .int (q.2 : Int)]) := put_old upd_same nD
          have nLc : L ≠ c := (wk6.cup.ne nL).symm
          have nDc : D ≠ c := ((wk6.cup.put nL).ne nD).symm
          have nD6 : H6 D = none := new_of nD
          refine lc_list (K := K) (a := L) (xs := [.int (q.1 : Int), .int (q.2 : Int)]) (fun i H' => But c H6 H' ∧ Cup H' c ∧ H' L = some (.lst [.int (q.1 : Int), .int (q.2 : Int)]) ∧ ∃ rs : List (Addr × List Nat), H' D = some (.lst (refs rs)) ∧ rs.length = i ∧
              ∀ (j : Nat) (r : Addr × List Nat), rs[j]? = some r → r.1 ≠ D ∧ FreeAt H' c r.1 r.2 (marksAt (if j = 0 then q.1 else q.2) (ts.map (·.2))))
            ⟨(But.refl c H6).put nL |>.put nD, (wk6.cup.put nL).put nD, hL, [], upd_same, rfl, fun j r e => by simp at e⟩ (fun i H' _ ⟨_, _, e, _⟩ => SqL.of e) ?_ ?_
          · rintro i x H7 hx ⟨b7, c7, hL7, rs, hD7, hrs, hfr⟩
            obtain ⟨hh, hhe, hhu, rfl⟩ : ∃ hh : Nat, hh = (if i = 0 then q.1 else q.2) ∧ hh < us.length ∧ x = .int (hh : Int) := by
              match i, hx with
              | 0, hx => exact ⟨q.1, rfl, hi1, (Option.some.inj hx).symm⟩
              | 1, hx => exact ⟨q.2, rfl, hi2, (Option.some.inj hx).symm⟩
              | i + 2, hx => exact absurd hx (by simp)
            have wk7 := wk6.but b7 c7
            refine ⟨rfl, "abcdefghijkl", rfl, fun D2 nD2 => ?_⟩
            have hm7 : H7 us[hh] = some (.lst ((marksAt hh (ts.map (·.2))).map sV)) := wk7.hm hh _ (List.getElem?_eq_getElem hhu)
            refine lc_it walk_str (fun j H' => Same H7 H' ∧ H' D2 = some (.lst (((letters.take j).filter (notIn (marksAt hh (ts.map (·.2))))).map sV))) ⟨same_upd nD2, upd_same⟩ (fun _ _ _ _ => trivial) ?_ ?_
            · rintro j x H8 _ hj ⟨s8, hD8⟩ ⟨rfl, z, hz, rfl⟩
              have hj12 : j < 12 := by
                have e : ("abcdefghijkl" : Str).cps.size = 12 := by rw [letters_str]; rfl
                omega
              have hzl : letters[j]? = some z := by
                rw [letters_str] at hz
                have e : (#[97, 98, 99, 100, 101, 102, 103, 104, 105, 106, 107, 108] : Array Nat)[j]? = letters[j]? := by
                  rw [← Array.getElem?_toList]
                  rfl
                rw [← e]
                exact hz
              refine ⟨rfl, _, rfl, _, rfl, _, rfl, u, us.map V.ref, _, .ref us[hh], rfl, rfl, SqL.of (s8 _ _ wk7.hu), atI_nat (by rw [List.getElem?_map, List.getElem?_eq_getElem hhu]; rfl), us[hh], _, rfl, .inl (SqL.of (s8 _ _ hm7)), rfl, flat_sV _, _, rfl, ?_⟩
              have ein : inV (.str ⟨#[z]⟩) ((marksAt hh (ts.map (·.2))).map sV) = (marksAt hh (ts.map (·.2))).contains z := inV_sV z _
              have etk : letters.take (j + 1) = letters.take j ++ [z] := by rw [List.take_succ, hzl]; rfl
              refine ite2 (fun hnot => ?_) (fun hnot => ?_)
              · refine ⟨_, rfl, _, hD8, ?_, s8.own nD2, ?_⟩
                · rw [List.length_map]
                  exact small1000 (Nat.le_trans (List.length_filter_le _ _) (by rw [List.length_take]; show min j 12 ≤ 1000; omega))
                · have hc : notIn (marksAt hh (ts.map (·.2))) z = true := by
                    unfold notIn
                    rw [← ein]
                    exact hnot
                  rw [upd_same, etk, filt_yes hc, List.map_append]
                  rfl
              · refine ⟨s8, ?_⟩
                have hc : notIn (marksAt hh (ts.map (·.2))) z = false := by
                  unfold notIn
                  rw [← ein]
                  exact Bool.eq_false_iff.mpr hnot
                rw [hD8, etk, filt_no hc]
            · rintro H8 ⟨s8, hD8⟩
              have e12 : ((letters.take ("abcdefghijkl" : Str).cps.size).filter (notIn (marksAt hh (ts.map (·.2))))) = free (marksAt hh (ts.map (·.2))) := by
                rw [letters_str]
                rfl
              rw [e12] at hD8
              have c8 := c7.same s8
              have nD2c : D2 ≠ c := (c7.ne nD2).symm
              have fpos := free_pos (lt12 hh)
              refine ⟨_, rfl, c, 2, rfl, c8, by omega, by omega, fun r H9 b9 c9 r0 r1 => ⟨2, r, rfl, rfl, _, rfl, D2, _, rfl, SqL.of (b9 _ _ hD8 nD2c), fun a na => ?_⟩⟩
              obtain ⟨j, rfl⟩ := Int.eq_ofNat_of_zero_le r0
              have ecut : cutV ((free (marksAt hh (ts.map (·.2)))).map sV) none (some ((fun i j => i + j) (2 : Int) ((j : Nat) : Int))) = ((free (marksAt hh (ts.map (·.2)))).take (2 + j)).map sV := by
                show cutV _ none (some ((2 : Int) + ((j : Nat) : Int))) = _
                rw [show ((2 : Int) + ((j : Nat) : Int)) = ((2 + j : Nat) : Int) by omega, cut_to, List.map_take]
              have b79 : But c H7 H9 := s8.but.trans b9
              have hD9 : H9 D = some (.lst (refs rs)) := b79 _ _ hD7 nDc
              have nDa : D ≠ a := ne_of_none hD9 na
              refine ⟨refs rs, put_ne hD9 nDa, (by rw [refs_len, hrs]; exact small1000 (by have := (List.getElem?_eq_some_iff.mp hx).1; simp at this; omega)), ((b7.trans b79).put na).own nD6, (c9.put na).of_lst nDc.symm, ?_, rs ++ [(a, (free (marksAt hh (ts.map (·.2)))).take (2 + j))], ?_, ?_, ?_⟩
              · exact put_ne (put_old (b79 _ _ hL7 nLc) na) (ne_new nD)
              · rw [upd_same, refs_app]
                rfl
              · rw [List.length_append, hrs]
                rfl
              · intro j2 r2 hr2
                by_cases e2 : j2 < rs.length
                · rw [List.getElem?_append_left e2] at hr2
                  obtain ⟨n1, f1⟩ := hfr j2 r2 hr2
                  have f2 := f1.but b79
                  exact ⟨n1, put_ne (put_old f2.at_ na) n1, f2.ne, f2.pos, f2.most, f2.mem⟩
                · have ej : j2 = i := by
                    have := (List.getElem?_eq_some_iff.mp hr2).1
                    rw [List.length_append] at this
                    have h1 : [(a, (free (marksAt hh (ts.map (·.2)))).take (2 + j))].length = 1 := rfl
                    omega
                  rw [List.getElem?_append_right (by omega), show j2 - rs.length = 0 by omega] at hr2
                  have er : (a, (free (marksAt hh (ts.map (·.2)))).take (2 + j)) = r2 := Option.some.inj hr2
                  subst er
                  refine ⟨nDa.symm, put_ne (upd_same.trans (by rw [ecut])) nDa.symm, (c9.ne na).symm, ?_, ?_, ?_⟩
                  · rw [List.length_take]
                    omega
                  · rw [List.length_take]
                    have : (free (marksAt hh (ts.map (·.2)))).length ≤ 12 := List.length_filter_le _ _
                    omega
                  · intro z hz
                    have h2 := free_mem (List.mem_of_mem_take hz)
                    rw [ej, ← hhe]
                    exact h2
          · rintro H7 ⟨b7, c7, hL7, rs, hD7, hrs, hfr⟩
            obtain ⟨r1, r2, rfl⟩ : ∃ r1 r2, rs = [r1, r2] := by
              match rs, hrs with
              | [r1, r2], _ => exact ⟨r1, r2, rfl⟩
            exact ⟨b7, c7, D, r1.1, r2.1, r1.2, r2.2, hD7, (hfr 0 r1 rfl).2, (hfr 1 r2 rfl).2, nDc, rfl⟩
        rintro σ H7 ⟨b7, c7, D, a1, a2, x1, x2, hD7, f1, f2, nDc, rfl⟩
        have wk7 := wk6.but b7 c7
        refine ⟨fun σ H' => But c H6 H' ∧ Cup H' c ∧ ∃ z1 z2 : Nat, z1 ∈ x1 ∧ z2 ∈ x2 ∧ σ = [some (.ref c), some (.int (most : Int)), some (.int (n : Int)), some (.int (q.2 : Int)), some (.ref l), v5, v6, some (.ref u), some (.ref tl), some (.int (q.1 : Int)), some (.ref D), some (sV z1), some (sV z2), none, none], ?_, ?_⟩
        · refine ⟨_, rfl, _, rfl, D, _, _, _, rfl, rfl, SqL.of hD7, rfl, c, a1, _, rfl, c7, f1.ne, f1.at_, (by rw [List.length_map]; exact f1.pos), (by rw [List.length_map]; have := f1.most; omega), fun i1 v1 H8 b8 c8 e1 => ?_⟩
          have f2' := f2.but b8
          refine ⟨_, rfl, _, rfl, D, _, _, _, rfl, rfl, SqL.of (b8 _ _ hD7 nDc), rfl, c, a2, _, rfl, c8, f2'.ne, f2'.at_, (by rw [List.length_map]; exact f2.pos), (by rw [List.length_map]; have := f2.most; omega), fun i2 v2 H9 b9 c9 e2 => ?_⟩
          rw [List.getElem?_map] at e1 e2
          obtain ⟨z1, hz1, rfl⟩ := Option.map_eq_some_iff.mp e1
          obtain ⟨z2, hz2, rfl⟩ := Option.map_eq_some_iff.mp e2
          exact ⟨_, _, rfl, (b7.trans b8).trans b9, c9, z1, z2, List.mem_of_getElem? hz1, List.mem_of_getElem? hz2, rfl⟩
        rintro σ H8 ⟨b8, c8, z1, z2, hz1, hz2, rfl⟩
        have wk8 := wk6.but b8 c8
        have g1 : us[q.1]? = some us[q.1] := List.getElem?_eq_getElem hi1
        have g2 : us[q.2]? = some us[q.2] := List.getElem?_eq_getElem hi2
        have m1 := wk8.hm _ _ g1
        have m2 := wk8.hm _ _ g2
        obtain ⟨und, cu, ct, ut⟩ := wk8.us_nd
        obtain ⟨d1, d2, d3⟩ := wk8.dist g1
        obtain ⟨e1, e2, e3⟩ := wk8.dist g2
        have n12 : us[q.1] ≠ us[q.2] := fun z => by
          have := nd_ix und g1 (by rw [z]; exact g2)
          omega
        have sz : ∀ h, ((marksAt h (ts.map (·.2))).map sV).length < sizeLine := fun h => by
          have := lt12 h
          rw [List.length_map]
          exact small1000 (by omega)
        have at1 : ∀ {j : Nat} (hj : j < us.length), atI (us.map V.ref) (j : Int) = some (.ref us[j]) := fun {j} hj => atI_nat (by rw [List.getElem?_map, List.getElem?_eq_getElem hj]; rfl)
        refine ⟨_, rfl, _, rfl, u, _, _, _, rfl, rfl, SqL.of wk8.hu, at1 hi1, .inl ⟨rfl, _, SqL.of m1⟩, _, rfl, _, _, _, rfl, rfl, m1, sz _, ?_⟩
        have hu9 := put_ne (u := HO.lst ((marksAt q.1 (ts.map (·.2))).map sV ++ [sV z1])) wk8.hu (fun z => d2 z.symm)
        have m29 := put_ne (u := HO.lst ((marksAt q.1 (ts.map (·.2))).map sV ++ [sV z1])) m2 (fun z => n12 z.symm)
        refine ⟨_, rfl, _, rfl, u, _, _, _, rfl, rfl, SqL.of hu9, at1 hi2, .inl ⟨rfl, _, SqL.of m29⟩, _, rfl, _, _, _, rfl, rfl, m29, sz _, ?_⟩
        have ht9 := put_ne (u := HO.lst ((marksAt q.2 (ts.map (·.2))).map sV ++ [sV z2])) (put_ne (u := HO.lst ((marksAt q.1 (ts.map (·.2))).map sV ++ [sV z1])) wk8.ht (fun z => d3 z.symm)) (fun z => e3 z.symm)
        refine ⟨_, rfl, .inl ⟨rfl, _, SqL.of ht9⟩, _, rfl, _, rfl, _, rfl, _, rfl, (by show 4 ≤ sizeLine; decide), fun p np => ?_⟩
        have ht10 := put_old (u := HO.tup [.int (q.1 : Int), sV z1, .int (q.2 : Int), sV z2]) ht9 np
        refine ⟨_, _, _, rfl, rfl, ht10, (by rw [refs_len]; rw [List.length_map] at htl; exact small1000 (by omega)), ?_⟩
        have wk9 := wk8.step ⟨q.1, z1, q.2, z2⟩ (by show q.1 ≠ q.2; omega) g1 g2 np
        have b9 : But c H3 _ := (((((b6.trans b8).own (nus _ (List.mem_of_getElem? g1))).own (nus _ (List.mem_of_getElem? g2))).put (o := .tup (tieV ⟨q.1, z1, q.2, z2⟩)) np).own (o := .lst (refs ts ++ [.ref p])) ntl)
        have nsp1 : sp ≠ us[q.1] := fun z => nown (by simp [z])
        have nsp2 : sp ≠ us[q.2] := fun z => nown (by simp [z])
        have nspt : sp ≠ tl := fun z => nown (by simp [z])
        have nspc : sp ≠ c := fun z => nown (by simp [z])
        have hsp9 := put_ne (u := HO.lst (refs ts ++ [.ref p])) (put_old (u := HO.tup [.int (q.1 : Int), sV z1, .int (q.2 : Int), sV z2]) (put_ne (u := HO.lst ((marksAt q.2 (ts.map (·.2))).map sV ++ [sV z2])) (put_ne (u := HO.lst ((marksAt q.1 (ts.map (·.2))).map sV ++ [sV z1])) (b8 _ _ hsp6 nspc) nsp1) nsp2) np) nspt
        have hA9 := (((((hA6.but wk6.cup b8).mono (upd_tup m1)).mono (upd_tup m29)).same (same_upd np)).mono (upd_tup (o := .lst (refs ts ++ [.ref p])) ht10))
        refine ⟨ts ++ [(p, (⟨q.1, z1, q.2, z2⟩ : Tie))], _, _, _, _, _, wk9, b9, hsp9, hA9, ?_, ?_, ?_, rfl⟩
        · rw [List.map_append, List.map_append, hpr, List.take_succ, List.getElem?_map, hkq]
          rfl
        · intro t ht
          rw [List.map_append] at ht
          rcases List.mem_append.mp ht with z | z
          · exact hlet t z
          · rw [List.mem_singleton.mp z]
            exact ⟨(f1.mem z1 hz1).1, (f2.mem z2 hz2).1⟩
        · intro h
          rw [List.map_append, show [(p, (⟨q.1, z1, q.2, z2⟩ : Tie))].map (·.2) = [⟨q.1, z1, q.2, z2⟩] from rfl, marksAt_snoc]
          have ne : (⟨q.1, z1, q.2, z2⟩ : Tie).a ≠ (⟨q.1, z1, q.2, z2⟩ : Tie).b := by show q.1 ≠ q.2; omega
          by_cases ha : h = q.1
          · have e := endsAt_a ne
            rw [ha]
            rw [show endsAt q.1 ⟨q.1, z1, q.2, z2⟩ = [z1] from e]
            exact nd_snoc (hun _) (f1.mem z1 hz1).2
          · by_cases hb : h = q.2
            · have e := endsAt_b ne
              rw [hb]
              rw [show endsAt q.2 ⟨q.1, z1, q.2, z2⟩ = [z2] from e]
              exact nd_snoc (hun _) (f2.mem z2 hz2).2
            · rw [endsAt_no (t := ⟨q.1, z1, q.2, z2⟩) ha hb, List.append_nil]
              exact hun h
      · rintro σ H6 ⟨ts, w1, w9, w10, w11, w12, wk6, b6, hsp6, hA6, hpr, hlet, hun, rfl⟩
        rw [refs_len, List.take_of_length_le (by rw [List.length_map]; exact Nat.le_refl _)] at hpr
        refine ⟨(b1.trans b3).trans b6, wk6.cup, tl, ts, _, _, _, _, _, _, _, _, _, _, _, wk6.ht, wk6.hA, ?_, ?_, rfl⟩
        · have hmem : ∀ t ∈ ts.map (·.2), t.pr ∈ qs.map (·.2) := fun t ht => by
            rw [← hpr]
            exact List.mem_map_of_mem ht
          refine ⟨n2, by omega, fun t ht => okq.lt _ (hmem t ht), fun h h1 h2 => ?_, by rw [hpr]; exact srt, hlet, hun, ?_⟩
          · obtain ⟨q, hq, e⟩ := okq.hang h h1 h2
            rw [← hpr] at hq
            obtain ⟨t, ht, rfl⟩ := List.mem_map.mp hq
            exact ⟨t, ht, e⟩
          · have e := congrArg List.length hpr
            rw [List.length_map, List.length_map] at e
            rw [List.length_map] at e
            rw [List.length_map, e]
            exact lenq
        · cases q : H tl with
          | none => rfl
          | some o =>
            by_cases e : tl = c
            · have nd := wk.nd
              simp [e] at nd
            · rw [(b1.trans b3) tl o q e] at ntl
              cases ntl
    rintro σ H5 ⟨b5, c5, tl, ts, w1, w2, w3, w4, w5, w6, w7, w8, w9, w10, w11, htl, hts, told, ntl, rfl⟩
    exact ⟨_, rfl, hk tl ts n H5 b5 c5 ntl htl hts told n8⟩
end
end Wh

namespace Wh
open PySem L2
abbrev sText : Stmt := topS 44
theorem scText : FnScope ["told", "tie", "part"] ["told"] (defScope sText) := ⟨rfl, rfl, rfl, by decide +kernel, rfl, by decide +kernel, by decide +kernel⟩
section
variable {P : Program} {w : World} {K : PySem.W.Frag} {mg : Str → Option Value} {base : Heap}
/-- the ties stand in a list at l; the text is told -/
def spText (K : PySem.W.Frag) : Sp := fun vs H Q _ => ∃ (l : Addr) (ps : List (Addr × Tie)), vs = [.ref l] ∧ H l = some (.lst (refs ps)) ∧ At tieV H ps ∧ (∀ p ∈ ps, p.2.a < 10 ∧ p.2.b < 10) ∧ ps.length ≤ 100 ∧
  ∀ H', Same H H' → Q (.str (webS (ps.map (·.2)))) H'
theorem ok_text {f : Addr} {fd : FuncData} (F : Fun K "_law_text" "_law_text" sText f fd) (mstr : mg "str" = none) : FnOk P w K mg base CX0 1 f fd ["told"] (spText K) := by
  refine F.ok scText (fun vs H Q E h => ?_) (fun cdv A outer s H vs Q E hr h => ?_)
  · obtain ⟨l, ps, rfl, _⟩ := h
    rfl
  · obtain ⟨l, ps, rfl, hl, hA, hab, hlen, k⟩ := h
    refine ⟨_, (pss_one (ps_ret (pe_joinK K rfl pe_str (pe_lc (own := [("tie", 1)]) (g := gName 1) (tt := tYes) rfl scText.nd (pi_list (pv 0)) (blkOk_by (N := ["told", "tie", "part"]) (own := [("tie", 1)]) (sc := defScope sText) (by decide +kernel)) (fun _ _ _ _ _ => (pg_name (i := 1) scText.nd rfl (.inl rfl))) (fun _ _ _ _ _ => pts_nil) (fun _ _ _ _ _ => (pe_joinK K rfl pe_str (pe_lc (own := [("part", 2)]) (g := gName 2) (tt := tYes) rfl scText.nd (pi_tupK K rfl (pv 1)) (blkOk_by (N := ["told", "tie", "part"]) (own := [("part", 2)]) (by show blkC _ (L2.relS _ (defScope sText)) _ _ = true; decide +kernel)) (fun _ _ _ _ _ => (pg_name (i := 2) scText.nd rfl (.inl rfl))) (fun _ _ _ _ _ => pts_nil) (fun _ _ _ _ _ => (pe_callTy (CallR.or call_str_int SkE.call_str_str) (by rfl) mstr (by decide +kernel) (pa_cons (pv 2) pa_nil)))))))))), ?_⟩
    refine ⟨⟨_, rfl⟩, _, rfl, l, rfl, ⟨_, SqL.of hl⟩, fun D nD => ?_⟩
    refine lc_list (K := K) (a := l) (xs := refs ps) (fun i H' => Same H H' ∧ H' D = some (.lst (((ps.take i).map fun p => lineS p.2).map V.str))) ⟨same_upd nD, upd_same⟩ (fun i H' _ ⟨s, _⟩ => SqL.of (s _ _ hl)) ?_ ?_
    · rintro i x H1 hx ⟨s1, hD⟩
      obtain ⟨⟨p, t⟩, hk, rfl⟩ := refs_get hx
      have hp : H1 p = some (.tup (tieV t)) := s1 _ _ (hA _ (List.mem_of_getElem? hk))
      obtain ⟨ta, tb⟩ := hab _ (List.mem_of_getElem? hk)
      refine ⟨rfl, ⟨_, rfl⟩, _, rfl, p, rfl, ⟨_, SqT.of hp⟩, fun D2 nD2 => ?_⟩
      refine lc_tup (K := K) (a := p) (xs := tieV t) (fun j H' => Same H1 H' ∧ H' D2 = some (.lst (((partsS t).take j).map V.str))) ⟨same_upd nD2, upd_same⟩ (fun j H' _ ⟨s, _⟩ => SqT.of (s _ _ hp)) ?_ ?_
      · rintro j x H2 hx ⟨s2, hD2⟩
        have hj4 : j < 4 := (List.getElem?_eq_some_iff.mp hx).1
        have acc : ∀ y : Str, (partsS t)[j]? = some y → ((upd H2 D2 (.lst (((partsS t).take j).map V.str ++ [.str y]))) D2 = some (.lst (((partsS t).take (j + 1)).map V.str))) := fun y hy => by
          rw [upd_same, List.take_succ, hy, List.map_append]
          rfl
        have sz : (((partsS t).take j).map V.str).length < sizeLine := by
          rw [List.length_map, List.length_take]
          exact small1000 (by omega)
        have ta' : t.a < 10 := ta
        have tb' : t.b < 10 := tb
        obtain rfl | rfl | rfl | rfl : j = 0 ∨ j = 1 ∨ j = 2 ∨ j = 3 := by omega
        · obtain rfl := Option.some.inj hx
          exact ⟨rfl, _, rfl, .inl ⟨_, rfl, num_log (by omega), _, hD2, sz, s2.own nD2, by rw [num_str _ ta']; exact acc _ rfl⟩⟩
        · obtain rfl := Option.some.inj hx
          exact ⟨rfl, _, rfl, .inr ⟨_, rfl, _, hD2, sz, s2.own nD2, acc _ rfl⟩⟩
        · obtain rfl := Option.some.inj hx
          exact ⟨rfl, _, rfl, .inl ⟨_, rfl, num_log (by omega), _, hD2, sz, s2.own nD2, by rw [num_str _ tb']; exact acc _ rfl⟩⟩
        · obtain rfl := Option.some.inj hx
          exact ⟨rfl, _, rfl, .inr ⟨_, rfl, _, hD2, sz, s2.own nD2, acc _ rfl⟩⟩
      · rintro H2 ⟨s2, hD2⟩
        have hD2' : H2 D2 = some (.lst ((partsS t).map V.str)) := hD2
        have nDD : D ≠ D2 := ne_of_none hD nD2
        have hDD : H2 D = some _ := s2 _ _ hD
        refine ⟨_, _, _, rfl, rfl, .inl (SqL.of hD2'), (by show (4 + 4 * 1 : Nat) ≤ 16777216; decide), _, hDD, ?_, ((Same.trans s1 s2).own nD), ?_⟩
        · rw [List.length_map, List.length_map, List.length_take]
          exact small1000 (by omega)
        · rw [upd_same, List.take_succ, hk, List.map_append, List.map_append, line_join]
          rfl
    · rintro H1 ⟨s1, hD⟩
      rw [refs_len, List.take_length] at hD
      have e : ps.map (fun p => lineS p.2) = (ps.map (·.2)).map lineS := by rw [List.map_map]; rfl
      rw [e] at hD
      refine ⟨_, _, _, rfl, rfl, .inl (SqL.of hD), ?_, ?_⟩
      · have e1 : ("\n" : Str).length = 1 := by decide +kernel
        rw [lines_sum, e1]
        simp only [List.length_map]
        omega
      · rw [text_join]
        exact k _ s1
end
end Wh

namespace Wh
open PySem L2
abbrev sCount : Stmt := topS 33
abbrev sDoors : Stmt := topS 37
abbrev sWays : Stmt := topS 45
theorem scCount : FnScope ["ties", "tie"] ["ties"] (defScope sCount) := ⟨rfl, rfl, rfl, by decide +kernel, rfl, by decide +kernel, by decide +kernel⟩
theorem scDoors : FnScope ["ties", "doors", "low", "mark", "high", "back", "_"] ["ties"] (defScope sDoors) := ⟨rfl, rfl, rfl, by decide +kernel, rfl, by decide +kernel, by decide +kernel⟩
theorem scWays : FnScope ["told", "found", "first", "mark", "last", "other", "tie", "house"] ["told"] (defScope sWays) := ⟨rfl, rfl, rfl, by decide +kernel, rfl, by decide +kernel, by decide +kernel⟩
/-- the greatest house -/
theorem max_top {n : Nat} {ps : List (Addr × Tie)} (w : WebOk n (ps.map (·.2))) {m : Int} (hm : m ∈ ps.map fun p => (p.2.b : Int)) (hle : ∀ y ∈ ps.map (fun p => (p.2.b : Int)), y ≤ m) : m + 1 = (n : Int) := by
  obtain ⟨p, hp, rfl⟩ := List.mem_map.mp hm
  obtain ⟨t, ht, e⟩ := w.top
  obtain ⟨q, hq, rfl⟩ := List.mem_map.mp ht
  have h1 := hle (q.2.b : Int) (List.mem_map.mpr ⟨q, hq, rfl⟩)
  have h2 := (w.lt p.2 (List.mem_map_of_mem hp)).2
  omega
section
variable {P : Program} {w : World} {K : PySem.W.Frag} {mg : Str → Option Value} {base : Heap}
def spCount (K : PySem.W.Frag) : Sp := fun vs H Q _ => ∃ (l : Addr) (ps : List (Addr × Tie)) (n : Nat), vs = [.ref l] ∧ H l = some (.lst (refs ps)) ∧ At tieV H ps ∧ WebOk n (ps.map (·.2)) ∧ ∀ H', Same H H' → Q (.int (n : Int)) H'
theorem ok_count {f : Addr} {fd : FuncData} (F : Fun K "count_houses" "count_houses" sCount f fd) (mmax : mg "max" = none) : FnOk P w K mg base CX0 1 f fd ["ties"] (spCount K) := by
  refine F.ok scCount (fun vs H Q E h => ?_) (fun cdv A outer s H vs Q E hr h => ?_)
  · obtain ⟨l, ps, n, rfl, _⟩ := h
    rfl
  · obtain ⟨l, ps, n, rfl, hl, hA, wk, k⟩ := h
    refine ⟨_, (pss_one (ps_ret (pe_op op_add (pe_callB (cr_max rfl) (by rfl) mmax (by decide +kernel) (pa_cons (pe_lc (own := [("tie", 1)]) (g := gName 1) (tt := tYes) rfl scCount.nd (pi_list (pv 0)) (blkOk_by (N := ["ties", "tie"]) (own := [("tie", 1)]) (sc := defScope sCount) (by decide +kernel)) (fun _ _ _ _ _ => (pg_name (i := 1) scCount.nd rfl (.inl rfl))) (fun _ _ _ _ _ => pts_nil) (fun _ _ _ _ _ => (pe_ix (ix_tupK K rfl) (pv 1) pe_int (fun _ _ => rfl)))) pa_nil)) pe_int))), ?_⟩
    refine ⟨_, rfl, l, rfl, ⟨_, SqL.of hl⟩, fun D nD => ?_⟩
    refine lc_list (K := K) (a := l) (xs := refs ps) (fun i H' => Same H H' ∧ H' D = some (.lst (((ps.map fun p => (p.2.b : Int)).take i).map V.int))) ⟨same_upd nD, upd_same⟩ (fun i H' _ ⟨s, _⟩ => SqL.of (s _ _ hl)) ?_ ?_
    · rintro i x H1 hx ⟨s1, hD⟩
      obtain ⟨⟨p, t⟩, hk, rfl⟩ := refs_get hx
      have hp : H1 p = some (.tup (tieV t)) := s1 _ _ (hA _ (List.mem_of_getElem? hk))
      refine ⟨rfl, _, rfl, p, _, _, _, rfl, rfl, SqT.of hp, rfl, _, hD, ?_, s1.own nD, ?_⟩
      · have := wk.len
        rw [List.length_map] at this
        rw [List.length_map, List.length_take, List.length_map]
        exact small1000 (by omega)
      · rw [upd_same, List.take_succ, List.getElem?_map, hk, List.map_append]
        rfl
    · rintro H1 ⟨s1, hD⟩
      rw [refs_len, List.take_of_length_le (by rw [List.length_map]; exact Nat.le_refl _)] at hD
      refine ⟨D, _, rfl, SqL.of hD, ?_, fun m hm hle => ?_⟩
      · have := wk.ne
        rw [List.length_map]
        exact List.length_pos_iff.mpr fun e => this (by rw [e]; rfl)
      · refine ⟨_, _, rfl, rfl, ?_⟩
        show Q (.int (m + 1)) H1
        rw [max_top wk hm hle]
        exact k H1 s1
def spDoors (K : PySem.W.Frag) : Sp := fun vs H Q _ => ∃ (l : Addr) (ps : List (Addr × Tie)) (n : Nat), vs = [.ref l] ∧ H l = some (.lst (refs ps)) ∧ At tieV H ps ∧ WebOk n (ps.map (·.2)) ∧
  ∀ (dl : Addr) (ds : List Addr) (H' : Hp), Same H H' → Dr H' dl ds n (ps.map (·.2)) → H dl = none → (∀ a ∈ ds, H a = none) → Q (.ref dl) H'
/-- the empty dicts -/
theorem rd_dicts {n : Nat} {H0 H1 : Hp} {σ : St} {vs : List Nat} {i : Nat} {D : Addr} {Qd : Hp → Prop} (s1 : Same H0 H1) (hn : n ≤ 10) (nD : H1 D = none)
    (k : ∀ (ds : List Addr) (H' : Hp), Same H0 H' → Dr H' D ds n [] → (∀ a ∈ ds, H0 a = none) → Qd H') (hw : ∀ v, wipe ((wipe σ vs).set i (some v)) vs = wipe σ vs) :
    ∃ W : Nat → Nat → Hp → Prop, (∃ m, W 0 m (upd H1 D (.lst []))) ∧ ∀ j m H, W j m H →
      ((Itr 0 n).stop j H ∧ Qd H) ∨ ((Itr 0 n).go j H ∧ ∃ Nx : Hp → Prop, (∀ H', Nx H' → ∃ m', m' < m ∧ W (j + 1) m' H') ∧ ∀ x H', (Itr 0 n).yld j H x H' → gName i x (wipe σ vs) H' fun σ2 H2 => wipe σ2 vs = wipe σ vs ∧ tYes σ2 H2 fun b H3 =>
        if b = true then tDNewK σ2 H3 fun y H4 => ∃ acc, H4 D = some (.lst acc) ∧ acc.length < sizeLine ∧ Nx (upd H4 D (.lst (acc ++ [y]))) else Nx H3) := by
  have nD0 : H0 D = none := s1.free nD
  refine lc_range (lo := 0) (n := n) (fun i H' => Same H0 H' ∧ ∃ us : List Addr, H' D = some (.lst (us.map V.ref)) ∧ us.length = i ∧ us.Nodup ∧ D ∉ us ∧ ∀ a ∈ us, H0 a = none ∧ H' a = some (.dK []))
    ⟨s1.put nD, [], upd_same, rfl, List.nodup_nil, (fun z => by cases z), (fun a z => by cases z)⟩ ?_ ?_
  · rintro i H4 hi ⟨s4, us, hu4, ul, und, nuu, hus⟩
    refine ⟨hw _, fun q nq => ?_⟩
    have nuq : D ≠ q := ne_of_none hu4 nq
    refine ⟨us.map V.ref, put_ne hu4 nuq, (by rw [List.length_map, ul]; exact small1000 (by omega)), ((s4.put nq).own nD0), us ++ [q], ?_, ?_, ?_, ?_, ?_⟩
    · rw [upd_same, List.map_append]
      rfl
    · rw [List.length_append, ul]
      rfl
    · exact nd_snoc und fun z => by
        rw [(hus q z).2] at nq
        cases nq
    · intro z
      rcases List.mem_append.mp z with z | z
      · exact nuu z
      · exact nuq (List.mem_singleton.mp z)
    · intro a z
      rcases List.mem_append.mp z with z | z
      · have nau : a ≠ D := fun e => nuu (e ▸ z)
        exact ⟨(hus a z).1, by rw [upd_ne nau]; exact put_old (hus a z).2 nq⟩
      · rw [List.mem_singleton.mp z]
        exact ⟨s4.free nq, put_ne upd_same nuq.symm⟩
  · rintro H4 ⟨s4, us, hu4, ul, und, nuu, hus⟩
    exact k us H4 s4 ⟨hu4, ul, List.nodup_cons.mpr ⟨nuu, und⟩, fun h a e => (hus a (List.mem_of_getElem? e)).2⟩ fun a ha => (hus a ha).1
theorem ok_doors {f fC : Addr} {fd fdC : FuncData} (F : Fun K "doors_of" "doors_of" sDoors f fd) (mmax : mg "max" = none) (mrange : mg "range" = none) (FC : Fun K "count_houses" "count_houses" sCount fC fdC) (bC : Binds K fdC ["ties"] []) (mC : mg "count_houses" = some (.ref fC)) :
    FnOk P w K mg base CX0 2 f fd ["ties"] (spDoors K) := by
  have GC : FnOk P w K mg base CX0 1 fC fdC ["ties"] (spCount K) := ok_count FC mmax
  refine F.ok scDoors (fun vs H Q E h => ?_) (fun cdv A outer s H vs Q E hr h => ?_)
  · obtain ⟨l, ps, n, rfl, _⟩ := h
    rfl
  · obtain ⟨l, ps, n, rfl, hl, hA, wk, k⟩ := h
    refine ⟨_, (C8.pss_cut (ps_setLc (i := 1) (own := [("_", 6)]) (g := gName 6) (tt := tYes) rfl scDoors.nd rfl rfl (sw_true rfl rfl rfl (by decide +kernel)) (pi_range1 (by rfl) mrange (pa_cons (pe_call GC hr (by rfl) mC FC.kp bC .nil pass0 (pa_cons (pv 0) pa_nil)) pa_nil)) (blkOk_by (N := ["ties", "doors", "low", "mark", "high", "back", "_"]) (own := [("_", 6)]) (sc := defScope sDoors) (by decide +kernel)) (fun _ _ _ _ _ => (pg_name (i := 6) scDoors.nd rfl (.inl rfl))) (fun _ _ _ _ _ => pts_nil) (fun _ _ _ _ _ => pe_dnewK)) (C8.pss_cut (ps_for PassesOwn.never rfl (pi_list (pv 0)) (pg_tup (by rfl) (pgs_cons (pg_name (i := 2) scDoors.nd rfl (.inl rfl)) (pgs_cons (pg_name (i := 3) scDoors.nd rfl (.inl rfl)) (pgs_cons (pg_name (i := 4) scDoors.nd rfl (.inl rfl)) (pgs_cons (pg_name (i := 5) scDoors.nd rfl (.inl rfl)) pgs_nil))))) (pss_cons (ps_dput (hu_of hr) (pe_ix ix_list (pv 1) (pv 2) (fun _ _ => rfl)) (pv 3) (pv 4) rfl) (pss_one (ps_dput (hu_of hr) (pe_ix ix_list (pv 1) (pv 4) (fun _ _ => rfl)) (pv 5) (pv 2) rfl)))) (pss_one (ps_ret (pv 1))))), ?_⟩
    refine ⟨fun σ H' => Same H H' ∧ ∃ (dl : Addr) (ds : List Addr), Dr H' dl ds n [] ∧ H dl = none ∧ (∀ a ∈ ds, H a = none) ∧ σ = [some (.ref l), some (.ref dl), none, none, none, none, none], ?_, ?_⟩
    · refine ⟨_, rfl, l, ps, n, rfl, hl, hA, wk, fun H1 s1 => ⟨(n : Int), rfl, by omega, by have := wk.n10; omega, fun D nD => ?_⟩⟩
      rw [show ((n : Int)).toNat = n from Int.toNat_natCast n]
      exact rd_dicts s1 wk.n10 nD (fun ds H' s2 d hn => ⟨s2, D, ds, d, s1.free nD, hn, rfl⟩) fun _ => rfl
    rintro σ H1 ⟨s1, dl, ds, dr, ndl, nds, rfl⟩
    refine ⟨fun σ H' => Same H H' ∧ Dr H' dl ds n (ps.map (·.2)) ∧ ∃ w2 w3 w4 w5 : Option V, σ = [some (.ref l), some (.ref dl), w2, w3, w4, w5, none], ?_, ?_⟩
    · refine ⟨_, rfl, l, rfl, ⟨_, SqL.of (s1 _ _ hl)⟩, for_list (K := K) (a := l) (xs := refs ps) (fun i σ H' => Same H H' ∧ Dr H' dl ds n ((ps.map (·.2)).take i) ∧ ∃ w2 w3 w4 w5 : Option V, σ = [some (.ref l), some (.ref dl), w2, w3, w4, w5, none])
        ⟨s1, dr, none, none, none, none, rfl⟩ (fun i σ H' _ ⟨s, _⟩ => SqL.of (s _ _ hl)) ?_ ?_⟩
      · rintro i x σ H2 hx ⟨s2, d2, w2, w3, w4, w5, rfl⟩
        obtain ⟨⟨p, t⟩, hk, rfl⟩ := refs_get hx
        have hp : H2 p = some (.tup (tieV t)) := s2 _ _ (hA _ (List.mem_of_getElem? hk))
        have hkt : (ps.map (·.2))[i]? = some t := by rw [List.getElem?_map, hk]; rfl
        obtain ⟨tab, tbn⟩ := wk.lt t (List.mem_of_getElem? hkt)
        have ne : t.a ≠ t.b := by omega
        have hi1 : t.a < ds.length := by rw [d2.len]; omega
        have hi2 : t.b < ds.length := by rw [d2.len]; omega
        have g1 : ds[t.a]? = some ds[t.a] := List.getElem?_eq_getElem hi1
        have g2 : ds[t.b]? = some ds[t.b] := List.getElem?_eq_getElem hi2
        have at1 : ∀ {j : Nat} (hj : j < ds.length), atI (ds.map V.ref) (j : Int) = some (.ref ds[j]) := fun {j} hj => atI_nat (by rw [List.getElem?_map, List.getElem?_eq_getElem hj]; rfl)
        obtain ⟨h3, und⟩ := List.nodup_cons.mp d2.nd
        have n12 : ds[t.a] ≠ ds[t.b] := fun z => ne (nd_ix und g1 (by rw [z]; exact g2))
        have sz : ∀ h, (doorsK h ((ps.map (·.2)).take i)).length < sizeLine := fun h => by
          rw [doorsK_len]
          exact small1000 (by have := marksAt_take_len h wk i; omega)
        refine ⟨p, _, rfl, SqT.of hp, rfl, _, _, rfl, _, _, rfl, _, _, rfl, _, _, rfl, rfl, ?_⟩
        refine ⟨_, rfl, _, rfl, _, rfl, dl, _, _, _, rfl, rfl, SqL.of d2.hl, at1 hi1, _, rfl, _, _, rfl, DPut.k (k := Sum.inr (sgn t.m)) (d2.hd _ _ g1) (sz _), ?_⟩
        rw [put_mark _ (mark_new_a wk.uniq hkt ne)]
        have hl2 := put_ne (u := HO.dK (doorsK t.a ((ps.map (·.2)).take i) ++ [(Sum.inr (sgn t.m), V.int (t.b : Int))])) d2.hl (fun z => h3 (z ▸ List.mem_of_getElem? g1))
        have hd2 := put_ne (u := HO.dK (doorsK t.a ((ps.map (·.2)).take i) ++ [(Sum.inr (sgn t.m), V.int (t.b : Int))])) (d2.hd _ _ g2) (fun z => n12 z.symm)
        refine ⟨_, rfl, _, rfl, _, rfl, dl, _, _, _, rfl, rfl, SqL.of hl2, at1 hi2, _, rfl, _, _, rfl, DPut.k (k := Sum.inr (sgn t.o)) hd2 (sz _), ?_⟩
        rw [put_mark _ (mark_new_b wk.uniq hkt ne)]
        refine ⟨((s2.own (nds _ (List.mem_of_getElem? g1))).own (nds _ (List.mem_of_getElem? g2))), ?_, _, _, _, _, rfl⟩
        rw [List.take_succ, hkt]
        exact d2.step t ne g1 g2
      · rintro σ H2 ⟨s2, d2, w2, w3, w4, w5, rfl⟩
        rw [refs_len, List.take_of_length_le (by rw [List.length_map]; exact Nat.le_refl _)] at d2
        exact ⟨s2, d2, _, _, _, _, rfl⟩
    rintro σ H2 ⟨s2, d2, w2, w3, w4, w5, rfl⟩
    exact ⟨_, rfl, k dl ds H2 s2 d2 ndl nds⟩
theorem ok_ways {f : Addr} {fd : FuncData} (F : Fun K "_law_ways" "_law_ways" sWays f fd) (mmax : mg "max" = none) (mrange : mg "range" = none) : FnOk P w K mg base CX0 1 f fd ["told"] (spDoors K) := by
  refine F.ok scWays (fun vs H Q E h => ?_) (fun cdv A outer s H vs Q E hr h => ?_)
  · obtain ⟨l, ps, n, rfl, _⟩ := h
    rfl
  · obtain ⟨l, ps, n, rfl, hl, hA, wk, k⟩ := h
    refine ⟨_, (C8.pss_cut (ps_setLc (i := 1) (own := [("house", 7)]) (g := gName 7) (tt := tYes) rfl scWays.nd rfl rfl (sw_true rfl rfl rfl (by decide +kernel)) (pi_range1 (by rfl) mrange (pa_cons (pe_op op_add pe_int (pe_callB (cr_max rfl) (by rfl) mmax (by decide +kernel) (pa_cons (pe_lc (own := [("tie", 6)]) (g := gName 6) (tt := tYes) rfl scWays.nd (pi_list (pv 0)) (blkOk_by (N := ["told", "found", "first", "mark", "last", "other", "tie", "house"]) (own := [("tie", 6)]) (sc := defScope sWays) (by decide +kernel)) (fun _ _ _ _ _ => (pg_name (i := 6) scWays.nd rfl (.inl rfl))) (fun _ _ _ _ _ => pts_nil) (fun _ _ _ _ _ => (pe_ix (ix_tupK K rfl) (pv 6) pe_int (fun _ _ => rfl)))) pa_nil))) pa_nil)) (blkOk_by (N := ["told", "found", "first", "mark", "last", "other", "tie", "house"]) (own := [("house", 7)]) (sc := defScope sWays) (by decide +kernel)) (fun _ _ _ _ _ => (pg_name (i := 7) scWays.nd rfl (.inl rfl))) (fun _ _ _ _ _ => pts_nil) (fun _ _ _ _ _ => pe_dnewK)) (C8.pss_cut (ps_for PassesOwn.never rfl (pi_list (pv 0)) (pg_tup (by rfl) (pgs_cons (pg_name (i := 2) scWays.nd rfl (.inl rfl)) (pgs_cons (pg_name (i := 3) scWays.nd rfl (.inl rfl)) (pgs_cons (pg_name (i := 4) scWays.nd rfl (.inl rfl)) (pgs_cons (pg_name (i := 5) scWays.nd rfl (.inl rfl)) pgs_nil))))) (pss_cons (ps_dput (hu_of hr) (pe_ix ix_list (pv 1) (pv 2) (fun _ _ => rfl)) (pv 3) (pv 4) rfl) (pss_one (ps_dput (hu_of hr) (pe_ix ix_list (pv 1) (pv 4) (fun _ _ => rfl)) (pv 5) (pv 2) rfl)))) (pss_one (ps_ret (pv 1))))), ?_⟩
    refine ⟨fun σ H' => Same H H' ∧ ∃ (dl : Addr) (ds : List Addr), Dr H' dl ds n [] ∧ H dl = none ∧ (∀ a ∈ ds, H a = none) ∧ σ = [some (.ref l), some (.ref dl), none, none, none, none, none, none], ?_, ?_⟩
    · refine ⟨_, rfl, l, rfl, ⟨_, SqL.of hl⟩, fun D nD => ?_⟩
      refine lc_list (K := K) (a := l) (xs := refs ps) (fun i H' => Same H H' ∧ H' D = some (.lst (((ps.map fun p => (p.2.b : Int)).take i).map V.int))) ⟨same_upd nD, upd_same⟩ (fun i H' _ ⟨s, _⟩ => SqL.of (s _ _ hl)) ?_ ?_
      · rintro i x H1 hx ⟨s1, hD⟩
        obtain ⟨⟨p, t⟩, hk, rfl⟩ := refs_get hx
        have hp : H1 p = some (.tup (tieV t)) := s1 _ _ (hA _ (List.mem_of_getElem? hk))
        refine ⟨rfl, _, rfl, p, _, _, _, rfl, rfl, SqT.of hp, rfl, _, hD, ?_, s1.own nD, ?_⟩
        · have := wk.len
          rw [List.length_map] at this
          rw [List.length_map, List.length_take, List.length_map]
          exact small1000 (by omega)
        · rw [upd_same, List.take_succ, List.getElem?_map, hk, List.map_append]
          rfl
      · rintro H1 ⟨s1, hD⟩
        rw [refs_len, List.take_of_length_le (by rw [List.length_map]; exact Nat.le_refl _)] at hD
        refine ⟨D, _, rfl, SqL.of hD, ?_, fun m hm hle => ?_⟩
        · have := wk.ne
          rw [List.length_map]
          exact List.length_pos_iff.mpr fun e => this (by rw [e]; rfl)
        · have em := max_top wk hm hle
          refine ⟨_, _, rfl, rfl, (1 + m), rfl, by omega, by have := wk.n10; omega, fun D nD => ?_⟩
          rw [show (1 + m).toNat = n by omega]
          exact rd_dicts s1 wk.n10 nD (fun ds H' s2 d hn => ⟨s2, D, ds, d, s1.free nD, hn, rfl⟩) fun _ => rfl
    rintro σ H1 ⟨s1, dl, ds, dr, ndl, nds, rfl⟩
    refine ⟨fun σ H' => Same H H' ∧ Dr H' dl ds n (ps.map (·.2)) ∧ ∃ w2 w3 w4 w5 : Option V, σ = [some (.ref l), some (.ref dl), w2, w3, w4, w5, none, none], ?_, ?_⟩
    · refine ⟨_, rfl, l, rfl, ⟨_, SqL.of (s1 _ _ hl)⟩, for_list (K := K) (a := l) (xs := refs ps) (fun i σ H' => Same H H' ∧ Dr H' dl ds n ((ps.map (·.2)).take i) ∧ ∃ w2 w3 w4 w5 : Option V, σ = [some (.ref l), some (.ref dl), w2, w3, w4, w5, none, none])
        ⟨s1, dr, none, none, none, none, rfl⟩ (fun i σ H' _ ⟨s, _⟩ => SqL.of (s _ _ hl)) ?_ ?_⟩
      · rintro i x σ H2 hx ⟨s2, d2, w2, w3, w4, w5, rfl⟩
        obtain ⟨⟨p, t⟩, hk, rfl⟩ := refs_get hx
        have hp : H2 p = some (.tup (tieV t)) := s2 _ _ (hA _ (List.mem_of_getElem? hk))
        have hkt : (ps.map (·.2))[i]? = some t := by rw [List.getElem?_map, hk]; rfl
        obtain ⟨tab, tbn⟩ := wk.lt t (List.mem_of_getElem? hkt)
        have ne : t.a ≠ t.b := by omega
        have hi1 : t.a < ds.length := by rw [d2.len]; omega
        have hi2 : t.b < ds.length := by rw [d2.len]; omega
        have g1 : ds[t.a]? = some ds[t.a] := List.getElem?_eq_getElem hi1
        have g2 : ds[t.b]? = some ds[t.b] := List.getElem?_eq_getElem hi2
        have at1 : ∀ {j : Nat} (hj : j < ds.length), atI (ds.map V.ref) (j : Int) = some (.ref ds[j]) := fun {j} hj => atI_nat (by rw [List.getElem?_map, List.getElem?_eq_getElem hj]; rfl)
        obtain ⟨h3, und⟩ := List.nodup_cons.mp d2.nd
        have n12 : ds[t.a] ≠ ds[t.b] := fun z => ne (nd_ix und g1 (by rw [z]; exact g2))
        have sz : ∀ h, (doorsK h ((ps.map (·.2)).take i)).length < sizeLine := fun h => by
          rw [doorsK_len]
          exact small1000 (by have := marksAt_take_len h wk i; omega)
        refine ⟨p, _, rfl, SqT.of hp, rfl, _, _, rfl, _, _, rfl, _, _, rfl, _, _, rfl, rfl, ?_⟩
        refine ⟨_, rfl, _, rfl, _, rfl, dl, _, _, _, rfl, rfl, SqL.of d2.hl, at1 hi1, _, rfl, _, _, rfl, DPut.k (k := Sum.inr (sgn t.m)) (d2.hd _ _ g1) (sz _), ?_⟩
        rw [put_mark _ (mark_new_a wk.uniq hkt ne)]
        have hl2 := put_ne (u := HO.dK (doorsK t.a ((ps.map (·.2)).take i) ++ [(Sum.inr (sgn t.m), V.int (t.b : Int))])) d2.hl (fun z => h3 (z ▸ List.mem_of_getElem? g1))
        have hd2 := put_ne (u := HO.dK (doorsK t.a ((ps.map (·.2)).take i) ++ [(Sum.inr (sgn t.m), V.int (t.b : Int))])) (d2.hd _ _ g2) (fun z => n12 z.symm)
        refine ⟨_, rfl, _, rfl, _, rfl, dl, _, _, _, rfl, rfl, SqL.of hl2, at1 hi2, _, rfl, _, _, rfl, DPut.k (k := Sum.inr (sgn t.o)) hd2 (sz _), ?_⟩
        rw [put_mark _ (mark_new_b wk.uniq hkt ne)]
        refine ⟨((s2.own (nds _ (List.mem_of_getElem? g1))).own (nds _ (List.mem_of_getElem? g2))), ?_, _, _, _, _, rfl⟩
        rw [List.take_succ, hkt]
        exact d2.step t ne g1 g2
      · rintro σ H2 ⟨s2, d2, w2, w3, w4, w5, rfl⟩
        rw [refs_len, List.take_of_length_le (by rw [List.length_map]; exact Nat.le_refl _)] at d2
        exact ⟨s2, d2, _, _, _, _, rfl⟩
    rintro σ H2 ⟨s2, d2, w2, w3, w4, w5, rfl⟩
    exact ⟨_, rfl, k dl ds H2 s2 d2 ndl nds⟩
end
end Wh
namespace Wh
open PySem L2
abbrev sInt : Stmt := topS 17
abbrev sHouse : Stmt := topS 20
abbrev sMark : Stmt := topS 21
abbrev sRHouse : Stmt := topS 29
abbrev sRNum : Stmt := topS 30
abbrev sBetw : Stmt := topS 27
abbrev sCountK : Stmt := topS 18
abbrev sIndex : Stmt := topS 19
abbrev sLine : Stmt := topS 26
abbrev sMay : Stmt := topS 28
theorem scInt : FnScope ["value"] ["value"] (defScope sInt) := ⟨rfl, rfl, rfl, by decide +kernel, rfl, by decide +kernel, by decide +kernel⟩
theorem scHouse : FnScope ["value", "houses"] ["value", "houses"] (defScope sHouse) := ⟨rfl, rfl, rfl, by decide +kernel, rfl, by decide +kernel, by decide +kernel⟩
theorem scMark : FnScope ["value"] ["value"] (defScope sMark) := ⟨rfl, rfl, rfl, by decide +kernel, rfl, by decide +kernel, by decide +kernel⟩
theorem scCountK : FnScope ["value"] ["value"] (defScope sCountK) := ⟨rfl, rfl, rfl, by decide +kernel, rfl, by decide +kernel, by decide +kernel⟩
theorem scIndex : FnScope ["value", "many"] ["value", "many"] (defScope sIndex) := ⟨rfl, rfl, rfl, by decide +kernel, rfl, by decide +kernel, by decide +kernel⟩
theorem scRNum : FnScope ["part", "most", "number"] ["part", "most"] (defScope sRNum) := ⟨rfl, rfl, rfl, by decide +kernel, rfl, by decide +kernel, by decide +kernel⟩
theorem scBetw : FnScope ["house", "mark", "other", "back"] ["house", "mark", "other", "back"] (defScope sBetw) := ⟨rfl, rfl, rfl, by decide +kernel, rfl, by decide +kernel, by decide +kernel⟩
theorem scRHouse : FnScope ["part"] ["part"] (defScope sRHouse) := ⟨rfl, rfl, rfl, by decide +kernel, rfl, by decide +kernel, by decide +kernel⟩
theorem scLine : FnScope ["line", "parts", "house", "other", "mark", "back"] ["line"] (defScope sLine) := ⟨rfl, rfl, rfl, by decide +kernel, rfl, by decide +kernel, by decide +kernel⟩
theorem scMay : FnScope ["part"] ["part"] (defScope sMay) := ⟨rfl, rfl, rfl, by decide +kernel, rfl, by decide +kernel, by decide +kernel⟩
section
variable {P : Program} {w : World} {K : PySem.W.Frag} {mg : Str → Option Value} {base : Heap}
/-! ### is_integer, is_house, is_mark -/
def spInt : Sp := fun vs H Q _ => ∃ z : Int, vs = [.int z] ∧ Q (.bl true) H
theorem ok_isint {f : Addr} {fd : FuncData} (F : Fun K "is_integer" "is_integer" sInt f fd) (misi : mg "isinstance" = none) (mint : mg "int" = none) (mbool : mg "bool" = none) : FnOk P w K mg base CX0 1 f fd ["value"] spInt := by
  refine F.ok scInt (fun vs H Q E h => ?_) (fun cdv A outer s H vs Q E hr h => ?_)
  · obtain ⟨z, rfl, _⟩ := h
    rfl
  · obtain ⟨z, rfl, k⟩ := h
    refine ⟨_, (pss_one (ps_ret (pe_and (pe_callB call_isi (by rfl) misi (by decide +kernel) (pa_cons (pv 0) (pa_cons (pe_bltn (by rfl) mint (by decide +kernel) (show RelV (.ty "int") _ from rfl)) pa_nil))) (pe_one (pe_not (pe_callB call_isi (by rfl) misi (by decide +kernel) (pa_cons (pv 0) (pa_cons (pe_bltn (by rfl) mbool (by decide +kernel) (show RelV (.ty "bool") _ from rfl)) pa_nil)))))))), ?_⟩
    refine ⟨_, rfl, _, _, _, _, true, rfl, .ty "int", .base (.int z), kit_ty (by decide +kernel), true, rfl, ?_⟩
    refine iteT ⟨_, rfl, _, _, _, _, false, rfl, .ty "bool", .base (.int z), kit_ty (by decide +kernel), false, rfl, k⟩
def spHouse : Sp := fun vs H Q _ => ∃ z n : Int, vs = [.int z, .int n] ∧ Q (.bl (decide (0 ≤ z ∧ z < n))) H
def spCountK : Sp := fun vs H Q _ => ∃ z : Int, vs = [.int z] ∧ Q (.bl (decide (0 ≤ z))) H
theorem ok_iscount {f fI : Addr} {fd fdI : FuncData} (F : Fun K "is_count" "is_count" sCountK f fd)
    (GI : FnOk P w K mg base CX0 1 fI fdI ["value"] spInt) (FI : Fun K "is_integer" "is_integer" sInt fI fdI) (bI : Binds K fdI ["value"] []) (mI : mg "is_integer" = some (.ref fI)) : FnOk P w K mg base CX0 2 f fd ["value"] spCountK := by
  refine F.ok scCountK (fun vs H Q E h => ?_) (fun cdv A outer s H vs Q E hr h => ?_)
  · obtain ⟨z, rfl, _⟩ := h
    rfl
  · obtain ⟨z, rfl, k⟩ := h
    refine ⟨_, (pss_one (ps_ret (pe_and (pe_call GI hr (by rfl) mI FI.kp bI .nil pass0 (pa_cons (pv 0) pa_nil)) (pe_one (pe_cmpR op_ge (pv 0) pe_int (nomark _)))))), ?_⟩
    refine ⟨_, rfl, z, rfl, true, rfl, ?_⟩
    refine iteT ⟨_, rfl, _, _, rfl, rfl, ?_⟩
    exact k
def spIndex : Sp := fun vs H Q _ => ∃ z n : Int, vs = [.int z, .int n] ∧ Q (.bl (decide (0 ≤ z ∧ z < n))) H
theorem ok_isindex {f fC : Addr} {fd fdC : FuncData} (F : Fun K "is_index" "is_index" sIndex f fd)
    (GC : FnOk P w K mg base CX0 2 fC fdC ["value"] spCountK) (FC : Fun K "is_count" "is_count" sCountK fC fdC) (bC : Binds K fdC ["value"] []) (mC : mg "is_count" = some (.ref fC)) : FnOk P w K mg base CX0 3 f fd ["value", "many"] spIndex := by
  refine F.ok scIndex (fun vs H Q E h => ?_) (fun cdv A outer s H vs Q E hr h => ?_)
  · obtain ⟨z, n, rfl, _⟩ := h
    rfl
  · obtain ⟨z, n, rfl, k⟩ := h
    refine ⟨_, (pss_one (ps_ret (pe_and (pe_call GC hr (by rfl) mC FC.kp bC .nil pass0 (pa_cons (pv 0) pa_nil)) (pe_one (pe_cmpR op_lt (pv 0) (pv 1) (nomark _)))))), ?_⟩
    refine ⟨_, rfl, z, rfl, _, rfl, ?_⟩
    refine ite2 (fun h0 => ?_) (fun h0 => ?_)
    · have h0 := of_decide_eq_true h0
      refine ⟨_, rfl, _, rfl, _, _, rfl, rfl, ?_⟩
      have e : decide (z < n) = decide (0 ≤ z ∧ z < n) := by
        by_cases q : z < n <;> simp [q, h0]
      show Q (.bl (decide (z < n))) H
      rw [e]
      exact k
    · have e : decide (0 ≤ z ∧ z < n) = false := decide_eq_false fun q => h0 (decide_eq_true q.1)
      rw [e] at k
      exact k
theorem ok_ishouse {f fI : Addr} {fd fdI : FuncData} (F : Fun K "is_house" "is_house" sHouse f fd)
    (GI : FnOk P w K mg base CX0 3 fI fdI ["value", "many"] spIndex) (FI : Fun K "is_index" "is_index" sIndex fI fdI) (bI : Binds K fdI ["value", "many"] []) (mI : mg "is_index" = some (.ref fI)) :
    FnOk P w K mg base CX0 4 f fd ["value", "houses"] spHouse := by
  refine F.ok scHouse (fun vs H Q E h => ?_) (fun cdv A outer s H vs Q E hr h => ?_)
  · obtain ⟨z, n, rfl, _⟩ := h
    rfl
  · obtain ⟨z, n, rfl, k⟩ := h
    refine ⟨_, (pss_one (ps_ret (pe_call GI hr (by rfl) mI FI.kp bI .nil pass0 (pa_cons (pv 0) (pa_cons (pv 1) pa_nil))))), ?_⟩
    exact ⟨_, rfl, _, rfl, z, n, rfl, k⟩
def spMark : Sp := fun vs H Q _ => ∃ c : Nat, vs = [.str (sgn c)] ∧ Q (.bl (decide (c ∈ letters))) H
theorem ok_ismark {f : Addr} {fd : FuncData} (F : Fun K "is_mark" "is_mark" sMark f fd) (misi : mg "isinstance" = none) (mstr : mg "str" = none) (mlen : mg "len" = none) {tM : Tok} (mM : mg "MARKS" = some (.str "abcdefghijkl" tM)) : FnOk P w K mg base CX0 1 f fd ["value"] spMark := by
  refine F.ok scMark (fun vs H Q E h => ?_) (fun cdv A outer s H vs Q E hr h => ?_)
  · obtain ⟨z, rfl, _⟩ := h
    rfl
  · obtain ⟨c, rfl, k⟩ := h
    refine ⟨_, (pss_one (ps_ret (pe_and (pe_callB call_isi (by rfl) misi (by decide +kernel) (pa_cons (pv 0) (pa_cons (pe_bltn (by rfl) mstr (by decide +kernel) (show RelV (.ty "str") _ from rfl)) pa_nil))) (pe_and (pe_cmpR op_eq (pe_callB call_len_str (by rfl) mlen PySem.boot_len (pa_cons (pv 0) pa_nil)) pe_int (nomark _)) (pe_one (pe_cmpR op_in_sign (pv 0) (pe_glob (v := .str "abcdefghijkl") rfl mM ⟨_, rfl⟩) (by rfl))))))), ?_⟩
    refine ⟨_, rfl, _, _, _, _, true, rfl, .ty "str", .base (.str _), kit_ty (by decide +kernel), true, rfl, ?_⟩
    refine iteT ⟨_, rfl, _, rfl, (by show 1 ≤ sizeLine; decide), rfl, _, rfl, ?_⟩
    refine iteT ⟨_, rfl, c, _, rfl, rfl, ?_⟩
    have e : decide (c ∈ ("abcdefghijkl" : Str).cps.toList) = decide (c ∈ letters) := by
      rw [letters_str]
      rfl
    rw [e]
    exact k
/-! ### may_be_mark: a letter, or one that is unread -/
def mayB (c : Nat) : Bool := decide (c ∈ letters) || decide (c = 63)
theorem unread_sgn : ("?" : Str) = sgn 63 := by decide +kernel
def spMay : Sp := fun vs H Q _ => ∃ c : Nat, vs = [.str (sgn c)] ∧ Q (.bl (mayB c)) H
theorem ok_may {f fM : Addr} {fd fdM : FuncData} (F : Fun K "may_be_mark" "may_be_mark" sMay f fd) {tU : Tok} (mU : mg "UNREAD" = some (.str "?" tU))
    (GM : FnOk P w K mg base CX0 1 fM fdM ["value"] spMark) (FM : Fun K "is_mark" "is_mark" sMark fM fdM) (bM : Binds K fdM ["value"] []) (mM : mg "is_mark" = some (.ref fM)) : FnOk P w K mg base CX0 2 f fd ["part"] spMay := by
  refine F.ok scMay (fun vs H Q E h => ?_) (fun cdv A outer s H vs Q E hr h => ?_)
  · obtain ⟨z, rfl, _⟩ := h
    rfl
  · obtain ⟨c, rfl, k⟩ := h
    refine ⟨_, (pss_one (ps_ret (pe_or (pe_call GM (hr.mono (by decide)) (by rfl) mM FM.kp bM .nil pass0 (pa_cons (pv 0) pa_nil)) (pe_one (pe_cmpR op_eq (pv 0) (pe_glob (v := .str "?") rfl mU ⟨_, rfl⟩) (nomark _)))))), ?_⟩
    refine ⟨_, rfl, c, rfl, _, rfl, ?_⟩
    by_cases h1 : c ∈ letters
    · have e : mayB c = true := by unfold mayB; rw [decide_eq_true h1]; rfl
      rw [e] at k
      rw [decide_eq_true h1]
      exact iteT k
    · rw [decide_eq_false h1]
      refine iteF ⟨_, rfl, rfl, ?_⟩
      have e : decide (V.str (sgn c) = V.str ("?" : Str)) = mayB c := by
        unfold mayB
        rw [decide_eq_false h1, Bool.false_or]
        by_cases h2 : c = 63
        · rw [decide_eq_true h2, h2]
          exact decide_eq_true (by rw [unread_sgn])
        · rw [decide_eq_false h2]
          refine decide_eq_false fun z => h2 (sgn_inj ?_)
          rw [← unread_sgn]
          exact V.str.inj z
      rw [e]
      exact k
/-! ### read_house, read_line -/
def spRHouse : Sp := fun vs H Q _ => ∃ a : Nat, a < 10 ∧ vs = [.str (sgn (48 + a))] ∧ Q (.int (a : Int)) H
def spRNum : Sp := fun vs H Q _ => ∃ a : Nat, a < 10 ∧ vs = [.str (sgn (48 + a)), .int 9] ∧ Q (.int (a : Int)) H
theorem ok_rnum {f : Addr} {fd : FuncData} (F : Fun K "read_number" "read_number" sRNum f fd) (mrange : mg "range" = none) (mstr : mg "str" = none) : FnOk P w K mg base CX0 1 f fd ["part", "most"] spRNum := by
  refine F.ok scRNum (fun vs H Q E h => ?_) (fun cdv A outer s H vs Q E hr h => ?_)
  · obtain ⟨a, ha, rfl, _⟩ := h
    rfl
  · obtain ⟨a, ha, rfl, k⟩ := h
    refine ⟨_, (pss_cons (ps_for PassesOwn.never rfl (pi_range1 (by rfl) mrange (pa_cons (pe_op op_add (pv 1) pe_int) pa_nil)) (pg_name (i := 2) scRNum.nd rfl (.inl rfl)) (pss_one (ps_if (pt_cmpR op_eq (pv 0) (pe_callTy call_str_int (by rfl) mstr (by decide +kernel) (pa_cons (pv 2) pa_nil)) (nomark _)) (pss_one (ps_ret (pv 2))) pss_nil))) (pss_one (ps_ret pe_non))), ?_⟩
    refine ⟨_, rfl, _, _, rfl, rfl, (10 : Int), rfl, by decide, by decide, for_range (lo := 0) (n := 10) (fun i σ H' => H' = H ∧ i ≤ a ∧ ∃ o : Option V, σ = [some (.str (sgn (48 + a))), some (.int 9), o]) ⟨rfl, Nat.zero_le _, none, rfl⟩ ?_ ?_⟩
    · rintro i σ H' hi ⟨rfl, hia, o, rfl⟩
      have e0 : (0 : Int) + (i : Int) = ((i : Nat) : Int) := Int.zero_add _
      rw [e0]
      refine ⟨_, rfl, _, rfl, _, rfl, num_log (by omega), rfl, _, rfl, ?_⟩
      rw [num_str i hi]
      refine ite2 (fun q => ?_) (fun q => ?_)
      · have q := of_decide_eq_true q
        have e : sgn (48 + a) = sgn (48 + i) := V.str.inj q
        have e2 := sgn_inj e
        refine ⟨_, rfl, ?_⟩
        have e3 : i = a := by omega
        rw [e3]
        exact k
      · have ne : a ≠ i := fun e => q (decide_eq_true (by rw [e]))
        exact ⟨rfl, by omega, _, rfl⟩
    · rintro σ H' ⟨rfl, hia, o, rfl⟩
      omega
theorem ok_rhouse {f fN : Addr} {fd fdN : FuncData} (F : Fun K "read_house" "read_house" sRHouse f fd) {tH : Tok} (mH : mg "MOST_HOUSES" = some (.int 10 tH))
    (GN : FnOk P w K mg base CX0 1 fN fdN ["part", "most"] spRNum) (FN : Fun K "read_number" "read_number" sRNum fN fdN) (bN : Binds K fdN ["part", "most"] []) (mN : mg "read_number" = some (.ref fN)) : FnOk P w K mg base CX0 2 f fd ["part"] spRHouse := by
  refine F.ok scRHouse (fun vs H Q E h => ?_) (fun cdv A outer s H vs Q E hr h => ?_)
  · obtain ⟨a, ha, rfl, _⟩ := h
    rfl
  · obtain ⟨a, ha, rfl, k⟩ := h
    refine ⟨_, (pss_one (ps_ret (pe_call GN hr (by rfl) mN FN.kp bN .nil pass0 (pa_cons (pv 0) (pa_cons (pe_op op_sub (pe_glob (v := .int 10) rfl mH ⟨_, rfl⟩) pe_int) pa_nil))))), ?_⟩
    exact ⟨_, rfl, _, _, rfl, rfl, a, ha, rfl, k⟩
/-- the tie of two houses in any order -/
def spBetw : Sp := fun vs H Q _ => ∃ t : Tie, vs = [.int (t.a : Int), sV t.m, .int (t.b : Int), sV t.o] ∧
  ∀ (p : Addr) (H' : Hp), Same H H' → H p = none → H' p = some (.tup (tieV (nrm t))) → Q (.ref p) H'
theorem ok_betw {f : Addr} {fd : FuncData} (F : Fun K "tie_between" "tie_between" sBetw f fd) : FnOk P w K mg base CX0 1 f fd ["house", "mark", "other", "back"] spBetw := by
  refine F.ok scBetw (fun vs H Q E h => ?_) (fun cdv A outer s H vs Q E hr h => ?_)
  · obtain ⟨t, rfl, _⟩ := h
    rfl
  · obtain ⟨t, rfl, k⟩ := h
    refine ⟨_, (pss_cons (ps_if (pt_cmpR op_lt (pv 0) (pv 2) (nomark _)) (pss_one (ps_ret (pe_tup (pa_cons (pv 0) (pa_cons (pv 1) (pa_cons (pv 2) (pa_cons (pv 3) pa_nil))))))) pss_nil) (pss_one (ps_ret (pe_tup (pa_cons (pv 2) (pa_cons (pv 3) (pa_cons (pv 0) (pa_cons (pv 1) pa_nil)))))))), ?_⟩
    refine ⟨_, rfl, _, rfl, _, _, rfl, rfl, _, rfl, ?_⟩
    by_cases c : t.a < t.b
    · rw [decide_eq_true (show (t.a : Int) < (t.b : Int) by omega)]
      rw [nrm_id c] at k
      exact iteT ⟨_, rfl, _, rfl, _, rfl, _, rfl, (by show 4 ≤ sizeLine; decide), fun q nq => k q _ (same_upd nq) nq upd_same⟩
    · rw [decide_eq_false (show ¬ (t.a : Int) < (t.b : Int) by omega)]
      have e : nrm t = ⟨t.b, t.o, t.a, t.m⟩ := if_neg c
      rw [e] at k
      exact iteF ⟨_, rfl, _, rfl, _, rfl, _, rfl, (by show 4 ≤ sizeLine; decide), fun q nq => k q _ (same_upd nq) nq upd_same⟩
def spLine (K : PySem.W.Frag) : Sp := fun vs H Q _ => ∃ t : Tie, vs = [.str (lineS t)] ∧ RawOk t ∧
  ∀ (p : Addr) (H' : Hp), Same H H' → H p = none → H' p = some (.tup (tieV (nrm t))) → Q (.ref p) H'
theorem ok_line {f fH fY fB : Addr} {fd fdH fdY fdB : FuncData} (F : Fun K "read_line" "read_line" sLine f fd) (mlen : mg "len" = none)
    (GH : FnOk P w K mg base CX0 2 fH fdH ["part"] spRHouse) (FH : Fun K "read_house" "read_house" sRHouse fH fdH) (bH : Binds K fdH ["part"] []) (mH : mg "read_house" = some (.ref fH))
    (GY : FnOk P w K mg base CX0 2 fY fdY ["part"] spMay) (FY : Fun K "may_be_mark" "may_be_mark" sMay fY fdY) (bY : Binds K fdY ["part"] []) (mY : mg "may_be_mark" = some (.ref fY))
    (GB : FnOk P w K mg base CX0 1 fB fdB ["house", "mark", "other", "back"] spBetw) (FB : Fun K "tie_between" "tie_between" sBetw fB fdB) (bB : Binds K fdB ["house", "mark", "other", "back"] []) (mB : mg "tie_between" = some (.ref fB)) :
    FnOk P w K mg base CX0 3 f fd ["line"] (spLine K) := by
  refine F.ok scLine (fun vs H Q E h => ?_) (fun cdv A outer s H vs Q E hr h => ?_)
  · obtain ⟨t, rfl, _⟩ := h
    rfl
  · obtain ⟨t, rfl, ⟨tab, ta, tb, tm, to⟩, k⟩ := h
    have hr1 : Room 1 _ := hr.mono (by decide)
    have hr2 : Room 2 _ := hr
    have may : ∀ c ∈ letters, mayB c = true := fun c hc => by unfold mayB; rw [decide_eq_true hc]; rfl
    refine ⟨_, (C8.pss_cut (ps_set (i := 1) scLine.nd rfl (.inl rfl) (pe_split (pv 0) pe_str)) (pss_cons (ps_if (pt_cmpR op_ne (pe_callB call_len_seq (by rfl) mlen PySem.boot_len (pa_cons (pv 1) pa_nil)) pe_int (nomark _)) (pss_one (ps_ret pe_non)) pss_nil) (C8.pss_cut (ps_par (i := 2) (j := 3) (by rfl) scLine.nd rfl rfl (by decide) rfl rfl (pa_cons (pe_call GH hr2 (by rfl) mH FH.kp bH .nil pass0 (pa_cons (pe_ix ix_list (pv 1) pe_int (fun _ _ => rfl)) pa_nil)) (pa_cons (pe_call GH hr2 (by rfl) mH FH.kp bH .nil pass0 (pa_cons (pe_ix ix_list (pv 1) pe_int (fun _ _ => rfl)) pa_nil)) pa_nil)) (by rfl)) (C8.pss_cut (ps_par (i := 4) (j := 5) (by rfl) scLine.nd rfl rfl (by decide) rfl rfl (pa_cons (pe_ix ix_list (pv 1) pe_int (fun _ _ => rfl)) (pa_cons (pe_ix ix_list (pv 1) pe_int (fun _ _ => rfl)) pa_nil)) (by rfl)) (pss_cons (ps_if (PW.pt (pw_or (pt_cmpR op_isN (pv 2) pe_non (nomark _)) (pw_or (pt_cmpR op_isN (pv 3) pe_non (nomark _)) (pw_or1 (pt_cmpR op_eq (pv 2) (pv 3) (nomark _)))))) (pss_one (ps_ret pe_non)) pss_nil) (pss_cons (ps_if (PW.pt (pw_or (pt_not (pt_val (pe_call GY hr2 (by rfl) mY FY.kp bY .nil pass0 (pa_cons (pv 4) pa_nil)))) (pw_or1 (pt_not (pt_val (pe_call GY hr2 (by rfl) mY FY.kp bY .nil pass0 (pa_cons (pv 5) pa_nil))))))) (pss_one (ps_ret pe_non)) pss_nil) (pss_one (ps_ret (pe_call GB hr1 (by rfl) mB FB.kp bB .nil pass0 (pa_cons (pv 2) (pa_cons (pv 4) (pa_cons (pv 3) (pa_cons (pv 5) pa_nil))))))))))))), ?_⟩
    refine ⟨fun σ H' => ∃ p : Addr, H p = none ∧ H' = upd H p (.lst ((partsS t).map V.str)) ∧ σ = [some (.str (lineS t)), some (.ref p), none, none, none, none], ?_, ?_⟩
    · refine ⟨_, rfl, ⟨_, rfl⟩, _, _, rfl, rfl, (by decide +kernel), (by rw [lineS_len]; show 9 ≤ sizeLine; decide), fun p np => ⟨p, np, ?_, rfl⟩⟩
      rw [line_split tm to]
    rintro σ H1 ⟨p, np, rfl, rfl⟩
    have hp : (upd H p (.lst ((partsS t).map V.str))) p = some (.lst ((partsS t).map V.str)) := upd_same
    generalize hH1 : upd H p (.lst ((partsS t).map V.str)) = H1 at hp
    have s1 : Same H H1 := hH1 ▸ same_upd np
    refine ⟨_, rfl, p, _, rfl, .inl (SqL.of hp), rfl, _, rfl, ?_⟩
    refine iteF ?_
    refine ⟨fun σ H' => H1 = H' ∧ σ = [some (.str (lineS t)), some (.ref p), some (.int (t.a : Int)), some (.int (t.b : Int)), none, none], ?_, ?_⟩
    · exact ⟨_, rfl, p, _, _, _, rfl, rfl, SqL.of hp, (rfl : atI ((partsS t).map V.str) 0 = some (.str (sgn (48 + t.a)))), t.a, by omega, rfl, _, rfl, p, _, _, _, rfl, rfl, SqL.of hp, (rfl : atI ((partsS t).map V.str) 2 = some (.str (sgn (48 + t.b)))), t.b, tb, rfl, _, _, rfl, rfl, rfl⟩
    rintro σ H' ⟨rfl, rfl⟩
    refine ⟨fun σ H' => H1 = H' ∧ σ = [some (.str (lineS t)), some (.ref p), some (.int (t.a : Int)), some (.int (t.b : Int)), some (sV t.m), some (sV t.o)], ?_, ?_⟩
    · exact ⟨_, rfl, p, _, _, _, rfl, rfl, SqL.of hp, (rfl : atI ((partsS t).map V.str) 1 = some (sV t.m)), _, rfl, p, _, _, _, rfl, rfl, SqL.of hp, (rfl : atI ((partsS t).map V.str) 3 = some (sV t.o)), _, _, rfl, rfl, rfl⟩
    rintro σ H' ⟨rfl, rfl⟩
    refine ⟨_, rfl, rfl, _, rfl, ?_⟩
    refine iteF ⟨_, rfl, rfl, _, rfl, ?_⟩
    refine iteF ⟨_, rfl, _, rfl, rfl, _, rfl, ?_⟩
    have nab : ¬ (V.int (t.a : Int) = V.int (t.b : Int)) := fun e => by
      have := V.int.inj e
      omega
    rw [decide_eq_false nab]
    refine iteF ?_
    refine ⟨_, rfl, t.m, rfl, _, rfl, ?_⟩
    rw [may _ tm]
    refine iteF ⟨_, rfl, t.o, rfl, _, rfl, ?_⟩
    rw [may _ to]
    refine iteF ?_
    exact ⟨_, rfl, _, rfl, _, rfl, _, rfl, t, rfl, fun p H' s' np hp => k p H' (Same.trans s1 s') (s1.free np) hp⟩
end
end Wh

namespace Wh
open PySem L2
abbrev sApart : Stmt := topS 31
abbrev sHang : Stmt := topS 32
theorem scApart : FnScope ["ties", "pairs", "ends", "low", "mark", "high", "back", "house", "letter"] ["ties"] (defScope sApart) := ⟨rfl, rfl, rfl, by decide +kernel, rfl, by decide +kernel, by decide +kernel⟩
theorem scHang : FnScope ["ties", "reached", "before", "tie"] ["ties"] (defScope sHang) := ⟨rfl, rfl, rfl, by decide +kernel, rfl, by decide +kernel, by decide +kernel⟩
section
variable {P : Program} {w : World} {K : PySem.W.Frag} {mg : Str → Option Value} {base : Heap}
def spApart (K : PySem.W.Frag) : Sp := fun vs H Q _ => ∃ (l : Addr) (ps : List (Addr × Tie)) (n : Nat), vs = [.ref l] ∧ H l = some (.lst (refs ps)) ∧ At tieV H ps ∧ WebOk n (ps.map (·.2)) ∧ ∀ H', Same H H' → Q (.bl true) H'
theorem upd_dT {H : Hp} {d : Addr} {kvs : List (List Key × V)} {o : HO} (hd : H d = some (.dT kvs)) {b : Addr} {xs : List V} (e : H b = some (.tup xs)) : upd H d o b = some (.tup xs) := put_ne e (ne_of e hd (by intro z; cases z))
theorem ok_apart {f : Addr} {fd : FuncData} (F : Fun K "are_apart" "are_apart" sApart f fd) {tU : Tok} (mU : mg "UNREAD" = some (.str "?" tU)) : FnOk P w K mg base CX0 1 f fd ["ties"] (spApart K) := by
  refine F.ok scApart (fun vs H Q E h => ?_) (fun cdv A outer s H vs Q E hr h => ?_)
  · obtain ⟨l, ps, n, rfl, _⟩ := h
    rfl
  · obtain ⟨l, ps, n, rfl, hl, hA, wk, k⟩ := h
    refine ⟨_, (C8.pss_cut (ps_set (i := 1) scApart.nd rfl (.inl rfl) pe_dnewT) (C8.pss_cut (ps_set (i := 2) scApart.nd rfl (.inl rfl) pe_dnewT) (pss_cons (ps_for PassesOwn.never rfl (pi_list (pv 0)) (pg_tup (by rfl) (pgs_cons (pg_name (i := 3) scApart.nd rfl (.inl rfl)) (pgs_cons (pg_name (i := 4) scApart.nd rfl (.inl rfl)) (pgs_cons (pg_name (i := 5) scApart.nd rfl (.inl rfl)) (pgs_cons (pg_name (i := 6) scApart.nd rfl (.inl rfl)) pgs_nil))))) (C8.pss_cut (ps_if (PW.pt (pw_or (pt_cmp (pc_din (hu_of hr) (pe_tup (pa_cons (pv 3) (pa_cons (pv 5) pa_nil))) (pv 1))) (pw_or (pt_cmp (pc_din (hu_of hr) (pe_tup (pa_cons (pv 3) (pa_cons (pv 4) pa_nil))) (pv 2))) (pw_or1 (pt_cmp (pc_din (hu_of hr) (pe_tup (pa_cons (pv 5) (pa_cons (pv 6) pa_nil))) (pv 2))))))) (pss_one (ps_ret pe_bl)) pss_nil) (C8.pss_cut (ps_dput (hu_of hr) (pv 1) (pe_tup (pa_cons (pv 3) (pa_cons (pv 5) pa_nil))) pe_bl rfl) (pss_one (ps_for PassesOwn.never rfl (pi_tup (pe_tup (pa_cons (pe_tup (pa_cons (pv 3) (pa_cons (pv 4) pa_nil))) (pa_cons (pe_tup (pa_cons (pv 5) (pa_cons (pv 6) pa_nil))) pa_nil)))) (pg_tup (by rfl) (pgs_cons (pg_name (i := 7) scApart.nd rfl (.inl rfl)) (pgs_cons (pg_name (i := 8) scApart.nd rfl (.inl rfl)) pgs_nil))) (pss_one (ps_if (pt_cmpR op_ne (pv 8) (pe_glob (v := .str "?") rfl mU ⟨_, rfl⟩) (nomark _)) (pss_one (ps_dput (hu_of hr) (pv 2) (pe_tup (pa_cons (pv 7) (pa_cons (pv 8) pa_nil))) pe_bl rfl)) pss_nil))))))) (pss_one (ps_ret pe_bl))))), ?_⟩
    refine ⟨fun σ H' => Same H H' ∧ ∃ d1 : Addr, H d1 = none ∧ H' d1 = some (.dT []) ∧ σ = [some (.ref l), some (.ref d1), none, none, none, none, none, none, none], ?_, ?_⟩
    · exact fun d1 n1 => ⟨same_upd n1, d1, n1, upd_same, rfl⟩
    rintro σ H1 ⟨s1, d1, n1, e1, rfl⟩
    refine ⟨fun σ H' => Same H H' ∧ ∃ d2 : Addr, H d2 = none ∧ d1 ≠ d2 ∧ H' d1 = some (.dT []) ∧ H' d2 = some (.dT []) ∧ σ = [some (.ref l), some (.ref d1), some (.ref d2), none, none, none, none, none, none], ?_, ?_⟩
    · exact fun d2 n2 => ⟨s1.put n2, d2, s1.free n2, ne_of_none e1 n2, put_old e1 n2, upd_same, rfl⟩
    rintro σ H2 ⟨s2, d2, n2, n12, e1, e2, rfl⟩
    refine ⟨_, rfl, l, rfl, ⟨_, SqL.of (s2 _ _ hl)⟩, for_list (K := K) (a := l) (xs := refs ps) (fun i σ H' => Same H H' ∧ H' d1 = some (.dT (prK ((ps.map (·.2)).take i))) ∧ H' d2 = some (.dT (endK ((ps.map (·.2)).take i))) ∧
        ∃ w3 w4 w5 w6 w7 w8 : Option V, σ = [some (.ref l), some (.ref d1), some (.ref d2), w3, w4, w5, w6, w7, w8])
      ⟨s2, e1, e2, none, none, none, none, none, none, rfl⟩ (fun i σ H' _ ⟨s, _⟩ => SqL.of (s _ _ hl)) ?_ ?_⟩
    · rintro i x σ H3 hx ⟨s3, e1, e2, w3, w4, w5, w6, w7, w8, rfl⟩
      obtain ⟨⟨p, t⟩, hk, rfl⟩ := refs_get hx
      have hp : H3 p = some (.tup (tieV t)) := s3 _ _ (hA _ (List.mem_of_getElem? hk))
      have hkt : (ps.map (·.2))[i]? = some t := by rw [List.getElem?_map, hk]; rfl
      obtain ⟨tab, tbn⟩ := wk.lt t (List.mem_of_getElem? hkt)
      have ne : t.a ≠ t.b := by omega
      have lenT : ((ps.map (·.2)).take i).length ≤ 100 := by
        have := wk.len
        rw [List.length_take]
        omega
      have v1 := prK_no (pr_new wk hkt)
      have v2 := endK_no (mark_new_a wk.uniq hkt ne)
      have v3 := endK_no (mark_new_b wk.uniq hkt ne)
      have v4 := endK_no2 wk hkt
      refine ⟨p, _, rfl, SqT.of hp, rfl, _, _, rfl, _, _, rfl, _, _, rfl, _, _, rfl, rfl, ?_⟩
      have sz1 : (prK ((ps.map (·.2)).take i)).length < sizeLine := by
        rw [prK_len]
        exact small1000 (by omega)
      have sz2 : (endK ((ps.map (·.2)).take i)).length < sizeLine := by
        rw [endK_len]
        exact small1000 (by omega)
      have sz3 : (endK ((ps.map (·.2)).take i) ++ [(kE t.a t.m, V.bl true)]).length < sizeLine := by
        rw [List.length_append, endK_len]
        exact small1000 (by show 2 * ((ps.map (·.2)).take i).length + 1 ≤ 1000; omega)
      refine ⟨fun σ H' => Same H H' ∧ H' d1 = some (.dT (prK ((ps.map (·.2)).take i))) ∧ H' d2 = some (.dT (endK ((ps.map (·.2)).take i))) ∧
        σ = [some (.ref l), some (.ref d1), some (.ref d2), some (.int (t.a : Int)), some (sV t.m), some (.int (t.b : Int)), some (sV t.o), w7, w8], ?_, ?_⟩
      · refine ⟨_, rfl, _, rfl, (by show 2 ≤ sizeLine; decide), fun q1 m1 => ?_⟩
        have u1 := put_old (u := HO.tup [.int (t.a : Int), .int (t.b : Int)]) e1 m1
        have u2 := put_old (u := HO.tup [.int (t.a : Int), .int (t.b : Int)]) e2 m1
        refine ⟨_, rfl, d1, _, rfl, DGet.t (k := kP t.pr) u1 upd_same, _, rfl, ?_⟩
        rw [v1]
        refine iteF ⟨_, rfl, _, rfl, (by show 2 ≤ sizeLine; decide), fun q2 m2 => ?_⟩
        have u3 := put_old (u := HO.tup [.int (t.a : Int), sV t.m]) u1 m2
        have u4 := put_old (u := HO.tup [.int (t.a : Int), sV t.m]) u2 m2
        refine ⟨_, rfl, d2, _, rfl, DGet.t (k := kE t.a t.m) u4 upd_same, _, rfl, ?_⟩
        rw [v2]
        refine iteF ⟨_, rfl, _, rfl, (by show 2 ≤ sizeLine; decide), fun q3 m3 => ?_⟩
        have u5 := put_old (u := HO.tup [.int (t.b : Int), sV t.o]) u3 m3
        have u6 := put_old (u := HO.tup [.int (t.b : Int), sV t.o]) u4 m3
        refine ⟨_, rfl, d2, _, rfl, DGet.t (k := kE t.b t.o) u6 upd_same, _, rfl, ?_⟩
        rw [v3]
        exact iteF ⟨((s3.put m1).put m2).put m3, u5, u6, rfl⟩
      rintro σ H6 ⟨s6, u5, u6, rfl⟩
      refine ⟨fun σ H' => Same H H' ∧ H' d1 = some (.dT (prK ((ps.map (·.2)).take i) ++ [(kP t.pr, .bl true)])) ∧ H' d2 = some (.dT (endK ((ps.map (·.2)).take i))) ∧
        σ = [some (.ref l), some (.ref d1), some (.ref d2), some (.int (t.a : Int)), some (sV t.m), some (.int (t.b : Int)), some (sV t.o), w7, w8], ?_, ?_⟩
      · refine ⟨_, rfl, _, rfl, _, rfl, (by show 2 ≤ sizeLine; decide), fun q4 m4 => ⟨d1, _, rfl, DPut.t (k := kP t.pr) (put_old u5 m4) upd_same sz1, ?_⟩⟩
        rw [putK_new _ v1]
        exact ⟨(s6.put m4).own n1, upd_same, put_ne (put_old u6 m4) n12.symm, rfl⟩
      rintro σ H8 ⟨s8, f1, f2, rfl⟩
      -- the two ends, one behind the other
      have nU : ∀ c ∈ letters, ¬ (V.str (sgn c) = V.str ("?" : Str)) := fun c hc e => by
        rw [unread_sgn] at e
        have := sgn_inj (V.str.inj e)
        have := letters_big _ hc
        omega
      obtain ⟨lm, lo⟩ := wk.let_ t (List.mem_of_getElem? hkt)
      refine ⟨_, rfl, _, rfl, (by show 2 ≤ sizeLine; decide), fun q5 m5 => ⟨_, rfl, _, rfl, (by show 2 ≤ sizeLine; decide), fun q6 m6 => ⟨(by show 2 ≤ sizeLine; decide), fun q7 m7 => ?_⟩⟩⟩
      have hq5 := put_old (put_old upd_same m6 : (upd (upd H8 q5 (.tup [.int (t.a : Int), sV t.m])) q6 (.tup [.int (t.b : Int), sV t.o])) q5 = some (.tup [.int (t.a : Int), sV t.m])) m7 (u := HO.tup [.ref q5, .ref q6])
      have hq6 := put_old (upd_same : (upd (upd H8 q5 (.tup [.int (t.a : Int), sV t.m])) q6 (.tup [.int (t.b : Int), sV t.o])) q6 = some (.tup [.int (t.b : Int), sV t.o])) m7 (u := HO.tup [.ref q5, .ref q6])
      have s9 := L2.Same.put (o := HO.tup [V.ref q5, V.ref q6]) ((s8.put m5).put m6) m7
      have g1 := put_old (put_old (put_old f1 m5) m6) m7 (u := HO.tup [.ref q5, .ref q6])
      have g2 := put_old (put_old (put_old f2 m5) m6) m7 (u := HO.tup [.ref q5, .ref q6])
      have hq7 : (upd (upd (upd H8 q5 (.tup [.int (t.a : Int), sV t.m])) q6 (.tup [.int (t.b : Int), sV t.o])) q7 (.tup [.ref q5, .ref q6])) q7 = some (.tup [.ref q5, .ref q6]) := upd_same
      revert hq5 hq6 s9 g1 g2 hq7
      generalize (upd (upd (upd H8 q5 (.tup [.int (t.a : Int), sV t.m])) q6 (.tup [.int (t.b : Int), sV t.o])) q7 (.tup [.ref q5, .ref q6])) = H9
      intro hq5 hq6 s9 g1 g2 hq7
      refine ⟨q7, rfl, ⟨_, SqT.of hq7⟩, for_tup (K := K) (a := q7) (xs := [.ref q5, .ref q6]) (fun j σ H' => (Same H H' ∧ H' d1 = some (.dT (prK ((ps.map (·.2)).take i) ++ [(kP t.pr, .bl true)])) ∧ H' q5 = some (.tup [.int (t.a : Int), sV t.m]) ∧ H' q6 = some (.tup [.int (t.b : Int), sV t.o]) ∧ H' q7 = some (.tup [.ref q5, .ref q6])) ∧
          H' d2 = some (.dT (endK ((ps.map (·.2)).take i) ++ ([(kE t.a t.m, V.bl true), (kE t.b t.o, .bl true)]).take j)) ∧
          ∃ w7 w8 : Option V, σ = [some (.ref l), some (.ref d1), some (.ref d2), some (.int (t.a : Int)), some (sV t.m), some (.int (t.b : Int)), some (sV t.o), w7, w8])
        ⟨⟨s9, g1, hq5, hq6, hq7⟩, (by rw [List.take_zero, List.append_nil]; exact g2), _, _, rfl⟩ (fun j σ H' _ ⟨⟨_, _, _, _, e⟩, _⟩ => SqT.of e) ?_ ?_⟩
      · rintro j x σ H10 hj ⟨⟨s10, g1, hq5, hq6, hq7⟩, g2, w7, w8, rfl⟩
        match j, hj, g2 with
        | 0, hj, g2 =>
          obtain rfl := Option.some.inj hj
          rw [List.take_zero, List.append_nil] at g2
          refine ⟨q5, _, rfl, SqT.of hq5, rfl, _, _, rfl, _, _, rfl, rfl, ?_⟩
          refine ⟨_, rfl, rfl, true, congrArg V.bl (show (!decide (V.str (sgn t.m) = V.str ("?" : Str))) = true by rw [decide_eq_false (nU _ lm)]; rfl), ?_⟩
          refine iteT ⟨_, rfl, _, rfl, _, rfl, (by show 2 ≤ sizeLine; decide), fun q8 m8 => ⟨d2, _, rfl, DPut.t (k := kE t.a t.m) (put_old g2 m8) upd_same sz2, ?_⟩⟩
          rw [putK_new _ v2]
          refine ⟨⟨(s10.put m8).own n2, put_ne (put_old g1 m8) n12, upd_dT (put_old g2 m8) (put_old hq5 m8), upd_dT (put_old g2 m8) (put_old hq6 m8), upd_dT (put_old g2 m8) (put_old hq7 m8)⟩, upd_same, _, _, rfl⟩
        | 1, hj, g2 =>
          obtain rfl := Option.some.inj hj
          refine ⟨q6, _, rfl, SqT.of hq6, rfl, _, _, rfl, _, _, rfl, rfl, ?_⟩
          refine ⟨_, rfl, rfl, true, congrArg V.bl (show (!decide (V.str (sgn t.o) = V.str ("?" : Str))) = true by rw [decide_eq_false (nU _ lo)]; rfl), ?_⟩
          refine iteT ⟨_, rfl, _, rfl, _, rfl, (by show 2 ≤ sizeLine; decide), fun q8 m8 => ⟨d2, _, rfl, DPut.t (k := kE t.b t.o) (put_old g2 m8) upd_same sz3, ?_⟩⟩
          rw [show ([(kE t.a t.m, V.bl true), (kE t.b t.o, .bl true)]).take 1 = [(kE t.a t.m, V.bl true)] from rfl, putK_new _ v4]
          refine ⟨⟨(s10.put m8).own n2, put_ne (put_old g1 m8) n12, upd_dT (put_old g2 m8) (put_old hq5 m8), upd_dT (put_old g2 m8) (put_old hq6 m8), upd_dT (put_old g2 m8) (put_old hq7 m8)⟩, ?_, _, _, rfl⟩
          rw [List.append_assoc]
          exact upd_same
        | j + 2, hj, _ => cases hj
      · rintro σ H10 ⟨⟨s10, g1, _, _, _⟩, g2, w7, w8, rfl⟩
        refine ⟨s10, ?_, ?_, _, _, _, _, _, _, rfl⟩
        · rw [List.take_succ, hkt]
          exact g1.trans (by rw [show (some t).toList = [t] from rfl, prK_snoc])
        · rw [List.take_succ, hkt]
          exact g2.trans (by rw [show (some t).toList = [t] from rfl, endK_snoc, List.append_assoc]; rfl)
    · rintro σ H3 ⟨s3, e1, e2, w3, w4, w5, w6, w7, w8, rfl⟩
      exact k H3 s3
theorem ok_hang {f fC : Addr} {fd fdC : FuncData} (F : Fun K "hang_together" "hang_together" sHang f fd) (mlen : mg "len" = none) (mmax : mg "max" = none) (FC : Fun K "count_houses" "count_houses" sCount fC fdC) (bC : Binds K fdC ["ties"] []) (mC : mg "count_houses" = some (.ref fC)) :
    FnOk P w K mg base CX0 2 f fd ["ties"] (spApart K) := by
  have GC : FnOk P w K mg base CX0 1 fC fdC ["ties"] (spCount K) := ok_count FC mmax
  refine F.ok scHang (fun vs H Q E h => ?_) (fun cdv A outer s H vs Q E hr h => ?_)
  · obtain ⟨l, ps, n, rfl, _⟩ := h
    rfl
  · obtain ⟨l, ps, n, rfl, hl, hA, wk, k⟩ := h
    have n2 := wk.n2
    have n10 := wk.n10
    refine ⟨_, (C8.pss_cut (ps_set (i := 1) scHang.nd rfl (.inl rfl) (pe_disp (pps_cons pe_int pe_bl pps_nil) (by rfl) (by rfl) (fun z => by cases z) (by decide))) (pss_cons (ps_set (i := 2) scHang.nd rfl (.inl rfl) pe_int) (C8.pss_cut (ps_while PassesOwn.never (pt_cmpR op_lt (pv 2) (pe_callB call_lenD (by rfl) mlen PySem.boot_len (pa_cons (pv 1) pa_nil)) (nomark _)) (pss_cons (ps_set (i := 2) scHang.nd rfl (.inl rfl) (pe_callB call_lenD (by rfl) mlen PySem.boot_len (pa_cons (pv 1) pa_nil))) (pss_one (ps_for PassesOwn.never rfl (pi_list (pv 0)) (pg_name (i := 3) scHang.nd rfl (.inl rfl)) (pss_one (ps_if (PW.pt (pw_or (pt_cmp (pc_din (hu_of hr) (pe_ix ix_tup (pv 3) pe_int (fun _ _ => rfl)) (pv 1))) (pw_or1 (pt_cmp (pc_din (hu_of hr) (pe_ix ix_tup (pv 3) pe_int (fun _ _ => rfl)) (pv 1)))))) (pss_cons (ps_dput (hu_of hr) (pv 1) (pe_ix ix_tup (pv 3) pe_int (fun _ _ => rfl)) pe_bl rfl) (pss_one (ps_dput (hu_of hr) (pv 1) (pe_ix ix_tup (pv 3) pe_int (fun _ _ => rfl)) pe_bl rfl))) pss_nil)))))) (pss_one (ps_ret (pe_cmpR op_eq (pe_callB call_lenD (by rfl) mlen PySem.boot_len (pa_cons (pv 1) pa_nil)) (pe_call GC hr (by rfl) mC FC.kp bC .nil pass0 (pa_cons (pv 0) pa_nil)) (nomark _))))))), ?_⟩
    refine ⟨fun σ H' => Same H H' ∧ ∃ d : Addr, H d = none ∧ H' d = some (.dK (reachK [0])) ∧ σ = [some (.ref l), some (.ref d), none, none], ?_, ?_⟩
    · refine fun d nd => ⟨upd_same, [(Sum.inl 0, .bl true)], rfl, by decide, ?_⟩
      exact ⟨(same_upd nd).own nd, d, nd, upd_same, rfl⟩
    rintro σ H1 ⟨s1, d, nd, e1, rfl⟩
    refine ⟨fun σ H' => Same H H' ∧ ∃ (hs : List Nat) (w2 w3 : Option V), H' d = some (.dK (reachK hs)) ∧ hs.length = n ∧ σ = [some (.ref l), some (.ref d), w2, w3], ?_, ?_⟩
    · refine ⟨fun m σ H' => Same H H' ∧ ∃ (hs : List Nat) (before : Nat) (w3 : Option V), H' d = some (.dK (reachK hs)) ∧ Reach n hs ∧ before ≤ hs.length ∧ m = n - before ∧ (before = hs.length → ∀ t ∈ ps.map (·.2), t.a ∈ hs ↔ t.b ∈ hs) ∧
          σ = [some (.ref l), some (.ref d), some (.int (before : Int)), w3],
        ⟨n, s1, [0], 0, none, e1, ⟨by simp, fun h hh => by rw [List.mem_singleton.mp hh]; omega, by simp⟩, by simp, rfl, (fun e => by simp at e), rfl⟩, ?_⟩
      rintro m σ H2 ⟨s2, hs, before, w3, e2, rc, hb, rfl, cl, rfl⟩
      refine ⟨_, rfl, _, rfl, d, _, rfl, e2, _, _, rfl, rfl, _, rfl, ?_⟩
      have el : (reachK hs).length = hs.length := List.length_map _
      have rlen := rc.len
      refine ite2 (fun hlt => ?_) (fun hlt => ?_)
      · have hlt := of_decide_eq_true hlt
        rw [el] at hlt
        refine ⟨fun σ H' => Same H H' ∧ ∃ (hs2 : List Nat) (w3 : Option V), H' d = some (.dK (reachK hs2)) ∧ Reach n hs2 ∧ hs.length ≤ hs2.length ∧ (hs.length = hs2.length → ∀ t ∈ ps.map (·.2), t.a ∈ hs2 ↔ t.b ∈ hs2) ∧
            σ = [some (.ref l), some (.ref d), some (.int (hs.length : Int)), w3], ?_, ?_⟩
        · rintro σ' H' ⟨s3, hs2, w3, e3, rc3, hb3, cl3, rfl⟩
          exact ⟨n - hs.length, by omega, s3, hs2, hs.length, w3, e3, rc3, hb3, rfl, cl3, rfl⟩
        · -- before = len(reached); for tie in ties
          refine ⟨_, rfl, d, _, rfl, e2, ?_⟩
          rw [el]
          refine ⟨_, rfl, l, rfl, ⟨_, SqL.of (s2 _ _ hl)⟩, for_list (K := K) (a := l) (xs := refs ps) (fun i σ H' => Same H H' ∧ ∃ (hs2 : List Nat) (w3 : Option V), H' d = some (.dK (reachK hs2)) ∧ Reach n hs2 ∧ hs.length ≤ hs2.length ∧
              (hs.length = hs2.length → ∀ t ∈ (ps.map (·.2)).take i, t.a ∈ hs2 ↔ t.b ∈ hs2) ∧ σ = [some (.ref l), some (.ref d), some (.int (hs.length : Int)), w3])
            ⟨s2, hs, w3, e2, rc, Nat.le_refl _, (fun _ t ht => by cases ht), rfl⟩ (fun i σ H' _ ⟨s, _⟩ => SqL.of (s _ _ hl)) ?_ ?_⟩
          · rintro i x σ H3 hx ⟨s3, hs2, w3, e3, rc3, hb3, cl3, rfl⟩
            obtain ⟨⟨p, t⟩, hk, rfl⟩ := refs_get hx
            have hp : H3 p = some (.tup (tieV t)) := s3 _ _ (hA _ (List.mem_of_getElem? hk))
            have hkt : (ps.map (·.2))[i]? = some t := by rw [List.getElem?_map, hk]; rfl
            obtain ⟨tab, tbn⟩ := wk.lt t (List.mem_of_getElem? hkt)
            obtain ⟨rp, lp, cp⟩ := rc3.pass (t := t) (by omega) tbn
            have fin : ∀ H', Same H H' → H' d = some (.dK (reachK (passT hs2 t))) → Same H H' ∧ ∃ (hs2 : List Nat) (w3 : Option V), H' d = some (.dK (reachK hs2)) ∧ Reach n hs2 ∧ hs.length ≤ hs2.length ∧
                (hs.length = hs2.length → ∀ t ∈ (ps.map (·.2)).take (i + 1), t.a ∈ hs2 ↔ t.b ∈ hs2) ∧ [some (V.ref l), some (.ref d), some (.int (hs.length : Int)), some (.ref p)] = [some (.ref l), some (.ref d), some (.int (hs.length : Int)), w3] := fun H' s' e' => by
              refine ⟨s', passT hs2 t, _, e', rp, by omega, fun e u hu => ?_, rfl⟩
              obtain ⟨c1, c2⟩ := cp (by omega)
              rw [c1] at e ⊢
              rw [List.take_succ, hkt] at hu
              rcases List.mem_append.mp hu with z | z
              · exact cl3 e u z
              · have : u = t := by simpa using z
                rw [this]
                exact c2
            have atA : atI (tieV t) 0 = some (.int (t.a : Int)) := rfl
            have atB : atI (tieV t) 2 = some (.int (t.b : Int)) := rfl
            have g1 : DGet H3 d (.int (t.a : Int)) _ := DGet.k (k := Sum.inl (t.a : Int)) e3
            have g2 : DGet H3 d (.int (t.b : Int)) _ := DGet.k (k := Sum.inl (t.b : Int)) e3
            have sz : ∀ hs : List Nat, Reach n hs → (reachK hs).length < sizeLine := fun hs r => by
              have h1 : (reachK hs).length = hs.length := List.length_map _
              have h2 := r.len
              rw [h1]
              exact small1000 (by omega)
            have both : t.a ∈ hs2 ∨ t.b ∈ hs2 → passT hs2 t = addH (addH hs2 t.a) t.b := fun h => if_pos h
            have none_ : ¬ (t.a ∈ hs2 ∨ t.b ∈ hs2) → passT hs2 t = hs2 := fun h => if_neg h
            have rc4 : Reach n (addH hs2 t.a) := ⟨addH_nd _ rc3.nd, fun x hx => (addH_mem.mp hx).elim (rc3.lt x) fun e => by rw [e]; omega, addH_mem.mpr (.inl rc3.zero)⟩
            refine ⟨_, rfl, p, _, _, _, rfl, rfl, SqT.of hp, atA, _, rfl, d, _, rfl, g1, _, rfl, ?_⟩
            rw [reach_val]
            refine ite2 (fun h => ?_) (fun h => ?_)
            · have h := of_decide_eq_true h
              refine iteT ?_
              refine ⟨_, rfl, _, rfl, p, _, _, _, rfl, rfl, SqT.of hp, atA, d, _, rfl, DPut.k (k := Sum.inl (t.a : Int)) e3 (sz _ rc3), ?_⟩
              rw [reach_put]
              refine ⟨_, rfl, _, rfl, p, _, _, _, rfl, rfl, SqT.of (put_ne hp (ne_of hp e3 (by intro z; cases z))), atB, d, _, rfl, DPut.k (k := Sum.inl (t.b : Int)) upd_same (sz _ rc4), ?_⟩
              rw [reach_put]
              exact fin _ ((s3.own nd).own nd) (upd_same.trans (by rw [both (.inl h)]))
            · have h := fun z => h (decide_eq_true z)
              refine ⟨_, rfl, p, _, _, _, rfl, rfl, SqT.of hp, atB, _, rfl, d, _, rfl, g2, _, rfl, ?_⟩
              rw [reach_val]
              refine ite2 (fun h2 => ?_) (fun h2 => ?_)
              · have h2 := of_decide_eq_true h2
                refine ⟨_, rfl, _, rfl, p, _, _, _, rfl, rfl, SqT.of hp, atA, d, _, rfl, DPut.k (k := Sum.inl (t.a : Int)) e3 (sz _ rc3), ?_⟩
                rw [reach_put]
                refine ⟨_, rfl, _, rfl, p, _, _, _, rfl, rfl, SqT.of (put_ne hp (ne_of hp e3 (by intro z; cases z))), atB, d, _, rfl, DPut.k (k := Sum.inl (t.b : Int)) upd_same (sz _ rc4), ?_⟩
                rw [reach_put]
                exact fin _ ((s3.own nd).own nd) (upd_same.trans (by rw [both (.inr h2)]))
              · have h2 := fun z => h2 (decide_eq_true z)
                exact fin _ s3 (by rw [none_ (fun z => z.elim h h2)]; exact e3)
          · rintro σ H3 ⟨s3, hs2, w3, e3, rc3, hb3, cl3, rfl⟩
            rw [refs_len, List.take_of_length_le (by rw [List.length_map]; exact Nat.le_refl _)] at cl3
            exact ⟨s3, hs2, w3, e3, rc3, hb3, cl3, rfl⟩
      · have hge : ¬ ((before : Int) < ((reachK hs).length : Int)) := fun z => hlt (decide_eq_true z)
        rw [el] at hge
        exact ⟨s2, hs, _, _, e2, reach_all wk rc (cl (by omega)), rfl⟩
    rintro σ H2 ⟨s2, hs, w2, w3, e2, hn, rfl⟩
    refine ⟨_, rfl, d, _, rfl, e2, _, rfl, l, ps, n, rfl, s2 _ _ hl, hA.same s2, wk, fun H3 s3 => ⟨rfl, ?_⟩⟩
    have el : (reachK hs).length = hs.length := List.length_map _
    rw [el, hn]
    rw [decide_eq_true rfl]
    exact k H3 (Same.trans s2 s3)
end
end Wh

namespace Wh
open PySem L2
abbrev sPlain : Stmt := topS 34
abbrev sTies : Stmt := topS 24
abbrev sTorn : Stmt := topS 25
theorem scPlain : FnScope ["ties", "rows", "low", "mark", "high", "back"] ["ties"] (defScope sPlain) := ⟨rfl, rfl, rfl, by decide +kernel, rfl, by decide +kernel, by decide +kernel⟩
theorem scTies : FnScope ["text"] ["text"] (defScope sTies) := ⟨rfl, rfl, rfl, by decide +kernel, rfl, by decide +kernel, by decide +kernel⟩
theorem scTorn : FnScope ["text", "ties", "line", "tie"] ["text"] (defScope sTorn) := ⟨rfl, rfl, rfl, by decide +kernel, rfl, by decide +kernel, by decide +kernel⟩
section
variable {P : Program} {w : World} {K : PySem.W.Frag} {mg : Str → Option Value} {base : Heap}
/-- the ties of a list in any order: the text of them in order -/
def spPlain (K : PySem.W.Frag) : Sp := fun vs H Q _ => ∃ (l : Addr) (ps : List (Addr × Tie)) (n : Nat), vs = [.ref l] ∧ H l = some (.lst (refs ps)) ∧ At tieV H ps ∧ WebOk n (ps.map (·.2)) ∧
  ∀ (ts : List Tie) (H' : Hp), Same H H' → ts.Perm (ps.map (·.2)) → (ts.map Tie.pr).Pairwise PrLt → Q (.str (webS ts)) H'
theorem ok_plain {f : Addr} {fd : FuncData} (F : Fun K "plain_text" "plain_text" sPlain f fd) (msorted : mg "sorted" = none) : FnOk P w K mg base CX0 1 f fd ["ties"] (spPlain K) := by
  refine F.ok scPlain (fun vs H Q E h => ?_) (fun cdv A outer s H vs Q E hr h => ?_)
  · obtain ⟨l, ps, n, rfl, _⟩ := h
    rfl
  · obtain ⟨l, ps, n, rfl, hl, hA, wk, k⟩ := h
    have len100 : ps.length ≤ 100 := by
      have := wk.len
      rw [List.length_map] at this
      exact this
    refine ⟨_, (C8.pss_cut (ps_set (i := 1) scPlain.nd rfl (.inl rfl) (pe_mid (pe_callB (cr_sortD hr.units) (by rfl) msorted (by decide +kernel) (pa_cons (pe_lc (own := [("low", 2), ("mark", 3), ("high", 4), ("back", 5)]) (tt := tYes) rfl scPlain.nd (pi_list (pv 0)) (blkOk_by (N := ["ties", "rows", "low", "mark", "high", "back"]) (own := [("low", 2), ("mark", 3), ("high", 4), ("back", 5)]) (sc := defScope sPlain) (by decide +kernel)) (fun _ _ _ _ _ => (pg_tupK K 4 rfl (by rfl) (pgs_cons (pg_name (i := 2) scPlain.nd rfl (.inl rfl)) (pgs_cons (pg_name (i := 3) scPlain.nd rfl (.inl rfl)) (pgs_cons (pg_name (i := 4) scPlain.nd rfl (.inl rfl)) (pgs_cons (pg_name (i := 5) scPlain.nd rfl (.inl rfl)) pgs_nil)))))) (fun _ _ _ _ _ => pts_nil) (fun _ _ _ _ _ => (pe_tup (pa_cons (pv 2) (pa_cons (pv 4) (pa_cons (pv 3) (pa_cons (pv 5) pa_nil))))))) pa_nil)))) (pss_one (ps_ret (pe_joinK K rfl pe_str (pe_lc (own := [("low", 2), ("high", 4), ("mark", 3), ("back", 5)]) (tt := tYes) rfl scPlain.nd (pi_list (pv 1)) (blkOk_by (N := ["ties", "rows", "low", "mark", "high", "back"]) (own := [("low", 2), ("high", 4), ("mark", 3), ("back", 5)]) (sc := defScope sPlain) (by decide +kernel)) (fun _ _ _ _ _ => (pg_tupK K 4 rfl (by rfl) (pgs_cons (pg_name (i := 2) scPlain.nd rfl (.inl rfl)) (pgs_cons (pg_name (i := 4) scPlain.nd rfl (.inl rfl)) (pgs_cons (pg_name (i := 3) scPlain.nd rfl (.inl rfl)) (pgs_cons (pg_name (i := 5) scPlain.nd rfl (.inl rfl)) pgs_nil)))))) (fun _ _ _ _ _ => pts_nil) (fun _ _ _ _ _ => (pe_fs (PJ.cons (pe_fmt (pv 2)) (PJ.cons pe_str (PJ.cons (pe_fmt (pv 3)) (PJ.cons pe_str (PJ.cons (pe_fmt (pv 4)) (PJ.cons pe_str (PJ.cons (pe_fmt (pv 5)) PJ.nil)))))))))))))), ?_⟩
    refine ⟨fun σ H' => Same H H' ∧ ∃ (r : Addr) (qs : List (Addr × Tie)), H' r = some (.lst (refs qs)) ∧ At rowV H' qs ∧ (qs.map (·.2)).Perm (ps.map (·.2)) ∧ qs.Pairwise (fun p q => (!PySem.W.dataLt (tD (rowV q.2)) (tD (rowV p.2))) = true) ∧
      σ = [some (.ref l), some (.ref r), none, none, none, none], ?_, ?_⟩
    · refine ⟨fun v H' => Same H H' ∧ ∃ (r : Addr) (qs : List (Addr × Tie)), v = .ref r ∧ H' r = some (.lst (refs qs)) ∧ At rowV H' qs ∧ (qs.map (·.2)).Perm (ps.map (·.2)) ∧ qs.Pairwise (fun p q => (!PySem.W.dataLt (tD (rowV q.2)) (tD (rowV p.2))) = true), ?_, ?_⟩
      · refine ⟨_, rfl, l, rfl, ⟨_, SqL.of hl⟩, fun D nD => ?_⟩
        refine lc_list (K := K) (a := l) (xs := refs ps) (fun i H' => Same H H' ∧ ∃ qs : List (Addr × Tie), H' D = some (.lst (refs qs)) ∧ At rowV H' qs ∧ qs.map (·.2) = (ps.map (·.2)).take i) ⟨same_upd nD, [], upd_same, (fun p hp => by cases hp), rfl⟩ (fun i H' _ ⟨s, _⟩ => SqL.of (s _ _ hl)) ?_ ?_
        · rintro i x H1 hx ⟨s1, qs, hD, hQ, hq⟩
          obtain ⟨⟨p, t⟩, hk, rfl⟩ := refs_get hx
          have hp : H1 p = some (.tup (tieV t)) := s1 _ _ (hA _ (List.mem_of_getElem? hk))
          have hkt : (ps.map (·.2))[i]? = some t := by rw [List.getElem?_map, hk]; rfl
          refine ⟨p, _, rfl, SqT.of hp, rfl, _, _, rfl, _, _, rfl, _, _, rfl, _, _, rfl, rfl, rfl, ?_⟩
          refine ⟨_, rfl, _, rfl, _, rfl, _, rfl, (by show 4 ≤ sizeLine; decide), fun q nq => ?_⟩
          have hDq := put_old (u := HO.tup (rowV t)) hD nq
          have eql : qs.length = ((ps.map (·.2)).take i).length := by
            rw [← hq, List.length_map]
          refine ⟨_, hDq, ?_, ((s1.put nq).own nD), qs ++ [(q, t)], ?_, ?_, ?_⟩
          · rw [refs_len, eql, List.length_take, List.length_map]
            exact small1000 (by omega)
          · rw [upd_same, refs_app]
            rfl
          · exact At.snoc ((hQ.same (same_upd nq)).mono (upd_tup hDq)) (put_ne upd_same (ne_of_none hD nq).symm)
          · rw [List.map_append, hq, List.take_succ, hkt]
            rfl
        · rintro H1 ⟨s1, qs, hD, hQ, hq⟩
          rw [refs_len, List.take_of_length_le (by rw [List.length_map]; exact Nat.le_refl _)] at hq
          have hnb : ∀ p ∈ qs, (rowV p.2).all nb = true := fun p hp => by
            have m : p.2 ∈ ps.map (·.2) := by
              rw [← hq]
              exact List.mem_map_of_mem hp
            exact rowV_nb (wk.let_ _ m).1 (wk.let_ _ m).2
          have hs : rSortD K [.ref D] H1 (fun v H' => Same H H' ∧ ∃ (r : Addr) (qs : List (Addr × Tie)), v = .ref r ∧ H' r = some (.lst (refs qs)) ∧ At rowV H' qs ∧ (qs.map (·.2)).Perm (ps.map (·.2)) ∧ qs.Pairwise (fun p q => (!PySem.W.dataLt (tD (rowV q.2)) (tD (rowV p.2))) = true)) :=
            sort_rows2 rowV (SqL.of hD) hQ hnb row_alike (fun x => ⟨_, _, rfl⟩) fun z rs hp hw nz => ⟨s1.put nz, z, rs, rfl, upd_same, (hQ.same (same_upd nz)).perm hp.symm, by rw [← hq]; exact hp.map _, hw⟩
          exact hs
      · rintro _ H1 ⟨s1, r, qs, rfl, h1, h2, h3, h4⟩
        exact ⟨s1, r, qs, h1, h2, h3, h4, rfl⟩
    rintro σ H1 ⟨s1, r, qs, hr1, hQ, hperm, hpw, rfl⟩
    have srt := rows_srt ((hperm.map Tie.pr).nodup_iff.mpr wk.pnd) hpw
    have qlen : qs.length ≤ 100 := by
      have := hperm.length_eq
      rw [List.length_map, List.length_map] at this
      omega
    refine ⟨⟨_, rfl⟩, _, rfl, r, rfl, ⟨_, SqL.of hr1⟩, fun D nD => ?_⟩
    refine lc_list (K := K) (a := r) (xs := refs qs) (fun i H' => Same H1 H' ∧ H' D = some (.lst ((((qs.map (·.2)).take i).map lineS).map V.str))) ⟨same_upd nD, upd_same⟩ (fun i H' _ ⟨s, _⟩ => SqL.of (s _ _ hr1)) ?_ ?_
    · rintro i x H2 hx ⟨s2, hD⟩
      obtain ⟨⟨p, t⟩, hk, rfl⟩ := refs_get hx
      have hp : H2 p = some (.tup (rowV t)) := s2 _ _ (hQ _ (List.mem_of_getElem? hk))
      have hkt : (qs.map (·.2))[i]? = some t := by rw [List.getElem?_map, hk]; rfl
      have mt : t ∈ ps.map (·.2) := hperm.mem_iff.mp (List.mem_of_getElem? hkt)
      obtain ⟨tab, tbn⟩ := wk.lt t mt
      have n10 := wk.n10
      refine ⟨p, _, rfl, SqT.of hp, rfl, _, _, rfl, _, _, rfl, _, _, rfl, _, _, rfl, rfl, rfl, ?_⟩
      have ta : t.a < 10 := by omega
      have tb : t.b < 10 := by omega
      refine ⟨_, rfl, .inr ⟨_, rfl, num_log (by omega), ?_⟩⟩
      rw [num_str _ ta]
      refine ⟨_, rfl, small_str (by simp only [str_app, sgn_len, sp_len, emp_len]; omega), ?_⟩
      refine ⟨_, rfl, small_str (by simp only [str_app, sgn_len, sp_len, emp_len]; omega), ?_⟩
      refine ⟨_, rfl, .inl ⟨_, rfl, (by show 1 ≤ sizeLine; decide), _, rfl, small_str (by simp only [str_app, sgn_len, sp_len, emp_len]; omega), ?_⟩⟩
      refine ⟨_, rfl, small_str (by simp only [str_app, sgn_len, sp_len, emp_len]; omega), ?_⟩
      refine ⟨_, rfl, .inr ⟨_, rfl, num_log (by omega), ?_⟩⟩
      rw [num_str _ tb]
      refine ⟨_, rfl, small_str (by simp only [str_app, sgn_len, sp_len, emp_len]; omega), ?_⟩
      refine ⟨_, rfl, small_str (by simp only [str_app, sgn_len, sp_len, emp_len]; omega), ?_⟩
      refine ⟨_, rfl, .inl ⟨_, rfl, (by show 1 ≤ sizeLine; decide), _, rfl, small_str (by simp only [str_app, sgn_len, sp_len, emp_len]; omega), ?_⟩⟩
      refine ⟨_, hD, ?_, s2.own nD, ?_⟩
      · rw [List.length_map, List.length_map, List.length_take, List.length_map]
        exact small1000 (by omega)
      · rw [upd_same, List.take_succ, hkt, List.map_append, List.map_append, line_app]
        rfl
    · rintro H2 ⟨s2, hD⟩
      rw [refs_len, List.take_of_length_le (by rw [List.length_map]; exact Nat.le_refl _)] at hD
      refine ⟨_, _, _, rfl, rfl, .inl (SqL.of hD), ?_, ?_⟩
      · have e1 : ("\n" : Str).length = 1 := by decide +kernel
        rw [lines_sum, e1]
        simp only [List.length_map]
        omega
      · rw [text_join]
        exact k _ _ (Same.trans s1 s2) hperm srt
/-! ### read_torn, read_ties -/
def spTies (K : PySem.W.Frag) : Sp := fun vs H Q _ => ∃ (ts : List Tie) (n : Nat), vs = [.str (webS ts)] ∧ WebOk n (ts.map nrm) ∧
  ∀ (l : Addr) (ps : List (Addr × Tie)) (H' : Hp), Same H H' → H l = none → H' l = some (.lst (refs ps)) → At tieV H' ps → (ps.map (·.2)).Perm (ts.map nrm) → (ps.map (·.2)).Pairwise (fun x y => ¬ tLt y x) → Q (.ref l) H'
theorem ok_torn {f fL fA fHg : Addr} {fd fdL fdA fdHg : FuncData} (F : Fun K "read_torn" "read_torn" sTorn f fd) (msorted : mg "sorted" = none)
    (GL : FnOk P w K mg base CX0 3 fL fdL ["line"] (spLine K)) (FL : Fun K "read_line" "read_line" sLine fL fdL) (bL : Binds K fdL ["line"] []) (mL : mg "read_line" = some (.ref fL))
    (GA : FnOk P w K mg base CX0 1 fA fdA ["ties"] (spApart K)) (FA : Fun K "are_apart" "are_apart" sApart fA fdA) (bA : Binds K fdA ["ties"] []) (mA : mg "are_apart" = some (.ref fA))
    (GH : FnOk P w K mg base CX0 2 fHg fdHg ["ties"] (spApart K)) (FH : Fun K "hang_together" "hang_together" sHang fHg fdHg) (bH : Binds K fdHg ["ties"] []) (mHg : mg "hang_together" = some (.ref fHg)) :
    FnOk P w K mg base CX0 4 f fd ["text"] (spTies K) := by
  refine F.ok scTorn (fun vs H Q E h => ?_) (fun cdv A outer s H vs Q E hr h => ?_)
  · obtain ⟨ts, n, rfl, _⟩ := h
    rfl
  · obtain ⟨ts, n, rfl, wk, k⟩ := h
    have hr1 : Room 1 _ := hr.mono (by decide)
    have hr2 : Room 2 _ := hr.mono (by decide)
    have hr3 : Room 3 _ := hr
    have len100 := wk.len
    rw [List.length_map] at len100
    have raw := raw_of wk
    have tsne : ts ≠ [] := fun e => wk.ne (by rw [e]; rfl)
    have n10 := wk.n10
    refine ⟨_, (C8.pss_cut (ps_set (i := 1) scTorn.nd rfl (.inl rfl) (pe_lst pa_nil)) (C8.pss_cut (ps_for PassesOwn.never rfl (pi_list (pe_split (pv 0) pe_str)) (pg_name (i := 2) scTorn.nd rfl (.inl rfl)) (C8.pss_cut (ps_set (i := 3) scTorn.nd rfl (.inl rfl) (pe_call GL hr3 (by rfl) mL FL.kp bL .nil pass0 (pa_cons (pv 2) pa_nil))) (pss_cons (ps_if (pt_cmpR op_isN (pv 3) pe_non (nomark _)) (pss_one (ps_ret pe_non)) pss_nil) (pss_one (ps_expr (pe_bm PySem.F.plainAttrs_list PySem.F.slot_list_append PySem.F.type_list_append mt_append (pv 1) (pa_cons (pv 3) pa_nil))))))) (pss_cons (ps_if (PW.pt (pw_or (pt_not (pt_val (pe_call GA hr1 (by rfl) mA FA.kp bA .nil pass0 (pa_cons (pv 1) pa_nil)))) (pw_or1 (pt_not (pt_val (pe_call GH hr2 (by rfl) mHg FH.kp bH .nil pass0 (pa_cons (pv 1) pa_nil))))))) (pss_one (ps_ret pe_non)) pss_nil) (pss_one (ps_ret (pe_callB (cr_sortD hr.units) (by rfl) msorted (by decide +kernel) (pa_cons (pv 1) pa_nil))))))), ?_⟩
    refine ⟨fun σ H' => Same H H' ∧ ∃ l : Addr, H l = none ∧ H' l = some (.lst []) ∧ σ = [some (.str (webS ts)), some (.ref l), none, none], ?_, ?_⟩
    · exact ⟨Nat.zero_le _, fun l nl => ⟨same_upd nl, l, nl, upd_same, rfl⟩⟩
    rintro σ H1 ⟨s1, l, nl, hl, rfl⟩
    refine ⟨fun σ H' => Same H H' ∧ ∃ (ps : List (Addr × Tie)) (w2 w3 : Option V), H' l = some (.lst (refs ps)) ∧ At tieV H' ps ∧ ps.map (·.2) = ts.map nrm ∧ σ = [some (.str (webS ts)), some (.ref l), w2, w3], ?_, ?_⟩
    · have spl : Txt.split (webS ts) ("\n" : Str) = ts.map lineS := text_split tsne fun t ht => no_nl (raw t ht).a10 (raw t ht).b10 (raw t ht).lm (raw t ht).lo
      refine ⟨_, rfl, ⟨_, rfl⟩, _, _, rfl, rfl, (by decide +kernel), ?_, fun c nc => ?_⟩
      · have := webS_len ts
        have h1 := small1000 (n := 8 * ts.length + 2) (by omega)
        omega
      · have nlc : l ≠ c := ne_of_none hl nc
        refine ⟨c, rfl, ⟨_, SqL.of upd_same⟩, for_list (K := K) (a := c) (xs := (ts.map lineS).map V.str) (fun i σ H' => Same H H' ∧ H' c = some (.lst ((ts.map lineS).map V.str)) ∧ ∃ (ps : List (Addr × Tie)) (w2 w3 : Option V), H' l = some (.lst (refs ps)) ∧ At tieV H' ps ∧
            ps.map (·.2) = (ts.take i).map nrm ∧ σ = [some (.str (webS ts)), some (.ref l), w2, w3])
          ⟨s1.put nc, (upd_same.trans (by rw [spl])), [], none, none, put_old hl nc, (fun p hp => by cases hp), rfl, rfl⟩ (fun i σ H' _ ⟨_, e, _⟩ => SqL.of e) ?_ ?_⟩
        · rintro i x σ H2 hx ⟨s2, hc2, ps, w2, w3, hl2, hA2, hps, rfl⟩
          rw [List.getElem?_map, List.getElem?_map] at hx
          obtain ⟨y, hy, rfl⟩ := Option.map_eq_some_iff.mp hx
          obtain ⟨t, ht, rfl⟩ := Option.map_eq_some_iff.mp hy
          have mt := List.mem_of_getElem? ht
          refine ⟨fun σ H' => Same H2 H' ∧ ∃ p : Addr, H2 p = none ∧ H' p = some (.tup (tieV (nrm t))) ∧ σ = [some (.str (webS ts)), some (.ref l), some (.str (lineS t)), some (.ref p)], ?_, ?_⟩
          · exact ⟨_, rfl, t, rfl, raw t mt, fun p H' s' np hp => ⟨s', p, np, hp, rfl⟩⟩
          rintro σ H3 ⟨s3, p, np, hp, rfl⟩
          refine ⟨_, rfl, rfl, _, rfl, ?_⟩
          refine iteF ?_
          have hl3 := s3 _ _ hl2
          have lenp : ps.length ≤ 100 := by
            have e := congrArg List.length hps
            rw [List.length_map, List.length_map, List.length_take] at e
            omega
          refine ⟨_, rfl, .inl ⟨rfl, _, SqL.of hl3⟩, _, rfl, _, _, _, rfl, rfl, hl3, (by rw [refs_len]; exact small1000 (by omega)), ?_⟩
          refine ⟨(Same.trans s2 s3).own nl, put_ne (s3 _ _ hc2) nlc.symm, ps ++ [(p, nrm t)], _, _, (upd_same.trans (by rw [refs_app]; rfl)), ?_, ?_, rfl⟩
          · exact At.snoc ((hA2.same s3).mono (upd_tup hl3)) (put_ne hp (ne_of hp hl3 (by intro z; cases z)))
          · rw [List.map_append, hps, List.take_succ, ht, List.map_append]
            rfl
        · rintro σ H2 ⟨s2, hc2, ps, w2, w3, hl2, hA2, hps, rfl⟩
          rw [List.take_of_length_le (by simp)] at hps
          exact ⟨s2, ps, _, _, hl2, hA2, hps, rfl⟩
    rintro σ H2 ⟨s2, ps, w2, w3, hl2, hA2, hps, rfl⟩
    have wk2 : WebOk n (ps.map (·.2)) := hps.symm ▸ wk
    refine ⟨_, rfl, l, ps, n, rfl, hl2, hA2, wk2, fun H3 s3 => ⟨_, rfl, ?_⟩⟩
    refine iteF ⟨_, rfl, l, ps, n, rfl, s3 _ _ hl2, hA2.same s3, wk2, fun H4 s4 => ⟨_, rfl, ?_⟩⟩
    refine iteF ?_
    have s34 := Same.trans s3 s4
    refine ⟨_, rfl, ?_⟩
    have hnb : ∀ p ∈ ps, (tieV p.2).all nb = true := fun p hp => tieV_nb (wk2.let_ _ (List.mem_map_of_mem hp)).1 (wk2.let_ _ (List.mem_map_of_mem hp)).2
    have hs : rSortD K [.ref l] H4 Q := sort_rows2 tieV (SqL.of (s34 _ _ hl2)) (hA2.same s34) hnb tie_alike (fun x => ⟨_, _, rfl⟩) fun z qs hp hw nz =>
      k z qs _ ((Same.trans s2 s34).put nz) ((Same.trans s2 s34).free nz) upd_same (((hA2.same s34).same (same_upd nz)).perm hp.symm) (by rw [← hps]; exact hp.map _) (ties_srt hw)
    exact hs
theorem ok_ties {f fT : Addr} {fd fdT : FuncData} (F : Fun K "read_ties" "read_ties" sTies f fd) (misi : mg "isinstance" = none) (mstr : mg "str" = none) {tU : Tok} (mU : mg "UNREAD" = some (.str "?" tU))
    (GT : FnOk P w K mg base CX0 4 fT fdT ["text"] (spTies K)) (FT : Fun K "read_torn" "read_torn" sTorn fT fdT) (bT : Binds K fdT ["text"] []) (mT : mg "read_torn" = some (.ref fT)) :
    FnOk P w K mg base CX0 5 f fd ["text"] (spTies K) := by
  refine F.ok scTies (fun vs H Q E h => ?_) (fun cdv A outer s H vs Q E hr h => ?_)
  · obtain ⟨ts, n, rfl, _⟩ := h
    rfl
  · obtain ⟨ts, n, rfl, wk, k⟩ := h
    have raw := raw_of wk
    refine ⟨_, (pss_cons (ps_if (PW.pt (pw_or (pt_not (pt_val (pe_callB call_isi (by rfl) misi (by decide +kernel) (pa_cons (pv 0) (pa_cons (pe_bltn (by rfl) mstr (by decide +kernel) (show RelV (.ty "str") _ from rfl)) pa_nil))))) (pw_or1 (pt_cmpR op_in_sign (pe_glob (v := .str "?") rfl mU ⟨_, rfl⟩) (pv 0) (by rfl))))) (pss_one (ps_ret pe_non)) pss_nil) (pss_one (ps_ret (pe_call GT hr (by rfl) mT FT.kp bT .nil pass0 (pa_cons (pv 0) pa_nil))))), ?_⟩
    refine ⟨_, rfl, _, _, _, _, true, rfl, .ty "str", .base (.str _), kit_ty (by decide +kernel), true, rfl, ?_⟩
    refine iteF ⟨_, rfl, 63, webS ts, congrArg V.str unread_sgn, rfl, _, rfl, ?_⟩
    rw [decide_eq_false (no_unread fun t ht => ⟨(raw t ht).a10, (raw t ht).b10, (raw t ht).lm, (raw t ht).lo⟩)]
    exact iteF ⟨_, rfl, ts, n, rfl, wk, k⟩
end
end Wh

namespace Wh
open PySem L2
def clsB : Stmt → List Stmt
  | .ClassDef _ _ _ body _ _ _ _ _ _ _ => body
  | _ => []
def metS (i j : Nat) : Stmt := (clsB (topS i)).getD j (.Pass ⟨0, 0, 0, 0⟩)
abbrev sInit : Stmt := metS 36 0
abbrev sWPlain : Stmt := metS 36 2
abbrev sWHouses : Stmt := metS 36 3
abbrev sWAt : Stmt := metS 36 6
abbrev sWCheck : Stmt := metS 36 9
theorem scInit : FnScope ["self", "text", "ties"] ["self", "text"] (defScope sInit) := ⟨rfl, rfl, rfl, by decide +kernel, rfl, by decide +kernel, by decide +kernel⟩
theorem scWPlain : FnScope ["self"] ["self"] (defScope sWPlain) := ⟨rfl, rfl, rfl, by decide +kernel, rfl, by decide +kernel, by decide +kernel⟩
theorem scWHouses : FnScope ["self"] ["self"] (defScope sWHouses) := ⟨rfl, rfl, rfl, by decide +kernel, rfl, by decide +kernel, by decide +kernel⟩
theorem scWAt : FnScope ["self", "house"] ["self", "house"] (defScope sWAt) := ⟨rfl, rfl, rfl, by decide +kernel, rfl, by decide +kernel, by decide +kernel⟩
theorem scWCheck : FnScope ["self", "house"] ["self", "house"] (defScope sWCheck) := ⟨rfl, rfl, rfl, by decide +kernel, rfl, by decide +kernel, by decide +kernel⟩
section
variable {P : Program} {w : World} {K : PySem.W.Frag} {mg : Str → Option Value} {base : Heap} {C : Addr}
/-! ### Web.__init__ -/
def spInit (C : Addr) : Sp := fun vs H Q _ => ∃ (x dx : Addr) (rs ts : List Tie) (n : Nat), vs = [.ref x, .str (webS rs)] ∧ H x = some (.ins C dx []) ∧ (rs.map nrm).Perm ts ∧ WebOk n ts ∧ (ts.map Tie.pr).Pairwise PrLt ∧
  ∀ H', But x H H' → WebAt C H' x n ts → TextAt C H' x (webS rs) → Q .non H'
theorem ok_init {f fT fP fD : Addr} {fd fdT fdP fdD : FuncData} (F : Fun K "__init__" "Web.__init__" sInit f fd) (cW : WebC K C) (mtuple : mg "tuple" = none)
    (GT : FnOk P w K mg base CX0 5 fT fdT ["text"] (spTies K)) (FT : Fun K "read_ties" "read_ties" sTies fT fdT) (bT : Binds K fdT ["text"] []) (mT : mg "read_ties" = some (.ref fT))
    (GP : FnOk P w K mg base CX0 1 fP fdP ["ties"] (spPlain K)) (FP : Fun K "plain_text" "plain_text" sPlain fP fdP) (bP : Binds K fdP ["ties"] []) (mP : mg "plain_text" = some (.ref fP))
    (GD : FnOk P w K mg base CX0 2 fD fdD ["ties"] (spDoors K)) (FD : Fun K "doors_of" "doors_of" sDoors fD fdD) (bD : Binds K fdD ["ties"] []) (mD : mg "doors_of" = some (.ref fD)) :
    FnOk P w K mg base CX0 6 f fd ["self", "text"] (spInit C) := by
  refine F.ok scInit (fun vs H Q E h => ?_) (fun cdv A outer s H vs Q E hr h => ?_)
  · obtain ⟨x, dx, rs, ts, n, rfl, _⟩ := h
    rfl
  · obtain ⟨x, dx, rs, ts, n, rfl, hx, prs, wk, srt, k⟩ := h
    have hr1 : Room 1 _ := hr.mono (by decide)
    have hr2 : Room 2 _ := hr.mono (by decide)
    have hr5 : Room 5 _ := hr
    refine ⟨_, (C8.pss_cut (ps_set (i := 2) scInit.nd rfl (.inl rfl) (pe_call GT hr5 (by rfl) mT FT.kp bT .nil pass0 (pa_cons (pv 1) pa_nil))) (pss_cons (ps_if (pt_cmpR op_isN (pv 2) pe_non (nomark _)) pss_never pss_nil) (C8.pss_cut (ps_fld (pv 0) (pv 1) rfl) (C8.pss_cut (ps_fld (pv 0) (pe_call GP hr1 (by rfl) mP FP.kp bP .nil pass0 (pa_cons (pv 2) pa_nil)) rfl) (C8.pss_cut (ps_fld (pv 0) (pe_callTy call_tuple_of (by rfl) mtuple (by decide +kernel) (pa_cons (pv 2) pa_nil)) rfl) (pss_one (ps_fld (pv 0) (pe_call GD hr2 (by rfl) mD FD.kp bD .nil pass0 (pa_cons (pv 2) pa_nil)) rfl))))))), ?_⟩
    refine ⟨fun σ H' => Same H H' ∧ ∃ (l : Addr) (ps : List (Addr × Tie)), H' l = some (.lst (refs ps)) ∧ At tieV H' ps ∧ (ps.map (·.2)).Perm ts ∧ (ps.map (·.2)).Pairwise (fun x y => ¬ tLt y x) ∧ σ = [some (.ref x), some (.str (webS rs)), some (.ref l)], ?_, ?_⟩
    · exact ⟨_, rfl, rs, n, rfl, wk.perm prs.symm, fun l ps H' s' _ hl hA hp hs => ⟨s', l, ps, hl, hA, hp.trans prs, hs, rfl⟩⟩
    rintro σ H1 ⟨s1, l, ps, hl, hA, hperm, hsrt, rfl⟩
    have wkp : WebOk n (ps.map (·.2)) := wk.perm hperm.symm
    have hx1 := s1 _ _ hx
    have lx : l ≠ x := ne_of hl hx1 (by intro z; cases z)
    refine ⟨_, rfl, rfl, _, rfl, ?_⟩
    refine iteF ?_
    refine ⟨fun σ H' => But x H1 H' ∧ H' x = some (.ins C dx [(("_text" : Str), .str (webS rs))]) ∧ σ = [some (.ref x), some (.str (webS rs)), some (.ref l)], ?_, ?_⟩
    · exact ⟨_, rfl, _, rfl, x, C, dx, [], rfl, hx1, cW.c, cW.n1, (by decide), But.at (But.refl x H1), upd_same, rfl⟩
    rintro σ H2 ⟨b2, hx2, rfl⟩
    have hl2 := b2 _ _ hl lx
    have hA2 := hA.butI hx1 b2
    refine ⟨fun σ H' => But x H1 H' ∧ H' x = some (.ins C dx [(("_text" : Str), .str (webS rs)), ("_plain", .str (webS ts))]) ∧ σ = [some (.ref x), some (.str (webS rs)), some (.ref l)], ?_, ?_⟩
    · refine ⟨_, rfl, l, ps, n, rfl, hl2, hA2, wkp, fun ts' H' s' hp' srt' => ?_⟩
      have e : ts' = ts := srt_uniq srt' srt (hp'.trans hperm)
      subst e
      exact ⟨_, rfl, x, C, dx, _, rfl, s' _ _ hx2, cW.c, cW.n2, (by show 1 < 1000; decide), But.at (But.trans b2 s'.but), upd_same.trans (by rw [putF_1]), rfl⟩
    rintro σ H3 ⟨b3, hx3, rfl⟩
    have hl3 := b3 _ _ hl lx
    have hA3 := hA.butI hx1 b3
    refine ⟨fun σ H' => But x H1 H' ∧ ∃ l2 : Addr, H' x = some (.ins C dx [(("_text" : Str), .str (webS rs)), ("_plain", .str (webS ts)), ("_ties", .ref l2)]) ∧ H' l2 = some (.tup (refs ps)) ∧ σ = [some (.ref x), some (.str (webS rs)), some (.ref l)], ?_, ?_⟩
    · refine ⟨_, rfl, l, _, rfl, .inl ⟨SqL.of hl3, fun l2 n2 => ?_⟩⟩
      have x2 : l2 ≠ x := (ne_of_none hx3 n2).symm
      exact ⟨_, rfl, x, C, dx, _, rfl, put_old hx3 n2, cW.c, cW.n3, (by show 2 < 1000; decide), But.at (b3.put n2), l2, upd_same.trans (by rw [putF_2]), put_ne upd_same x2, rfl⟩
    rintro σ H4 ⟨b4, l2, hx4, hl24, rfl⟩
    have hl4 := b4 _ _ hl lx
    have hA4 := hA.butI hx1 b4
    have l2x : l2 ≠ x := ne_of hl24 hx4 (by intro z; cases z)
    refine ⟨_, rfl, l, ps, n, rfl, hl4, hA4, wkp, fun dl ds H' s' dr ndl nds => ?_⟩
    have hx5 := s' _ _ hx4
    refine ⟨_, rfl, x, C, dx, _, rfl, hx5, cW.c, cW.n4, (by show 3 < 1000; decide), k _ (But.at (But.trans (But.trans s1.but b4) s'.but)) ⟨⟨dx, webS rs, l2, ps, dl, ds, upd_same.trans (by rw [putF_3]; rfl), put_ne (s' _ _ hl24) l2x, ?_, hperm, ?_, hsrt⟩, wk, srt⟩ ⟨dx, webS ts, l2, dl, upd_same.trans (by rw [putF_3]; rfl)⟩⟩
    · exact (hA4.same s').mono fun b xs e => put_ne e (ne_of e hx5 (by intro z; cases z))
    · refine ⟨put_ne dr.hl (ne_of dr.hl hx5 (by intro z; cases z)), dr.len, dr.nd, fun h a e => put_ne (dr.hd h a e) (ne_of (dr.hd h a e) hx5 (by intro z; cases z))⟩
/-! ### plain, houses, _check_house, at -/
def spWPlain (C : Addr) : Sp := fun vs H Q _ => ∃ (x : Addr) (n : Nat) (ts : List Tie), vs = [.ref x] ∧ WebAt C H x n ts ∧ Q (.str (webS ts)) H
theorem ok_wplain {f : Addr} {fd : FuncData} (F : Fun K "plain" "Web.plain" sWPlain f fd) (cW : WebC K C) : FnOk P w K mg base CX0 1 f fd ["self"] (spWPlain C) := by
  refine F.ok scWPlain (fun vs H Q E h => ?_) (fun cdv A outer s H vs Q E hr h => ?_)
  · obtain ⟨x, n, ts, rfl, _⟩ := h
    rfl
  · obtain ⟨x, n, ts, rfl, wb, k⟩ := h
    obtain ⟨dx, txt, l, ps, dl, ds, h1, h2, h3, h4, h5, h6⟩ := wb.ex
    refine ⟨_, (pss_one (ps_ret (pe_fld (pv 0) rfl))), ?_⟩
    exact ⟨_, rfl, x, C, dx, _, _, rfl, h1, cW.c, cW.n2, ff_plain _ _ _ _, k⟩
def spWHouses (C : Addr) : Sp := fun vs H Q _ => ∃ (x : Addr) (n : Nat) (ts : List Tie), vs = [.ref x] ∧ WebAt C H x n ts ∧ Q (.int (n : Int)) H
theorem ok_whouses {f : Addr} {fd : FuncData} (F : Fun K "houses" "Web.houses" sWHouses f fd) (cW : WebC K C) (mlen : mg "len" = none) : FnOk P w K mg base CX0 1 f fd ["self"] (spWHouses C) := by
  refine F.ok scWHouses (fun vs H Q E h => ?_) (fun cdv A outer s H vs Q E hr h => ?_)
  · obtain ⟨x, n, ts, rfl, _⟩ := h
    rfl
  · obtain ⟨x, n, ts, rfl, wb, k⟩ := h
    obtain ⟨dx, txt, l, ps, dl, ds, h1, h2, h3, h4, h5, h6⟩ := wb.ex
    refine ⟨_, (pss_one (ps_ret (pe_callB call_len_seq (by rfl) mlen PySem.boot_len (pa_cons (pe_fld (pv 0) rfl) pa_nil)))), ?_⟩
    refine ⟨_, rfl, x, C, dx, _, _, rfl, h1, cW.c, cW.n4, ff_doors _ _ _ _, dl, _, rfl, .inl (SqL.of h5.hl), ?_⟩
    rw [List.length_map, h5.len]
    exact k
def spWCheck (C : Addr) : Sp := fun vs H Q _ => ∃ (x : Addr) (n : Nat) (ts : List Tie) (h : Nat), vs = [.ref x, .int (h : Int)] ∧ WebAt C H x n ts ∧ h < n ∧ Q .non H
theorem ok_wcheck {f fH : Addr} {fd fdH : FuncData} (F : Fun K "_check_house" "Web._check_house" sWCheck f fd) (cW : WebC K C) (mlen : mg "len" = none) (GH : FnOk P w K mg base CX0 4 fH fdH ["value", "houses"] spHouse) (FH : Fun K "is_house" "is_house" sHouse fH fdH) (bH : Binds K fdH ["value", "houses"] []) (mH : mg "is_house" = some (.ref fH)) :
    FnOk P w K mg base CX0 5 f fd ["self", "house"] (spWCheck C) := by
  refine F.ok scWCheck (fun vs H Q E h => ?_) (fun cdv A outer s H vs Q E hr h => ?_)
  · obtain ⟨x, n, ts, h, rfl, _⟩ := h
    rfl
  · obtain ⟨x, n, ts, h, rfl, wb, hn, k⟩ := h
    obtain ⟨dx, txt, l, ps, dl, ds, h1, h2, h3, h4, h5, h6⟩ := wb.ex
    have hr4 : Room 4 _ := hr
    refine ⟨_, (pss_one (ps_if (pt_not (pt_val (pe_call GH hr4 (by rfl) mH FH.kp bH .nil pass0 (pa_cons (pv 1) (pa_cons (pe_callB call_len_seq (by rfl) mlen PySem.boot_len (pa_cons (pe_fld (pv 0) rfl) pa_nil)) pa_nil))))) pss_never pss_nil)), ?_⟩
    refine ⟨_, rfl, _, rfl, x, C, dx, _, _, rfl, h1, cW.c, cW.n4, ff_doors _ _ _ _, dl, _, rfl, .inl (SqL.of h5.hl), _, _, rfl, ?_⟩
    rw [List.length_map, h5.len, decide_eq_true (show (0 : Int) ≤ (h : Int) ∧ (h : Int) < (n : Int) by omega)]
    exact ⟨_, rfl, iteF k⟩
def spWAt (C : Addr) : Sp := fun vs H Q _ => ∃ (x : Addr) (n : Nat) (ts : List Tie) (h : Nat), vs = [.ref x, .int (h : Int)] ∧ WebAt C H x n ts ∧ h < n ∧ ∀ (ms : List Nat) (H' : Hp), ms.Perm (marksAt h ts) → ms.Pairwise (· ≤ ·) → Same H H' → Q (.str (sS ms)) H'
theorem ok_wat {f fC : Addr} {fd fdC : FuncData} (F : Fun K "at" "Web.at" sWAt f fd) (cW : WebC K C) (msorted : mg "sorted" = none) (GC : FnOk P w K mg base CX0 5 fC fdC ["self", "house"] (spWCheck C)) (bC : Binds K fdC ["self", "house"] []) (mC : Meth K C "_check_house" fC) :
    FnOk P w K mg base CX0 6 f fd ["self", "house"] (spWAt C) := by
  refine F.ok scWAt (fun vs H Q E h => ?_) (fun cdv A outer s H vs Q E hr h => ?_)
  · obtain ⟨x, n, ts, h, rfl, _⟩ := h
    rfl
  · obtain ⟨x, n, ts, h, rfl, wb, hn, k⟩ := h
    obtain ⟨dx, txt, l, ps, dl, ds, h1, h2, h3, h4, h5, h6⟩ := wb.ex
    have hr5 : Room 5 _ := hr
    refine ⟨_, (C8.pss_cut (ps_expr (pe_meth (pv 0) cW.c mC GC hr5 bC .nil pass0 (pa_cons (pv 1) pa_nil))) (pss_one (ps_ret (pe_joinK K rfl pe_str (pe_callB (call_sortedD rfl) (by rfl) msorted (by decide +kernel) (pa_cons (pe_ix ix_list (pe_fld (pv 0) rfl) (pv 1) (fun _ _ => rfl)) pa_nil)))))), ?_⟩
    refine ⟨fun σ H' => H = H' ∧ σ = [some (.ref x), some (.int (h : Int))], ?_, ?_⟩
    · exact ⟨_, rfl, x, dx, _, rfl, h1, ff_no _ _ _ _ (by decide +kernel), _, rfl, x, n, ts, h, rfl, wb, hn, rfl, rfl⟩
    rintro σ H' ⟨rfl, rfl⟩
    have hi : h < ds.length := by rw [h5.len]; exact hn
    have hg : ds[h]? = some ds[h] := List.getElem?_eq_getElem hi
    have pm := marksAt_perm h4 h
    refine ⟨⟨_, rfl⟩, _, rfl, x, C, dx, _, _, rfl, h1, cW.c, cW.n4, ff_doors _ _ _ _, _, rfl, dl, _, _, _, rfl, rfl, SqL.of h5.hl, atI_nat (by rw [List.getElem?_map, hg]; rfl), ds[h], _, (marksAt h (ps.map (·.2))).map sgn, rfl, Rd.of (h5.hd h _ hg), ?_, ?_, ?_⟩
    · rw [doorsK_keys, List.map_map]
      rfl
    · rw [List.length_map]
      have := marks12 (wb.wk.perm h4.symm) h
      omega
    · intro ys p hys hso np
      obtain ⟨ns, rfl, hns⟩ := sgn_perm hys
      have lens := hns.length_eq
      refine ⟨_, _, _, rfl, rfl, .inl (SqL.of upd_same), ?_, ?_⟩
      · have := marks12 (wb.wk.perm h4.symm) h
        have e0 : ("" : Str).length = 0 := by decide +kernel
        rw [sgn_sum, e0]
        omega
      · rw [join_sgn]
        exact k ns _ (hns.trans pm) (letters_srt ns hso) (same_upd np)
end
end Wh

namespace Wh
open PySem L2
abbrev sMarked : Stmt := topS 38
abbrev sLChg : Stmt := topS 47
theorem scMarked : FnScope ["tie", "house", "mark", "other", "low", "first", "high", "last"] ["tie", "house", "mark", "other"] (defScope sMarked) := ⟨rfl, rfl, rfl, by decide +kernel, rfl, by decide +kernel, by decide +kernel⟩
theorem scLChg : FnScope ["told", "spot", "mark", "other", "found", "first", "one", "last", "two"] ["told", "spot", "mark", "other"] (defScope sLChg) := ⟨rfl, rfl, rfl, by decide +kernel, rfl, by decide +kernel, by decide +kernel⟩
section
variable {P : Program} {w : World} {K : PySem.W.Frag} {mg : Str → Option Value} {base : Heap}
abbrev enV (a m : Nat) : List V := [.int (a : Int), .str (sgn m)]
theorem nb_sgn {m : Nat} (h : m ∈ letters) : nb (.str (sgn m)) = true := by
  have h1 := letters_big _ h
  refine nb_str ?_
  rw [PyData.canLay0]
  show (sgn m).cps.all (· < 0x110000) = true
  simp [sgn]
  omega
theorem enV_nb {a m : Nat} (h : m ∈ letters) : (enV a m).all nb = true := by
  show (true && (nb (.str (sgn m)) && true)) = true
  rw [nb_sgn h]
  rfl
theorem enV_eq {a m b k : Nat} (h1 : m ∈ letters) (h2 : k ∈ letters) : PyData.eqv (tD (enV a m)) (tD (enV b k)) = decide (a = b ∧ m = k) := by
  rw [tD_eqv (enV_nb h1) (enV_nb h2)]
  by_cases c : a = b ∧ m = k
  · rw [decide_eq_true c, c.1, c.2]
    exact decide_eq_true rfl
  · rw [decide_eq_false c]
    refine decide_eq_false fun e => c ?_
    injection e with e1 e
    injection e with e2 _
    injection e1 with e1
    injection e2 with e2
    have e1' : (a : Int) = (b : Int) := e1
    exact ⟨by omega, sgn_inj e2⟩
theorem rEqE {K : PySem.W.Frag} {H : Hp} {p q : Addr} {a m b k : Nat} {Q : VK} (hp : H p = some (.tup (enV a m))) (hq : H q = some (.tup (enV b k))) (h1 : m ∈ letters) (h2 : k ∈ letters) (h : Q (.bl (decide (a = b ∧ m = k))) H) :
    rEqD K (.ref p) (.ref q) H Q := ⟨_, _, tD_dp K (enV_nb h1) hp, tD_dp K (enV_nb h2) hq, tD_shaped (enV_nb h1), tD_shaped (enV_nb h2), by rw [enV_eq h1 h2]; exact h⟩
/-- a tie, a mark at a house, another letter -/
def spMarked : Sp := fun vs H Q _ => ∃ (p : Addr) (t : Tie) (h m o : Nat), vs = [.ref p, .int (h : Int), .str (sgn m), .str (sgn o)] ∧ H p = some (.tup (tieV t)) ∧ t.m ∈ letters ∧ t.o ∈ letters ∧ m ∈ letters ∧
  ∀ (q : Addr) (H' : Hp), Same H H' → H' q = some (.tup (tieV (chg h m o t))) → Q (.ref q) H'
theorem ok_marked {f : Addr} {fd : FuncData} (F : Fun K "marked" "marked" sMarked f fd) : FnOk P w K mg base CX0 1 f fd ["tie", "house", "mark", "other"] spMarked := by
  refine F.ok scMarked (fun vs H Q E h => ?_) (fun cdv A outer s H vs Q E hr h => ?_)
  · obtain ⟨p, t, h, m, o, rfl, _⟩ := h
    rfl
  · obtain ⟨p, t, h, m, o, rfl, hp, hm, ho, hk, k⟩ := h
    refine ⟨_, (C8.pss_cut (ps_asg (pv 0) (pg_tup (by rfl) (pgs_cons (pg_name (i := 4) scMarked.nd rfl (.inl rfl)) (pgs_cons (pg_name (i := 5) scMarked.nd rfl (.inl rfl)) (pgs_cons (pg_name (i := 6) scMarked.nd rfl (.inl rfl)) (pgs_cons (pg_name (i := 7) scMarked.nd rfl (.inl rfl)) pgs_nil)))))) (pss_cons (ps_if (pt_cmpR (op_eqD hr.units) (pe_tup (pa_cons (pv 4) (pa_cons (pv 5) pa_nil))) (pe_tup (pa_cons (pv 1) (pa_cons (pv 2) pa_nil))) (nomark _)) (pss_one (ps_ret (pe_tup (pa_cons (pv 4) (pa_cons (pv 3) (pa_cons (pv 6) (pa_cons (pv 7) pa_nil))))))) pss_nil) (pss_cons (ps_if (pt_cmpR (op_eqD hr.units) (pe_tup (pa_cons (pv 6) (pa_cons (pv 7) pa_nil))) (pe_tup (pa_cons (pv 1) (pa_cons (pv 2) pa_nil))) (nomark _)) (pss_one (ps_ret (pe_tup (pa_cons (pv 4) (pa_cons (pv 5) (pa_cons (pv 6) (pa_cons (pv 3) pa_nil))))))) pss_nil) (pss_one (ps_ret (pv 0)))))), ?_⟩
    refine ⟨fun σ H' => H = H' ∧ σ = [some (.ref p), some (.int (h : Int)), some (.str (sgn m)), some (.str (sgn o)), some (.int (t.a : Int)), some (.str (sgn t.m)), some (.int (t.b : Int)), some (.str (sgn t.o))], ?_, ?_⟩
    · exact ⟨_, rfl, p, _, rfl, SqT.of hp, rfl, _, _, rfl, _, _, rfl, _, _, rfl, _, _, rfl, rfl, rfl, rfl⟩
    rintro σ H' ⟨rfl, rfl⟩
    have z2 : 2 ≤ sizeLine := by decide
    have z4 : 4 ≤ sizeLine := by decide
    refine ⟨_, rfl, _, rfl, z2, fun q1 n1 => ⟨_, rfl, _, rfl, z2, fun q2 n2 => ?_⟩⟩
    refine rEqE (put_old upd_same n2) upd_same hm hk ⟨_, rfl, ?_⟩
    have s2 : Same H (upd (upd H q1 (.tup (enV t.a t.m))) q2 (.tup (enV h m))) := (same_upd n1).put n2
    by_cases c1 : t.a = h ∧ t.m = m
    · rw [decide_eq_true c1]
      refine iteT ⟨_, rfl, _, rfl, _, rfl, _, rfl, z4, fun q nq => k q _ (s2.put nq) ?_⟩
      rw [upd_same]
      unfold chg
      rw [if_pos c1]
      rfl
    rw [decide_eq_false c1]
    refine iteF ⟨_, rfl, _, rfl, z2, fun q3 n3 => ⟨_, rfl, _, rfl, z2, fun q4 n4 => ?_⟩⟩
    refine rEqE (put_old upd_same n4) upd_same ho hk ⟨_, rfl, ?_⟩
    have s4 : Same H (upd (upd (upd (upd H q1 (.tup (enV t.a t.m))) q2 (.tup (enV h m))) q3 (.tup (enV t.b t.o))) q4 (.tup (enV h m))) := (s2.put n3).put n4
    by_cases c2 : t.b = h ∧ t.o = m
    · rw [decide_eq_true c2]
      refine iteT ⟨_, rfl, _, rfl, _, rfl, _, rfl, z4, fun q nq => k q _ (s4.put nq) ?_⟩
      rw [upd_same]
      unfold chg
      rw [if_neg c1, if_pos c2]
      rfl
    rw [decide_eq_false c2]
    refine iteF ⟨_, rfl, k p _ s4 ?_⟩
    unfold chg
    rw [if_neg c1, if_neg c2]
    exact s4 _ _ hp
/-- ties with another mark at a house -/
def spLChg : Sp := fun vs H Q _ => ∃ (l : Addr) (ps : List (Addr × Tie)) (h m o n : Nat), vs = [.ref l, .int (h : Int), .str (sgn m), .str (sgn o)] ∧ H l = some (.lst (refs ps)) ∧ At tieV H ps ∧ WebOk n (ps.map (·.2)) ∧ m ∈ letters ∧
  ∀ (l2 : Addr) (qs : List (Addr × Tie)) (H' : Hp), Same H H' → H' l2 = some (.lst (refs qs)) → At tieV H' qs → qs.map (·.2) = (ps.map (·.2)).map (chg h m o) → Q (.ref l2) H'
theorem ok_lchg {f : Addr} {fd : FuncData} (F : Fun K "_law_changed" "_law_changed" sLChg f fd) : FnOk P w K mg base CX0 1 f fd ["told", "spot", "mark", "other"] spLChg := by
  refine F.ok scLChg (fun vs H Q E h => ?_) (fun cdv A outer s H vs Q E hr h => ?_)
  · obtain ⟨l, ps, h, m, o, n, rfl, _⟩ := h
    rfl
  · obtain ⟨l, ps, h, m, o, n, rfl, hl, hA, wk, hk, k⟩ := h
    refine ⟨_, (C8.pss_cut (ps_set (i := 4) scLChg.nd rfl (.inl rfl) (pe_lst pa_nil)) (C8.pss_cut (ps_for PassesOwn.never rfl (pi_list (pv 0)) (pg_tup (by rfl) (pgs_cons (pg_name (i := 5) scLChg.nd rfl (.inl rfl)) (pgs_cons (pg_name (i := 6) scLChg.nd rfl (.inl rfl)) (pgs_cons (pg_name (i := 7) scLChg.nd rfl (.inl rfl)) (pgs_cons (pg_name (i := 8) scLChg.nd rfl (.inl rfl)) pgs_nil))))) (C8.pss_cut (ps_set (i := 6) scLChg.nd rfl (.inl rfl) (pe_ifExp (pt_cmpR (op_eqD hr.units) (pe_tup (pa_cons (pv 5) (pa_cons (pv 6) pa_nil))) (pe_tup (pa_cons (pv 1) (pa_cons (pv 2) pa_nil))) (nomark _)) (pv 3) (pv 6))) (pss_one (ps_expr (pe_bm PySem.F.plainAttrs_list PySem.F.slot_list_append PySem.F.type_list_append mt_append (pv 4) (pa_cons (pe_tup (pa_cons (pv 5) (pa_cons (pv 6) (pa_cons (pv 7) (pa_cons (pe_ifExp (pt_cmpR (op_eqD hr.units) (pe_tup (pa_cons (pv 7) (pa_cons (pv 8) pa_nil))) (pe_tup (pa_cons (pv 1) (pa_cons (pv 2) pa_nil))) (nomark _)) (pv 3) (pv 8)) pa_nil))))) pa_nil)))))) (pss_one (ps_ret (pv 4))))), ?_⟩
    have len100 : ps.length ≤ 100 := by
      have := wk.len
      rw [List.length_map] at this
      exact this
    refine ⟨fun σ H' => Same H H' ∧ ∃ D : Addr, H D = none ∧ H' D = some (.lst []) ∧ σ = [some (.ref l), some (.int (h : Int)), some (.str (sgn m)), some (.str (sgn o)), some (.ref D), none, none, none, none], ?_, ?_⟩
    · exact ⟨Nat.zero_le _, fun D nD => ⟨same_upd nD, D, nD, upd_same, rfl⟩⟩
    rintro σ H1 ⟨s1, D, nD, hD, rfl⟩
    refine ⟨fun σ H' => Same H H' ∧ ∃ (qs : List (Addr × Tie)) (w1 w2 w3 w4 : Option V), H' D = some (.lst (refs qs)) ∧ At tieV H' qs ∧ qs.map (·.2) = (ps.map (·.2)).map (chg h m o) ∧
      σ = [some (.ref l), some (.int (h : Int)), some (.str (sgn m)), some (.str (sgn o)), some (.ref D), w1, w2, w3, w4], ?_, ?_⟩
    · refine ⟨_, rfl, l, rfl, ⟨_, SqL.of (s1 _ _ hl)⟩, for_list (K := K) (a := l) (xs := refs ps) (fun i σ H' => Same H H' ∧ ∃ (qs : List (Addr × Tie)) (w1 w2 w3 w4 : Option V), H' D = some (.lst (refs qs)) ∧ At tieV H' qs ∧ qs.map (·.2) = ((ps.map (·.2)).take i).map (chg h m o) ∧
        σ = [some (.ref l), some (.int (h : Int)), some (.str (sgn m)), some (.str (sgn o)), some (.ref D), w1, w2, w3, w4])
        ⟨s1, [], none, none, none, none, hD, (fun p hp => by cases hp), rfl, rfl⟩ (fun i σ H' _ ⟨s, _⟩ => SqL.of (s _ _ hl)) ?_ ?_⟩
      · rintro i x σ H2 hx ⟨s2, qs, w1, w2, w3, w4, hD2, hQ, hq, rfl⟩
        obtain ⟨⟨p, t⟩, hk2, rfl⟩ := refs_get hx
        have hp : H2 p = some (.tup (tieV t)) := s2 _ _ (hA _ (List.mem_of_getElem? hk2))
        have hkt : (ps.map (·.2))[i]? = some t := by rw [List.getElem?_map, hk2]; rfl
        have mt := List.mem_of_getElem? hkt
        obtain ⟨hm, ho⟩ := wk.let_ t mt
        have ne := wk.lt2 t mt
        have z2 : 2 ≤ sizeLine := by decide
        have z4 : 4 ≤ sizeLine := by decide
        have lenq : qs.length ≤ 100 := by
          have e := congrArg List.length hq
          rw [List.length_map, List.length_map, List.length_take, List.length_map] at e
          omega
        refine ⟨p, _, rfl, SqT.of hp, rfl, _, _, rfl, _, _, rfl, _, _, rfl, _, _, rfl, rfl, ?_⟩
        refine ⟨fun σ H' => Same H2 H' ∧ σ = [some (.ref l), some (.int (h : Int)), some (.str (sgn m)), some (.str (sgn o)), some (.ref D), some (.int (t.a : Int)), some (.str (sgn (chg h m o t).m)), some (.int (t.b : Int)), some (.str (sgn t.o))], ?_, ?_⟩
        · refine ⟨_, rfl, _, rfl, z2, fun q1 n1 => ⟨_, rfl, _, rfl, z2, fun q2 n2 => ?_⟩⟩
          refine rEqE (put_old upd_same n2) upd_same hm hk ⟨_, rfl, ?_⟩
          have s3 : Same H2 (upd (upd H2 q1 (.tup (enV t.a t.m))) q2 (.tup (enV h m))) := (same_upd n1).put n2
          have em := chg_m h m o ne
          unfold ren at em
          by_cases c1 : t.a = h ∧ t.m = m
          · rw [decide_eq_true c1]
            rw [if_pos c1.1, if_pos c1.2] at em
            exact iteT ⟨_, rfl, s3, by rw [em]; rfl⟩
          · rw [decide_eq_false c1]
            have em2 : (chg h m o t).m = t.m := by
              rw [em]
              by_cases c2 : t.a = h
              · rw [if_pos c2, if_neg fun z => c1 ⟨c2, z⟩]
              · rw [if_neg c2]
            exact iteF ⟨_, rfl, s3, by rw [em2]; rfl⟩
        rintro σ H3 ⟨s3, rfl⟩
        have hD3 := s3 _ _ hD2
        refine ⟨_, rfl, .inl ⟨rfl, _, SqL.of hD3⟩, _, rfl, _, rfl, _, rfl, ?_⟩
        refine ⟨_, rfl, _, rfl, z2, fun q1 n1 => ⟨_, rfl, _, rfl, z2, fun q2 n2 => ?_⟩⟩
        refine rEqE (put_old upd_same n2) upd_same ho hk ⟨_, rfl, ?_⟩
        have s4 : Same H3 (upd (upd H3 q1 (.tup (enV t.b t.o))) q2 (.tup (enV h m))) := (same_upd n1).put n2
        have fin : ∀ x : Nat, x = (chg h m o t).o → ∀ q, upd (upd H3 q1 (.tup (enV t.b t.o))) q2 (.tup (enV h m)) q = none → ∀ Z : Hp → Prop, (∀ H', (Same H H' ∧ ∃ (qs : List (Addr × Tie)) (w1 w2 w3 w4 : Option V), H' D = some (.lst (refs qs)) ∧ At tieV H' qs ∧ qs.map (·.2) = ((ps.map (·.2)).take (i + 1)).map (chg h m o) ∧
            [some (V.ref l), some (.int (h : Int)), some (.str (sgn m)), some (.str (sgn o)), some (.ref D), some (.int (t.a : Int)), some (.str (sgn (chg h m o t).m)), some (.int (t.b : Int)), some (.str (sgn t.o))] = [some (.ref l), some (.int (h : Int)), some (.str (sgn m)), some (.str (sgn o)), some (.ref D), w1, w2, w3, w4]) → Z H') →
            Z (upd (upd (upd (upd H3 q1 (.tup (enV t.b t.o))) q2 (.tup (enV h m))) q (.tup [.int (t.a : Int), .str (sgn (chg h m o t).m), .int (t.b : Int), .str (sgn x)])) D (.lst (refs qs ++ [.ref q]))) := fun x hx q nq Z hZ => by
          subst hx
          refine hZ _ ⟨((Same.trans (Same.trans s2 s3) s4).put nq).own nD, qs ++ [(q, chg h m o t)], _, _, _, _, ?_, ?_, ?_, rfl⟩
          · rw [upd_same, refs_app]
            rfl
          · have s5 := (Same.trans s3 s4).put nq (o := .tup [.int (t.a : Int), .str (sgn (chg h m o t).m), .int (t.b : Int), .str (sgn (chg h m o t).o)])
            have hDq := s5 _ _ hD2
            refine At.snoc ((hQ.same s5).mono (upd_tup hDq)) (put_ne ?_ (ne_of upd_same hDq (by intro z; cases z)))
            rw [upd_same]
            unfold tieV
            rw [chg_a, chg_b]
          · rw [List.map_append, hq, List.take_succ, hkt, List.map_append]
            rfl
        have app : ∀ (x : Nat) (q : Addr), upd (upd H3 q1 (.tup (enV t.b t.o))) q2 (.tup (enV h m)) q = none → (upd (upd (upd H3 q1 (.tup (enV t.b t.o))) q2 (.tup (enV h m))) q (.tup [.int (t.a : Int), .str (sgn (chg h m o t).m), .int (t.b : Int), .str (sgn x)])) D = some (.lst (refs qs)) := fun x q nq => (s4.put nq) _ _ hD3
        have eo := chg_o h m o ne
        unfold ren at eo
        by_cases c1 : t.b = h ∧ t.o = m
        · rw [decide_eq_true c1]
          rw [if_pos c1.1, if_pos c1.2] at eo
          exact iteT ⟨_, rfl, z4, fun q nq => ⟨_, _, _, rfl, rfl, app o q nq, (by rw [refs_len]; exact small1000 (by omega)), fin o eo.symm q nq _ fun H' z => z⟩⟩
        · rw [decide_eq_false c1]
          have eo2 : (chg h m o t).o = t.o := by
            rw [eo]
            by_cases c2 : t.b = h
            · rw [if_pos c2, if_neg fun z => c1 ⟨c2, z⟩]
            · rw [if_neg c2]
          exact iteF ⟨_, rfl, z4, fun q nq => ⟨_, _, _, rfl, rfl, app t.o q nq, (by rw [refs_len]; exact small1000 (by omega)), fin t.o eo2.symm q nq _ fun H' z => z⟩⟩
      · rintro σ H2 ⟨s2, qs, w1, w2, w3, w4, hD2, hQ, hq, rfl⟩
        rw [refs_len, List.take_of_length_le (by rw [List.length_map]; exact Nat.le_refl _)] at hq
        exact ⟨s2, qs, _, _, _, _, hD2, hQ, hq, rfl⟩
    rintro σ H2 ⟨s2, qs, w1, w2, w3, w4, hD2, hQ, hq, rfl⟩
    exact ⟨_, rfl, k D qs H2 s2 hD2 hQ hq⟩
end
end Wh

namespace Wh
open PySem L2
abbrev sExM : Stmt := metS 5 0
abbrev sWChg : Stmt := metS 36 8
theorem scExM : FnScope ["self", "given"] ["self", "given"] (defScope sExM) := ⟨rfl, rfl, rfl, by decide +kernel, rfl, by decide +kernel, by decide +kernel⟩
theorem scWChg : FnScope ["self", "house", "mark", "other", "taken", "tie"] ["self", "house", "mark", "other"] (defScope sWChg) := ⟨rfl, rfl, rfl, by decide +kernel, rfl, by decide +kernel, by decide +kernel⟩
section
variable {P : Program} {w : World} {K : PySem.W.Frag} {mg : Str → Option Value} {base : Heap} {C CM : Addr}
/-! ### an error that keeps what was given -/
def givF (y : V) : List (Str × V) := [(("given" : Str), y)]
structure ExT (K : PySem.W.Frag) (CM : Addr) : Prop where
  o : OexC K CM
  no : PySem.W.findIn K (.ref CM) "given" = some none
def spExM (CM : Addr) : Sp := fun vs H Q _ => ∃ (a : Addr) (y : V), vs = [.ref a, y] ∧ H a = some (exo a CM none) ∧ ∀ dx, H dx = none → dx ≠ a → Q .non (upd (upd H dx (exd dx (givF y))) a (exo a CM (some dx)))
theorem ok_exm {q : Str} {f : Addr} {fd : FuncData} (F : Fun K "__init__" q sExM f fd) (T : ExT K CM) : FnOk P w K mg base CX0 1 f fd ["self", "given"] (spExM CM) := by
  refine F.ok scExM (fun vs H Q E h => ?_) (fun cdv A outer s H vs Q E hr h => ?_)
  · obtain ⟨a, y, rfl, _⟩ := h
    rfl
  · obtain ⟨a, y, rfl, ha, k⟩ := h
    refine ⟨_, (pss_one (ps_ost (pv 0) (pv 1))), ?_⟩
    exact ⟨_, rfl, _, rfl, a, CM, rfl, T.o, T.no, .inl ⟨ha, fun dx nd ne => k dx nd ne⟩⟩
/-- the end of the error's making: its dict alone is left, new -/
theorem exm_end {H1 : Hp} {a : Addr} {y : V} {Q : XK} (ha : H1 a = none) (h : ∀ d H', Same H1 H' → H' d = some (.xd (givF y)) → Q (.ref CM) (some d) H') :
    spExM CM [.ref a, y] (upd H1 a (exo a CM none)) (fun v H2 => v = .non ∧ ∃ (d : Addr) (fs : List (Str × V)), H2 a = some (exo a CM (some d)) ∧ H2 d = some (exd d fs) ∧ H1 d = none ∧ Q (.ref CM) (some d) (upd (del H2 a) d (.xd fs))) (fun _ _ _ => False) := by
  refine ⟨a, y, rfl, upd_same, fun dx nd ne => ⟨rfl, dx, givF y, upd_same, put_ne upd_same ne, ?_, h dx _ ?_ upd_same⟩⟩
  · rw [upd_ne ne] at nd
    exact nd
  · intro b o e
    rw [upd_ne ne] at nd
    have b1 : b ≠ dx := ne_of_none e nd
    have b2 : b ≠ a := ne_of_none e ha
    rw [upd_ne b1, del_ne b2, upd_ne b2, upd_ne b1, upd_ne b2]
    exact e
/-! ### changed -/
theorem door_some {h : Nat} {ts : List Tie} {m : Nat} : (valV (doorsK h ts) (Sum.inr (sgn m) : Key)).isSome = decide (m ∈ marksAt h ts) := by
  cases e : valV (doorsK h ts) (Sum.inr (sgn m) : Key) with
  | none =>
    have q := valV_not e
    rw [doorsK_keys, List.mem_map] at q
    exact (decide_eq_false fun z => q ⟨m, z, rfl⟩).symm
  | some u =>
    have q := valV_in e
    rw [doorsK_keys, List.mem_map] at q
    obtain ⟨m2, h2, e2⟩ := q
    have e3 := sgn_inj (Sum.inr.inj e2)
    exact (decide_eq_true (e3 ▸ h2)).symm
def spWChg (C CM : Addr) : Sp := fun vs H Q E => ∃ (x : Addr) (n : Nat) (ts : List Tie) (h m o : Nat), vs = [.ref x, .int (h : Int), .str (sgn m), .str (sgn o)] ∧ WebAt C H x n ts ∧ h < n ∧ m ∈ letters ∧ o ∈ letters ∧
  (m ∈ marksAt h ts → o ∉ marksAt h ts → ∀ y H', Same H H' → WebAt C H' y n (ts.map (chg h m o)) → Q (.ref y) H') ∧
  (m ∉ marksAt h ts → ∀ d H', Same H H' → H' d = some (.xd (givF (.str (sgn m)))) → E (.ref CM) (some d) H') ∧
  (m ∈ marksAt h ts → o ∈ marksAt h ts → ∀ d H', Same H H' → H' d = some (.xd (givF (.str (sgn o)))) → E (.ref CM) (some d) H')
theorem ok_wchg {f fC fM fE fI fP fK : Addr} {fd fdC fdM fdE fdI fdP fdK : FuncData} (F : Fun K "changed" "Web.changed" sWChg f fd) (cW : WebC K C) (T : ExT K CM)
    (GC : FnOk P w K mg base CX0 5 fC fdC ["self", "house"] (spWCheck C)) (bC : Binds K fdC ["self", "house"] []) (mC : Meth K C "_check_house" fC)
    (GM : FnOk P w K mg base CX0 1 fM fdM ["value"] spMark) (FM : Fun K "is_mark" "is_mark" sMark fM fdM) (bM : Binds K fdM ["value"] []) (mM : mg "is_mark" = some (.ref fM))
    (GE : FnOk P w K mg base CX0 1 fE fdE ["self", "given"] (spExM CM)) (bE : Binds K fdE ["self", "given"] []) (iE : PySem.W.findIn K (.ref CM) "__init__" = some (some (.ref fE))) (tE : PySem.W.typeIn K (.ref fE) = some (.type "function")) (mE : mg "InvalidMark" = some (.ref CM))
    (GI : FnOk P w K mg base CX0 6 fI fdI ["self", "text"] (spInit C)) (bI : Binds K fdI ["self", "text"] []) (MW : Mk K C fI) (mW : mg "Web" = some (.ref C))
    (GP : FnOk P w K mg base CX0 1 fP fdP ["ties"] (spPlain K)) (FP : Fun K "plain_text" "plain_text" sPlain fP fdP) (bP : Binds K fdP ["ties"] []) (mP : mg "plain_text" = some (.ref fP))
    (GK : FnOk P w K mg base CX0 1 fK fdK ["tie", "house", "mark", "other"] spMarked) (FK : Fun K "marked" "marked" sMarked fK fdK) (bK : Binds K fdK ["tie", "house", "mark", "other"] []) (mK : mg "marked" = some (.ref fK)) :
    FnOk P w K mg base (L2.CX P w) 8 f fd ["self", "house", "mark", "other"] (spWChg C CM) := by
  refine F.okX scWChg (fun vs H Q E h => ?_) (fun cdv A outer s H vs Q E hr h => ?_)
  · obtain ⟨x, n, ts, h, m, o, rfl, _⟩ := h
    rfl
  · obtain ⟨x, n, ts, h, m, o, rfl, wb, hn, hm, ho, k1, k2, k3⟩ := h
    obtain ⟨dx, txt, l, ps, dl, ds, h1, h2, h3, h4, h5, h6⟩ := wb.ex
    have hr1 : Room 1 _ := hr.mono (by decide)
    have hr2 : Room 2 _ := hr.mono (by decide)
    have hr5 : Room 5 _ := hr.mono (by decide)
    have hr7 : Room 7 _ := hr
    have wkp : WebOk n (ps.map (·.2)) := wb.wk.perm h4.symm
    have pm := marksAt_perm h4 h
    refine ⟨_, (C8.pss_cut (ps_expr (pe_meth (pv 0) cW.c mC GC hr5 bC .nil pass0 (pa_cons (pv 1) pa_nil))) (C8.pss_cut (ps_set (i := 4) scWChg.nd rfl (.inl rfl) (pe_ix ix_list (pe_fld (pv 0) rfl) (pv 1) (fun _ _ => rfl))) (C8.pss_cut (ps_if (PW.pt (pw_or (pt_not (pt_val (pe_call GM hr1 (by rfl) mM FM.kp bM .nil pass0 (pa_cons (pv 2) pa_nil)))) (pw_or1 (pt_cmp (pc_dnotin (hu_of hr) (pv 2) (pv 4)))))) (pss_one (ps_raise rfl (takes_of rfl rfl rfl rfl) (pmk_oex T.o iE tE GE hr2 bE .nil pass0 (by rfl) mE (pa_cons (pv 2) pa_nil)))) pss_nil) (C8.pss_cut (ps_if (PW.pt (pw_or (pt_not (pt_val (pe_call GM hr1 (by rfl) mM FM.kp bM .nil pass0 (pa_cons (pv 3) pa_nil)))) (pw_or1 (pt_cmp (pc_din (hu_of hr) (pv 3) (pv 4)))))) (pss_one (ps_raise rfl (takes_of rfl rfl rfl rfl) (pmk_oex T.o iE tE GE hr2 bE .nil pass0 (by rfl) mE (pa_cons (pv 3) pa_nil)))) pss_nil) (pss_one (ps_ret (pe_make MW GI hr7 rfl mW bI .nil pass0 (pa_cons (pe_call GP hr1 (by rfl) mP FP.kp bP .nil pass0 (pa_cons (pe_lc (own := [("tie", 5)]) (g := gName 5) (tt := tYes) rfl scWChg.nd (pi_tup (pe_fld (pv 0) rfl)) (blkOk_by (N := ["self", "house", "mark", "other", "taken", "tie"]) (own := [("tie", 5)]) (sc := defScope sWChg) (by decide +kernel)) (fun _ _ _ _ _ => (pg_name (i := 5) scWChg.nd rfl (.inl rfl))) (fun _ _ _ _ _ => pts_nil) (fun _ _ _ _ _ => (pe_call GK hr1 (by rfl) mK FK.kp bK .nil pass0 (pa_cons (pv 5) (pa_cons (pv 1) (pa_cons (pv 2) (pa_cons (pv 3) pa_nil))))))) pa_nil)) pa_nil)))))))), ?_⟩
    refine ⟨fun σ H' => H = H' ∧ σ = [some (.ref x), some (.int (h : Int)), some (.str (sgn m)), some (.str (sgn o)), none, none], ?_, ?_⟩
    · exact ⟨_, rfl, x, dx, _, rfl, h1, ff_no _ _ _ _ (by decide +kernel), _, rfl, x, n, ts, h, rfl, wb, hn, rfl, rfl⟩
    rintro σ H' ⟨rfl, rfl⟩
    have hi : h < ds.length := by rw [h5.len]; exact hn
    have hg : ds[h]? = some ds[h] := List.getElem?_eq_getElem hi
    have hd := h5.hd h _ hg
    refine ⟨fun σ H' => H = H' ∧ σ = [some (.ref x), some (.int (h : Int)), some (.str (sgn m)), some (.str (sgn o)), some (.ref ds[h]), none], ?_, ?_⟩
    · exact ⟨_, rfl, x, C, dx, _, _, rfl, h1, cW.c, cW.n4, ff_doors _ _ _ _, _, rfl, dl, _, _, _, rfl, rfl, SqL.of h5.hl, atI_nat (by rw [List.getElem?_map, hg]; rfl), rfl, rfl⟩
    rintro σ H' ⟨rfl, rfl⟩
    refine ⟨fun σ H' => H = H' ∧ m ∈ marksAt h ts ∧ σ = [some (.ref x), some (.int (h : Int)), some (.str (sgn m)), some (.str (sgn o)), some (.ref ds[h]), none], ?_, ?_⟩
    · refine ⟨_, rfl, m, rfl, _, rfl, ?_⟩
      rw [decide_eq_true hm]
      refine iteF ⟨_, rfl, _, rfl, ds[h], _, rfl, DGet.k (k := Sum.inr (sgn m)) hd, _, rfl, ?_⟩
      rw [door_some]
      by_cases c : m ∈ marksAt h ts
      · rw [decide_eq_true (pm.mem_iff.mpr c)]
        exact iteF ⟨rfl, c, rfl⟩
      · rw [decide_eq_false fun z => c (pm.mem_iff.mp z)]
        exact iteT ⟨_, rfl, (by show 1 ≤ 1000; decide), fun a na => exm_end na fun d H' s' e => k2 c d H' s' e⟩
    rintro σ H' ⟨rfl, hmm, rfl⟩
    refine ⟨fun σ H' => H = H' ∧ o ∉ marksAt h ts ∧ σ = [some (.ref x), some (.int (h : Int)), some (.str (sgn m)), some (.str (sgn o)), some (.ref ds[h]), none], ?_, ?_⟩
    · refine ⟨_, rfl, o, rfl, _, rfl, ?_⟩
      rw [decide_eq_true ho]
      refine iteF ⟨_, rfl, _, rfl, ds[h], _, rfl, DGet.k (k := Sum.inr (sgn o)) hd, _, rfl, ?_⟩
      rw [door_some]
      by_cases c : o ∈ marksAt h ts
      · rw [decide_eq_true (pm.mem_iff.mpr c)]
        exact iteT ⟨_, rfl, (by show 1 ≤ 1000; decide), fun a na => exm_end na fun d H' s' e => k3 hmm c d H' s' e⟩
      · rw [decide_eq_false fun z => c (pm.mem_iff.mp z)]
        exact iteF ⟨rfl, c, rfl⟩
    rintro σ H' ⟨rfl, hoo, rfl⟩
    refine ⟨_, rfl, x, C, dx, _, _, rfl, h1, cW.c, cW.n3, ff_ties _ _ _ _, l, rfl, ⟨_, SqT.of h2⟩, fun D nD => ?_⟩
    have len100 : ps.length ≤ 100 := by
      have := wkp.len
      rw [List.length_map] at this
      exact this
    refine lc_tup (K := K) (a := l) (xs := refs ps) (fun i H' => Same H H' ∧ ∃ qs : List (Addr × Tie), H' D = some (.lst (refs qs)) ∧ At tieV H' qs ∧ qs.map (·.2) = ((ps.map (·.2)).take i).map (chg h m o)) ⟨same_upd nD, [], upd_same, (fun p hp => by cases hp), rfl⟩ (fun i H' _ ⟨s, _⟩ => SqT.of (s _ _ h2)) ?_ ?_
    · rintro i y H1 hx ⟨s1, qs, hD, hQ, hq⟩
      obtain ⟨⟨p, t⟩, hk, rfl⟩ := refs_get hx
      have hp : H1 p = some (.tup (tieV t)) := s1 _ _ (h3 _ (List.mem_of_getElem? hk))
      have hkt : (ps.map (·.2))[i]? = some t := by rw [List.getElem?_map, hk]; rfl
      obtain ⟨lm, lo⟩ := wkp.let_ t (List.mem_of_getElem? hkt)
      refine ⟨rfl, _, rfl, _, rfl, _, rfl, _, rfl, p, t, h, m, o, rfl, hp, lm, lo, hm, fun q H2 s2 hq2 => ?_⟩
      have hD2 := s2 _ _ hD
      have eql : qs.length = ((ps.map (·.2)).take i).length := by
        have e := congrArg List.length hq
        rw [List.length_map, List.length_map] at e
        exact e
      refine ⟨_, hD2, ?_, ((Same.trans s1 s2).own nD), qs ++ [(q, chg h m o t)], ?_, ?_, ?_⟩
      · rw [refs_len, eql, List.length_take, List.length_map]
        exact small1000 (by omega)
      · rw [upd_same, refs_app]
        rfl
      · exact At.snoc ((hQ.same s2).mono (upd_tup hD2)) (put_ne hq2 (ne_of hq2 hD2 (by intro z; cases z)))
      · rw [List.map_append, hq, List.take_succ, hkt, List.map_append]
        rfl
    · rintro H1 ⟨s1, qs, hD, hQ, hq⟩
      rw [refs_len, List.take_of_length_le (by rw [List.length_map]; exact Nat.le_refl _)] at hq
      have hoo' : o ∉ marksAt h (ps.map (·.2)) := fun z => hoo (pm.mem_iff.mp z)
      have wkq : WebOk n (qs.map (·.2)) := hq.symm ▸ wkp.chg ho hoo'
      refine ⟨D, qs, n, rfl, hD, hQ, wkq, fun ts' H2 s2 hp2 srt2 => ?_⟩
      have pq : ts'.Perm (ts.map (chg h m o)) := hp2.trans (by rw [hq]; exact h4.map _)
      have e : ts' = ts.map (chg h m o) := srt_uniq srt2 (by rw [map_pr]; exact wb.srt) pq
      subst e
      refine fun y dy ny ndy ne => ⟨y, dy, _, _, n, rfl, upd_same, (by rw [nrm_map fun t ht => ((wb.wk.chg ho hoo).lt t ht).1]), wb.wk.chg ho hoo, srt2, fun H3 b3 wb3 _ => ⟨rfl, k1 hmm hoo y H3 ?_ wb3⟩⟩
      intro b u e
      have e2 := s2 _ _ (s1 _ _ e)
      have b1 : b ≠ y := ne_of_none e2 ny
      have b2 : b ≠ dy := ne_of_none e2 ndy
      exact b3 b u (by rw [upd_ne b1, upd_ne b2]; exact e2) b1
end
end Wh

namespace Wh
open PySem L2
abbrev sCaught : Stmt := topS 46
theorem scCaught : FnScope ["act", "e", "names"] ["act"] (defScope sCaught) := ⟨rfl, rfl, rfl, by decide +kernel, rfl, by decide +kernel, by decide +kernel⟩
theorem repr_len : ∀ c ∈ letters, (reprText (sgn c)).length ≤ sizeLine := by decide +kernel
structure CaughtF (K : PySem.W.Frag) (mg : Str → Option Value) (A1 A2 A3 A4 : Addr) : Prop where
  m1 : mg "InvalidCount" = some (.ref A1)
  m2 : mg "InvalidHouse" = some (.ref A2)
  m3 : mg "InvalidMark" = some (.ref A3)
  m4 : mg "InvalidPair" = some (.ref A4)
  misi : mg "isinstance" = none
  mrepr : mg "repr" = none
  xm : PySem.W.exmAny K (.ref A3) [.ref A1, .ref A2, .ref A3, .ref A4] = some true
  k1 : PySem.W.kitOne K (.ref A3) (.ref A1) = some false
  k2 : PySem.W.kitOne K (.ref A3) (.ref A2) = some false
  k3 : PySem.W.kitOne K (.ref A3) (.ref A3) = some true
  k4 : PySem.W.kitOne K (.ref A3) (.ref A4) = some false
  ex : L2.ExcC K A3
  xf : XfC K A3
  no : PySem.W.findIn K (.ref A3) "given" = some none
/-- what _law_caught makes of what it calls: here always an InvalidMark that keeps a letter -/
def TTc (CM : Addr) : (XK → Hp → VK → Prop) → Hp → VK → Prop := fun tl H Q => ∃ c ∈ letters,
  tl (fun cls d H' => cls = .ref CM ∧ ∃ dd, d = some dd ∧ H' dd = some (.xd (givF (.str (sgn c)))) ∧ ∀ p H'', Same H' H'' → H'' p = some (.lst [.int 2, .str (reprText (sgn c))]) → Q (.ref p) H'') H
    (fun x H2 => [V.str "given", x].length ≤ sizeLine ∧ ∀ p, H2 p = none → Q (.ref p) (upd H2 p (.lst [.str "given", x])))
def suiteOf : Stmt → List Stmt
  | .Try _ (.ExceptHandler _ _ b _ :: _) _ _ _ => b
  | _ => []
abbrev sSuite : List Stmt := suiteOf ((defBody sCaught).getD 0 (.Pass ⟨0, 0, 0, 0⟩))
def rdIs (K : PySem.W.Frag) (a : Addr) (cls : Value) (d : Option Addr) (A : Addr) : TE := tCB (rIsD K a cls d) (tCons (tVar 1) (tCons (tC (.ref A)) tNil))
def tSu1 (K : PySem.W.Frag) (A1 A2 A3 : Addr) (a : Addr) (cls : Value) (d : Option Addr) : TS := tAsg (tLst (tCons (rdIs K a cls d A1) (tCons (rdIs K a cls d A2) (tCons (rdIs K a cls d A3) tNil)))) (gName 2)
def tSu2 (K : PySem.W.Frag) (A3 A4 : Addr) (a : Addr) (cls : Value) (d : Option Addr) : TS :=
  tRet (tLst (tCons (tBM K "list" (rIndex K) (tOp rCat (tVar 2) (tLst (tCons (rdIs K a cls d A4) tNil))) (tCons (tC (.bl true)) tNil)) (tCons (tCB rReprS (tCons (tXf a cls d A3 "given" (tVar 1)) tNil)) tNil)))
theorem suite_ok {X : Cx} {g A1 A2 A3 A4 : Addr} {cdg : Value} {s : Shared} {H : Hp} (F : CaughtF X.K X.mg A1 A2 A3 A4) : ∀ (a : Addr) (cls : Value) (d : Option Addr), ∃ t : TS,
    (∀ (oe : Obj) (pn : List (Addr × Obj)), Zc cls d oe → (∃ vs, oe.data = .fields vs) →
      PSs ((cxOf C8.CX0 X.prog X.w X.K X.mg X.base ["act", "e", "names"] "_law_caught" (defScope sCaught) g cdg X.A X.stack s H C8.E0).nox.suite a ((a, oe) :: pn)) sSuite t) ∧
    ∀ (dd : Addr) (c : Nat) (x z : Option V) (H' : Hp) (D : Ends), cls = .ref A3 → d = some dd → c ∈ letters → H' dd = some (.xd (givF (.str (sgn c)))) → (∀ p H'', Same H' H'' → H'' p = some (.lst [.int 2, .str (reprText (sgn c))]) → D.rt (.ref p) H'') →
      t D [x, some (.ref a), z] H' := by
  intro a cls d
  refine ⟨_, fun oe pn hz hf => (C8.pss_cut (t := tSu1 X.K A1 A2 A3 a cls d) (u := tSu2 X.K A3 A4 a cls d) (by exact (ps_set (i := 2) scCaught.nd rfl (.inl rfl) (pe_lst (pa_cons (pe_callB (call_isD hz hf) (by rfl) F.misi (by decide +kernel) (pa_cons (pv 1) (pa_cons (pe_glob (v := .ref A1) rfl F.m1 rfl) pa_nil))) (pa_cons (pe_callB (call_isD hz hf) (by rfl) F.misi (by decide +kernel) (pa_cons (pv 1) (pa_cons (pe_glob (v := .ref A2) rfl F.m2 rfl) pa_nil))) (pa_cons (pe_callB (call_isD hz hf) (by rfl) F.misi (by decide +kernel) (pa_cons (pv 1) (pa_cons (pe_glob (v := .ref A3) rfl F.m3 rfl) pa_nil))) pa_nil)))))) (by exact (pss_one (ps_ret (pe_lst (pa_cons (pe_bm PySem.F.plainAttrs_list PySem.F.slot_list_index PySem.F.type_list_index mt_index (pe_op op_cat (pv 2) (pe_lst (pa_cons (pe_callB (call_isD hz hf) (by rfl) F.misi (by decide +kernel) (pa_cons (pv 1) (pa_cons (pe_glob (v := .ref A4) rfl F.m4 rfl) pa_nil))) pa_nil))) (pa_cons pe_bl pa_nil)) (pa_cons (pe_callB call_repr_str (by rfl) F.mrepr (by decide +kernel) (pa_cons (pe_xf F.xf F.no hz hf (pv 1)) pa_nil)) pa_nil))))))), fun dd c x z H' D ecls ed hcl hdd k => ?_⟩
  subst ecls ed
  refine ⟨fun σ H'' => Same H' H'' ∧ ∃ p : Addr, H'' p = some (.lst [.bl false, .bl false, .bl true]) ∧ σ = [x, some (.ref a), some (.ref p)], ?_, ?_⟩
  · refine ⟨_, rfl, A3, _, _, false, dd, _, rfl, F.ex, rfl, hdd, rfl, (fun u hu => hu), F.k1, ?_⟩
    refine ⟨_, rfl, A3, _, _, false, dd, _, rfl, F.ex, rfl, hdd, rfl, (fun u hu => hu), F.k2, ?_⟩
    refine ⟨_, rfl, A3, _, _, true, dd, _, rfl, F.ex, rfl, hdd, rfl, (fun u hu => hu), F.k3, ?_⟩
    exact ⟨by show 3 ≤ sizeLine; decide, fun p np => ⟨same_upd np, p, upd_same, rfl⟩⟩
  rintro σ H1 ⟨s1, p, hp, rfl⟩
  have hdd1 := s1 _ _ hdd
  refine ⟨_, rfl, _, rfl, A3, _, _, false, dd, _, rfl, F.ex, rfl, hdd1, rfl, (fun u hu => hu), F.k4, (by show 1 ≤ sizeLine; decide), fun p2 n2 => ?_⟩
  refine ⟨p, p2, _, _, rfl, rfl, put_old hp n2, upd_same, (by show 4 ≤ sizeLine; decide), fun p3 n3 => ?_⟩
  refine ⟨.inl ⟨rfl, _, SqL.of upd_same⟩, ?_⟩
  refine ⟨p3, _, _, 2, .bl true, rfl, rfl, SqL.of upd_same, rfl, rfl, rfl, rfl, ?_, ?_⟩
  · intro m z' hm hz'
    match m, hm with
    | 0, _ => obtain rfl := Option.some.inj hz'; rfl
    | 1, _ => obtain rfl := Option.some.inj hz'; rfl
  have s3 := (s1.put n2 (o := .lst [.bl false])).put n3 (o := .lst ([.bl false, .bl false, .bl true] ++ [.bl false]))
  refine ⟨_, rfl, rfl, rfl, dd, _, _, rfl, s3 _ _ hdd, rfl, _, rfl, repr_len c hcl, (by show 2 ≤ sizeLine; decide), fun p4 n4 => ?_⟩
  exact k p4 _ (s3.put n4) upd_same
theorem pss_ex {X : Cx} {body : List Stmt} {ι : Type} {t : ι → TS} {C : ι → Prop} (h : ∀ i, C i → PSs X body (t i)) : PSs X body (fun D σ H => ∃ i, C i ∧ t i D σ H) := ⟨fun pins s σ H D I ⟨i, c, q⟩ => (h i c).run pins s σ H D I q⟩
theorem caught_gives {X : Cx} {g A1 A2 A3 A4 : Addr} {cdg : Value} {q : Str} (F : CaughtF X.K X.mg A1 A2 A3 A4) : LamX.GivesTo X ["act", "e", "names"] "_law_caught" (defScope sCaught) g cdg (defBody sCaught) "act" q (TTc A3) := by
  intro f c' s H Q tl act hc h
  have SO := suite_ok (X := X) (g := g) (cdg := cdg) (s := s) (H := H) F
  let ts : Addr → Value → Option Addr → TS := fun a cls d => (SO a cls d).choose
  have hts := fun a cls d => (SO a cls d).choose_spec.1
  have hrd := fun a cls d => (SO a cls d).choose_spec.2
  refine ⟨_, pss_one (ps_try_when (X := (cxOf C8.CX0 X.prog X.w X.K X.mg X.base ["act", "e", "names"] "_law_caught" (defScope sCaught) g cdg X.A X.stack s H C8.E0).nox) (i := 1) (yes := fun cls => PySem.W.exmAny X.K cls [.ref A1, .ref A2, .ref A3, .ref A4] = some true) (ts := ts)
      (tb := fun W D σ H => ∃ Ech : XK, (∀ cls d σ' H', Ech cls d H' → W cls d σ' H') ∧ tRet (tLst (tCons (tC (.str "given")) (tCons (fun σZ HZ Q => σZ[0]? = some (some (.ref f)) ∧ HZ c' = some (LamX.CodeO c' q) ∧ tl Ech HZ Q) tNil))) D σ H)
      rfl rfl scCaught.nd rfl rfl (asks4 ⟨rfl, by decide, .inl F.m1⟩ ⟨rfl, by decide, .inl F.m2⟩ ⟨rfl, by decide, .inl F.m3⟩ ⟨rfl, by decide, .inl F.m4⟩) (fun W pn xe tk => ?_) (fun a oe cls d pn hz hf => hts a cls d oe pn hz hf)), ?_⟩
  · exact pss_ex fun Ech hW => pss_one (ps_ret (pe_lst (pa_cons pe_str (pa_cons (act W pn xe Ech _ _ tk hW) pa_nil))))
  · obtain ⟨c, hcl, h⟩ := h
    refine ⟨_, fun cls d σ' H' hE => ?_, rfl, hc, h⟩
    obtain ⟨rfl, dd, rfl, hdd, k⟩ := hE
    refine ⟨F.xm, fun hlen a na => ?_⟩
    obtain ⟨x, y, z, rfl⟩ : ∃ x y z, σ' = [x, y, z] := by
      match σ', hlen with
      | [x, y, z], _ => exact ⟨x, y, z, rfl⟩
    exact hrd a _ _ dd c x z H' _ rfl rfl hcl hdd k
end Wh

namespace Wh
open PySem L2
abbrev sWText : Stmt := metS 36 1
abbrev sWTies : Stmt := metS 36 5
abbrev sWStr : Stmt := metS 36 11
abbrev sWEq : Stmt := metS 36 10
theorem scWEq : FnScope ["self", "other"] ["self", "other"] (defScope sWEq) := ⟨rfl, rfl, rfl, by decide +kernel, rfl, by decide +kernel, by decide +kernel⟩
theorem scWText : FnScope ["self"] ["self"] (defScope sWText) := ⟨rfl, rfl, rfl, by decide +kernel, rfl, by decide +kernel, by decide +kernel⟩
theorem scWTies : FnScope ["self"] ["self"] (defScope sWTies) := ⟨rfl, rfl, rfl, by decide +kernel, rfl, by decide +kernel, by decide +kernel⟩
theorem scWStr : FnScope ["self"] ["self"] (defScope sWStr) := ⟨rfl, rfl, rfl, by decide +kernel, rfl, by decide +kernel, by decide +kernel⟩
structure WebI (K : PySem.W.Frag) (C : Addr) : Prop where
  ha : PySem.W.findIn K (.ref C) "__class__" = some (some (.builtin "object.__class__"))
  hn : PySem.W.specialIn K (.builtin "object.__class__") "__get__" = some (some (.builtin "getset_descriptor.__get__"))
  ht : PySem.W.takesIn K (.builtin "object.__class__") = some true
  hm : PySem.W.mroIn K C (.type "object") = some true
  kit : PySem.W.kitOne K (.ref C) (.ref C) = some true
section
variable {P : Program} {w : World} {K : PySem.W.Frag} {mg : Str → Option Value} {base : Heap} {C : Addr}
def spWEqA (K : PySem.W.Frag) (C : Addr) : Sp := fun vs H Q _ => ∃ (x : Addr) (y : V) (n : Nat) (ts : List Tie), vs = [.ref x, y] ∧ WebAt C H x n ts ∧
  ((∃ (b : Addr) (m : Nat) (us : List Tie), y = .ref b ∧ WebAt C H b m us ∧ Q (.bl (decide (ts = us))) H) ∨ ∃ t : Value, TyX K H y t ∧ PySem.W.kitOne K t (.ref C) = some false ∧ Q (.bl false) H)
theorem ok_weqA {f : Addr} {fd : FuncData} (F : Fun K "__eq__" "Web.__eq__" sWEq f fd) (cW : WebC K C) (I : WebI K C) (misi : mg "isinstance" = none) (mW : mg "Web" = some (.ref C)) : FnOk P w K mg base CX0 1 f fd ["self", "other"] (spWEqA K C) := by
  refine F.ok scWEq (fun vs H Q E h => ?_) (fun cdv A outer s H vs Q E hr h => ?_)
  · obtain ⟨x, y, n, ts, rfl, _⟩ := h
    rfl
  · obtain ⟨x, y, n, ts, rfl, wx, h⟩ := h
    obtain ⟨dx, txt, l, ps, dl, ds, h1, _⟩ := wx.ex
    refine ⟨_, (pss_one (ps_ret (pe_and (pe_callB call_isi (by rfl) misi (by decide +kernel) (pa_cons (pv 1) (pa_cons (pe_glob (v := .ref C) rfl mW rfl) pa_nil))) (pe_one (pe_cmpR op_eq (pe_fld (pv 0) rfl) (pe_fld (pv 1) rfl) (nomark _)))))), ?_⟩
    rcases h with ⟨b, m, us, rfl, wy, k⟩ | ⟨t, ty, no, k⟩
    · obtain ⟨dy, txt2, l2, ps2, dl2, ds2, h2, _⟩ := wy.ex
      refine ⟨_, rfl, _, _, _, _, true, rfl, .own C, .base (.ins h2 cW.c I.ha I.hn I.ht I.hm), I.kit, true, rfl, ?_⟩
      refine iteT ⟨_, rfl, x, C, dx, _, _, rfl, h1, cW.c, cW.n2, ff_plain _ _ _ _, _, rfl, b, C, dy, _, _, rfl, h2, cW.c, cW.n2, ff_plain _ _ _ _, rfl, ?_⟩
      have e : decide (V.str (webS ts) = V.str (webS us)) = decide (ts = us) := by
        by_cases c : ts = us
        · rw [c, decide_eq_true rfl, decide_eq_true rfl]
        · rw [decide_eq_false c, decide_eq_false fun z => c (webS_inj wx.wk wy.wk (V.str.inj z))]
      rw [e]
      exact k
    · exact ⟨_, rfl, _, _, _, _, false, rfl, .own C, ty, no, false, rfl, iteF k⟩
def spWEq (C : Addr) : Sp := fun vs H Q _ => ∃ (x y : Addr) (n m : Nat) (ts : List Tie), vs = [.ref x, .ref y] ∧ WebAt C H x n ts ∧ WebAt C H y m ts ∧ Q (.bl true) H
theorem ok_weq {f : Addr} {fd : FuncData} (G : FnOk P w K mg base CX0 1 f fd ["self", "other"] (spWEqA K C)) : FnOk P w K mg base CX0 1 f fd ["self", "other"] (spWEq C) :=
  G.imp fun vs H Q E ⟨x, y, n, m, ts, e, wx, wy, k⟩ => ⟨x, .ref y, n, ts, e, wx, .inl ⟨y, m, ts, rfl, wy, by rw [decide_eq_true rfl]; exact k⟩⟩
def spWText (C : Addr) : Sp := fun vs H Q _ => ∃ (x : Addr) (txt : Str), vs = [.ref x] ∧ TextAt C H x txt ∧ Q (.str txt) H
theorem ok_wtext {f : Addr} {fd : FuncData} (F : Fun K "text" "Web.text" sWText f fd) (cW : WebC K C) : FnOk P w K mg base CX0 1 f fd ["self"] (spWText C) := by
  refine F.ok scWText (fun vs H Q E h => ?_) (fun cdv A outer s H vs Q E hr h => ?_)
  · obtain ⟨x, txt, rfl, _⟩ := h
    rfl
  · obtain ⟨x, txt, rfl, ⟨dx, pl, l, dl, h1⟩, k⟩ := h
    exact ⟨_, (pss_one (ps_ret (pe_fld (pv 0) rfl))), _, rfl, x, C, dx, _, _, rfl, h1, cW.c, cW.n1, ff_text _ _ _ _, k⟩
def spWTies (C : Addr) : Sp := fun vs H Q _ => ∃ (x : Addr) (n : Nat) (ts : List Tie), vs = [.ref x] ∧ WebAt C H x n ts ∧ ∀ (l : Addr) (ps : List (Addr × Tie)), H l = some (.tup (refs ps)) → At tieV H ps → (ps.map (·.2)).Perm ts → (ps.map (·.2)).Pairwise (fun x y => ¬ tLt y x) → Q (.ref l) H
theorem ok_wties {f : Addr} {fd : FuncData} (F : Fun K "ties" "Web.ties" sWTies f fd) (cW : WebC K C) : FnOk P w K mg base CX0 1 f fd ["self"] (spWTies C) := by
  refine F.ok scWTies (fun vs H Q E h => ?_) (fun cdv A outer s H vs Q E hr h => ?_)
  · obtain ⟨x, n, ts, rfl, _⟩ := h
    rfl
  · obtain ⟨x, n, ts, rfl, wb, k⟩ := h
    obtain ⟨dx, txt, l, ps, dl, ds, h1, h2, h3, h4, h5, h6⟩ := wb.ex
    exact ⟨_, (pss_one (ps_ret (pe_fld (pv 0) rfl))), _, rfl, x, C, dx, _, _, rfl, h1, cW.c, cW.n3, ff_ties _ _ _ _, k l ps h2 h3 h4 h6⟩
def spWStr (C : Addr) : Sp := fun vs H Q _ => ∃ (x : Addr) (n : Nat) (ts : List Tie), vs = [.ref x] ∧ WebAt C H x n ts ∧ Q (.str (webS ts)) H
theorem ok_wstr {f : Addr} {fd : FuncData} (F : Fun K "__str__" "Web.__str__" sWStr f fd) (cW : WebC K C) (mstr : mg "str" = none) : FnOk P w K mg base CX0 1 f fd ["self"] (spWStr C) := by
  refine F.ok scWStr (fun vs H Q E h => ?_) (fun cdv A outer s H vs Q E hr h => ?_)
  · obtain ⟨x, n, ts, rfl, _⟩ := h
    rfl
  · obtain ⟨x, n, ts, rfl, wb, k⟩ := h
    obtain ⟨dx, txt, l, ps, dl, ds, h1, _⟩ := wb.ex
    exact ⟨_, (pss_one (ps_ret (pe_callTy SkE.call_str_str (by rfl) mstr (by decide +kernel) (pa_cons (pe_fld (pv 0) rfl) pa_nil)))), _, rfl, x, C, dx, _, _, rfl, h1, cW.c, cW.n2, ff_plain _ _ _ _, _, rfl, k⟩
end
end Wh

namespace Wh
open PySem L2
abbrev sRight : Stmt := topS 48
theorem scRight : FnScope ["cup", "turn", "told", "step", "told_later", "spot", "later", "mark", "other", "web", "letter", "row"] ["cup"] (defScope sRight) := ⟨rfl, rfl, rfl, by decide +kernel, rfl, by decide +kernel, by decide +kernel⟩
def lamQ : Str := ("_law_right" : Str) ++ ".<locals>." ++ "<lambda>"
def chgG {α : Type} : List α → List α → List α
  | [a], [o, m, h] => [a, h, m, o]
  | _, _ => []
theorem chgG_rel {vs zs : List V} {us ws : List Value} (r : Vals vs us) (q : Vals zs ws) : Vals (chgG vs zs) (chgG us ws) := by
  cases r with
  | nil => exact .nil
  | cons r1 r =>
    cases r with
    | cons r2 r => exact .nil
    | nil =>
      cases q with
      | nil => exact .nil
      | cons q1 q =>
        cases q with
        | nil => exact .nil
        | cons q2 q =>
          cases q with
          | nil => exact .nil
          | cons q3 q =>
            cases q with
            | nil => exact .cons r1 (.cons q3 (.cons q2 (.cons q1 .nil)))
            | cons q4 q => exact .nil
set_option maxHeartbeats 2000000 in
theorem kb_chg {K : PySem.W.Frag} {f : Addr} {fd : FuncData} (F : Fun K "changed" "Web.changed" sWChg f fd) : KBinds K fd ["self", "house", "mark", "other"] ["other", "mark", "house"] chgG chgG := by
  refine ⟨fun s us ws _ hl => ?_, fun r q => chgG_rel r q⟩
  obtain ⟨oc, od, kV, doc, pm, an, cdv, ct, osl, rfl, lk, hcd⟩ := F.ex
  match us, ws, hl with
  | [a], [o, m, h], _ => exact .of_eq (by kernel_rfl)
  | [], _, hl => exact absurd hl (by simp [chgG])
  | [_], [], hl => exact absurd hl (by simp [chgG])
  | [_], [_], hl => exact absurd hl (by simp [chgG])
  | [_], [_, _], hl => exact absurd hl (by simp [chgG])
  | [_], _ :: _ :: _ :: _ :: _, hl => exact absurd hl (by simp [chgG])
  | _ :: _ :: _, _, hl => exact absurd hl (by simp [chgG])
/-- all that _law_right stands on -/
structure RF (P : Program) (w : World) (K : PySem.W.Frag) (mg : Str → Option Value) (base : Heap) where
  (C A1 A2 A3 A4 : Addr)
  cW : WebC K C
  caught : CaughtF K mg A1 A2 A3 A4
  (fSip fPick fDra fText fWay fLChg fIni gPla pPla0 gHou pHou0 gAt gChg gEq fCa : Addr)
  (fdSip fdPick fdDra fdText fdWay fdLChg fdIni fdPla fdHou fdAt fdChg fdEq : FuncData)
  GSip : FnOk P w K mg base CX0 1 fSip fdSip ["cup", "top"] spSip
  bSip : Binds K fdSip ["cup", "top"] []
  mSip : mg "_law_sip" = some (.ref fSip)
  kSip : PySem.W.keepIn K (.ref fSip) = true
  GPick : FnOk P w K mg base CX0 2 fPick fdPick ["cup", "things"] spPick
  bPick : Binds K fdPick ["cup", "things"] []
  mPick : mg "_law_pick" = some (.ref fPick)
  kPick : PySem.W.keepIn K (.ref fPick) = true
  GDra : FnOk P w K mg base CX0 3 fDra fdDra ["cup", "most"] (spDrawn K)
  bDra : Binds K fdDra ["cup", "most"] []
  mDra : mg "_law_drawn" = some (.ref fDra)
  kDra : PySem.W.keepIn K (.ref fDra) = true
  GText : FnOk P w K mg base CX0 1 fText fdText ["told"] (spText K)
  bText : Binds K fdText ["told"] []
  mText : mg "_law_text" = some (.ref fText)
  kText : PySem.W.keepIn K (.ref fText) = true
  GWay : FnOk P w K mg base CX0 1 fWay fdWay ["told"] (spDoors K)
  bWay : Binds K fdWay ["told"] []
  mWay : mg "_law_ways" = some (.ref fWay)
  kWay : PySem.W.keepIn K (.ref fWay) = true
  GLChg : FnOk P w K mg base CX0 1 fLChg fdLChg ["told", "spot", "mark", "other"] spLChg
  bLChg : Binds K fdLChg ["told", "spot", "mark", "other"] []
  mLChg : mg "_law_changed" = some (.ref fLChg)
  kLChg : PySem.W.keepIn K (.ref fLChg) = true
  GIni : FnOk P w K mg base CX0 6 fIni fdIni ["self", "text"] (spInit C)
  bIni : Binds K fdIni ["self", "text"] []
  MW : Mk K C fIni
  mWeb : mg "Web" = some (.ref C)
  GPla : FnOk P w K mg base CX0 1 gPla fdPla ["self"] (spWPlain C)
  bPla : Binds K fdPla ["self"] []
  pPla : PropOf K C "plain" pPla0 gPla
  GHou : FnOk P w K mg base CX0 1 gHou fdHou ["self"] (spWHouses C)
  bHou : Binds K fdHou ["self"] []
  pHou : PropOf K C "houses" pHou0 gHou
  GAt : FnOk P w K mg base CX0 6 gAt fdAt ["self", "house"] (spWAt C)
  bAt : Binds K fdAt ["self", "house"] []
  mAt : Meth K C "at" gAt
  GChg : FnOk P w K mg base (L2.CX P w) 8 gChg fdChg ["self", "house", "mark", "other"] (spWChg C A3)
  bChg : Binds K fdChg ["self", "house", "mark", "other"] []
  kbChg : KBinds K fdChg ["self", "house", "mark", "other"] ["other", "mark", "house"] chgG chgG
  mChg : Meth K C "changed" gChg
  GEq : FnOk P w K mg base CX0 1 gEq fdEq ["self", "other"] (spWEq C)
  bEq : Binds K fdEq ["self", "other"] []
  ne : NeF K C gEq
  mCa : mg "_law_caught" = some (.ref fCa)
  kCa : PySem.W.keepIn K (.ref fCa) = true
  (ocCa kVCa docCa pmCa cdvCa ctCa : Value) (odCa anCa : Option Addr) (oslCa : Array (Option Value))
  lkCa : K.lookup fCa = some ⟨ocCa, odCa, .func (PySem.W.fnOf "_law_caught" "_law_caught" (defArgs sCaught) (defBody sCaught) (defScope sCaught) .none kVCa docCa pmCa anCa cdvCa ctCa), oslCa⟩
  cdCa : PySem.W.codeIn K cdvCa "_law_caught" = true
  bCa : Binds K (PySem.W.fnOf "_law_caught" "_law_caught" (defArgs sCaught) (defBody sCaught) (defScope sCaught) .none kVCa docCa pmCa anCa cdvCa ctCa) ["act"] []
  mrange : mg "range" = none
  mlist : mg "list" = none
  mlen : mg "len" = none
  mrepr : mg "repr" = none
section
variable {P : Program} {w : World} {K : PySem.W.Frag} {mg : Str → Option Value} {base : Heap}
/-- a def whose code object is known -/
theorem ok_code {x qual : Str} {st : Stmt} {f c : Addr} {kV doc pm ct oc : Value} {od an : Option Addr} {osl : Array (Option Value)} {N ps : List Str} {k : Nat} {sp : Sp} (lk : K.lookup f = some ⟨oc, od, .func (PySem.W.fnOf x qual (defArgs st) (defBody st) (defScope st) .none kV doc pm an (.ref c) ct), osl⟩)
    (hcd : PySem.W.codeIn K (.ref c) qual = true) (S : FnScope N ps (defScope st)) (len : ∀ vs H Q E, sp vs H Q E → vs.length = ps.length)
    (hbody : ∀ (A : Around) (outer : List Env) (s : Shared) (H : Hp) (vs : List V) (Q : VK) (E : XK), Room k (A.deeper (PyProof.Rows.envOfC qual (defScope st) s.heap.objs.size f (.ref c))) → sp vs H Q E →
      ∃ t, PSs (cxOf CX0 P w K mg base N qual (defScope st) f (.ref c) A outer s H E).nox (defBody st) t ∧ t { nx := fun _ H' => Q .non H', rt := Q } (start N vs) H) :
    FnOk P w K mg base CX0 (k + 1) f (PySem.W.fnOf x qual (defArgs st) (defBody st) (defScope st) .none kV doc pm an (.ref c) ct) ps sp := by
  refine fn_of lk hcd S len fun A outer s H vs Q E hr hsp => ?_
  obtain ⟨t, h, q⟩ := hbody A outer s H vs Q E hr hsp
  exact ⟨t, h.nox, q⟩
theorem make_same {H H3 : Hp} {x dx : Addr} {o1 o2 : HO} (b : But x (upd (upd H dx o1) x o2) H3) (nx : H x = none) (nd : H dx = none) : Same H H3 := fun a o e => by
  have h1 : a ≠ x := ne_of_none e nx
  have h2 : a ≠ dx := ne_of_none e nd
  exact b a o (by rw [upd_ne h1, upd_ne h2]; exact e) h1
def spRight (T : List (Addr × Str)) : Sp := fun vs H Q _ => ∃ c : Addr, vs = [.ref c] ∧ Cup H c ∧ LamX.Tabs T H ∧ ∀ H', Kp c H H' → Cup H' c → LamX.Tabs T H' → Q (.bl true) H'
end
end Wh

namespace Wh
open PySem L2
section
variable {P : Program} {w : World} {K : PySem.W.Frag} {mg : Str → Option Value} {base : Heap}
set_option maxHeartbeats 4000000 in
theorem ok_right (F : RF P w K mg base) {fR cR PT : Addr} {kV doc pm ct oc : Value} {od an : Option Addr} {osl : Array (Option Value)} (lk : K.lookup fR = some ⟨oc, od, .func (PySem.W.fnOf "_law_right" "_law_right" (defArgs sRight) (defBody sRight) (defScope sRight) .none kV doc pm an (.ref cR) ct), osl⟩)
    (hcd : PySem.W.codeIn K (.ref cR) "_law_right" = true) (TB : LamX.TabB base mg cR PT) :
    FnOk P w K mg base CX0 11 fR (PySem.W.fnOf "_law_right" "_law_right" (defArgs sRight) (defBody sRight) (defScope sRight) .none kV doc pm an (.ref cR) ct) ["cup"] (spRight [(PT, lamQ)]) := by
  refine ok_code lk hcd scRight (fun vs H Q E h => ?_) (fun A outer s H vs Q E hr h => ?_)
  · obtain ⟨c, rfl, _⟩ := h
    rfl
  · obtain ⟨c, rfl, cu, tb, k⟩ := h
    have hr10 : Room 10 _ := hr
    have hr8 : Room 8 _ := hr.mono (by decide)
    have hr7 : Room 7 _ := hr.mono (by decide)
    have hr4 : Room 6 _ := hr.mono (by decide)
    have hr3 : Room 3 _ := hr.mono (by decide)
    have hr2 : Room 2 _ := hr.mono (by decide)
    have hr1 : Room 1 _ := hr.mono (by decide)
    refine ⟨_, (pss_cons (ps_for PassesOwn.never rfl (pi_range1 (by rfl) F.mrange (pa_cons pe_int pa_nil)) (pg_name (i := 1) scRight.nd rfl (.inl rfl)) (by exact (C8.pss_cut (ps_set (i := 2) scRight.nd rfl (.inl rfl) (pe_call F.GDra hr3 (by rfl) F.mDra F.kDra F.bDra .nil pass0 (pa_cons (pv 0) (pa_cons pe_int pa_nil)))) (C8.pss_cut (ps_set (i := 9) scRight.nd rfl (.inr rfl) (pe_make F.MW F.GIni hr7 rfl F.mWeb F.bIni .nil pass0 (pa_cons (pe_call F.GText hr1 (by rfl) F.mText F.kText F.bText .nil pass0 (pa_cons (pv 2) pa_nil)) pa_nil))) (C8.pss_cut (ps_for PassesOwn.never rfl (pi_range1 (by rfl) F.mrange (pa_cons pe_int pa_nil)) (pg_name (i := 3) scRight.nd rfl (.inl rfl)) (by exact (C8.pss_cut (ps_set (i := 5) scRight.nd rfl (.inr rfl) (pe_call F.GSip hr1 (by rfl) F.mSip F.kSip F.bSip .nil pass0 (pa_cons (pv 0) (pa_cons (pe_prop (pv 9) F.cW.c F.pHou F.GHou hr2 F.bHou .nil pass0 rfl) pa_nil)))) (C8.pss_cut (ps_set (i := 7) scRight.nd rfl (.inr rfl) (pe_call F.GPick hr2 (by rfl) F.mPick F.kPick F.bPick .nil pass0 (pa_cons (pv 0) (pa_cons (pe_callTy (call_list_S rfl) (by rfl) F.mlist (by decide +kernel) (pa_cons (pe_meth (pv 9) F.cW.c F.mAt F.GAt hr4 F.bAt .nil pass0 (pa_cons (pv 5) pa_nil)) pa_nil)) pa_nil)))) (C8.pss_cut (ps_set (i := 8) scRight.nd rfl (.inr rfl) (pe_call F.GPick hr2 (by rfl) F.mPick F.kPick F.bPick .nil pass0 (pa_cons (pv 0) (pa_cons (pe_lc (own := [("letter", 10)]) (g := gName 10) (tt := tYes) rfl scRight.nd (pi_str pe_str) (blkOk_by (N := ["cup", "turn", "told", "step", "told_later", "spot", "later", "mark", "other", "web", "letter", "row"]) (own := [("letter", 10)]) (sc := defScope sRight) (by decide +kernel)) (fun _ _ _ _ _ => (pg_name (i := 10) scRight.nd rfl (.inl rfl))) (fun _ _ _ _ _ => pts_nil) (fun _ _ _ _ _ => (pv 10))) pa_nil)))) (pss_one (ps_if (pt_cmpR op_in_sign (pv 8) (pe_meth (pv 9) F.cW.c F.mAt F.GAt hr4 F.bAt .nil pass0 (pa_cons (pv 5) pa_nil)) (by rfl)) (pss_one (ps_if (pt_cmpR (op_neD hr.units) (LamX.pe_lamcall (T := [(PT, lamQ)]) (TT := TTc F.A3) (k := 8) rfl F.mCa F.kCa F.lkCa F.cdCa F.bCa scCaught rfl (.inl rfl) (caught_gives F.caught) TB rfl (List.mem_singleton.mpr rfl) (fun p hp _ => by rw [List.mem_singleton.mp hp]; rfl) hr10 (LamX.lamS_by (by show LamX.lamSB (defScope sRight) _ = true; decide +kernel)) rfl (fun _ _ _ _ _ => rfl)
      (fun A outer s H E f c' hr2 => (by exact (pe_meth (pv 9) F.cW.c F.mChg F.GChg hr2 F.bChg .nil (passes_call (takes_of rfl rfl rfl rfl) (fun _ _ _ _ h => h)) (pa_cons (pv 5) (pa_cons (pv 7) (pa_cons (pv 8) pa_nil))))))) (pe_lst (pa_cons pe_int (pa_cons (pe_callB call_repr_str (by rfl) F.mrepr (by decide +kernel) (pa_cons (pv 8) pa_nil)) pa_nil))) (nomark _)) pss_never pss_nil)) (C8.pss_cut (ps_asg (pe_tup (pa_cons (pe_meth (pv 9) F.cW.c F.mChg F.GChg hr8 F.bChg .nil passL (pa_cons (pv 5) (pa_cons (pv 7) (pa_cons (pv 8) pa_nil)))) (pa_cons (pe_call F.GLChg hr1 (by rfl) F.mLChg F.kLChg F.bLChg .nil pass0 (pa_cons (pv 2) (pa_cons (pv 5) (pa_cons (pv 7) (pa_cons (pv 8) pa_nil))))) pa_nil))) (pg_tup (by rfl) (pgs_cons (pg_name (i := 6) scRight.nd rfl (.inr rfl)) (pgs_cons (pg_name (i := 4) scRight.nd rfl (.inl rfl)) pgs_nil)))) (C8.pss_cut (ps_if (PW.pt (pw_or (pt_cmpR op_ne (pe_prop (pv 6) F.cW.c F.pPla F.GPla hr2 F.bPla .nil pass0 rfl) (pe_call F.GText hr1 (by rfl) F.mText F.kText F.bText .nil pass0 (pa_cons (pv 4) pa_nil)) (nomark _)) (pw_or1 (pt_cmpR op_ne (pe_prop (pv 9) F.cW.c F.pPla F.GPla hr2 F.bPla .nil pass0 rfl) (pe_call F.GText hr1 (by rfl) F.mText F.kText F.bText .nil pass0 (pa_cons (pv 2) pa_nil)) (nomark _))))) pss_never pss_nil) (C8.pss_cut (ps_if (PW.pt (pw_or (pt_cmpR (op_neI F.GEq F.ne F.bEq hr2) (pe_meth (pv 6) F.cW.c F.mChg F.GChg hr8 F.bChg .nil passL (pa_cons (pv 5) (pa_cons (pv 8) (pa_cons (pv 7) pa_nil)))) (pv 9) (nomark _)) (pw_or1 (pt_cmpR (op_neI F.GEq F.ne F.bEq hr2) (pe_methK0 (pv 9) F.cW.c F.mChg F.GChg hr8 F.kbChg passL (pk_cons (pv 8) (pk_cons (pv 7) (pk_cons (pv 5) pk_nil)))) (pv 6) (nomark _))))) pss_never pss_nil) (C8.pss_cut (ps_if (pt_cmpR (op_neD hr.units) (LamX.pe_lamcall (T := [(PT, lamQ)]) (TT := TTc F.A3) (k := 8) rfl F.mCa F.kCa F.lkCa F.cdCa F.bCa scCaught rfl (.inl rfl) (caught_gives F.caught) TB rfl (List.mem_singleton.mpr rfl) (fun p hp _ => by rw [List.mem_singleton.mp hp]; rfl) hr10 (LamX.lamS_by (by show LamX.lamSB (defScope sRight) _ = true; decide +kernel)) rfl (fun _ _ _ _ _ => rfl)
      (fun A outer s H E f c' hr2 => (by exact (pe_meth (pv 6) F.cW.c F.mChg F.GChg hr2 F.bChg .nil (passes_call (takes_of rfl rfl rfl rfl) (fun _ _ _ _ h => h)) (pa_cons (pv 5) (pa_cons (pv 7) (pa_cons (pv 7) pa_nil))))))) (pe_lst (pa_cons pe_int (pa_cons (pe_callB call_repr_str (by rfl) F.mrepr (by decide +kernel) (pa_cons (pv 7) pa_nil)) pa_nil))) (nomark _)) pss_never pss_nil) (pss_one (ps_asg (pe_tup (pa_cons (pv 6) (pa_cons (pv 4) pa_nil))) (pg_tup (by rfl) (pgs_cons (pg_name (i := 9) scRight.nd rfl (.inr rfl)) (pgs_cons (pg_name (i := 2) scRight.nd rfl (.inl rfl)) pgs_nil)))))))))))))))) (pss_one (ps_if (pt_cmpR (op_neD hr.units) (pe_lc (own := [("spot", 5)]) (g := gName 5) (tt := tYes) rfl scRight.nd (pi_range1 (by rfl) F.mrange (pa_cons (pe_prop (pv 9) F.cW.c F.pHou F.GHou hr2 F.bHou .nil pass0 rfl) pa_nil)) (blkOk_by (N := ["cup", "turn", "told", "step", "told_later", "spot", "later", "mark", "other", "web", "letter", "row"]) (own := [("spot", 5)]) (sc := defScope sRight) (by decide +kernel)) (fun _ _ _ _ _ => (pg_name (i := 5) scRight.nd rfl (.inl rfl))) (fun _ _ _ _ _ => pts_nil) (fun _ _ _ _ _ => (pe_callB call_len_str (by rfl) F.mlen PySem.boot_len (pa_cons (pe_meth (pv 9) F.cW.c F.mAt F.GAt hr4 F.bAt .nil pass0 (pa_cons (pv 5) pa_nil)) pa_nil)))) (pe_lc (own := [("row", 11)]) (g := gName 11) (tt := tYes) rfl scRight.nd (pi_list (pe_call F.GWay hr1 (by rfl) F.mWay F.kWay F.bWay .nil pass0 (pa_cons (pv 2) pa_nil))) (blkOk_by (N := ["cup", "turn", "told", "step", "told_later", "spot", "later", "mark", "other", "web", "letter", "row"]) (own := [("row", 11)]) (sc := defScope sRight) (by decide +kernel)) (fun _ _ _ _ _ => (pg_name (i := 11) scRight.nd rfl (.inl rfl))) (fun _ _ _ _ _ => pts_nil) (fun _ _ _ _ _ => (pe_callB call_lenD (by rfl) F.mlen PySem.boot_len (pa_cons (pv 11) pa_nil)))) (nomark _)) pss_never pss_nil))))))) (pss_one (ps_ret pe_bl))), ?_⟩
    have z2 : 2 ≤ sizeLine := by decide
    refine ⟨4, rfl, by decide, by decide, for_range (lo := 0) (n := 4) (fun i σ H' => Kp c H H' ∧ Cup H' c ∧ LamX.Tabs [(PT, lamQ)] H' ∧ ∃ w1 w2 w3 w4 w5 w6 w7 w8 w9 : Option V, σ = [some (.ref c), w1, w2, w3, w4, w5, w6, w7, w8, w9, none, none])
      ⟨Kp.refl c H, cu, tb, none, none, none, none, none, none, none, none, none, rfl⟩ ?_ ?_⟩
    · rintro i σ H1 _ ⟨kp1, cu1, tb1, w1, w2, w3, w4, w5, w6, w7, w8, w9, rfl⟩
      refine ⟨fun σ H' => Kp c H H' ∧ Cup H' c ∧ LamX.Tabs [(PT, lamQ)] H' ∧ ∃ (l : Addr) (ps : List (Addr × Tie)) (n : Nat) (v1 : Option V), H' l = some (.lst (refs ps)) ∧ At tieV H' ps ∧ Told n (ps.map (·.2)) ∧ σ = [some (.ref c), v1, some (.ref l), w3, w4, w5, w6, w7, w8, w9, none, none], ?_, ?_⟩
      · exact ⟨_, rfl, c, 6, rfl, cu1, by decide, by decide, fun tl ts n H' b cu' _ htl hA told _ => ⟨kp1.trans b.kp, cu', Wh.Tabs.but tb1 b cu1, tl, ts, n, _, htl, hA, told, rfl⟩⟩
      rintro σ H2 ⟨kp2, cu2, tb2, l0, ps0, n, v1, hl0, hA0, told, rfl⟩
      have wk0 : WebOk n (ps0.map (·.2)) := told.ok
      refine ⟨fun σ H' => ∃ (x l : Addr) (ts : List Tie) (u1 u3 u4 u5 u6 u7 u8 : Option V), St4 F.C c [(PT, lamQ)] H H' x l n ts ∧ σ = [some (.ref c), u1, some (.ref l), u3, u4, u5, u6, u7, u8, some (.ref x), none, none], ?_, ?_⟩
      · refine ⟨_, rfl, l0, ps0, rfl, hl0, hA0, (fun p hp => ?_), ?_, fun H3 s3 x dx nx nd ne => ⟨x, dx, _, ps0.map (·.2), n, rfl, upd_same, (by rw [nrm_map fun t ht => (wk0.lt t ht).1]), wk0, told.srt, fun H4 b4 wb _ => ⟨rfl, ?_⟩⟩⟩
        · have := wk0.lt _ (List.mem_map_of_mem hp)
          have := wk0.n10
          omega
        · have := wk0.len
          rw [List.length_map] at this
          exact this
        · have s4 : Same H2 H4 := Same.trans s3 (make_same b4 nx nd)
          exact ⟨x, l0, ps0.map (·.2), _, _, _, _, _, _, _, ⟨kp2.trans s4.kp, cu2.same s4, tb2.ext s4, wb, ps0, s4 _ _ hl0, hA0.same s4, rfl⟩, rfl⟩
      rintro σ H3 ⟨x0, l1, ts0, u1, u3, u4, u5, u6, u7, u8, st0, rfl⟩
      refine ⟨fun σ H' => ∃ (x l : Addr) (ts : List Tie) (u1 u3 u4 u5 u6 u7 u8 : Option V), St4 F.C c [(PT, lamQ)] H H' x l n ts ∧ σ = [some (.ref c), u1, some (.ref l), u3, u4, u5, u6, u7, u8, some (.ref x), none, none], ?_, ?_⟩
      · refine ⟨4, rfl, by decide, by decide, for_range (lo := 0) (n := 4) (fun i σ H' => ∃ (x l : Addr) (ts : List Tie) (u1 u3 u4 u5 u6 u7 u8 : Option V), St4 F.C c [(PT, lamQ)] H H' x l n ts ∧ σ = [some (.ref c), u1, some (.ref l), u3, u4, u5, u6, u7, u8, some (.ref x), none, none])
          ⟨x0, l1, ts0, _, _, _, _, _, _, _, st0, rfl⟩ ?_ (fun σ H' q => q)⟩
        rintro j σ H4 _ ⟨x, l, ts, u1, u3, u4, u5, u6, u7, u8, st, rfl⟩
        have wk := st.web.wk
        have n2 := wk.n2
        have n10 := wk.n10
        obtain ⟨dx, fs, hx, hat, hch⟩ := st.web.fs
        refine ⟨fun σ H' => St4 F.C c [(PT, lamQ)] H H' x l n ts ∧ ∃ (h : Nat) (v3 : Option V), h < n ∧ σ = [some (.ref c), u1, some (.ref l), v3, u4, some (.int (h : Int)), u6, u7, u8, some (.ref x), none, none], ?_, ?_⟩
        · refine ⟨_, rfl, _, rfl, x, dx, fs, rfl, hx, x, n, ts, rfl, st.web, c, (n : Int), rfl, st.cup, by omega, by omega, fun r H' b cu' r0 r1 => ?_⟩
          obtain ⟨h, rfl⟩ := Int.eq_ofNat_of_zero_le r0
          exact ⟨st.but b cu', h, _, by omega, rfl⟩
        rintro σ H5 ⟨st, h, v3, hn, rfl⟩
        obtain ⟨dx, fs, hx, hat, hch⟩ := st.web.fs
        refine ⟨fun σ H' => St4 F.C c [(PT, lamQ)] H H' x l n ts ∧ ∃ m : Nat, m ∈ marksAt h ts ∧ σ = [some (.ref c), u1, some (.ref l), v3, u4, some (.int (h : Int)), u6, some (.str (sgn m)), u8, some (.ref x), none, none], ?_, ?_⟩
        · refine ⟨_, rfl, _, rfl, x, dx, fs, rfl, hx, hat, _, rfl, x, n, ts, h, rfl, st.web, hn, fun ms H6 pm _ s6 => ⟨sS ms, rfl, ?_, fun t nt => ?_⟩⟩
          · have := marks12 wk h
            have := pm.length_eq
            rw [sS_len]
            exact Nat.le_of_lt (small1000 (by omega))
          · have cu6 := st.cup.same s6
            have hp := marks_pos wk hn
            have h12 := marks12 wk h
            have pl := pm.length_eq
            refine ⟨c, t, _, rfl, cu6.put nt, (cu6.ne nt).symm, upd_same, ?_, ?_, fun i v H' b cu' hv => ?_⟩
            · rw [List.length_map, sS_cps]
              omega
            · rw [List.length_map, sS_cps]
              omega
            · rw [List.getElem?_map, sS_cps] at hv
              obtain ⟨m, hm, rfl⟩ := Option.map_eq_some_iff.mp hv
              exact ⟨(st.same (s6.put nt)).but b cu', m, pm.mem_iff.mp (List.mem_of_getElem? hm), rfl⟩
        rintro σ H6 ⟨st, m, hm, rfl⟩
        have lm := marks_let wk h m hm
        refine ⟨fun σ H' => St4 F.C c [(PT, lamQ)] H H' x l n ts ∧ ∃ o : Nat, o ∈ letters ∧ σ = [some (.ref c), u1, some (.ref l), v3, u4, some (.int (h : Int)), u6, some (.str (sgn m)), some (.str (sgn o)), some (.ref x), none, none], ?_, ?_⟩
        · refine ⟨_, rfl, "abcdefghijkl", rfl, fun D nD => ?_⟩
          have e12 : ("abcdefghijkl" : Str).cps.size = 12 := by rw [letters_str]; rfl
          refine lc_it walk_str (fun j H' => Same H6 H' ∧ H' D = some (.lst ((letters.take j).map sV))) ⟨same_upd nD, upd_same⟩ (fun _ _ _ _ => trivial) ?_ ?_
          · rintro j y H7 _ hj ⟨s7, hD⟩ ⟨rfl, z, hz, rfl⟩
            have hzl : letters[j]? = some z := by
              rw [letters_str] at hz
              have e : (#[97, 98, 99, 100, 101, 102, 103, 104, 105, 106, 107, 108] : Array Nat)[j]? = letters[j]? := by
                rw [← Array.getElem?_toList]
                rfl
              rw [← e]
              exact hz
            refine ⟨rfl, _, rfl, _, hD, ?_, s7.own nD, ?_⟩
            · rw [List.length_map, List.length_take]
              exact small1000 (by show min j 12 ≤ 1000; omega)
            · rw [upd_same, List.take_succ, hzl, List.map_append]
              rfl
          · rintro H7 ⟨s7, hD⟩
            rw [e12] at hD
            have hD' : H7 D = some (.lst (letters.map sV)) := hD
            have cu7 := st.cup.same s7
            refine ⟨c, D, _, rfl, cu7, (st.cup.ne nD).symm, hD', (by show 1 ≤ 12; decide), (by show 12 < 1000; decide), fun i v H' b cu' hv => ?_⟩
            rw [List.getElem?_map] at hv
            obtain ⟨o, ho, rfl⟩ := Option.map_eq_some_iff.mp hv
            exact ⟨(st.same s7).but b cu', o, List.mem_of_getElem? ho, rfl⟩
        rintro σ H7 ⟨st, o, lo, rfl⟩
        obtain ⟨dx, fs, hx, hat, hch⟩ := st.web.fs
        refine ⟨_, rfl, _, rfl, x, dx, fs, rfl, hx, hat, _, rfl, x, n, ts, h, rfl, st.web, hn, fun ms H8 pm _ s8 => ⟨o, sS ms, rfl, rfl, _, rfl, ?_⟩⟩
        have st := st.same s8
        obtain ⟨dx, fs, hx, hat, hch⟩ := st.web.fs
        rw [sS_cps]
        have nbL : ∀ z ∈ letters, ([V.int 2, .str (reprText (sgn z))] : List V).all nb = true := fun z hz => by
          show (true && (nb (.str (reprText (sgn z))) && true)) = true
          rw [nb_str (repr_nb z hz)]
          rfl
        by_cases co : o ∈ ms
        · have co' : o ∈ marksAt h ts := pm.mem_iff.mp co
          rw [decide_eq_true co]
          refine iteT ⟨st.tabs, fun H9 e9 tb9 => ⟨o, lo, ?_⟩⟩
          have st := st.ext e9 tb9
          obtain ⟨dx, fs, hx, hat, hch⟩ := st.web.fs
          refine ⟨_, rfl, x, dx, fs, rfl, hx, hch, _, rfl, _, rfl, _, rfl, x, n, ts, h, m, o, rfl, st.web, hn, lm, lo, (fun _ q => absurd co' q), (fun q => absurd hm q), fun _ _ d H10 s10 e10 => ⟨rfl, d, rfl, e10, fun p H11 s11 hp => ?_⟩⟩
          refine ⟨_, rfl, _, rfl, repr_len o lo, z2, fun p2 n2 => rNeL (put_old hp n2) upd_same (nbL o lo) ⟨_, rfl, iteF ?_⟩⟩
          exact ⟨x, l, ts, _, _, _, _, _, _, _, st.same ((Same.trans s10 s11).put n2), rfl⟩
        · have co' : o ∉ marksAt h ts := fun q => co (pm.mem_iff.mpr q)
          rw [decide_eq_false co]
          refine iteF ?_
          have mo : m ≠ o := fun e => co' (e ▸ hm)
          refine ⟨fun σ H' => St4 F.C c [(PT, lamQ)] H H' x l n ts ∧ ∃ (y l2 : Addr), St4 F.C c [(PT, lamQ)] H H' y l2 n (ts.map (chg h m o)) ∧
            σ = [some (.ref c), u1, some (.ref l), v3, some (.ref l2), some (.int (h : Int)), some (.ref y), some (.str (sgn m)), some (.str (sgn o)), some (.ref x), none, none], ?_, ?_⟩
          · refine ⟨_, rfl, x, dx, fs, rfl, hx, hch, _, rfl, _, rfl, _, rfl, x, n, ts, h, m, o, rfl, st.web, hn, lm, lo, (fun _ _ y H9 s9 wy => ?_), (fun q => absurd hm q), (fun _ q => absurd q co')⟩
            have st := st.same s9
            obtain ⟨ps, hl, hA, hps⟩ := st.told
            refine ⟨_, rfl, _, rfl, _, rfl, _, rfl, l, ps, h, m, o, n, rfl, hl, hA, (hps.symm ▸ wk), lm, fun l2 qs H10 s10 hl2 hQ hq => ⟨z2, fun p np => ?_⟩⟩
            rw [hps] at hq
            have st := st.same (s10.put np (o := .tup [.ref y, .ref l2]))
            refine ⟨p, _, rfl, SqT.of upd_same, rfl, _, _, rfl, _, _, rfl, rfl, st, y, l2, ⟨st.kp, st.cup, st.tabs, wy.same (s10.put np), qs, put_old hl2 np, hQ.same (same_upd np), hq⟩, rfl⟩
          rintro σ H9 ⟨st, y, l2, sy, rfl⟩
          have bnd : ∀ {ps : List (Addr × Tie)} {us : List Tie}, WebOk n us → ps.map (·.2) = us → (∀ p ∈ ps, p.2.a < 10 ∧ p.2.b < 10) ∧ ps.length ≤ 100 := fun {ps us} wu e => by
            refine ⟨fun p hp => ?_, ?_⟩
            · have := wu.lt p.2 (by rw [← e]; exact List.mem_map_of_mem hp)
              omega
            · have := wu.len
              rw [← e, List.length_map] at this
              exact this
          refine ⟨fun σ H' => St4 F.C c [(PT, lamQ)] H H' x l n ts ∧ St4 F.C c [(PT, lamQ)] H H' y l2 n (ts.map (chg h m o)) ∧
            σ = [some (.ref c), u1, some (.ref l), v3, some (.ref l2), some (.int (h : Int)), some (.ref y), some (.str (sgn m)), some (.str (sgn o)), some (.ref x), none, none], ?_, ?_⟩
          · obtain ⟨dy, fy, hy, hay, hcy⟩ := sy.web.fs
            obtain ⟨qs, hl2, hQ, hq⟩ := sy.told
            obtain ⟨b1, b2⟩ := bnd sy.web.wk hq
            refine ⟨_, rfl, y, dy, fy, rfl, hy, y, n, _, rfl, sy.web, _, rfl, l2, qs, rfl, hl2, hQ, b1, b2, fun H10 s10 => ⟨rfl, _, rfl, ?_⟩⟩
            rw [hq, decide_eq_true rfl]
            refine iteF ?_
            have st := st.same s10
            have sy := sy.same s10
            obtain ⟨dx, fs, hx, hat, hch⟩ := st.web.fs
            obtain ⟨ps, hl, hA, hps⟩ := st.told
            obtain ⟨b1, b2⟩ := bnd st.web.wk hps
            refine ⟨_, rfl, x, dx, fs, rfl, hx, x, n, _, rfl, st.web, _, rfl, l, ps, rfl, hl, hA, b1, b2, fun H11 s11 => ⟨rfl, _, rfl, ?_⟩⟩
            rw [hps, decide_eq_true rfl]
            exact iteF ⟨st.same s11, sy.same s11, rfl⟩
          rintro σ H10 ⟨st, sy, rfl⟩
          have my : o ∈ marksAt h (ts.map (chg h m o)) := chg_has wk hm
          have ny : m ∉ marksAt h (ts.map (chg h m o)) := chg_not wk mo
          refine ⟨fun σ H' => St4 F.C c [(PT, lamQ)] H H' x l n ts ∧ St4 F.C c [(PT, lamQ)] H H' y l2 n (ts.map (chg h m o)) ∧
            σ = [some (.ref c), u1, some (.ref l), v3, some (.ref l2), some (.int (h : Int)), some (.ref y), some (.str (sgn m)), some (.str (sgn o)), some (.ref x), none, none], ?_, ?_⟩
          · obtain ⟨dy, fy, hy, hay, hcy⟩ := sy.web.fs
            refine ⟨_, rfl, y, dy, fy, rfl, hy, hcy, _, rfl, _, rfl, _, rfl, y, n, _, h, o, m, rfl, sy.web, hn, lo, lm, (fun _ _ z H11 s11 wz => ?_), (fun q => absurd my q), (fun _ q => absurd q ny)⟩
            rw [chg_back wk co'] at wz
            have st := st.same s11
            have sy := sy.same s11
            obtain ⟨dx, fs, hx, hat, hch⟩ := st.web.fs
            obtain ⟨dz, fz, hz, _⟩ := wz.fs
            refine ⟨_, rfl, z, x, dz, dx, fz, fs, rfl, rfl, hz, hx, z, x, n, n, ts, rfl, wz, st.web, true, rfl, _, rfl, iteF ?_⟩
            refine ⟨_, rfl, x, dx, fs, rfl, hx, hch, _, rfl, _, rfl, _, rfl, x, n, ts, h, m, o, rfl, st.web, hn, lm, lo, (fun _ _ y2 H12 s12 wy2 => ?_), (fun q => absurd hm q), (fun _ q => absurd q co')⟩
            have st := st.same s12
            have sy := sy.same s12
            obtain ⟨dy, fy, hy, hay, hcy⟩ := sy.web.fs
            obtain ⟨d2, f2, h2, _⟩ := wy2.fs
            exact ⟨_, rfl, y2, y, d2, dy, f2, fy, rfl, rfl, h2, hy, y2, y, n, n, _, rfl, wy2, sy.web, true, rfl, _, rfl, iteF ⟨st, sy, rfl⟩⟩
          rintro σ H11 ⟨st, sy, rfl⟩
          refine ⟨fun σ H' => St4 F.C c [(PT, lamQ)] H H' y l2 n (ts.map (chg h m o)) ∧
            σ = [some (.ref c), u1, some (.ref l), v3, some (.ref l2), some (.int (h : Int)), some (.ref y), some (.str (sgn m)), some (.str (sgn o)), some (.ref x), none, none], ?_, ?_⟩
          · refine ⟨sy.tabs, fun H12 e12 tb12 => ⟨m, lm, ?_⟩⟩
            have sy := sy.ext e12 tb12
            obtain ⟨dy, fy, hy, hay, hcy⟩ := sy.web.fs
            refine ⟨_, rfl, y, dy, fy, rfl, hy, hcy, _, rfl, _, rfl, _, rfl, y, n, _, h, m, m, rfl, sy.web, hn, lm, lm, (fun q => absurd q ny), (fun _ d H13 s13 e13 => ⟨rfl, d, rfl, e13, fun p H14 s14 hp => ?_⟩), (fun q => absurd q ny)⟩
            exact ⟨_, rfl, _, rfl, repr_len m lm, z2, fun p2 n2 => rNeL (put_old hp n2) upd_same (nbL m lm) ⟨_, rfl, iteF ⟨sy.same ((Same.trans s13 s14).put n2), rfl⟩⟩⟩
          rintro σ H12 ⟨sy, rfl⟩
          refine ⟨_, rfl, _, rfl, z2, fun p np => ⟨p, _, rfl, SqT.of upd_same, rfl, _, _, rfl, _, _, rfl, rfl, ?_⟩⟩
          exact ⟨y, l2, _, _, _, _, _, _, _, _, sy.same (same_upd np), rfl⟩
      rintro σ H4 ⟨x, l, ts, u1, u3, u4, u5, u6, u7, u8, st, rfl⟩
      have wk := st.web.wk
      have n10 := wk.n10
      obtain ⟨dx, fs, hx, hat, hch⟩ := st.web.fs
      have cnt : ∀ j, ((List.range j).map fun i => V.int ((marksAt i ts).length : Int)).all nb = true := fun j => by
        rw [List.all_map]
        exact List.all_eq_true.mpr fun _ _ => rfl
      have cntS : ∀ j, (List.range (j + 1)).map (fun i => V.int ((marksAt i ts).length : Int)) = (List.range j).map (fun i => V.int ((marksAt i ts).length : Int)) ++ [V.int ((marksAt j ts).length : Int)] := fun j => by
        rw [List.range_succ, List.map_append]
        rfl
      refine ⟨_, rfl, x, dx, fs, rfl, hx, x, n, ts, rfl, st.web, (n : Int), rfl, by omega, by omega, fun D nD => ?_⟩
      rw [show ((n : Int)).toNat = n from Int.toNat_natCast n]
      refine lc_range (lo := 0) (n := n) (fun j H' => Same H4 H' ∧ H' D = some (.lst ((List.range j).map fun i => V.int ((marksAt i ts).length : Int)))) ⟨same_upd nD, upd_same⟩ ?_ ?_
      · rintro j H5 hj ⟨s5, hD⟩
        rw [show (0 : Int) + (j : Int) = (j : Int) from Int.zero_add _]
        refine ⟨rfl, _, rfl, x, dx, fs, rfl, s5 _ _ hx, hat, _, rfl, x, n, ts, j, rfl, st.web.same s5, hj, fun ms H6 pm _ s6 => ⟨sS ms, rfl, ?_, ?_⟩⟩
        · have := marks12 wk j
          have := pm.length_eq
          rw [sS_len]
          exact Nat.le_of_lt (small1000 (by omega))
        · refine ⟨_, s6 _ _ hD, ?_, ((Same.trans s5 s6).own nD), ?_⟩
          · rw [List.length_map, List.length_range]
            exact small1000 (by omega)
          · rw [upd_same, sS_len, pm.length_eq, cntS]
      · rintro H5 ⟨s5, hD⟩
        have st := st.same s5
        obtain ⟨ps, hl, hA, hps⟩ := st.told
        refine ⟨_, rfl, l, ps, n, rfl, hl, hA, (hps.symm ▸ wk), fun dl ds H6 s6 dr _ _ => ⟨dl, rfl, ⟨_, SqL.of dr.hl⟩, fun D2 nD2 => ?_⟩⟩
        rw [hps] at dr
        have hD6 := s6 _ _ hD
        refine lc_list (K := K) (a := dl) (xs := ds.map V.ref) (fun j H' => Same H6 H' ∧ H' D2 = some (.lst ((List.range j).map fun i => V.int ((marksAt i ts).length : Int)))) ⟨same_upd nD2, upd_same⟩ (fun i H' _ ⟨s, _⟩ => SqL.of (s _ _ dr.hl)) ?_ ?_
        · rintro j y H7 hy ⟨s7, hD2⟩
          rw [List.getElem?_map] at hy
          obtain ⟨a, ha, rfl⟩ := Option.map_eq_some_iff.mp hy
          have hj : j < n := by
            rw [← dr.len]
            exact (List.getElem?_eq_some_iff.mp ha).1
          refine ⟨rfl, _, rfl, a, _, rfl, s7 _ _ (dr.hd j a ha), _, hD2, ?_, s7.own nD2, ?_⟩
          · rw [List.length_map, List.length_range]
            exact small1000 (by omega)
          · rw [upd_same, doorsK_len, cntS]
        · rintro H7 ⟨s7, hD2⟩
          rw [List.length_map, dr.len] at hD2
          refine rNeL (s7 _ _ hD6) hD2 (cnt n) ⟨_, rfl, iteF ?_⟩
          have st := st.same (Same.trans s6 s7)
          exact ⟨st.kp, st.cup, st.tabs, _, _, _, _, _, _, _, _, _, rfl⟩
    · rintro σ H1 ⟨kp1, cu1, tb1, w1, w2, w3, w4, w5, w6, w7, w8, w9, rfl⟩
      exact k H1 kp1 cu1 tb1
end
end Wh

namespace Wh
open PySem L2
abbrev sLaw : Stmt := topS 49
theorem scLaw : FnScope ["script", "web", "spot"] ["script"] (defScope sLaw) := ⟨rfl, rfl, rfl, by decide +kernel, rfl, by decide +kernel, by decide +kernel⟩
def ts0 : List Tie := [⟨0, 97, 1, 98⟩, ⟨1, 97, 2, 98⟩]
theorem ts0_str : webS ts0 = ("0 a 1 b\n1 a 2 b" : Str) := by decide +kernel
theorem ts0_ok : WebOk 3 ts0 := by
  refine ⟨by decide, by decide, by decide, ?_, by decide, by decide, ?_, by decide⟩
  · intro h h1 h2
    obtain rfl | rfl : h = 1 ∨ h = 2 := by omega
    · exact ⟨_, List.mem_cons_self, rfl⟩
    · exact ⟨_, List.mem_cons_of_mem _ List.mem_cons_self, rfl⟩
  · intro h
    by_cases h0 : h = 0
    · subst h0
      decide
    · by_cases h1 : h = 1
      · subst h1
        decide
      · by_cases h2 : h = 2
        · subst h2
          decide
        · have e : marksAt h ts0 = [] := by
            unfold marksAt ts0
            simp only [List.flatMap_cons, List.flatMap_nil]
            unfold endsAt
            simp [Ne.symm h0, Ne.symm h1, Ne.symm h2]
          rw [e]
          exact List.nodup_nil
theorem ts0_srt : (ts0.map Tie.pr).Pairwise PrLt := by
  refine List.Pairwise.cons (fun a ha => ?_) (List.Pairwise.cons (fun a ha => by cases ha) .nil)
  rw [List.mem_singleton.mp ha]
  exact .inl (by decide)
theorem ts1_str : webS (ts0.map (chg 1 97 108)) = ("0 a 1 b\n1 l 2 b" : Str) := by decide +kernel
theorem ts2_str : webS (ts0.map (chg 1 98 99)) = ("0 a 1 c\n1 a 2 b" : Str) := by decide +kernel
section
variable {P : Program} {w : World} {K : PySem.W.Frag} {mg : Str → Option Value} {base : Heap}
def spLaw (K : PySem.W.Frag) (T : List (Addr × Str)) : Sp := fun vs H Q _ => ∃ (a : Addr) (ns : List Int), vs = [.ref a] ∧ SqL K H a (ns.map V.int) ∧ LamX.Tabs T H ∧ ∀ H', Q (.bl true) H'
theorem tabs_upd {T : List (Addr × Str)} {H : Hp} {D : Addr} {ys : List V} {o : HO} (t : LamX.Tabs T H) (hD : H D = some (.lst ys)) : LamX.Tabs T (upd H D o) := fun p hp => by
  obtain ⟨ps, h1, h2, h3⟩ := t p hp
  refine ⟨ps, put_ne h1 (ne_of h1 hD (by intro z; cases z)), h2, fun pos cv hcv => ?_⟩
  obtain ⟨d, e1, e2⟩ := h3 pos cv hcv
  exact ⟨d, e1, put_ne e2 (ne_of e2 hD (by intro z; unfold LamX.CodeO at z; cases z))⟩
theorem sq_own {K : PySem.W.Frag} {H : Hp} {a D : Addr} {xs : List V} (h : SqL K H a xs) (n : H D = none) : (∀ H', SqL K H' a xs) ∨ a ≠ D := by
  rcases h with (h | ⟨o, h⟩) | h
  · exact .inr (ne_of_none h n)
  · exact .inr (ne_of_none h n)
  · exact .inl fun _ => .inr h
theorem sq_upd {K : PySem.W.Frag} {H : Hp} {a D : Addr} {xs : List V} {o : HO} (d : (∀ H', SqL K H' a xs) ∨ a ≠ D) (h : SqL K H a xs) : SqL K (upd H D o) a xs := by
  rcases d with d | d
  · exact d _
  · rcases h with (h | ⟨o, h⟩) | h
    · exact .inl (.inl (put_ne h d))
    · exact .inl (.inr ⟨o, put_ne h d⟩)
    · exact .inr h
theorem sq_kp {K : PySem.W.Frag} {H H1 : Hp} {a c : Addr} {xs : List V} (h : SqL K H a xs) (k : Kp c H H1) (n : H c = none) : SqL K H1 a xs := by
  rcases h with (h | ⟨o, h⟩) | h
  · exact .inl (.inl (k _ _ h (ne_of_none h n) (fun ps z => by cases z)))
  · exact .inl (.inr ⟨o, k _ _ h (ne_of_none h n) (fun ps z => by cases z)⟩)
  · exact .inr h
theorem ok_law (F : RF P w K mg base) {f fR fC PT : Addr} {fd fdR fdC : FuncData} (FL : Fun K "law" "law" sLaw f fd) (GRight : FnOk P w K mg base CX0 11 fR fdR ["cup"] (spRight [(PT, lamQ)])) (bRight : Binds K fdR ["cup"] []) (mRight : mg "_law_right" = some (.ref fR)) (kRight : PySem.W.keepIn K (.ref fR) = true)
    (GCup : FnOk P w K mg base CX0 1 fC fdC ["script", "spot"] (spCup K)) (bCup : Binds K fdC ["script", "spot"] []) (mCup : mg "_law_cup" = some (.ref fC)) (kCup : PySem.W.keepIn K (.ref fC) = true) (mall : mg "all" = none) (mmax : mg "max" = none) (mmin : mg "min" = none) :
    FnOk P w K mg base CX0 12 f fd ["script"] (spLaw K [(PT, lamQ)]) := by
  refine FL.ok scLaw (fun vs H Q E h => ?_) (fun cdv A outer s H vs Q E hr h => ?_)
  · obtain ⟨a, ns, rfl, _⟩ := h
    rfl
  · obtain ⟨a, ns, rfl, ha, tb, k⟩ := h
    have hr11 : Room 11 _ := hr
    have hr8 : Room 8 _ := hr.mono (by decide)
    have hr7 : Room 7 _ := hr.mono (by decide)
    have hr2 : Room 2 _ := hr.mono (by decide)
    have hr1 : Room 1 _ := hr.mono (by decide)
    refine ⟨_, (C8.pss_cut (ps_set (i := 1) scLaw.nd rfl (.inl rfl) (pe_make F.MW F.GIni hr7 rfl F.mWeb F.bIni .nil pass0 (pa_cons pe_str pa_nil))) (C8.pss_cut (ps_if (PW.pt (pw_or (pt_cmpR op_ne (pe_prop (pe_meth (pv 1) F.cW.c F.mChg F.GChg hr8 F.bChg .nil passL (pa_cons pe_int (pa_cons pe_str (pa_cons pe_str pa_nil)))) F.cW.c F.pPla F.GPla hr2 F.bPla .nil pass0 rfl) pe_str (nomark _)) (pw_or1 (pt_cmpR op_ne (pe_prop (pe_meth (pv 1) F.cW.c F.mChg F.GChg hr8 F.bChg .nil passL (pa_cons pe_int (pa_cons pe_str (pa_cons pe_str pa_nil)))) F.cW.c F.pPla F.GPla hr2 F.bPla .nil pass0 rfl) pe_str (nomark _))))) pss_never pss_nil) (pss_one (ps_ret (pe_callB (cr_all rfl) (by rfl) mall (by decide +kernel) (pa_cons (pe_lc (own := [("spot", 2)]) (g := gName 2) (tt := tYes) rfl scLaw.nd (pi_range1 (by rfl) F.mrange (pa_cons (pe_callB (call_max2 rfl) (by rfl) mmax (by decide +kernel) (pa_cons pe_int (pa_cons (pe_callB (call_min2 rfl) (by rfl) mmin (by decide +kernel) (pa_cons (pe_callB call_len_seq (by rfl) F.mlen PySem.boot_len (pa_cons (pv 0) pa_nil)) (pa_cons pe_int pa_nil))) pa_nil))) pa_nil)) (blkOk_by (N := ["script", "web", "spot"]) (own := [("spot", 2)]) (sc := defScope sLaw) (by decide +kernel)) (fun _ _ _ _ _ => (pg_name (i := 2) scLaw.nd rfl (.inl rfl))) (fun _ _ _ _ _ => pts_nil) (fun _ _ _ _ _ => (pe_call GRight hr11 (by rfl) mRight kRight bRight .nil pass0 (pa_cons (pe_call GCup hr1 (by rfl) mCup kCup bCup .nil pass0 (pa_cons (pv 0) (pa_cons (pv 2) pa_nil))) pa_nil)))) pa_nil)))))), ?_⟩
    refine ⟨fun σ H' => Same H H' ∧ ∃ x : Addr, WebAt F.C H' x 3 ts0 ∧ σ = [some (.ref a), some (.ref x), none], ?_, ?_⟩
    · refine fun x dx nx nd ne => ⟨x, dx, ts0, ts0, 3, by rw [ts0_str]; rfl, upd_same, (by rw [nrm_map fun t ht => (ts0_ok.lt t ht).1]), ts0_ok, ts0_srt, fun H3 b3 wb _ => ⟨rfl, make_same b3 nx nd, x, wb, rfl⟩⟩
    rintro σ H1 ⟨s1, x, wb, rfl⟩
    have ea : ("a" : Str) = sgn 97 := by decide +kernel
    have eb : ("b" : Str) = sgn 98 := by decide +kernel
    have ec : ("c" : Str) = sgn 99 := by decide +kernel
    have el : ("l" : Str) = sgn 108 := by decide +kernel
    refine ⟨fun σ H' => Same H H' ∧ σ = [some (.ref a), some (.ref x), none], ?_, ?_⟩
    · obtain ⟨dx, fs, hx, hat, hch⟩ := wb.fs
      refine ⟨_, rfl, x, dx, fs, rfl, hx, hch, x, 3, ts0, 1, 97, 108, by rw [← ea, ← el]; rfl, wb, by decide, by decide, by decide, (fun _ _ y H2 s2 wy => ?_), (fun q => absurd (show (97 : Nat) ∈ marksAt 1 ts0 by decide) q), (fun _ q => absurd q (by decide))⟩
      obtain ⟨dy, fy, hy, _⟩ := wy.fs
      refine ⟨y, dy, fy, rfl, hy, y, 3, _, rfl, wy, rfl, _, rfl, ?_⟩
      rw [ts1_str, decide_eq_true rfl]
      refine iteF ?_
      have wb := wb.same s2
      obtain ⟨dx, fs, hx, hat, hch⟩ := wb.fs
      refine ⟨_, rfl, x, dx, fs, rfl, hx, hch, x, 3, ts0, 1, 98, 99, by rw [← eb, ← ec]; rfl, wb, by decide, by decide, by decide, (fun _ _ y H3 s3 wy => ?_), (fun q => absurd (show (98 : Nat) ∈ marksAt 1 ts0 by decide) q), (fun _ q => absurd q (by decide))⟩
      obtain ⟨dy, fy, hy, _⟩ := wy.fs
      refine ⟨y, dy, fy, rfl, hy, y, 3, _, rfl, wy, rfl, _, rfl, ?_⟩
      rw [ts2_str, decide_eq_true rfl]
      exact iteF ⟨Same.trans s1 (Same.trans s2 s3), rfl⟩
    rintro σ H2 ⟨s2, rfl⟩
    have ha2 := s2.seq ha
    have tb2 := tb.ext s2
    refine ⟨_, rfl, a, _, rfl, .inl ha2, _, _, rfl, _, _, rfl, ?_⟩
    have hb : ∀ L : Int, 0 ≤ L → 0 ≤ (if (if 6 < L then 6 else L) > 2 then (if 6 < L then 6 else L) else 2) ∧ (if (if 6 < L then 6 else L) > 2 then (if 6 < L then 6 else L) else 2) ≤ 6 := fun L h => by
      split <;> split <;> omega
    have hb1 := hb ((ns.map V.int).length : Int) (by omega)
    refine ⟨_, rfl, ?_, ?_, fun D nD => ?_⟩
    · exact Int.le_trans (by decide) hb1.1
    · exact Int.lt_of_le_of_lt hb1.2 (by decide)
    have hb2 : (if (if 6 < ((ns.map V.int).length : Int) then 6 else ((ns.map V.int).length : Int)) > 2 then (if 6 < ((ns.map V.int).length : Int) then 6 else ((ns.map V.int).length : Int)) else 2).toNat ≤ 6 := by omega
    have own := sq_own ha2 nD
    refine lc_range (lo := 0) (n := _) (fun j H' => Same H2 H2 ∧ SqL K H' a (ns.map V.int) ∧ LamX.Tabs [(PT, lamQ)] H' ∧ H' D = some (.lst ((List.replicate j true).map V.bl))) ⟨Same.refl _, (same_upd nD).seq ha2, tb2.ext (same_upd nD), upd_same⟩ ?_ ?_
    · rintro j H3 hj ⟨_, ha3, tb3, hD⟩
      rw [show (0 : Int) + (j : Int) = (j : Int) from Int.zero_add _]
      refine ⟨rfl, _, rfl, _, rfl, a, ns, j, rfl, ha3, by omega, fun c H4 s4 nc cu4 => ⟨c, rfl, cu4, tb3.ext s4, fun H5 kp5 cu5 tb5 => ?_⟩⟩
      have kk : Kp c H3 H5 := s4.kp.trans kp5
      have hD5 : H5 D = some (.lst ((List.replicate j true).map V.bl)) := kk _ _ hD (ne_of_none hD nc) (fun ps z => by cases z)
      refine ⟨_, hD5, ?_, Same.refl _, ?_, ?_, ?_⟩
      · rw [List.length_map, List.length_replicate]
        exact small1000 (by omega)
      · exact sq_upd own (sq_kp ha3 kk nc)
      · exact tabs_upd tb5 hD5
      · rw [upd_same, List.replicate_succ', List.map_append]
        rfl
    · rintro H3 ⟨_, ha3, tb3, hD⟩
      refine ⟨D, _, rfl, SqL.of hD, ?_⟩
      rw [show (List.replicate _ true).all id = true from List.all_eq_true.mpr fun b hb => (List.mem_replicate.mp hb).2]
      exact k H3
end
end Wh

namespace Wh
open PySem PySem.Spec PyProof.Rows L2

theorem kit_ref {K : PySem.W.Frag} {A C : Addr} {b : Bool} (h : (Value.ref A == Value.ref C) = false) (hdct : PySem.W.hasDictIn K C = true) (ht : PySem.W.typeIn K (.ref C) = some (.type "type")) (hs : PySem.W.subIn K (.ref A) (.ref C) = some b) : PySem.W.kitOne K (.ref A) (.ref C) = some b := by
  obtain ⟨cd, hc, _⟩ := PySem.W.any_some hdct
  have e2 : ((PySem.W.clsIn K C).isSome && PySem.W.typeIn K (.ref C) == some (.type "type")) = true := by rw [hc, ht] <;> rfl
  show (if (Value.ref A == Value.ref C) = true then some true else if ((PySem.W.clsIn K C).isSome && PySem.W.typeIn K (.ref C) == some (.type "type")) = true then PySem.W.subIn K (.ref A) (.ref C) else none) = some b
  rw [h, if_neg Bool.false_ne_true, if_pos e2]
  exact hs
theorem kit_self {K : PySem.W.Frag} {A : Addr} : PySem.W.kitOne K (.ref A) (.ref A) = some true := by
  show (if (Value.ref A == Value.ref A) = true then some true else _) = some true
  rw [if_pos (by simp)]
theorem exm4 {K : PySem.W.Frag} {cls c1 c2 c3 c4 : Value} (h1 : PySem.W.exmOne K cls c1 = some false) (h2 : PySem.W.exmOne K cls c2 = some false) (h3 : PySem.W.exmOne K cls c3 = some true) (h4 : PySem.W.exmOne K cls c4 = some false) : PySem.W.exmAny K cls [c1, c2, c3, c4] = some true := by
  simp [PySem.W.exmAny, h1, h2, h3, h4]

set_option maxHeartbeats 8000000 in
theorem all_mk {l : PySem.W.OpenLaw} {w : World} {K : PySem.W.Frag} {h : Heap} {mg : Str → Option Value} {fa : Addr} (X : K.In h) (G : h.Ns mainGlobals mg) (hfa : mg "law" = some (.ref fa))
    {f_law_cup f_law_sip f_law_pick f_law_drawn f_law_text f_law_ways f_law_right f_law f_read_ties f_read_torn f_read_line f_may_be_mark f_read_house f_are_apart f_hang_together f_count_houses f_plain_text f_is_integer f_is_house f_is_mark f_doors_of f_read_number f_tie_between f_is_count f_is_index f_law_changed f_law_caught f_marked C f_Winit f_Wat f_Wchanged f_Wcheck_house f_Weq p_Wplain f_Wplain p_Whouses f_Whouses NC A_InvalidCount A_InvalidHouse A_InvalidMark A_InvalidPair N_InvalidMark f_EInvalidMark cR PT : Addr}
    {od_law_cup an_law_cup : Option Addr} {sl_law_cup : Array (Option Value)} {kV_law_cup dc_law_cup pm_law_cup ct_law_cup cd_law_cup : Value}
    {od_law_sip an_law_sip : Option Addr} {sl_law_sip : Array (Option Value)} {kV_law_sip dc_law_sip pm_law_sip ct_law_sip cd_law_sip : Value}
    {od_law_pick an_law_pick : Option Addr} {sl_law_pick : Array (Option Value)} {kV_law_pick dc_law_pick pm_law_pick ct_law_pick cd_law_pick : Value}
    {od_law_drawn an_law_drawn : Option Addr} {sl_law_drawn : Array (Option Value)} {kV_law_drawn dc_law_drawn pm_law_drawn ct_law_drawn cd_law_drawn : Value}
    {od_law_text an_law_text : Option Addr} {sl_law_text : Array (Option Value)} {kV_law_text dc_law_text pm_law_text ct_law_text cd_law_text : Value}
    {od_law_ways an_law_ways : Option Addr} {sl_law_ways : Array (Option Value)} {kV_law_ways dc_law_ways pm_law_ways ct_law_ways cd_law_ways : Value}
    {od_law_right an_law_right : Option Addr} {sl_law_right : Array (Option Value)} {kV_law_right dc_law_right pm_law_right ct_law_right : Value}
    {od_law an_law : Option Addr} {sl_law : Array (Option Value)} {kV_law dc_law pm_law ct_law cd_law : Value}
    {od_read_ties an_read_ties : Option Addr} {sl_read_ties : Array (Option Value)} {kV_read_ties dc_read_ties pm_read_ties ct_read_ties cd_read_ties : Value}
    {od_read_torn an_read_torn : Option Addr} {sl_read_torn : Array (Option Value)} {kV_read_torn dc_read_torn pm_read_torn ct_read_torn cd_read_torn : Value}
    {od_read_line an_read_line : Option Addr} {sl_read_line : Array (Option Value)} {kV_read_line dc_read_line pm_read_line ct_read_line cd_read_line : Value}
    {od_may_be_mark an_may_be_mark : Option Addr} {sl_may_be_mark : Array (Option Value)} {kV_may_be_mark dc_may_be_mark pm_may_be_mark ct_may_be_mark cd_may_be_mark : Value}
    {od_read_house an_read_house : Option Addr} {sl_read_house : Array (Option Value)} {kV_read_house dc_read_house pm_read_house ct_read_house cd_read_house : Value}
    {od_are_apart an_are_apart : Option Addr} {sl_are_apart : Array (Option Value)} {kV_are_apart dc_are_apart pm_are_apart ct_are_apart cd_are_apart : Value}
    {od_hang_together an_hang_together : Option Addr} {sl_hang_together : Array (Option Value)} {kV_hang_together dc_hang_together pm_hang_together ct_hang_together cd_hang_together : Value}
    {od_count_houses an_count_houses : Option Addr} {sl_count_houses : Array (Option Value)} {kV_count_houses dc_count_houses pm_count_houses ct_count_houses cd_count_houses : Value}
    {od_plain_text an_plain_text : Option Addr} {sl_plain_text : Array (Option Value)} {kV_plain_text dc_plain_text pm_plain_text ct_plain_text cd_plain_text : Value}
    {od_is_integer an_is_integer : Option Addr} {sl_is_integer : Array (Option Value)} {kV_is_integer dc_is_integer pm_is_integer ct_is_integer cd_is_integer : Value}
    {od_is_house an_is_house : Option Addr} {sl_is_house : Array (Option Value)} {kV_is_house dc_is_house pm_is_house ct_is_house cd_is_house : Value}
    {od_is_mark an_is_mark : Option Addr} {sl_is_mark : Array (Option Value)} {kV_is_mark dc_is_mark pm_is_mark ct_is_mark cd_is_mark : Value}
    {od_doors_of an_doors_of : Option Addr} {sl_doors_of : Array (Option Value)} {kV_doors_of dc_doors_of pm_doors_of ct_doors_of cd_doors_of : Value}
    {od_read_number an_read_number : Option Addr} {sl_read_number : Array (Option Value)} {kV_read_number dc_read_number pm_read_number ct_read_number cd_read_number : Value}
    {od_tie_between an_tie_between : Option Addr} {sl_tie_between : Array (Option Value)} {kV_tie_between dc_tie_between pm_tie_between ct_tie_between cd_tie_between : Value}
    {od_is_count an_is_count : Option Addr} {sl_is_count : Array (Option Value)} {kV_is_count dc_is_count pm_is_count ct_is_count cd_is_count : Value}
    {od_is_index an_is_index : Option Addr} {sl_is_index : Array (Option Value)} {kV_is_index dc_is_index pm_is_index ct_is_index cd_is_index : Value}
    {od_law_changed an_law_changed : Option Addr} {sl_law_changed : Array (Option Value)} {kV_law_changed dc_law_changed pm_law_changed ct_law_changed cd_law_changed : Value}
    {od_law_caught an_law_caught : Option Addr} {sl_law_caught : Array (Option Value)} {kV_law_caught dc_law_caught pm_law_caught ct_law_caught cd_law_caught : Value}
    {od_marked an_marked : Option Addr} {sl_marked : Array (Option Value)} {kV_marked dc_marked pm_marked ct_marked cd_marked : Value}
    {od_Winit an_Winit : Option Addr} {sl_Winit : Array (Option Value)} {kV_Winit dc_Winit pm_Winit ct_Winit cd_Winit : Value}
    {od_Wat an_Wat : Option Addr} {sl_Wat : Array (Option Value)} {kV_Wat dc_Wat pm_Wat ct_Wat cd_Wat : Value}
    {od_Wchanged an_Wchanged : Option Addr} {sl_Wchanged : Array (Option Value)} {kV_Wchanged dc_Wchanged pm_Wchanged ct_Wchanged cd_Wchanged : Value}
    {od_Wcheck_house an_Wcheck_house : Option Addr} {sl_Wcheck_house : Array (Option Value)} {kV_Wcheck_house dc_Wcheck_house pm_Wcheck_house ct_Wcheck_house cd_Wcheck_house : Value}
    {od_Weq an_Weq : Option Addr} {sl_Weq : Array (Option Value)} {kV_Weq dc_Weq pm_Weq ct_Weq cd_Weq : Value}
    {rs_Wplain : List Value}
    {od_Wplain an_Wplain : Option Addr} {sl_Wplain : Array (Option Value)} {kV_Wplain dc_Wplain pm_Wplain ct_Wplain cd_Wplain : Value}
    {rs_Whouses : List Value}
    {od_Whouses an_Whouses : Option Addr} {sl_Whouses : Array (Option Value)} {kV_Whouses dc_Whouses pm_Whouses ct_Whouses cd_Whouses : Value}
    {nmC qC : Str} {bsC : List Value} {hdC : Bool} {snC : List Str} {suC : List Value} {abC : Bool} {coC : Option Bool} {ddC : Option Addr} {m0C m1C m2C m3C m5C : Option Value} {neC : String}
    {nm_InvalidMark q_InvalidMark : Str} {bs_InvalidMark bm_InvalidMark : List Value} {sn_InvalidMark : List Str} {su_InvalidMark : List Value} {ab_InvalidMark : Bool} {co_InvalidMark : Option Bool} {dd_InvalidMark : Option Addr} {m0_InvalidMark m1_InvalidMark m2_InvalidMark m3_InvalidMark m5_InvalidMark : Option Value}
    {od_EInvalidMark an_EInvalidMark : Option Addr} {sl_EInvalidMark : Array (Option Value)} {kV_EInvalidMark dc_EInvalidMark pm_EInvalidMark ct_EInvalidMark cd_EInvalidMark : Value}
    {tk_MOST_HOUSES : Tok}
    {tk_MARKS : Tok}
    {tk_UNREAD : Tok}
    {ecd_cR : Value} {ddcd_cR : Option Addr} {vscd_cR : Array Value} {slcd_cR : Array (Option Value)}
    (a_law_cup : PySem.W.nsIn K mainGlobals "_law_cup" = some (some (.ref f_law_cup)))
    (l_law_cup : K.lookup f_law_cup = some ⟨.type "function", od_law_cup, .func (PySem.W.fnOf "_law_cup" "_law_cup" (defArgs sCup) (defBody sCup) (defScope sCup) .none kV_law_cup dc_law_cup pm_law_cup an_law_cup cd_law_cup ct_law_cup), sl_law_cup⟩)
    (c_law_cup : PySem.W.codeIn K cd_law_cup "_law_cup" = true)
    (k_law_cup : PySem.W.keepIn K (.ref f_law_cup) = true)
    (a_law_sip : PySem.W.nsIn K mainGlobals "_law_sip" = some (some (.ref f_law_sip)))
    (l_law_sip : K.lookup f_law_sip = some ⟨.type "function", od_law_sip, .func (PySem.W.fnOf "_law_sip" "_law_sip" (defArgs sSip) (defBody sSip) (defScope sSip) .none kV_law_sip dc_law_sip pm_law_sip an_law_sip cd_law_sip ct_law_sip), sl_law_sip⟩)
    (c_law_sip : PySem.W.codeIn K cd_law_sip "_law_sip" = true)
    (k_law_sip : PySem.W.keepIn K (.ref f_law_sip) = true)
    (a_law_pick : PySem.W.nsIn K mainGlobals "_law_pick" = some (some (.ref f_law_pick)))
    (l_law_pick : K.lookup f_law_pick = some ⟨.type "function", od_law_pick, .func (PySem.W.fnOf "_law_pick" "_law_pick" (defArgs sPick) (defBody sPick) (defScope sPick) .none kV_law_pick dc_law_pick pm_law_pick an_law_pick cd_law_pick ct_law_pick), sl_law_pick⟩)
    (c_law_pick : PySem.W.codeIn K cd_law_pick "_law_pick" = true)
    (k_law_pick : PySem.W.keepIn K (.ref f_law_pick) = true)
    (a_law_drawn : PySem.W.nsIn K mainGlobals "_law_drawn" = some (some (.ref f_law_drawn)))
    (l_law_drawn : K.lookup f_law_drawn = some ⟨.type "function", od_law_drawn, .func (PySem.W.fnOf "_law_drawn" "_law_drawn" (defArgs sDrawn) (defBody sDrawn) (defScope sDrawn) .none kV_law_drawn dc_law_drawn pm_law_drawn an_law_drawn cd_law_drawn ct_law_drawn), sl_law_drawn⟩)
    (c_law_drawn : PySem.W.codeIn K cd_law_drawn "_law_drawn" = true)
    (k_law_drawn : PySem.W.keepIn K (.ref f_law_drawn) = true)
    (a_law_text : PySem.W.nsIn K mainGlobals "_law_text" = some (some (.ref f_law_text)))
    (l_law_text : K.lookup f_law_text = some ⟨.type "function", od_law_text, .func (PySem.W.fnOf "_law_text" "_law_text" (defArgs sText) (defBody sText) (defScope sText) .none kV_law_text dc_law_text pm_law_text an_law_text cd_law_text ct_law_text), sl_law_text⟩)
    (c_law_text : PySem.W.codeIn K cd_law_text "_law_text" = true)
    (k_law_text : PySem.W.keepIn K (.ref f_law_text) = true)
    (a_law_ways : PySem.W.nsIn K mainGlobals "_law_ways" = some (some (.ref f_law_ways)))
    (l_law_ways : K.lookup f_law_ways = some ⟨.type "function", od_law_ways, .func (PySem.W.fnOf "_law_ways" "_law_ways" (defArgs sWays) (defBody sWays) (defScope sWays) .none kV_law_ways dc_law_ways pm_law_ways an_law_ways cd_law_ways ct_law_ways), sl_law_ways⟩)
    (c_law_ways : PySem.W.codeIn K cd_law_ways "_law_ways" = true)
    (k_law_ways : PySem.W.keepIn K (.ref f_law_ways) = true)
    (a_law_right : PySem.W.nsIn K mainGlobals "_law_right" = some (some (.ref f_law_right)))
    (l_law_right : K.lookup f_law_right = some ⟨.type "function", od_law_right, .func (PySem.W.fnOf "_law_right" "_law_right" (defArgs sRight) (defBody sRight) (defScope sRight) .none kV_law_right dc_law_right pm_law_right an_law_right (.ref cR) ct_law_right), sl_law_right⟩)
    (c_law_right : PySem.W.codeIn K (.ref cR) "_law_right" = true)
    (k_law_right : PySem.W.keepIn K (.ref f_law_right) = true)
    (a_law : PySem.W.nsIn K mainGlobals "law" = some (some (.ref f_law)))
    (l_law : K.lookup f_law = some ⟨.type "function", od_law, .func (PySem.W.fnOf "law" "law" (defArgs sLaw) (defBody sLaw) (defScope sLaw) .none kV_law dc_law pm_law an_law cd_law ct_law), sl_law⟩)
    (c_law : PySem.W.codeIn K cd_law "law" = true)
    (k_law : PySem.W.keepIn K (.ref f_law) = true)
    (a_read_ties : PySem.W.nsIn K mainGlobals "read_ties" = some (some (.ref f_read_ties)))
    (l_read_ties : K.lookup f_read_ties = some ⟨.type "function", od_read_ties, .func (PySem.W.fnOf "read_ties" "read_ties" (defArgs sTies) (defBody sTies) (defScope sTies) .none kV_read_ties dc_read_ties pm_read_ties an_read_ties cd_read_ties ct_read_ties), sl_read_ties⟩)
    (c_read_ties : PySem.W.codeIn K cd_read_ties "read_ties" = true)
    (k_read_ties : PySem.W.keepIn K (.ref f_read_ties) = true)
    (a_read_torn : PySem.W.nsIn K mainGlobals "read_torn" = some (some (.ref f_read_torn)))
    (l_read_torn : K.lookup f_read_torn = some ⟨.type "function", od_read_torn, .func (PySem.W.fnOf "read_torn" "read_torn" (defArgs sTorn) (defBody sTorn) (defScope sTorn) .none kV_read_torn dc_read_torn pm_read_torn an_read_torn cd_read_torn ct_read_torn), sl_read_torn⟩)
    (c_read_torn : PySem.W.codeIn K cd_read_torn "read_torn" = true)
    (k_read_torn : PySem.W.keepIn K (.ref f_read_torn) = true)
    (a_read_line : PySem.W.nsIn K mainGlobals "read_line" = some (some (.ref f_read_line)))
    (l_read_line : K.lookup f_read_line = some ⟨.type "function", od_read_line, .func (PySem.W.fnOf "read_line" "read_line" (defArgs sLine) (defBody sLine) (defScope sLine) .none kV_read_line dc_read_line pm_read_line an_read_line cd_read_line ct_read_line), sl_read_line⟩)
    (c_read_line : PySem.W.codeIn K cd_read_line "read_line" = true)
    (k_read_line : PySem.W.keepIn K (.ref f_read_line) = true)
    (a_may_be_mark : PySem.W.nsIn K mainGlobals "may_be_mark" = some (some (.ref f_may_be_mark)))
    (l_may_be_mark : K.lookup f_may_be_mark = some ⟨.type "function", od_may_be_mark, .func (PySem.W.fnOf "may_be_mark" "may_be_mark" (defArgs sMay) (defBody sMay) (defScope sMay) .none kV_may_be_mark dc_may_be_mark pm_may_be_mark an_may_be_mark cd_may_be_mark ct_may_be_mark), sl_may_be_mark⟩)
    (c_may_be_mark : PySem.W.codeIn K cd_may_be_mark "may_be_mark" = true)
    (k_may_be_mark : PySem.W.keepIn K (.ref f_may_be_mark) = true)
    (a_read_house : PySem.W.nsIn K mainGlobals "read_house" = some (some (.ref f_read_house)))
    (l_read_house : K.lookup f_read_house = some ⟨.type "function", od_read_house, .func (PySem.W.fnOf "read_house" "read_house" (defArgs sRHouse) (defBody sRHouse) (defScope sRHouse) .none kV_read_house dc_read_house pm_read_house an_read_house cd_read_house ct_read_house), sl_read_house⟩)
    (c_read_house : PySem.W.codeIn K cd_read_house "read_house" = true)
    (k_read_house : PySem.W.keepIn K (.ref f_read_house) = true)
    (a_are_apart : PySem.W.nsIn K mainGlobals "are_apart" = some (some (.ref f_are_apart)))
    (l_are_apart : K.lookup f_are_apart = some ⟨.type "function", od_are_apart, .func (PySem.W.fnOf "are_apart" "are_apart" (defArgs sApart) (defBody sApart) (defScope sApart) .none kV_are_apart dc_are_apart pm_are_apart an_are_apart cd_are_apart ct_are_apart), sl_are_apart⟩)
    (c_are_apart : PySem.W.codeIn K cd_are_apart "are_apart" = true)
    (k_are_apart : PySem.W.keepIn K (.ref f_are_apart) = true)
    (a_hang_together : PySem.W.nsIn K mainGlobals "hang_together" = some (some (.ref f_hang_together)))
    (l_hang_together : K.lookup f_hang_together = some ⟨.type "function", od_hang_together, .func (PySem.W.fnOf "hang_together" "hang_together" (defArgs sHang) (defBody sHang) (defScope sHang) .none kV_hang_together dc_hang_together pm_hang_together an_hang_together cd_hang_together ct_hang_together), sl_hang_together⟩)
    (c_hang_together : PySem.W.codeIn K cd_hang_together "hang_together" = true)
    (k_hang_together : PySem.W.keepIn K (.ref f_hang_together) = true)
    (a_count_houses : PySem.W.nsIn K mainGlobals "count_houses" = some (some (.ref f_count_houses)))
    (l_count_houses : K.lookup f_count_houses = some ⟨.type "function", od_count_houses, .func (PySem.W.fnOf "count_houses" "count_houses" (defArgs sCount) (defBody sCount) (defScope sCount) .none kV_count_houses dc_count_houses pm_count_houses an_count_houses cd_count_houses ct_count_houses), sl_count_houses⟩)
    (c_count_houses : PySem.W.codeIn K cd_count_houses "count_houses" = true)
    (k_count_houses : PySem.W.keepIn K (.ref f_count_houses) = true)
    (a_plain_text : PySem.W.nsIn K mainGlobals "plain_text" = some (some (.ref f_plain_text)))
    (l_plain_text : K.lookup f_plain_text = some ⟨.type "function", od_plain_text, .func (PySem.W.fnOf "plain_text" "plain_text" (defArgs sPlain) (defBody sPlain) (defScope sPlain) .none kV_plain_text dc_plain_text pm_plain_text an_plain_text cd_plain_text ct_plain_text), sl_plain_text⟩)
    (c_plain_text : PySem.W.codeIn K cd_plain_text "plain_text" = true)
    (k_plain_text : PySem.W.keepIn K (.ref f_plain_text) = true)
    (a_is_integer : PySem.W.nsIn K mainGlobals "is_integer" = some (some (.ref f_is_integer)))
    (l_is_integer : K.lookup f_is_integer = some ⟨.type "function", od_is_integer, .func (PySem.W.fnOf "is_integer" "is_integer" (defArgs sInt) (defBody sInt) (defScope sInt) .none kV_is_integer dc_is_integer pm_is_integer an_is_integer cd_is_integer ct_is_integer), sl_is_integer⟩)
    (c_is_integer : PySem.W.codeIn K cd_is_integer "is_integer" = true)
    (k_is_integer : PySem.W.keepIn K (.ref f_is_integer) = true)
    (a_is_house : PySem.W.nsIn K mainGlobals "is_house" = some (some (.ref f_is_house)))
    (l_is_house : K.lookup f_is_house = some ⟨.type "function", od_is_house, .func (PySem.W.fnOf "is_house" "is_house" (defArgs sHouse) (defBody sHouse) (defScope sHouse) .none kV_is_house dc_is_house pm_is_house an_is_house cd_is_house ct_is_house), sl_is_house⟩)
    (c_is_house : PySem.W.codeIn K cd_is_house "is_house" = true)
    (k_is_house : PySem.W.keepIn K (.ref f_is_house) = true)
    (a_is_mark : PySem.W.nsIn K mainGlobals "is_mark" = some (some (.ref f_is_mark)))
    (l_is_mark : K.lookup f_is_mark = some ⟨.type "function", od_is_mark, .func (PySem.W.fnOf "is_mark" "is_mark" (defArgs sMark) (defBody sMark) (defScope sMark) .none kV_is_mark dc_is_mark pm_is_mark an_is_mark cd_is_mark ct_is_mark), sl_is_mark⟩)
    (c_is_mark : PySem.W.codeIn K cd_is_mark "is_mark" = true)
    (k_is_mark : PySem.W.keepIn K (.ref f_is_mark) = true)
    (a_doors_of : PySem.W.nsIn K mainGlobals "doors_of" = some (some (.ref f_doors_of)))
    (l_doors_of : K.lookup f_doors_of = some ⟨.type "function", od_doors_of, .func (PySem.W.fnOf "doors_of" "doors_of" (defArgs sDoors) (defBody sDoors) (defScope sDoors) .none kV_doors_of dc_doors_of pm_doors_of an_doors_of cd_doors_of ct_doors_of), sl_doors_of⟩)
    (c_doors_of : PySem.W.codeIn K cd_doors_of "doors_of" = true)
    (k_doors_of : PySem.W.keepIn K (.ref f_doors_of) = true)
    (a_read_number : PySem.W.nsIn K mainGlobals "read_number" = some (some (.ref f_read_number)))
    (l_read_number : K.lookup f_read_number = some ⟨.type "function", od_read_number, .func (PySem.W.fnOf "read_number" "read_number" (defArgs sRNum) (defBody sRNum) (defScope sRNum) .none kV_read_number dc_read_number pm_read_number an_read_number cd_read_number ct_read_number), sl_read_number⟩)
    (c_read_number : PySem.W.codeIn K cd_read_number "read_number" = true)
    (k_read_number : PySem.W.keepIn K (.ref f_read_number) = true)
    (a_tie_between : PySem.W.nsIn K mainGlobals "tie_between" = some (some (.ref f_tie_between)))
    (l_tie_between : K.lookup f_tie_between = some ⟨.type "function", od_tie_between, .func (PySem.W.fnOf "tie_between" "tie_between" (defArgs sBetw) (defBody sBetw) (defScope sBetw) .none kV_tie_between dc_tie_between pm_tie_between an_tie_between cd_tie_between ct_tie_between), sl_tie_between⟩)
    (c_tie_between : PySem.W.codeIn K cd_tie_between "tie_between" = true)
    (k_tie_between : PySem.W.keepIn K (.ref f_tie_between) = true)
    (a_is_count : PySem.W.nsIn K mainGlobals "is_count" = some (some (.ref f_is_count)))
    (l_is_count : K.lookup f_is_count = some ⟨.type "function", od_is_count, .func (PySem.W.fnOf "is_count" "is_count" (defArgs sCountK) (defBody sCountK) (defScope sCountK) .none kV_is_count dc_is_count pm_is_count an_is_count cd_is_count ct_is_count), sl_is_count⟩)
    (c_is_count : PySem.W.codeIn K cd_is_count "is_count" = true)
    (k_is_count : PySem.W.keepIn K (.ref f_is_count) = true)
    (a_is_index : PySem.W.nsIn K mainGlobals "is_index" = some (some (.ref f_is_index)))
    (l_is_index : K.lookup f_is_index = some ⟨.type "function", od_is_index, .func (PySem.W.fnOf "is_index" "is_index" (defArgs sIndex) (defBody sIndex) (defScope sIndex) .none kV_is_index dc_is_index pm_is_index an_is_index cd_is_index ct_is_index), sl_is_index⟩)
    (c_is_index : PySem.W.codeIn K cd_is_index "is_index" = true)
    (k_is_index : PySem.W.keepIn K (.ref f_is_index) = true)
    (a_law_changed : PySem.W.nsIn K mainGlobals "_law_changed" = some (some (.ref f_law_changed)))
    (l_law_changed : K.lookup f_law_changed = some ⟨.type "function", od_law_changed, .func (PySem.W.fnOf "_law_changed" "_law_changed" (defArgs sLChg) (defBody sLChg) (defScope sLChg) .none kV_law_changed dc_law_changed pm_law_changed an_law_changed cd_law_changed ct_law_changed), sl_law_changed⟩)
    (c_law_changed : PySem.W.codeIn K cd_law_changed "_law_changed" = true)
    (k_law_changed : PySem.W.keepIn K (.ref f_law_changed) = true)
    (a_law_caught : PySem.W.nsIn K mainGlobals "_law_caught" = some (some (.ref f_law_caught)))
    (l_law_caught : K.lookup f_law_caught = some ⟨.type "function", od_law_caught, .func (PySem.W.fnOf "_law_caught" "_law_caught" (defArgs sCaught) (defBody sCaught) (defScope sCaught) .none kV_law_caught dc_law_caught pm_law_caught an_law_caught cd_law_caught ct_law_caught), sl_law_caught⟩)
    (c_law_caught : PySem.W.codeIn K cd_law_caught "_law_caught" = true)
    (k_law_caught : PySem.W.keepIn K (.ref f_law_caught) = true)
    (a_marked : PySem.W.nsIn K mainGlobals "marked" = some (some (.ref f_marked)))
    (l_marked : K.lookup f_marked = some ⟨.type "function", od_marked, .func (PySem.W.fnOf "marked" "marked" (defArgs sMarked) (defBody sMarked) (defScope sMarked) .none kV_marked dc_marked pm_marked an_marked cd_marked ct_marked), sl_marked⟩)
    (c_marked : PySem.W.codeIn K cd_marked "marked" = true)
    (k_marked : PySem.W.keepIn K (.ref f_marked) = true)
    (aC : PySem.W.nsIn K mainGlobals "Web" = some (some (.ref C)))
    (a_Winit : PySem.W.findIn K (.ref C) "__init__" = some (some (.ref f_Winit)))
    (i_Winit : PySem.W.isFn K (.ref f_Winit) = true)
    (l_Winit : K.lookup f_Winit = some ⟨.type "function", od_Winit, .func (PySem.W.fnOf "__init__" "Web.__init__" (defArgs sInit) (defBody sInit) (defScope sInit) .none kV_Winit dc_Winit pm_Winit an_Winit cd_Winit ct_Winit), sl_Winit⟩)
    (c_Winit : PySem.W.codeIn K cd_Winit "Web.__init__" = true)
    (k_Winit : PySem.W.keepIn K (.ref f_Winit) = true)
    (a_Wat : PySem.W.findIn K (.ref C) "at" = some (some (.ref f_Wat)))
    (i_Wat : PySem.W.isFn K (.ref f_Wat) = true)
    (l_Wat : K.lookup f_Wat = some ⟨.type "function", od_Wat, .func (PySem.W.fnOf "at" "Web.at" (defArgs sWAt) (defBody sWAt) (defScope sWAt) .none kV_Wat dc_Wat pm_Wat an_Wat cd_Wat ct_Wat), sl_Wat⟩)
    (c_Wat : PySem.W.codeIn K cd_Wat "Web.at" = true)
    (k_Wat : PySem.W.keepIn K (.ref f_Wat) = true)
    (a_Wchanged : PySem.W.findIn K (.ref C) "changed" = some (some (.ref f_Wchanged)))
    (i_Wchanged : PySem.W.isFn K (.ref f_Wchanged) = true)
    (l_Wchanged : K.lookup f_Wchanged = some ⟨.type "function", od_Wchanged, .func (PySem.W.fnOf "changed" "Web.changed" (defArgs sWChg) (defBody sWChg) (defScope sWChg) .none kV_Wchanged dc_Wchanged pm_Wchanged an_Wchanged cd_Wchanged ct_Wchanged), sl_Wchanged⟩)
    (c_Wchanged : PySem.W.codeIn K cd_Wchanged "Web.changed" = true)
    (k_Wchanged : PySem.W.keepIn K (.ref f_Wchanged) = true)
    (a_Wcheck_house : PySem.W.findIn K (.ref C) "_check_house" = some (some (.ref f_Wcheck_house)))
    (i_Wcheck_house : PySem.W.isFn K (.ref f_Wcheck_house) = true)
    (l_Wcheck_house : K.lookup f_Wcheck_house = some ⟨.type "function", od_Wcheck_house, .func (PySem.W.fnOf "_check_house" "Web._check_house" (defArgs sWCheck) (defBody sWCheck) (defScope sWCheck) .none kV_Wcheck_house dc_Wcheck_house pm_Wcheck_house an_Wcheck_house cd_Wcheck_house ct_Wcheck_house), sl_Wcheck_house⟩)
    (c_Wcheck_house : PySem.W.codeIn K cd_Wcheck_house "Web._check_house" = true)
    (k_Wcheck_house : PySem.W.keepIn K (.ref f_Wcheck_house) = true)
    (a_Weq : PySem.W.findIn K (.ref C) "__eq__" = some (some (.ref f_Weq)))
    (i_Weq : PySem.W.isFn K (.ref f_Weq) = true)
    (l_Weq : K.lookup f_Weq = some ⟨.type "function", od_Weq, .func (PySem.W.fnOf "__eq__" "Web.__eq__" (defArgs sWEq) (defBody sWEq) (defScope sWEq) .none kV_Weq dc_Weq pm_Weq an_Weq cd_Weq ct_Weq), sl_Weq⟩)
    (c_Weq : PySem.W.codeIn K cd_Weq "Web.__eq__" = true)
    (k_Weq : PySem.W.keepIn K (.ref f_Weq) = true)
    (a_Wplain : PySem.W.findIn K (.ref C) "plain" = some (some (.ref p_Wplain)))
    (g_Wplain : PySem.W.specialIn K (.ref p_Wplain) "__get__" = some (some (.builtin "property.__get__")))
    (t_Wplain : PySem.W.takesIn K (.ref p_Wplain) = some true)
    (r_Wplain : PySem.W.recIn K p_Wplain "property" = some (.ref f_Wplain :: rs_Wplain))
    (l_Wplain : K.lookup f_Wplain = some ⟨.type "function", od_Wplain, .func (PySem.W.fnOf "plain" "Web.plain" (defArgs sWPlain) (defBody sWPlain) (defScope sWPlain) .none kV_Wplain dc_Wplain pm_Wplain an_Wplain cd_Wplain ct_Wplain), sl_Wplain⟩)
    (c_Wplain : PySem.W.codeIn K cd_Wplain "Web.plain" = true)
    (k_Wplain : PySem.W.keepIn K (.ref f_Wplain) = true)
    (a_Whouses : PySem.W.findIn K (.ref C) "houses" = some (some (.ref p_Whouses)))
    (g_Whouses : PySem.W.specialIn K (.ref p_Whouses) "__get__" = some (some (.builtin "property.__get__")))
    (t_Whouses : PySem.W.takesIn K (.ref p_Whouses) = some true)
    (r_Whouses : PySem.W.recIn K p_Whouses "property" = some (.ref f_Whouses :: rs_Whouses))
    (l_Whouses : K.lookup f_Whouses = some ⟨.type "function", od_Whouses, .func (PySem.W.fnOf "houses" "Web.houses" (defArgs sWHouses) (defBody sWHouses) (defScope sWHouses) .none kV_Whouses dc_Whouses pm_Whouses an_Whouses cd_Whouses ct_Whouses), sl_Whouses⟩)
    (c_Whouses : PySem.W.codeIn K cd_Whouses "Web.houses" = true)
    (k_Whouses : PySem.W.keepIn K (.ref f_Whouses) = true)
    (pg : PySem.W.plainGet K C Str.empty = true)
    (hd : PySem.W.hasDictIn K C = true)
    (po : PySem.W.plainOver K C = true)
    (sa : PySem.W.findIn K (.ref C) "__setattr__" = some (some (.builtin "object.__setattr__")))
    (n0 : PySem.W.findIn K (.ref C) "_text" = some none)
    (n1 : PySem.W.findIn K (.ref C) "_plain" = some none)
    (n2 : PySem.W.findIn K (.ref C) "_ties" = some none)
    (n3 : PySem.W.findIn K (.ref C) "_doors" = some none)
    (mk : PySem.W.makesIn K C = true)
    (kC : PySem.W.keepIn K (.ref C) = true)
    (wha : PySem.W.findIn K (.ref C) "__class__" = some (some (.builtin "object.__class__")))
    (whn : PySem.W.specialIn K (.builtin "object.__class__") "__get__" = some (some (.builtin "getset_descriptor.__get__")))
    (wht : PySem.W.takesIn K (.builtin "object.__class__") = some true)
    (whm : PySem.W.mroIn K C (.type "object") = some true)
    (xC : K.lookup C = some (excClassObj nmC qC C NC bsC [.type "object"] hdC snC suC abC coC ddC m0C m1C m2C m3C m5C neC))
    (xO : PySem.W.nsOkIn K NC = true)
    (xE : PySem.W.nsIn K NC "__eq__" = some (some (.ref f_Weq)))
    (xN : PySem.W.nsIn K NC "__ne__" = some none)
    (aE_InvalidCount : PySem.W.nsIn K mainGlobals "InvalidCount" = some (some (.ref A_InvalidCount)))
    (eb_InvalidCount : PySem.W.subIn K (.ref A_InvalidCount) (.type "BaseException") = some true)
    (ed_InvalidCount : PySem.W.hasDictIn K A_InvalidCount = true)
    (et_InvalidCount : PySem.W.typeIn K (.ref A_InvalidCount) = some (.type "type"))
    (aE_InvalidHouse : PySem.W.nsIn K mainGlobals "InvalidHouse" = some (some (.ref A_InvalidHouse)))
    (eb_InvalidHouse : PySem.W.subIn K (.ref A_InvalidHouse) (.type "BaseException") = some true)
    (ed_InvalidHouse : PySem.W.hasDictIn K A_InvalidHouse = true)
    (et_InvalidHouse : PySem.W.typeIn K (.ref A_InvalidHouse) = some (.type "type"))
    (aE_InvalidMark : PySem.W.nsIn K mainGlobals "InvalidMark" = some (some (.ref A_InvalidMark)))
    (eb_InvalidMark : PySem.W.subIn K (.ref A_InvalidMark) (.type "BaseException") = some true)
    (ed_InvalidMark : PySem.W.hasDictIn K A_InvalidMark = true)
    (et_InvalidMark : PySem.W.typeIn K (.ref A_InvalidMark) = some (.type "type"))
    (aE_InvalidPair : PySem.W.nsIn K mainGlobals "InvalidPair" = some (some (.ref A_InvalidPair)))
    (eb_InvalidPair : PySem.W.subIn K (.ref A_InvalidPair) (.type "BaseException") = some true)
    (ed_InvalidPair : PySem.W.hasDictIn K A_InvalidPair = true)
    (et_InvalidPair : PySem.W.typeIn K (.ref A_InvalidPair) = some (.type "type"))
    (es_InvalidMark_InvalidCount : PySem.W.subIn K (.ref A_InvalidMark) (.ref A_InvalidCount) = some false)
    (ne_InvalidMark_InvalidCount : (Value.ref A_InvalidMark == Value.ref A_InvalidCount) = false)
    (es_InvalidMark_InvalidHouse : PySem.W.subIn K (.ref A_InvalidMark) (.ref A_InvalidHouse) = some false)
    (ne_InvalidMark_InvalidHouse : (Value.ref A_InvalidMark == Value.ref A_InvalidHouse) = false)
    (es_InvalidMark_InvalidMark : PySem.W.subIn K (.ref A_InvalidMark) (.ref A_InvalidMark) = some true)
    (es_InvalidMark_InvalidPair : PySem.W.subIn K (.ref A_InvalidMark) (.ref A_InvalidPair) = some false)
    (ne_InvalidMark_InvalidPair : (Value.ref A_InvalidMark == Value.ref A_InvalidPair) = false)
    (x_InvalidMark : K.lookup A_InvalidMark = some (excClassObj nm_InvalidMark q_InvalidMark A_InvalidMark N_InvalidMark bs_InvalidMark bm_InvalidMark true sn_InvalidMark su_InvalidMark ab_InvalidMark co_InvalidMark dd_InvalidMark m0_InvalidMark m1_InvalidMark m2_InvalidMark m3_InvalidMark m5_InvalidMark "ValueError.__new__"))
    (r_InvalidMark : PySem.HandSPX.refsVE bm_InvalidMark = true)
    (sa_InvalidMark : PySem.W.findIn K (.ref A_InvalidMark) "__setattr__" = some (some (.builtin "object.__setattr__")))
    (k_InvalidMark : PySem.W.keepIn K (.ref A_InvalidMark) = true)
    (ga_InvalidMark : PySem.W.findIn K (.ref A_InvalidMark) "__getattribute__" = some (some (.builtin "BaseException.__getattribute__")))
    (gg_InvalidMark : PySem.W.findIn K (.ref A_InvalidMark) "__getattr__" = some none)
    (ha_InvalidMark : PySem.W.findIn K (.ref A_InvalidMark) "__class__" = some (some (.builtin "object.__class__")))
    (hm_InvalidMark : PySem.W.mroIn K A_InvalidMark (.type "object") = some true)
    (no_InvalidMark : PySem.W.findIn K (.ref A_InvalidMark) "given" = some none)
    (a_EInvalidMark : PySem.W.findIn K (.ref A_InvalidMark) "__init__" = some (some (.ref f_EInvalidMark)))
    (t_EInvalidMark : PySem.W.typeIn K (.ref f_EInvalidMark) = some (.type "function"))
    (l_EInvalidMark : K.lookup f_EInvalidMark = some ⟨.type "function", od_EInvalidMark, .func (PySem.W.fnOf "__init__" "InvalidMark.__init__" (defArgs sExM) (defBody sExM) (defScope sExM) .none kV_EInvalidMark dc_EInvalidMark pm_EInvalidMark an_EInvalidMark cd_EInvalidMark ct_EInvalidMark), sl_EInvalidMark⟩)
    (c_EInvalidMark : PySem.W.codeIn K cd_EInvalidMark "InvalidMark.__init__" = true)
    (k_EInvalidMark : PySem.W.keepIn K (.ref f_EInvalidMark) = true)
    (z_isinstance : PySem.W.nsIn K mainGlobals "isinstance" = some none)
    (z_str : PySem.W.nsIn K mainGlobals "str" = some none)
    (z_sorted : PySem.W.nsIn K mainGlobals "sorted" = some none)
    (z_range : PySem.W.nsIn K mainGlobals "range" = some none)
    (z_len : PySem.W.nsIn K mainGlobals "len" = some none)
    (z_max : PySem.W.nsIn K mainGlobals "max" = some none)
    (z_min : PySem.W.nsIn K mainGlobals "min" = some none)
    (z_int : PySem.W.nsIn K mainGlobals "int" = some none)
    (z_bool : PySem.W.nsIn K mainGlobals "bool" = some none)
    (z_tuple : PySem.W.nsIn K mainGlobals "tuple" = some none)
    (z_divmod : PySem.W.nsIn K mainGlobals "divmod" = some none)
    (z_abs : PySem.W.nsIn K mainGlobals "abs" = some none)
    (z_list : PySem.W.nsIn K mainGlobals "list" = some none)
    (z_all : PySem.W.nsIn K mainGlobals "all" = some none)
    (z_repr : PySem.W.nsIn K mainGlobals "repr" = some none)
    (v_MOST_HOUSES : PySem.W.nsIn K mainGlobals "MOST_HOUSES" = some (some (.int 10 tk_MOST_HOUSES)))
    (v_MARKS : PySem.W.nsIn K mainGlobals "MARKS" = some (some (.str "abcdefghijkl" tk_MARKS)))
    (v_UNREAD : PySem.W.nsIn K mainGlobals "UNREAD" = some (some (.str "?" tk_UNREAD)))
    (lcd_cR : K.lookup cR = some ⟨ecd_cR, ddcd_cR, .fields vscd_cR, slcd_cR⟩)
    (pcd_cR : vscd_cR[11]? = some (.ref PT))
    (cdh_cR : PySem.W.codeHdIn K cR PT = true)
    (nPT_PT : K.lookup PT = none)
    (h_PT : h.get? PT = some { cls := .none, data := .fields #[] }) :
    LamX.LawAtS l w K C8.CX0 12 63 "script" mg fa h := by
  have e2 : f_law = fa := by
    have e := hfa.symm.trans (PySem.W.mg_of X G a_law)
    injection e with e
    injection e with e
    exact e.symm
  subst e2
  have y_isinstance : mg "isinstance" = none := PySem.W.mg_none_of X G z_isinstance
  have y_str : mg "str" = none := PySem.W.mg_none_of X G z_str
  have y_sorted : mg "sorted" = none := PySem.W.mg_none_of X G z_sorted
  have y_range : mg "range" = none := PySem.W.mg_none_of X G z_range
  have y_len : mg "len" = none := PySem.W.mg_none_of X G z_len
  have y_max : mg "max" = none := PySem.W.mg_none_of X G z_max
  have y_min : mg "min" = none := PySem.W.mg_none_of X G z_min
  have y_int : mg "int" = none := PySem.W.mg_none_of X G z_int
  have y_bool : mg "bool" = none := PySem.W.mg_none_of X G z_bool
  have y_tuple : mg "tuple" = none := PySem.W.mg_none_of X G z_tuple
  have y_divmod : mg "divmod" = none := PySem.W.mg_none_of X G z_divmod
  have y_abs : mg "abs" = none := PySem.W.mg_none_of X G z_abs
  have y_list : mg "list" = none := PySem.W.mg_none_of X G z_list
  have y_all : mg "all" = none := PySem.W.mg_none_of X G z_all
  have y_repr : mg "repr" = none := PySem.W.mg_none_of X G z_repr
  have mc_MOST_HOUSES : mg "MOST_HOUSES" = some (.int 10 tk_MOST_HOUSES) := PySem.W.mg_of X G v_MOST_HOUSES
  have mc_MARKS : mg "MARKS" = some (.str "abcdefghijkl" tk_MARKS) := PySem.W.mg_of X G v_MARKS
  have mc_UNREAD : mg "UNREAD" = some (.str "?" tk_UNREAD) := PySem.W.mg_of X G v_UNREAD
  have m_law_cup : mg "_law_cup" = some (.ref f_law_cup) := PySem.W.mg_of X G a_law_cup
  have F_law_cup := fun_mk (st := sCup) l_law_cup c_law_cup k_law_cup
  have b_law_cup := F_law_cup.binds (ps := ["script", "spot"]) fun _ _ _ _ _ _ us hl => match us, hl with | [_, _], _ => rfl
  have m_law_sip : mg "_law_sip" = some (.ref f_law_sip) := PySem.W.mg_of X G a_law_sip
  have F_law_sip := fun_mk (st := sSip) l_law_sip c_law_sip k_law_sip
  have b_law_sip := F_law_sip.binds (ps := ["cup", "top"]) fun _ _ _ _ _ _ us hl => match us, hl with | [_, _], _ => rfl
  have m_law_pick : mg "_law_pick" = some (.ref f_law_pick) := PySem.W.mg_of X G a_law_pick
  have F_law_pick := fun_mk (st := sPick) l_law_pick c_law_pick k_law_pick
  have b_law_pick := F_law_pick.binds (ps := ["cup", "things"]) fun _ _ _ _ _ _ us hl => match us, hl with | [_, _], _ => rfl
  have m_law_drawn : mg "_law_drawn" = some (.ref f_law_drawn) := PySem.W.mg_of X G a_law_drawn
  have F_law_drawn := fun_mk (st := sDrawn) l_law_drawn c_law_drawn k_law_drawn
  have b_law_drawn := F_law_drawn.binds (ps := ["cup", "most"]) fun _ _ _ _ _ _ us hl => match us, hl with | [_, _], _ => rfl
  have m_law_text : mg "_law_text" = some (.ref f_law_text) := PySem.W.mg_of X G a_law_text
  have F_law_text := fun_mk (st := sText) l_law_text c_law_text k_law_text
  have b_law_text := F_law_text.binds (ps := ["told"]) fun _ _ _ _ _ _ us hl => match us, hl with | [_], _ => rfl
  have m_law_ways : mg "_law_ways" = some (.ref f_law_ways) := PySem.W.mg_of X G a_law_ways
  have F_law_ways := fun_mk (st := sWays) l_law_ways c_law_ways k_law_ways
  have b_law_ways := F_law_ways.binds (ps := ["told"]) fun _ _ _ _ _ _ us hl => match us, hl with | [_], _ => rfl
  have m_law_right : mg "_law_right" = some (.ref f_law_right) := PySem.W.mg_of X G a_law_right
  have F_law_right := fun_mk (st := sRight) l_law_right c_law_right k_law_right
  have b_law_right := F_law_right.binds (ps := ["cup"]) fun _ _ _ _ _ _ us hl => match us, hl with | [_], _ => rfl
  have m_law : mg "law" = some (.ref f_law) := PySem.W.mg_of X G a_law
  have F_law := fun_mk (st := sLaw) l_law c_law k_law
  have b_law := F_law.binds (ps := ["script"]) fun _ _ _ _ _ _ us hl => match us, hl with | [_], _ => rfl
  have m_read_ties : mg "read_ties" = some (.ref f_read_ties) := PySem.W.mg_of X G a_read_ties
  have F_read_ties := fun_mk (st := sTies) l_read_ties c_read_ties k_read_ties
  have b_read_ties := F_read_ties.binds (ps := ["text"]) fun _ _ _ _ _ _ us hl => match us, hl with | [_], _ => rfl
  have m_read_torn : mg "read_torn" = some (.ref f_read_torn) := PySem.W.mg_of X G a_read_torn
  have F_read_torn := fun_mk (st := sTorn) l_read_torn c_read_torn k_read_torn
  have b_read_torn := F_read_torn.binds (ps := ["text"]) fun _ _ _ _ _ _ us hl => match us, hl with | [_], _ => rfl
  have m_read_line : mg "read_line" = some (.ref f_read_line) := PySem.W.mg_of X G a_read_line
  have F_read_line := fun_mk (st := sLine) l_read_line c_read_line k_read_line
  have b_read_line := F_read_line.binds (ps := ["line"]) fun _ _ _ _ _ _ us hl => match us, hl with | [_], _ => rfl
  have m_may_be_mark : mg "may_be_mark" = some (.ref f_may_be_mark) := PySem.W.mg_of X G a_may_be_mark
  have F_may_be_mark := fun_mk (st := sMay) l_may_be_mark c_may_be_mark k_may_be_mark
  have b_may_be_mark := F_may_be_mark.binds (ps := ["part"]) fun _ _ _ _ _ _ us hl => match us, hl with | [_], _ => rfl
  have m_read_house : mg "read_house" = some (.ref f_read_house) := PySem.W.mg_of X G a_read_house
  have F_read_house := fun_mk (st := sRHouse) l_read_house c_read_house k_read_house
  have b_read_house := F_read_house.binds (ps := ["part"]) fun _ _ _ _ _ _ us hl => match us, hl with | [_], _ => rfl
  have m_are_apart : mg "are_apart" = some (.ref f_are_apart) := PySem.W.mg_of X G a_are_apart
  have F_are_apart := fun_mk (st := sApart) l_are_apart c_are_apart k_are_apart
  have b_are_apart := F_are_apart.binds (ps := ["ties"]) fun _ _ _ _ _ _ us hl => match us, hl with | [_], _ => rfl
  have m_hang_together : mg "hang_together" = some (.ref f_hang_together) := PySem.W.mg_of X G a_hang_together
  have F_hang_together := fun_mk (st := sHang) l_hang_together c_hang_together k_hang_together
  have b_hang_together := F_hang_together.binds (ps := ["ties"]) fun _ _ _ _ _ _ us hl => match us, hl with | [_], _ => rfl
  have m_count_houses : mg "count_houses" = some (.ref f_count_houses) := PySem.W.mg_of X G a_count_houses
  have F_count_houses := fun_mk (st := sCount) l_count_houses c_count_houses k_count_houses
  have b_count_houses := F_count_houses.binds (ps := ["ties"]) fun _ _ _ _ _ _ us hl => match us, hl with | [_], _ => rfl
  have m_plain_text : mg "plain_text" = some (.ref f_plain_text) := PySem.W.mg_of X G a_plain_text
  have F_plain_text := fun_mk (st := sPlain) l_plain_text c_plain_text k_plain_text
  have b_plain_text := F_plain_text.binds (ps := ["ties"]) fun _ _ _ _ _ _ us hl => match us, hl with | [_], _ => rfl
  have m_is_integer : mg "is_integer" = some (.ref f_is_integer) := PySem.W.mg_of X G a_is_integer
  have F_is_integer := fun_mk (st := sInt) l_is_integer c_is_integer k_is_integer
  have b_is_integer := F_is_integer.binds (ps := ["value"]) fun _ _ _ _ _ _ us hl => match us, hl with | [_], _ => rfl
  have m_is_house : mg "is_house" = some (.ref f_is_house) := PySem.W.mg_of X G a_is_house
  have F_is_house := fun_mk (st := sHouse) l_is_house c_is_house k_is_house
  have b_is_house := F_is_house.binds (ps := ["value", "houses"]) fun _ _ _ _ _ _ us hl => match us, hl with | [_, _], _ => rfl
  have m_is_mark : mg "is_mark" = some (.ref f_is_mark) := PySem.W.mg_of X G a_is_mark
  have F_is_mark := fun_mk (st := sMark) l_is_mark c_is_mark k_is_mark
  have b_is_mark := F_is_mark.binds (ps := ["value"]) fun _ _ _ _ _ _ us hl => match us, hl with | [_], _ => rfl
  have m_doors_of : mg "doors_of" = some (.ref f_doors_of) := PySem.W.mg_of X G a_doors_of
  have F_doors_of := fun_mk (st := sDoors) l_doors_of c_doors_of k_doors_of
  have b_doors_of := F_doors_of.binds (ps := ["ties"]) fun _ _ _ _ _ _ us hl => match us, hl with | [_], _ => rfl
  have m_read_number : mg "read_number" = some (.ref f_read_number) := PySem.W.mg_of X G a_read_number
  have F_read_number := fun_mk (st := sRNum) l_read_number c_read_number k_read_number
  have b_read_number := F_read_number.binds (ps := ["part", "most"]) fun _ _ _ _ _ _ us hl => match us, hl with | [_, _], _ => rfl
  have m_tie_between : mg "tie_between" = some (.ref f_tie_between) := PySem.W.mg_of X G a_tie_between
  have F_tie_between := fun_mk (st := sBetw) l_tie_between c_tie_between k_tie_between
  have b_tie_between := F_tie_between.binds (ps := ["house", "mark", "other", "back"]) fun _ _ _ _ _ _ us hl => match us, hl with | [_, _, _, _], _ => rfl
  have m_is_count : mg "is_count" = some (.ref f_is_count) := PySem.W.mg_of X G a_is_count
  have F_is_count := fun_mk (st := sCountK) l_is_count c_is_count k_is_count
  have b_is_count := F_is_count.binds (ps := ["value"]) fun _ _ _ _ _ _ us hl => match us, hl with | [_], _ => rfl
  have m_is_index : mg "is_index" = some (.ref f_is_index) := PySem.W.mg_of X G a_is_index
  have F_is_index := fun_mk (st := sIndex) l_is_index c_is_index k_is_index
  have b_is_index := F_is_index.binds (ps := ["value", "many"]) fun _ _ _ _ _ _ us hl => match us, hl with | [_, _], _ => rfl
  have m_law_changed : mg "_law_changed" = some (.ref f_law_changed) := PySem.W.mg_of X G a_law_changed
  have F_law_changed := fun_mk (st := sLChg) l_law_changed c_law_changed k_law_changed
  have b_law_changed := F_law_changed.binds (ps := ["told", "spot", "mark", "other"]) fun _ _ _ _ _ _ us hl => match us, hl with | [_, _, _, _], _ => rfl
  have m_law_caught : mg "_law_caught" = some (.ref f_law_caught) := PySem.W.mg_of X G a_law_caught
  have F_law_caught := fun_mk (st := sCaught) l_law_caught c_law_caught k_law_caught
  have b_law_caught := F_law_caught.binds (ps := ["act"]) fun _ _ _ _ _ _ us hl => match us, hl with | [_], _ => rfl
  have m_marked : mg "marked" = some (.ref f_marked) := PySem.W.mg_of X G a_marked
  have F_marked := fun_mk (st := sMarked) l_marked c_marked k_marked
  have b_marked := F_marked.binds (ps := ["tie", "house", "mark", "other"]) fun _ _ _ _ _ _ us hl => match us, hl with | [_, _, _, _], _ => rfl
  have mWeb : mg "Web" = some (.ref C) := PySem.W.mg_of X G aC
  have F_Winit := fun_mk (st := sInit) l_Winit c_Winit k_Winit
  have b_Winit := F_Winit.binds (ps := ["self", "text"]) fun _ _ _ _ _ _ us hl => match us, hl with | [_, _], _ => rfl
  have F_Wat := fun_mk (st := sWAt) l_Wat c_Wat k_Wat
  have b_Wat := F_Wat.binds (ps := ["self", "house"]) fun _ _ _ _ _ _ us hl => match us, hl with | [_, _], _ => rfl
  have m_Wat : Meth K C "at" f_Wat := ⟨a_Wat, i_Wat, k_Wat⟩
  have F_Wchanged := fun_mk (st := sWChg) l_Wchanged c_Wchanged k_Wchanged
  have b_Wchanged := F_Wchanged.binds (ps := ["self", "house", "mark", "other"]) fun _ _ _ _ _ _ us hl => match us, hl with | [_, _, _, _], _ => rfl
  have m_Wchanged : Meth K C "changed" f_Wchanged := ⟨a_Wchanged, i_Wchanged, k_Wchanged⟩
  have F_Wcheck_house := fun_mk (st := sWCheck) l_Wcheck_house c_Wcheck_house k_Wcheck_house
  have b_Wcheck_house := F_Wcheck_house.binds (ps := ["self", "house"]) fun _ _ _ _ _ _ us hl => match us, hl with | [_, _], _ => rfl
  have m_Wcheck_house : Meth K C "_check_house" f_Wcheck_house := ⟨a_Wcheck_house, i_Wcheck_house, k_Wcheck_house⟩
  have F_Weq := fun_mk (st := sWEq) l_Weq c_Weq k_Weq
  have b_Weq := F_Weq.binds (ps := ["self", "other"]) fun _ _ _ _ _ _ us hl => match us, hl with | [_, _], _ => rfl
  have m_Weq : Meth K C "__eq__" f_Weq := ⟨a_Weq, i_Weq, k_Weq⟩
  have F_Wplain := fun_mk (st := sWPlain) l_Wplain c_Wplain k_Wplain
  have b_Wplain := F_Wplain.binds (ps := ["self"]) fun _ _ _ _ _ _ us hl => match us, hl with | [_], _ => rfl
  have q_Wplain : PropOf K C "plain" p_Wplain f_Wplain := ⟨a_Wplain, g_Wplain, t_Wplain, ⟨_, r_Wplain⟩⟩
  have F_Whouses := fun_mk (st := sWHouses) l_Whouses c_Whouses k_Whouses
  have b_Whouses := F_Whouses.binds (ps := ["self"]) fun _ _ _ _ _ _ us hl => match us, hl with | [_], _ => rfl
  have q_Whouses : PropOf K C "houses" p_Whouses f_Whouses := ⟨a_Whouses, g_Whouses, t_Whouses, ⟨_, r_Whouses⟩⟩
  have cW : WebC K C := ⟨⟨pg, hd, po, sa⟩, n0, n1, n2, n3⟩
  have wi : WebI K C := ⟨wha, whn, wht, whm, kit_self⟩
  have MW : Mk K C f_Winit := ⟨mk, a_Winit, i_Winit, kC⟩
  have ne : NeF K C f_Weq := ⟨⟨nmC, qC, NC, bsC, hdC, snC, suC, abC, coC, ddC, m0C, m1C, m2C, m3C, m5C, neC, xC, xO, xE, xN⟩, ⟨_, l_Weq, rfl⟩⟩
  have mE_InvalidCount : mg "InvalidCount" = some (.ref A_InvalidCount) := PySem.W.mg_of X G aE_InvalidCount
  have mE_InvalidHouse : mg "InvalidHouse" = some (.ref A_InvalidHouse) := PySem.W.mg_of X G aE_InvalidHouse
  have mE_InvalidMark : mg "InvalidMark" = some (.ref A_InvalidMark) := PySem.W.mg_of X G aE_InvalidMark
  have mE_InvalidPair : mg "InvalidPair" = some (.ref A_InvalidPair) := PySem.W.mg_of X G aE_InvalidPair
  have F_EInvalidMark := fun_mk (st := sExM) l_EInvalidMark c_EInvalidMark k_EInvalidMark
  have b_EInvalidMark := F_EInvalidMark.binds (ps := ["self", "given"]) fun _ _ _ _ _ _ us hl => match us, hl with | [_, _], _ => rfl
  have ex_InvalidMark : L2.ExcC K A_InvalidMark := ⟨ga_InvalidMark, gg_InvalidMark, eb_InvalidMark, ed_InvalidMark, ha_InvalidMark, whn, wht, hm_InvalidMark⟩
  have T_InvalidMark : ExT K A_InvalidMark := ⟨⟨⟨nm_InvalidMark, q_InvalidMark, N_InvalidMark, bs_InvalidMark, bm_InvalidMark, sn_InvalidMark, su_InvalidMark, ab_InvalidMark, co_InvalidMark, dd_InvalidMark, m0_InvalidMark, m1_InvalidMark, m2_InvalidMark, m3_InvalidMark, m5_InvalidMark, x_InvalidMark, r_InvalidMark⟩, sa_InvalidMark, eb_InvalidMark, et_InvalidMark, k_InvalidMark⟩, no_InvalidMark⟩
  have caught : CaughtF K mg A_InvalidCount A_InvalidHouse A_InvalidMark A_InvalidPair := ⟨mE_InvalidCount, mE_InvalidHouse, mE_InvalidMark, mE_InvalidPair, y_isinstance, y_repr,
    exm4 (PySem.W.exm_ref eb_InvalidCount ed_InvalidCount et_InvalidCount es_InvalidMark_InvalidCount) (PySem.W.exm_ref eb_InvalidHouse ed_InvalidHouse et_InvalidHouse es_InvalidMark_InvalidHouse) (PySem.W.exm_ref eb_InvalidMark ed_InvalidMark et_InvalidMark es_InvalidMark_InvalidMark) (PySem.W.exm_ref eb_InvalidPair ed_InvalidPair et_InvalidPair es_InvalidMark_InvalidPair),
    kit_ref ne_InvalidMark_InvalidCount ed_InvalidCount et_InvalidCount es_InvalidMark_InvalidCount, kit_ref ne_InvalidMark_InvalidHouse ed_InvalidHouse et_InvalidHouse es_InvalidMark_InvalidHouse, kit_self, kit_ref ne_InvalidMark_InvalidPair ed_InvalidPair et_InvalidPair es_InvalidMark_InvalidPair, ex_InvalidMark, ⟨ga_InvalidMark, gg_InvalidMark, eb_InvalidMark, ed_InvalidMark⟩, no_InvalidMark⟩
  have TS : TSip mg := ⟨y_int, y_divmod, y_len, y_abs⟩
  have TD : TDrawn mg := { TS with range := y_range, sorted := y_sorted }
  have RFb : ∀ base : Heap, RF l.prog w K mg base := fun base => by

    have GCount : FnOk l.prog w K mg base CX0 1 _ _ ["ties"] (spCount K) := ok_count F_count_houses y_max
    have GDoors : FnOk l.prog w K mg base CX0 2 _ _ ["ties"] (spDoors K) := ok_doors F_doors_of y_max y_range F_count_houses b_count_houses m_count_houses
    have GInt : FnOk l.prog w K mg base CX0 1 _ _ ["value"] spInt := ok_isint F_is_integer y_isinstance y_int y_bool
    have GCnt : FnOk l.prog w K mg base CX0 2 _ _ ["value"] spCountK := ok_iscount F_is_count GInt F_is_integer b_is_integer m_is_integer
    have GIdx : FnOk l.prog w K mg base CX0 3 _ _ ["value", "many"] spIndex := ok_isindex F_is_index GCnt F_is_count b_is_count m_is_count
    have GIsM : FnOk l.prog w K mg base CX0 1 _ _ ["value"] spMark := ok_ismark F_is_mark y_isinstance y_str y_len mc_MARKS
    have GIsH : FnOk l.prog w K mg base CX0 4 _ _ ["value", "houses"] spHouse := ok_ishouse F_is_house GIdx F_is_index b_is_index m_is_index
    have GMay : FnOk l.prog w K mg base CX0 2 _ _ ["part"] spMay := ok_may F_may_be_mark mc_UNREAD GIsM F_is_mark b_is_mark m_is_mark
    have GRNu : FnOk l.prog w K mg base CX0 1 _ _ ["part", "most"] spRNum := ok_rnum F_read_number y_range y_str
    have GRHo : FnOk l.prog w K mg base CX0 2 _ _ ["part"] spRHouse := ok_rhouse F_read_house mc_MOST_HOUSES GRNu F_read_number b_read_number m_read_number
    have GBtw : FnOk l.prog w K mg base CX0 1 _ _ ["house", "mark", "other", "back"] spBetw := ok_betw F_tie_between
    have GLine : FnOk l.prog w K mg base CX0 3 _ _ ["line"] (spLine K) := ok_line F_read_line y_len GRHo F_read_house b_read_house m_read_house GMay F_may_be_mark b_may_be_mark m_may_be_mark GBtw F_tie_between b_tie_between m_tie_between
    have GApart : FnOk l.prog w K mg base CX0 1 _ _ ["ties"] (spApart K) := ok_apart F_are_apart mc_UNREAD
    have GHang : FnOk l.prog w K mg base CX0 2 _ _ ["ties"] (spApart K) := ok_hang F_hang_together y_len y_max F_count_houses b_count_houses m_count_houses
    have GTorn : FnOk l.prog w K mg base CX0 4 _ _ ["text"] (spTies K) := ok_torn F_read_torn y_sorted GLine F_read_line b_read_line m_read_line GApart F_are_apart b_are_apart m_are_apart GHang F_hang_together b_hang_together m_hang_together
    have GTies : FnOk l.prog w K mg base CX0 5 _ _ ["text"] (spTies K) := ok_ties F_read_ties y_isinstance y_str mc_UNREAD GTorn F_read_torn b_read_torn m_read_torn
    have GPlT : FnOk l.prog w K mg base CX0 1 _ _ ["ties"] (spPlain K) := ok_plain F_plain_text y_sorted
    have GIni : FnOk l.prog w K mg base CX0 6 _ _ ["self", "text"] (spInit C) := ok_init F_Winit cW y_tuple GTies F_read_ties b_read_ties m_read_ties GPlT F_plain_text b_plain_text m_plain_text GDoors F_doors_of b_doors_of m_doors_of
    have GChk : FnOk l.prog w K mg base CX0 5 _ _ ["self", "house"] (spWCheck C) := ok_wcheck F_Wcheck_house cW y_len GIsH F_is_house b_is_house m_is_house
    have GSip : FnOk l.prog w K mg base CX0 1 _ _ ["cup", "top"] spSip := ok_sip F_law_sip TS
    have GPick : FnOk l.prog w K mg base CX0 2 _ _ ["cup", "things"] spPick := ok_pick F_law_pick TS F_law_sip b_law_sip m_law_sip
    have GDra : FnOk l.prog w K mg base CX0 3 _ _ ["cup", "most"] (spDrawn K) := ok_drawn F_law_drawn TD F_law_sip b_law_sip m_law_sip F_law_pick b_law_pick m_law_pick
    have GText : FnOk l.prog w K mg base CX0 1 _ _ ["told"] (spText K) := ok_text F_law_text y_str
    have GWay : FnOk l.prog w K mg base CX0 1 _ _ ["told"] (spDoors K) := ok_ways F_law_ways y_max y_range

    have GE : FnOk l.prog w K mg base CX0 1 _ _ ["self", "given"] (spExM A_InvalidMark) := ok_exm F_EInvalidMark T_InvalidMark
    have GMkd : FnOk l.prog w K mg base CX0 1 _ _ ["tie", "house", "mark", "other"] spMarked := ok_marked F_marked
    exact {
      C := C, A1 := A_InvalidCount, A2 := A_InvalidHouse, A3 := A_InvalidMark, A4 := A_InvalidPair, cW := cW, caught := caught
      fSip := f_law_sip, fPick := f_law_pick, fDra := f_law_drawn, fText := f_law_text, fWay := f_law_ways, fLChg := f_law_changed, fIni := f_Winit, gPla := f_Wplain, pPla0 := p_Wplain, gHou := f_Whouses, pHou0 := p_Whouses, gAt := f_Wat, gChg := f_Wchanged, gEq := f_Weq, fCa := f_law_caught
      fdSip := _, fdPick := _, fdDra := _, fdText := _, fdWay := _, fdLChg := _, fdIni := _, fdPla := _, fdHou := _, fdAt := _, fdChg := _, fdEq := _
      GSip := GSip, bSip := b_law_sip, mSip := m_law_sip, kSip := k_law_sip
      GPick := GPick, bPick := b_law_pick, mPick := m_law_pick, kPick := k_law_pick
      GDra := GDra, bDra := b_law_drawn, mDra := m_law_drawn, kDra := k_law_drawn
      GText := GText, bText := b_law_text, mText := m_law_text, kText := k_law_text
      GWay := GWay, bWay := b_law_ways, mWay := m_law_ways, kWay := k_law_ways
      GLChg := ok_lchg F_law_changed, bLChg := b_law_changed, mLChg := m_law_changed, kLChg := k_law_changed
      GIni := GIni, bIni := b_Winit, MW := MW, mWeb := mWeb
      GPla := ok_wplain F_Wplain cW, bPla := b_Wplain, pPla := q_Wplain
      GHou := ok_whouses F_Whouses cW y_len, bHou := b_Whouses, pHou := q_Whouses
      GAt := ok_wat F_Wat cW y_sorted GChk b_Wcheck_house m_Wcheck_house, bAt := b_Wat, mAt := m_Wat
      GChg := ok_wchg F_Wchanged cW T_InvalidMark GChk b_Wcheck_house m_Wcheck_house GIsM F_is_mark b_is_mark m_is_mark GE b_EInvalidMark a_EInvalidMark t_EInvalidMark mE_InvalidMark GIni b_Winit MW mWeb GPlT F_plain_text b_plain_text m_plain_text GMkd F_marked b_marked m_marked
      bChg := b_Wchanged, kbChg := kb_chg F_Wchanged, mChg := m_Wchanged
      GEq := ok_weq (ok_weqA F_Weq cW wi y_isinstance mWeb), bEq := b_Weq, ne := ne
      mCa := m_law_caught, kCa := k_law_caught, ocCa := _, kVCa := _, docCa := _, pmCa := _, cdvCa := _, ctCa := _, odCa := _, anCa := _, oslCa := _
      lkCa := l_law_caught, cdCa := c_law_caught, bCa := b_law_caught, mrange := y_range, mlist := y_list, mlen := y_len, mrepr := y_repr }
  refine ⟨PySem.W.fnOf "law" "law" (defArgs sLaw) (defBody sLaw) (defScope sLaw) .none kV_law dc_law pm_law an_law cd_law ct_law, [(cR, PT)], spLaw K [(PT, lamQ)], fun p hp => ?_, fun p hp => ?_, fun p hp => ?_, fun s u => .of_eq rfl, fun H a ns _ _ hT hS => ⟨a, ns, rfl, hS, fun p hp => ?_, fun _ => rfl⟩, fun base KB GB hTB => ?_⟩
  · rw [List.mem_singleton.mp hp]
    exact h_PT
  · rw [List.mem_singleton.mp hp]
    exact nPT_PT
  · rw [List.mem_singleton.mp hp]
    exact PySem.W.codeHd_of_K X cdh_cR
  · rw [List.mem_singleton.mp hp]
    exact LamX.TabS.nil (hT _ (List.mem_singleton.mpr rfl))
  · have RFx := RFb base
    exact ok_law RFx F_law (ok_right RFx l_law_right c_law_right (hTB _ (List.mem_singleton.mpr rfl))) b_law_right m_law_right k_law_right (ok_cup F_law_cup TS) b_law_cup m_law_cup k_law_cup y_all y_max y_min

end Wh

open PySem PySem.W PyProof.Rows
set_option maxRecDepth 100000 in
set_option maxHeartbeats 0 in
theorem PySem.Challenge.cw_whichhouse_k04_whole_changed_marks_holds : PySem.Challenge.rw_whichhouse_k04_whole_changed_marks.Holds := by
  w_on; o_law; k_head; (case hw => w_witness2)
  k_fill
  refine LamX.walk_ofTs (n := 63) (k := 12) (x := "script") (CX := fun _ => C8.CX0) rfl (by decide) rfl ⟨rfl, by decide, by decide⟩ (fun w h Y => PySem.W.km_in_of Y) ?F (fun _ _ _ _ _ z => z)
  case F =>
    intro w mg fa h Y KX G hmg
    refine' Wh.all_mk KX G hmg ?a_law_cup ?l_law_cup ?c_law_cup ?k_law_cup ?a_law_sip ?l_law_sip ?c_law_sip ?k_law_sip ?a_law_pick ?l_law_pick ?c_law_pick ?k_law_pick ?a_law_drawn ?l_law_drawn ?c_law_drawn ?k_law_drawn ?a_law_text ?l_law_text ?c_law_text ?k_law_text ?a_law_ways ?l_law_ways ?c_law_ways ?k_law_ways ?a_law_right ?l_law_right ?c_law_right ?k_law_right ?a_law ?l_law ?c_law ?k_law ?a_read_ties ?l_read_ties ?c_read_ties ?k_read_ties ?a_read_torn ?l_read_torn ?c_read_torn ?k_read_torn ?a_read_line ?l_read_line ?c_read_line ?k_read_line ?a_may_be_mark ?l_may_be_mark ?c_may_be_mark ?k_may_be_mark ?a_read_house ?l_read_house ?c_read_house ?k_read_house ?a_are_apart ?l_are_apart ?c_are_apart ?k_are_apart ?a_hang_together ?l_hang_together ?c_hang_together ?k_hang_together ?a_count_houses ?l_count_houses ?c_count_houses ?k_count_houses ?a_plain_text ?l_plain_text ?c_plain_text ?k_plain_text ?a_is_integer ?l_is_integer ?c_is_integer ?k_is_integer ?a_is_house ?l_is_house ?c_is_house ?k_is_house ?a_is_mark ?l_is_mark ?c_is_mark ?k_is_mark ?a_doors_of ?l_doors_of ?c_doors_of ?k_doors_of ?a_read_number ?l_read_number ?c_read_number ?k_read_number ?a_tie_between ?l_tie_between ?c_tie_between ?k_tie_between ?a_is_count ?l_is_count ?c_is_count ?k_is_count ?a_is_index ?l_is_index ?c_is_index ?k_is_index ?a_law_changed ?l_law_changed ?c_law_changed ?k_law_changed ?a_law_caught ?l_law_caught ?c_law_caught ?k_law_caught ?a_marked ?l_marked ?c_marked ?k_marked ?aC ?a_Winit ?i_Winit ?l_Winit ?c_Winit ?k_Winit ?a_Wat ?i_Wat ?l_Wat ?c_Wat ?k_Wat ?a_Wchanged ?i_Wchanged ?l_Wchanged ?c_Wchanged ?k_Wchanged ?a_Wcheck_house ?i_Wcheck_house ?l_Wcheck_house ?c_Wcheck_house ?k_Wcheck_house ?a_Weq ?i_Weq ?l_Weq ?c_Weq ?k_Weq ?a_Wplain ?g_Wplain ?t_Wplain ?r_Wplain ?l_Wplain ?c_Wplain ?k_Wplain ?a_Whouses ?g_Whouses ?t_Whouses ?r_Whouses ?l_Whouses ?c_Whouses ?k_Whouses ?pg ?hd ?po ?sa ?n0 ?n1 ?n2 ?n3 ?mk ?kC ?wha ?whn ?wht ?whm ?xC ?xO ?xE ?xN ?aE_InvalidCount ?eb_InvalidCount ?ed_InvalidCount ?et_InvalidCount ?aE_InvalidHouse ?eb_InvalidHouse ?ed_InvalidHouse ?et_InvalidHouse ?aE_InvalidMark ?eb_InvalidMark ?ed_InvalidMark ?et_InvalidMark ?aE_InvalidPair ?eb_InvalidPair ?ed_InvalidPair ?et_InvalidPair ?es_InvalidMark_InvalidCount ?ne_InvalidMark_InvalidCount ?es_InvalidMark_InvalidHouse ?ne_InvalidMark_InvalidHouse ?es_InvalidMark_InvalidMark ?es_InvalidMark_InvalidPair ?ne_InvalidMark_InvalidPair ?x_InvalidMark ?r_InvalidMark ?sa_InvalidMark ?k_InvalidMark ?ga_InvalidMark ?gg_InvalidMark ?ha_InvalidMark ?hm_InvalidMark ?no_InvalidMark ?a_EInvalidMark ?t_EInvalidMark ?l_EInvalidMark ?c_EInvalidMark ?k_EInvalidMark ?z_isinstance ?z_str ?z_sorted ?z_range ?z_len ?z_max ?z_min ?z_int ?z_bool ?z_tuple ?z_divmod ?z_abs ?z_list ?z_all ?z_repr ?v_MOST_HOUSES ?v_MARKS ?v_UNREAD ?lcd_cR ?pcd_cR ?cdh_cR ?nPT_PT ?h_PT
    (case a_law_cup => k_is)
    (case l_law_cup => k_is)
    (case c_law_cup => k_is)
    (case k_law_cup => k_is)
    (case a_law_sip => k_is)
    (case l_law_sip => k_is)
    (case c_law_sip => k_is)
    (case k_law_sip => k_is)
    (case a_law_pick => k_is)
    (case l_law_pick => k_is)
    (case c_law_pick => k_is)
    (case k_law_pick => k_is)
    (case a_law_drawn => k_is)
    (case l_law_drawn => k_is)
    (case c_law_drawn => k_is)
    (case k_law_drawn => k_is)
    (case a_law_text => k_is)
    (case l_law_text => k_is)
    (case c_law_text => k_is)
    (case k_law_text => k_is)
    (case a_law_ways => k_is)
    (case l_law_ways => k_is)
    (case c_law_ways => k_is)
    (case k_law_ways => k_is)
    (case a_law_right => k_is)
    (case l_law_right => k_is)
    (case c_law_right => k_is)
    (case k_law_right => k_is)
    (case a_law => k_is)
    (case l_law => k_is)
    (case c_law => k_is)
    (case k_law => k_is)
    (case a_read_ties => k_is)
    (case l_read_ties => k_is)
    (case c_read_ties => k_is)
    (case k_read_ties => k_is)
    (case a_read_torn => k_is)
    (case l_read_torn => k_is)
    (case c_read_torn => k_is)
    (case k_read_torn => k_is)
    (case a_read_line => k_is)
    (case l_read_line => k_is)
    (case c_read_line => k_is)
    (case k_read_line => k_is)
    (case a_may_be_mark => k_is)
    (case l_may_be_mark => k_is)
    (case c_may_be_mark => k_is)
    (case k_may_be_mark => k_is)
    (case a_read_house => k_is)
    (case l_read_house => k_is)
    (case c_read_house => k_is)
    (case k_read_house => k_is)
    (case a_are_apart => k_is)
    (case l_are_apart => k_is)
    (case c_are_apart => k_is)
    (case k_are_apart => k_is)
    (case a_hang_together => k_is)
    (case l_hang_together => k_is)
    (case c_hang_together => k_is)
    (case k_hang_together => k_is)
    (case a_count_houses => k_is)
    (case l_count_houses => k_is)
    (case c_count_houses => k_is)
    (case k_count_houses => k_is)
    (case a_plain_text => k_is)
    (case l_plain_text => k_is)
    (case c_plain_text => k_is)
    (case k_plain_text => k_is)
    (case a_is_integer => k_is)
    (case l_is_integer => k_is)
    (case c_is_integer => k_is)
    (case k_is_integer => k_is)
    (case a_is_house => k_is)
    (case l_is_house => k_is)
    (case c_is_house => k_is)
    (case k_is_house => k_is)
    (case a_is_mark => k_is)
    (case l_is_mark => k_is)
    (case c_is_mark => k_is)
    (case k_is_mark => k_is)
    (case a_doors_of => k_is)
    (case l_doors_of => k_is)
    (case c_doors_of => k_is)
    (case k_doors_of => k_is)
    (case a_read_number => k_is)
    (case l_read_number => k_is)
    (case c_read_number => k_is)
    (case k_read_number => k_is)
    (case a_tie_between => k_is)
    (case l_tie_between => k_is)
    (case c_tie_between => k_is)
    (case k_tie_between => k_is)
    (case a_is_count => k_is)
    (case l_is_count => k_is)
    (case c_is_count => k_is)
    (case k_is_count => k_is)
    (case a_is_index => k_is)
    (case l_is_index => k_is)
    (case c_is_index => k_is)
    (case k_is_index => k_is)
    (case a_law_changed => k_is)
    (case l_law_changed => k_is)
    (case c_law_changed => k_is)
    (case k_law_changed => k_is)
    (case a_law_caught => k_is)
    (case l_law_caught => k_is)
    (case c_law_caught => k_is)
    (case k_law_caught => k_is)
    (case a_marked => k_is)
    (case l_marked => k_is)
    (case c_marked => k_is)
    (case k_marked => k_is)
    (case aC => k_is)
    (case a_Winit => k_is)
    (case i_Winit => k_is)
    (case l_Winit => k_is)
    (case c_Winit => k_is)
    (case k_Winit => k_is)
    (case a_Wat => k_is)
    (case i_Wat => k_is)
    (case l_Wat => k_is)
    (case c_Wat => k_is)
    (case k_Wat => k_is)
    (case a_Wchanged => k_is)
    (case i_Wchanged => k_is)
    (case l_Wchanged => k_is)
    (case c_Wchanged => k_is)
    (case k_Wchanged => k_is)
    (case a_Wcheck_house => k_is)
    (case i_Wcheck_house => k_is)
    (case l_Wcheck_house => k_is)
    (case c_Wcheck_house => k_is)
    (case k_Wcheck_house => k_is)
    (case a_Weq => k_is)
    (case i_Weq => k_is)
    (case l_Weq => k_is)
    (case c_Weq => k_is)
    (case k_Weq => k_is)
    (case a_Wplain => k_is)
    (case g_Wplain => k_is)
    (case t_Wplain => k_is)
    (case r_Wplain => k_is)
    (case l_Wplain => k_is)
    (case c_Wplain => k_is)
    (case k_Wplain => k_is)
    (case a_Whouses => k_is)
    (case g_Whouses => k_is)
    (case t_Whouses => k_is)
    (case r_Whouses => k_is)
    (case l_Whouses => k_is)
    (case c_Whouses => k_is)
    (case k_Whouses => k_is)
    (case pg => k_is)
    (case hd => k_is)
    (case po => k_is)
    (case sa => k_is)
    (case n0 => k_is)
    (case n1 => k_is)
    (case n2 => k_is)
    (case n3 => k_is)
    (case mk => k_is)
    (case kC => k_is)
    (case wha => k_is)
    (case whn => k_is)
    (case wht => k_is)
    (case whm => k_is)
    (case xC => k_is)
    (case xO => kernel_rfl)
    (case xE => k_is)
    (case xN => k_is)
    (case aE_InvalidCount => k_is)
    (case eb_InvalidCount => k_is)
    (case ed_InvalidCount => k_is)
    (case et_InvalidCount => k_is)
    (case aE_InvalidHouse => k_is)
    (case eb_InvalidHouse => k_is)
    (case ed_InvalidHouse => k_is)
    (case et_InvalidHouse => k_is)
    (case aE_InvalidMark => k_is)
    (case eb_InvalidMark => k_is)
    (case ed_InvalidMark => k_is)
    (case et_InvalidMark => k_is)
    (case aE_InvalidPair => k_is)
    (case eb_InvalidPair => k_is)
    (case ed_InvalidPair => k_is)
    (case et_InvalidPair => k_is)
    (case es_InvalidMark_InvalidCount => k_is)
    (case ne_InvalidMark_InvalidCount => rfl)
    (case es_InvalidMark_InvalidHouse => k_is)
    (case ne_InvalidMark_InvalidHouse => rfl)
    (case es_InvalidMark_InvalidMark => k_is)
    (case es_InvalidMark_InvalidPair => k_is)
    (case ne_InvalidMark_InvalidPair => rfl)
    (case x_InvalidMark => k_is)
    (case r_InvalidMark => rfl)
    (case sa_InvalidMark => k_is)
    (case k_InvalidMark => k_is)
    (case ga_InvalidMark => k_is)
    (case gg_InvalidMark => k_is)
    (case ha_InvalidMark => k_is)
    (case hm_InvalidMark => k_is)
    (case no_InvalidMark => k_is)
    (case a_EInvalidMark => k_is)
    (case t_EInvalidMark => k_is)
    (case l_EInvalidMark => k_is)
    (case c_EInvalidMark => k_is)
    (case k_EInvalidMark => k_is)
    (case z_isinstance => k_is)
    (case z_str => k_is)
    (case z_sorted => k_is)
    (case z_range => k_is)
    (case z_len => k_is)
    (case z_max => k_is)
    (case z_min => k_is)
    (case z_int => k_is)
    (case z_bool => k_is)
    (case z_tuple => k_is)
    (case z_divmod => k_is)
    (case z_abs => k_is)
    (case z_list => k_is)
    (case z_all => k_is)
    (case z_repr => k_is)
    (case v_MOST_HOUSES => k_is)
    (case v_MARKS => k_is)
    (case v_UNREAD => k_is)
    (case lcd_cR => k_is)
    (case pcd_cR => rfl)
    (case cdh_cR => kernel_rfl)
    (case nPT_PT => kernel_rfl)
    (case h_PT => exact PySem.W.km_tabs_of Y _ (by first | decide | simp))
