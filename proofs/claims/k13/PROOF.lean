import PyProof.Rows.All
import Wide.All
import OpenK.AllK
import Wide.FinOn
import HandS.ForMost
import HandS.SortRule
import HandS.Deep
import HandS.DictTup
import HandS.Small
import HandS.MakeKwOnly
import HandS.IsInst
import HandS.FStr
import HandS.OwnEq
import HandS.Property
import HandS.Lambda
import HandS.SetBool
import HandS.SetTxt0
import HandS.More
import HandS.Comp
import HandS.Exc
import HandS.TryOnly
import KE.KTryMore
import HandS.ExcIs
import HandS.ExcField
import HandS.CallRecv
import KE.KExcIs
import KE.SortData
import HandS.Walk
import HandS.RaiseMore
import HandS.Conv
import PyProof.InstNe
import OpenK.KOwn
import PyProof.Rows.TmSorted
import KE.DataEq
import KE.KNestM
import HandS.EndTab
import HandS.TupSets
import HandS.SetFor
import HandS.Strs
import HandS.ExcInit
import KE.KExcInit
import PyProof.ExcBaseAll.ArithmeticError
import HandS.SetKeys
import PyProof.DictMoreH
import HandS.MakeKw
import KE.KCallOwn
import OpenK.KOps
import HandS.List
import PyProof.SliceSyntax
import HandS.HotCalls
import HandS.ExcOwn
import PyProof.SeqRoads2
import PyProof.ZipIter
import KE.KDictZip
import KE.GoesMore
import KE.KDictList
import PyProof.CollectWalk
import HandS.Star
import KE.KStar
import HandS.NoneIn
import HandS.TupMul
import HandS.DictComp
import HandS.Zip
import PySem.Challenge.RW_whichhouse_k13_whole_back_codes
set_option Elab.async false
set_option linter.all false
set_option maxRecDepth 100000
set_option maxHeartbeats 2000000
namespace Wh
open PySem L2
/-! ### heaps -/
/-- all that was tracked is as it was, but what stands at c -/
def But (c : Addr) (H H' : Hp) : Prop := ∀ b o, H b = some o → b ≠ c → H' b = some o
theorem But.refl (c : Addr) (H : Hp) : But c H H := fun _ _ h _ => h
theorem But.trans {c : Addr} {H H1 H2 : Hp} (a : But c H H1) (b : But c H1 H2) : But c H H2 := fun d o h n => b d o (a d o h n) n
theorem _root_.L2.Same.but {c : Addr} {H H' : Hp} (a : Same H H') : But c H H' := fun d o h _ => a d o h
theorem same_upd {H : Hp} {p : Addr} {o : HO} (h : H p = none) : Same H (upd H p o) := fun b x e => by
  rw [upd_ne (ne_of_none e h)]
  exact e
theorem _root_.L2.Same.put {H H' : Hp} {p : Addr} {o : HO} (s : Same H H') (h : H' p = none) : Same H (upd H' p o) := Same.trans s (same_upd h)
/-- an object of one's own, new since H, is written again -/
theorem _root_.L2.Same.own {H H' : Hp} {p : Addr} {o : HO} (s : Same H H') (h : H p = none) : Same H (upd H' p o) := fun b x e => by
  rw [upd_ne (ne_of_none e h)]
  exact s b x e
theorem But.put {c : Addr} {H H' : Hp} {p : Addr} {o : HO} (a : But c H H') (h : H' p = none) : But c H (upd H' p o) := fun d x e n => same_upd h d x (a d x e n)
theorem But.own {c : Addr} {H H' : Hp} {p : Addr} {o : HO} (a : But c H H') (h : H p = none) : But c H (upd H' p o) := fun d x e n => by
  rw [upd_ne (ne_of_none e h)]
  exact a d x e n
theorem But.at {c : Addr} {H H' : Hp} {o : HO} (a : But c H H') : But c H (upd H' c o) := fun d x e n => by
  rw [upd_ne n]
  exact a d x e n
theorem put_ne {H : Hp} {b c : Addr} {o u : HO} (e : H b = some o) (n : b ≠ c) : upd H c u b = some o := (upd_ne n).trans e
/-- what was there stands when a new object is laid -/
theorem put_old {H : Hp} {b p : Addr} {o u : HO} (e : H b = some o) (h : H p = none) : upd H p u b = some o := put_ne e (ne_of_none e h)
theorem ne_new {H : Hp} {c p : Addr} {o : HO} (h : upd H c o p = none) : c ≠ p := fun e => by
  rw [← e, upd_same] at h
  cases h
theorem new_of {H : Hp} {c p : Addr} {o : HO} (h : upd H c o p = none) : H p = none := (upd_ne (ne_new h).symm).symm.trans h
theorem _root_.L2.Room.u65 {k : Nat} {A : Around} (r : Room k A) : A.units + 65 < cLine := by
  have := r.un
  omega
/-- a cup: two ints -/
def Cup (H : Hp) (c : Addr) : Prop := ∃ a b : Int, H c = some (.lst [.int a, .int b])
theorem Cup.same {H H' : Hp} {c : Addr} (h : Cup H c) (s : Same H H') : Cup H' c := by
  obtain ⟨a, b, e⟩ := h
  exact ⟨a, b, s _ _ e⟩
theorem Cup.put {H : Hp} {c p : Addr} {o : HO} (h : Cup H c) (n : H p = none) : Cup (upd H p o) c := h.same (same_upd n)
theorem Cup.ne {H : Hp} {c p : Addr} (h : Cup H c) (n : H p = none) : c ≠ p := by
  obtain ⟨a, b, e⟩ := h
  exact ne_of_none e n
/-! ### the ways of an expression are joined -/
def tMid (t : TE) : TE := fun σ H Q => ∃ Q0 : VK, t σ H Q0 ∧ ∀ x H1, Q0 x H1 → Q x H1
theorem pe_mid {X : Cx} {e : Expr} {t : TE} (h : PE X e t) : PE X e (tMid t) := ⟨fun pins s σ H Q I ⟨Q0, h0, hk⟩ =>
  thn (h.run pins s σ H Q0 I h0) fun _ _ ⟨v, H1, I1, r1, q1⟩ => ⟨v, H1, I1, r1, hk v H1 q1⟩⟩
/-! ### f-strings, their reading by a name -/
def tFs (ts : List TE) : TE := fun σ H Q => tJs ts Str.empty σ H fun out H1 => Q (.str out) H1
theorem pe_fs {X : Cx} {v1 v2 : Expr} {rest : List Expr} {ts : List TE} {pos : Pos} (h : PJ X (v1 :: v2 :: rest) ts) : PE X (.JoinedStr (v1 :: v2 :: rest) pos) (tFs ts) := pe_joined h
/-! ### rules over the written part by its name (within comprehensions of comprehensions) -/
section
variable {X : Cx}
theorem ix_listK (K : PySem.W.Frag) (h : X.K = K) : IxR X (rIxL K) := h ▸ ix_list
theorem ix_tupK (K : PySem.W.Frag) (h : X.K = K) : IxR X (rIxT K) := h ▸ ix_tup
theorem op_notInK (K : PySem.W.Frag) (h : X.K = K) : OpR X (compareOp .NotIn) (rIn K true) := h ▸ op_notIn_seq
theorem op_inK (K : PySem.W.Frag) (h : X.K = K) : OpR X (compareOp .In) (rIn K false) := h ▸ op_in_seq
def rJoin (K : PySem.W.Frag) : V → List V → Hp → VK → Prop := fun x xs H Q => ∃ a p, ∃ ys : List Str, x = .str a ∧ xs = [.ref p] ∧ (SqL K H p (ys.map V.str) ∨ SqT K H p (ys.map V.str)) ∧
    (ys.map (·.length)).sum + ys.length * a.length ≤ 16777216 ∧ Q (.str (Txt.join a ys)) H
theorem mt_joinK (K : PySem.W.Frag) (h : X.K = K) : MtR X "str.join" (rJoin K) := h ▸ mt_join
theorem pe_joinK (K : PySem.W.Frag) (h : X.K = K) {o e : Expr} {to te : TE} {apos pos : Pos} (ho : PE X o to) (he : PE X e te) (hs : starEach [e] X.env = [(false, eval e X.env)] := by rfl) (hbase : attributeBase o "join" X.env (eval o X.env) = eval o X.env := by rfl) (hline : (apos.endLine == pos.line) = true := by rfl) :
    PE X (.Call (.Attribute o "join" apos) [e] [] pos) (tM1 (rJoin K) to te) := pe_m1 PySem.F.slot_str_join PySem.F.type_str_join (mt_joinK K h) ho he hs hbase hline
theorem pg_tupK (K : PySem.W.Frag) (n : Nat) (hK : X.K = K) {es : List Expr} {k : Nat} {t : TGs} {pos : Pos} (hc : X.calm = true) (h : PGs X es t)
    (hn : (assignEach es X.env).length = n := by rfl) (hst : (assignEach es X.env).findIdx? (·.1) = none := by rfl) : PG X (.Tuple es k pos) (gTup K n t) := hK ▸ pg_tup hc h hn hst
theorem pi_listK (K : PySem.W.Frag) (h : X.K = K) {tg l : Expr} {tl : TE} (hl : PE X l tl) : PI X tg l (iList K tl) := h ▸ pi_list hl
theorem pi_tupK (K : PySem.W.Frag) (h : X.K = K) {tg l : Expr} {tl : TE} (hl : PE X l tl) : PI X tg l (iTup K tl) := h ▸ pi_tup hl
theorem sl_listK (K : PySem.W.Frag) (h : X.K = K) : SlR X (rSlL K) := h ▸ sl_list
end
end Wh

namespace Wh
open PySem PySem.Spec PyProof.Rows L2 PySem.Froz
/-! ### sets of texts: the payload of SetTxt0, with what a walk asks of its table -/
section
variable {P : Program} {w : World}
/-- the table rises, and can be walked -/
def TabGo (w : World) (t : SetTable) : Prop := Ris t.place.toList ∧ (w.params.followText "set-order" = true ∨ t.led = true)
theorem tabGo_of {t u : SetTable} (hp : u.place = t.place) (hl : u.led = t.led) (g : TabGo w t) : TabGo w u := by
  unfold TabGo
  rw [hp, hl]
  exact g
theorem tabGo_tail {ep : Nat} {es : Array (Int × Value)} {t : SetTable} {b : Bool} (g : TabGo w t) : TabGo w (tailTx ep es t b).2.2 := by
  unfold tailTx
  split
  · exact ⟨relayAll_ris t es _, g.2.imp id fun e => (relayAll_led t es _).trans e⟩
  · exact g
theorem tabGo_add {h : Int} {v : Value} {D : SD} (g : TabGo w D.2.2) : TabGo w (addTx h v D).2.2 := by
  unfold addTx
  have g1 : TabGo w (layNew D.2.2 D.1 h v).2.1 := ⟨layNew_ris D.2.2 D.1 h v g.1, g.2.imp id fun e => (layNew_led D.2.2 D.1 h v).trans e⟩
  refine tabGo_tail ?_
  split
  · exact tabGo_of rfl rfl g1
  · exact g1
/-- the set at a holds the texts l -/
def TxAt (P : Program) (w : World) (h : Heap) (a : Addr) (l : List Str) : Prop := ∃ D : SD, h.get? a = some (sObj "set" D) ∧ TxOk P w D l ∧ l.Nodup ∧ l.length < scanBound ∧ TabGo w D.2.2
theorem TxAt.keep {h h' : Heap} {a : Addr} {l : List Str} (R : TxAt P w h a l) (k : ∀ o, h.get? a = some o → h'.get? a = some o) : TxAt P w h' a l := by
  obtain ⟨D, hD, r⟩ := R
  exact ⟨D, k _ hD, r⟩
theorem txAt_new {h : Heap} : TxAt P w (h.push { cls := .type "set", dict := none, data := .set #[] 0 (.fresh 0 0 (!w.params.followText "set-order")) }) h.objs.size [] := by
  refine ⟨(#[], 0, .fresh 0 0 (!w.params.followText "set-order")), Heap.get?_push_size _ rfl, TxOk.nil rfl, List.nodup_nil, by decide, List.Pairwise.nil, ?_⟩
  show _ ∨ (!w.params.followText "set-order") = true
  cases w.params.followText "set-order"
  · exact .inr rfl
  · exact .inl rfl
variable {A : Around} {E : Value → Shared → Prop} {s : Shared}
/-- a text that is there already -/
theorem txAt_same {a : Addr} {D : SD} {l : List Str} {k : Str} {u : Tok} {Q : Bool → Shared → Prop} (hD : s.heap.get? a = some (sObj "set" D)) (F : TxOk P w D l) (hk : k ∈ l) (hb : l.length < scanBound) (q : Q false s) :
    wpAny (model P w) A (setAddHashed a (.str k u) (hashStr w k)) Q E s := by
  obtain ⟨es, ep, t⟩ := D
  have dat : (sObj "set" (es, ep, t)).data = .set es ep t := rfl
  have few : es.size < scanBound := by rw [show es.size = l.length from F.sz]; exact hb
  have met : ∃ j, List.findIdx? (fun e => (PySem.strKind P w).is k e.2) es.toList = some j := by
    cases e : List.findIdx? (fun e => (PySem.strKind P w).is k e.2) es.toList with
    | some j => exact ⟨j, rfl⟩
    | none =>
      obtain ⟨x, hx, e2⟩ := (F.mem k).mp hk
      have e3 := List.findIdx?_eq_none_iff.mp e x hx
      rw [e2] at e3
      cases e3
  obtain ⟨j, hj⟩ := met
  unfold setAddHashed setAddHashedIn
  refine wpAny_holding (wpAny_bind (wpAny_setState_of hD dat F.fit ?_))
  show wpAny _ _ (if byScan (.str k u) es = true then _ else _) _ _ _
  rw [byScan_of (knd := PySem.strKind P w) rfl few F.el, if_pos rfl]
  unfold setAddByScan
  refine wpAny_bind (wpAny_bind (wpAny_rule (wpAny_bind (wpAny_setScan_of (knd := PySem.strKind P w) (k := k) (is_str k u) hD dat F.fit F.el ?_))))
  rw [hj]
  exact wpAny_pure (wpAny_pure q)
/-- found.add(k) -/
theorem txAt_add {a : Addr} {l : List Str} {k : Str} {u : Tok} {Q : Value → Shared → Prop} (R : TxAt P w s.heap a l) (room : l.length + 1 < scanBound)
    (q : ∀ h', Heap.SameBut a s.heap h' → TxAt P w h' a (if k ∈ l then l else k :: l) → Q .none { s with heap := h', toks := s.toks + 1 }) : wpAny (model P w) A (call (.builtin "set.add") [.ref a, .str k u]) Q E s := by
  obtain ⟨D, hD, ok, nd, hb, g⟩ := R
  have ty : s.TypeIs (.ref a) "set" := ⟨_, hD, rfl⟩
  refine wpAny_call_entry (T := "set") PySem.F.slot_set_add ty PySem.F.entry_set_add ?_ (PySem.F.args_set_add_2 _ _)
  delta Builtin.Frozenset.oneOther Builtin.«set.add»
  simp only [bind_assoc, List.isEmpty_nil]
  delta setAdd Builtin.Frozenset.addrOf
  refine wpAny_bind (wpAny_pure (wpAny_bind (wpAny_pure (wpAny_bind (wpAny_holding (wpAny_bind ((PySem.strKind P w).pyHash (is_str k u) ?_)))))))
  have fin : ∀ {b : Bool} {h' : Heap}, Heap.SameBut a s.heap h' → TxAt P w h' a (if k ∈ l then l else k :: l) → wpAny (model P w) A.in1 (ret Value.none) (fun fin s' => ∃ v, fin = Fin.done (Flow.ret v) ∧ Q v s') E { s with heap := h', toks := s.toks + 1 } := fun sb r => wpAny_pure ⟨_, rfl, q _ sb r⟩
  by_cases hk : k ∈ l
  · refine txAt_same (s := { s with toks := s.toks + 1 }) hD ok hk hb ?_
    refine fin (b := false) (Heap.SameBut.refl a s.heap) ?_
    rw [if_pos hk]
    exact ⟨D, hD, ok, nd, hb, g⟩
  · refine add_x (s := { s with toks := s.toks + 1 }) hD ok hk room ?_
    refine fin (b := true) (Heap.SameBut.update _ a _) ?_
    rw [if_neg hk]
    exact ⟨_, Heap.get?_update_self _ hD rfl, add_ok u ok, List.nodup_cons.mpr ⟨hk, nd⟩, room, tabGo_add g⟩
theorem strs_each : ∀ {es : List (Int × Value)}, ElemsOf (PySem.strKind P w) es → ∃ ks : List Str, StrsAre (es.map (·.2)) ks ∧ ∀ k, k ∈ ks ↔ ∃ e ∈ es, (PySem.strKind P w).is k e.2 = true
  | [], _ => ⟨[], .nil, fun k => by simp⟩
  | e :: es, h => by
    obtain ⟨ks, r, m⟩ := strs_each (es := es) h.tail
    obtain ⟨⟨k, hk, _⟩, _⟩ := h.head
    obtain ⟨tk, ev⟩ := Value.isStrOf_shape (x := k) (v := e.2) hk
    refine ⟨k :: ks, ?_, fun j => ?_⟩
    · rw [List.map_cons, ev]
      exact .cons k tk r
    · rw [List.mem_cons, m j]
      constructor
      · rintro (rfl | ⟨x, hx, q⟩)
        · exact ⟨e, List.mem_cons_self, hk⟩
        · exact ⟨x, List.mem_cons_of_mem _ hx, q⟩
      · rintro ⟨x, hx, q⟩
        rcases List.mem_cons.mp hx with rfl | hx
        · exact .inl ((PySem.strKind P w).inj x.2 j k q hk)
        · exact .inr ⟨x, hx, q⟩
theorem strs_len : ∀ {vs : List Value} {ks : List Str}, StrsAre vs ks → vs.length = ks.length
  | _, _, .nil => rfl
  | _, _, .cons _ _ r => congrArg (· + 1) (strs_len r)
theorem strs_perm {vs us : List Value} (p : vs.Perm us) : ∀ {ks : List Str}, StrsAre us ks → ∃ js, StrsAre vs js ∧ js.Perm ks := by
  induction p with
  | nil => exact fun r => ⟨_, r, .refl _⟩
  | cons x _ ih =>
    intro ks r
    cases r with
    | cons k tk r =>
      obtain ⟨js, h1, h2⟩ := ih r
      exact ⟨k :: js, .cons k tk h1, h2.cons k⟩
  | swap x y l =>
    intro ks r
    cases r with
    | cons k tk r =>
      cases r with
      | cons k2 tk2 r => exact ⟨_, .cons k2 tk2 (.cons k tk r), .swap _ _ _⟩
  | trans _ _ ih1 ih2 =>
    intro ks r
    obtain ⟨js, h1, h2⟩ := ih2 r
    obtain ⟨is, h3, h4⟩ := ih1 h1
    exact ⟨is, h3, h4.trans h2⟩
theorem nd_len_perm : ∀ {xs ys : List Str}, xs.Nodup → (∀ k ∈ xs, k ∈ ys) → ys.length ≤ xs.length → xs.Perm ys
  | [], ys, _, _, hl => by rw [List.eq_nil_of_length_eq_zero (Nat.le_zero.mp hl)]
  | x :: xs, ys, hn, hm, hl => by
    obtain ⟨n1, n2⟩ := List.nodup_cons.mp hn
    have hx := hm x List.mem_cons_self
    have e := List.length_erase_of_mem hx
    have z : 0 < ys.length := List.length_pos_of_mem hx
    have hl : ys.length ≤ xs.length + 1 := hl
    refine ((nd_len_perm n2 (fun k hk => ?_) (by omega)).cons x).trans (List.perm_cons_erase hx).symm
    have ne : k ≠ x := fun z => n1 (z ▸ hk)
    exact (List.mem_erase_of_ne ne).mpr (hm k (List.mem_cons_of_mem _ hk))
/-- sorted(found), fewer than 64 texts -/
theorem txAt_sorted {a : Addr} {l : List Str} {Q : Value → Shared → Prop} (R : TxAt P w s.heap a l) (hh : A.handled = none) (h64 : l.length < 64)
    (q : ∀ s' p (out : Array Value) (c : Nat) (ys : List Str), (∀ b o, s.heap.get? b = some o → s'.heap.get? b = some o) → s'.gens = s.gens → s'.os = s.os → s.heap.objs.size ≤ p → s'.heap.get? p = some (seqObj "list" out c) → StrsAre out.toList ys → ys.Perm l → sortedS ys = true → Q (.ref p) s') :
    wpAny (model P w) A (call (.builtin "sorted") [.ref a]) Q E s := by
  obtain ⟨D, hD, ok, nd, hb, g⟩ := R
  refine Calls.call_function_entry kind_sorted plain_sorted entry_sorted (args_sorted1 _) ?_
  delta Builtin.«sorted»
  have few : D.1.size < scanBound := by rw [ok.sz]; exact hb
  refine wpAny_bind (m := checkCount "sorted" 1 1 _) (wpAny_pure (wpAny_bind (collect_set (A := A.in1) hh ⟨_, hD, rfl, rfl⟩ ok.fit few g.1 g.2 fun s1 vs k1 hz g1 o1 pm => ?_)))
  obtain ⟨ks, r, m⟩ := strs_each ok.el
  obtain ⟨js, r2, pj⟩ := strs_perm pm r
  have lv : vs.length = l.length := by rw [pm.length_eq, List.length_map, Array.length_toList, ok.sz]
  have pl : l.Perm js := nd_len_perm nd (fun k hk => pj.mem_iff.mpr ((m k).mpr ((ok.mem k).mp hk))) (by rw [← strs_len r2, lv]; exact Nat.le_refl _)
  refine wpAny_bind (wpAny_newList ?_ (by rw [lv, sizeLine_eq]; omega))
  have at_ : (s1.heap.push (seqObj "list" vs.toArray 0)).get? s1.heap.objs.size = some (seqObj "list" vs.toArray 0) := Heap.get?_push_size _ rfl
  refine wpAny_bind (wpAny_holding (wpAny_call_entry slot_list_sort ⟨_, at_, rfl⟩ entry_list_sort (list_sort_treeK strKind_oneLt (s := { s1 with heap := s1.heap.push (seqObj "list" vs.toArray 0) }) at_ r2.keysOf (fun v₁ v₂ rest e => keyKind_strs (by rw [← e]; exact r2)) (by rw [lv]; exact h64) fun st' hp hs => ⟨_, rfl, ?_⟩) (args_list_sort _)))
  obtain ⟨ys, z1, z2, z3⟩ := sorted_out_str r2 hp hs
  obtain ⟨c, hc⟩ := sortedHeap_at (vs := vs) (out := (arrOf st').map (·.2)) at_
  refine wpAny_pure ⟨_, rfl, q _ s1.heap.objs.size _ c ys (fun b u e => ?_) g1 o1 hz hc z1 (z2.trans pl.symm) z3⟩
  have e1 := k1 b u e
  have lt := Heap.lt_size e1
  exact (sortedHeap_old (Nat.ne_of_lt lt) (by rw [size_push']; exact Nat.lt_succ_of_lt lt)).trans (Heap.get?_push_of_some _ e1)
end
/-! ### over the layer -/
def SetL (P : Program) (w : World) (a : Addr) (l : List Str) : HO := .ext fun h => TxAt P w h a l
theorem setL_new {w : World} {P : Program} {H : Hp} {h : Heap} {a : Addr} {l : List Str} (R : TxAt P w h a l) : ObjOk P w H h a (SetL P w a l) := by
  have ⟨D, hD, _⟩ := R
  exact ⟨R, ⟨_, hD⟩, fun h1 h2 p k => TxAt.keep p k⟩
section
variable {X : Cx}
theorem setL_get {pins : List (Addr × Obj)} {σ : L2.St} {H : Hp} {s : Shared} {a : Addr} {l : List Str} (I : Inv X pins σ H s) (ha : H a = some (SetL X.prog X.w a l)) : TxAt X.prog X.w s.heap a l := (I.hok a _ ha).1
def addL (y : Str) (l : List Str) : List Str := if y ∈ l then l else y :: l
theorem setL_add {pins : List (Addr × Obj)} {σ : L2.St} {H : Hp} {s : Shared} {E : Value → Shared → Prop} {a : Addr} {l : List Str} {y : Str} {u : Value} {Q : Value → Shared → Prop} (I : Inv X pins σ H s) (ha : H a = some (SetL X.prog X.w a l)) (room : l.length + 1 < scanBound) (ru : RelV (.str y) u)
    (q : ∀ s', Inv X pins σ (upd H a (SetL X.prog X.w a (addL y l))) s' → Q .none s') : wpAny (model X.prog X.w) X.A (call (.builtin "set.add") [.ref a, u]) Q E s := by
  obtain ⟨tk, rfl⟩ := ru
  refine txAt_add (setL_get I ha) room fun h' sb r => q _ ?_
  have ⟨D, hD, _⟩ := r
  exact I.write (e := a) (t' := s.toks + 1) (by rw [ha]; trivial) (.inl rfl) (fun b u hb hu => (sb.2 b hb).trans hu) ⟨_, hD⟩ (setL_new r)
def rSortedL (P : Program) (w : World) : List V → Hp → VK → Prop := fun vs H Q => ∃ (a : Addr) (l : List Str), vs = [V.ref a] ∧ H a = some (SetL P w a l) ∧ l.length < 64 ∧ ∀ (ys : List Str) (p : Addr), ys.Perm l → sortedS ys = true → H p = none → Q (.ref p) (upd H p (.lst (ys.map V.str)))
theorem cr_sortedL (hc : X.calm = true) : CallR X (.builtin "sorted") (rSortedL X.prog X.w) := by
  intro pins s σ H vs us Q I r h
  obtain ⟨a, l, rfl, ha, h64, q⟩ := h
  rw [Vals.ref1 r]
  refine txAt_sorted (setL_get I ha) (I.ok.hd hc) h64 fun s' p out c ys k g o hp hg hi pm hs => ?_
  have np : H p = none := I.hok.fresh hp
  have small : (ys.map V.str).length ≤ sizeLine := by rw [List.length_map, pm.length_eq, sizeLine_eq]; omega
  have e : s' = { s with heap := s'.heap, gens := s'.gens, drawn := s'.drawn, toks := s'.toks } := by
    cases s'; cases s; cases o
    rfl
  rw [e]
  exact ⟨.ref p, upd H p (.lst (ys.map V.str)), I.call (ch := []) (Un.laid k hp np) (I.hok.laid k hp (show ObjOk X.prog X.w _ _ _ (.lst (ys.map V.str)) from ⟨small, out.toList, c, vals_of_strs hi, hg⟩)) (by rw [g]; exact I.bare) (fun _ z => nomatch z), rfl, q ys p pm hs np⟩
end
end Wh

namespace Wh
open PySem PySem.Spec PyProof.Rows L2 PpSet
/-! ### {elt for a in x for b in y}: a set of texts, made clause by clause -/
section
variable {e a x b y : Expr} {sc : Scope} {p : Pos}
/-- the comprehension itself -/
abbrev sc2 (e a x b y : Expr) (sc : Scope) (p : Pos) : Expr := .SetComp e [⟨a, x, [], 0⟩, ⟨b, y, [], 0⟩] sc p
theorem turn_first (it acc : Value) (env : Env) : compTurn (sc2 e a x b y sc p) 0 it acc env = (do
      standAt x.pos
      match ← pyNext it with
      | none => pure (.done .next)
      | some v =>
        letOwnedTupleGo a it v
        assign a env v
        let z ← eval y env
        standAt y.pos
        let z ← foldedSetIterable y env z
        let _ ← runOwn (.compStart (sc2 e a x b y sc p) 1 (← holding [z] (pyIter z)) acc env) env
        again (.compLoop (sc2 e a x b y sc p) 0 it acc env)) := by rfl
theorem turn_second (it acc : Value) (env : Env) : compTurn (sc2 e a x b y sc p) 1 it acc env = (do
      standAt y.pos
      match ← pyNext it with
      | none => pure (.done .next)
      | some v =>
        letOwnedTupleGo b it v
        assign b env v
        (do let z ← eval e env; standAt e.pos; let _ ← call (.builtin "set.add") [acc, z])
        again (.compLoop (sc2 e a x b y sc p) 1 it acc env)) := by rfl
variable {prog : Program} {w : World} {A : Around} {R : Result → Shared → Prop} {env : Env} {it acc : Value}
abbrev Nt (prog : Program) (w : World) (A : Around) (env : Env) (R : Result → Shared → Prop) : Value → Shared → Prop := notedBy (model prog w) A env fun er s' => R (.error er) s'
/-- the turns of the first clause, by an invariant with a measure -/
theorem loop_first (hf : ∀ z, foldedSetIterable y env z = pure z) (J : Nat → Shared → Prop)
    (step : ∀ n s, J n s → wpAny (model prog w) A (pyNext it) (fun r s1 => match r with
      | none => R (.ok .next) s1
      | some v => wpAny (model prog w) A (letOwnedTupleGo a it v) (fun _ s2 => wpAny (model prog w) A (assign a env v) (fun _ s3 => wpAny (model prog w) A (eval y env) (fun z s4 => wpAny (model prog w) A (pyIter z) (fun i2 s5 =>
          codeAny (model prog w) A (.compStart (sc2 e a x b y sc p) 1 i2 acc env) (fun r s' => match r with
            | .ok _ => ∃ m, m < n ∧ J m s'
            | .error _ => False) s5) (Nt prog w A env R) s4) (Nt prog w A env R) s3) (Nt prog w A env R) s2) (Nt prog w A env R) s1) (Nt prog w A env R) s)
    {n : Nat} {s : Shared} (h : J n s) : codeAny (model prog w) A (.compLoop (sc2 e a x b y sc p) 0 it acc env) R s := by
  refine codeAny_loop rfl J (fun n s hJ => ?_) n h
  show wpAny _ A (Sem.onRaise (compTurn (sc2 e a x b y sc p) 0 it acc env) fun er => do noteFrame er env; theTreesLotGoes er) _ _ s
  rw [turn_first]
  refine wpAny_noted (wpAny_bind (wpAny_standAt (wpAny_bind (wpAny_mono (step n s hJ) (fun r s1 h1 => ?_) fun _ _ z => z))))
  match r, h1 with
  | none, h1 => exact wpAny_pure h1
  | some v, h1 =>
    refine wpAny_bind (wpAny_mono h1 (fun _ s2 h2 => wpAny_bind (wpAny_mono h2 (fun _ s3 h3 => wpAny_bind (wpAny_mono h3 (fun z s4 h4 => ?_) fun _ _ z => z)) fun _ _ z => z)) fun _ _ z => z)
    refine wpAny_bind (wpAny_standAt (wpAny_bind (wpAny_of_eq (hf z) (wpAny_bind (wpAny_holding (wpAny_mono h4 (fun i2 s5 h5 => ?_) fun _ _ z => z))))))
    refine wpAny_bind (wpAny_runOwn ?_)
    rw [Around.mark_none]
    refine codeAny_mono h5 fun r s' hr => ?_
    match r, hr with
    | .ok f, hr => first | exact wpAny_pure ⟨rfl, hr⟩ | exact wpAny_bind (wpAny_pure (wpAny_pure ⟨rfl, hr⟩))
    | .error er, hr => exact hr.elim
/-- the turns of the second clause -/
theorem loop_second (J : Nat → Shared → Prop)
    (step : ∀ n s, J n s → wpAny (model prog w) A (pyNext it) (fun r s1 => match r with
      | none => R (.ok .next) s1
      | some v => wpAny (model prog w) A (letOwnedTupleGo b it v) (fun _ s2 => wpAny (model prog w) A (assign b env v) (fun _ s3 => wpAny (model prog w) A (eval e env) (fun z s4 =>
          wpAny (model prog w) A (call (.builtin "set.add") [acc, z]) (fun _ s5 => ∃ m, m < n ∧ J m s5) (Nt prog w A env R) s4) (Nt prog w A env R) s3) (Nt prog w A env R) s2) (Nt prog w A env R) s1) (Nt prog w A env R) s)
    {n : Nat} {s : Shared} (h : J n s) : codeAny (model prog w) A (.compLoop (sc2 e a x b y sc p) 1 it acc env) R s := by
  refine codeAny_loop rfl J (fun n s hJ => ?_) n h
  show wpAny _ A (Sem.onRaise (compTurn (sc2 e a x b y sc p) 1 it acc env) fun er => do noteFrame er env; theTreesLotGoes er) _ _ s
  rw [turn_second]
  refine wpAny_noted (wpAny_bind (wpAny_standAt (wpAny_bind (wpAny_mono (step n s hJ) (fun r s1 h1 => ?_) fun _ _ z => z))))
  match r, h1 with
  | none, h1 => exact wpAny_pure h1
  | some v, h1 =>
    refine wpAny_bind (wpAny_mono h1 (fun _ s2 h2 => wpAny_bind (wpAny_mono h2 (fun _ s3 h3 => ?_) fun _ _ z => z)) fun _ _ z => z)
    exact wpAny_bind (wpAny_bind (wpAny_mono h3 (fun z s4 h4 => wpAny_bind (wpAny_standAt (wpAny_bind (wpAny_mono h4 (fun _ s5 h5 => wpAny_pure (wpAny_pure ⟨rfl, h5⟩)) fun _ _ z => z)))) fun _ _ z => z))
/-- the second clause begins: its source is walked as it stands, or asked for its walk once more -/
theorem start_second {s : Shared} (h0 : codeAny (model prog w) A (.compLoop (sc2 e a x b y sc p) 1 it acc env) R s)
    (h1 : wpAny (model prog w) A (pyIter it) (fun i2 s' => codeAny (model prog w) A (.compLoop (sc2 e a x b y sc p) 1 i2 acc env) R s') (Nt prog w A env R) s) : codeAny (model prog w) A (.compStart (sc2 e a x b y sc p) 1 it acc env) R s := by
  refine codeAny_of_tree ?_
  show wpAny _ _ (Sem.onRaise (compStart (sc2 e a x b y sc p) 1 it acc env) fun er => do noteFrame er env; standAt theWindowsPlace) _ _ s
  refine wpAny_notedAt ?_
  delta compStart
  refine wpAny_bind (wpAny_askSetting (wpAny_ite ?_))
  split
  · first | exact wpAny_bind (wpAny_pure (wpAny_pure ⟨rfl, h0⟩)) | exact wpAny_pure ⟨rfl, h0⟩
  · refine wpAny_bind (wpAny_rule ?_)
    show wpAny _ _ (standAt y.pos >>= _) _ _ s
    exact wpAny_bind (wpAny_standAt (wpAny_bind (wpAny_mono h1 (fun i2 s' h' => wpAny_pure ⟨rfl, h'⟩) fun _ _ z => z)))
end
/-- what is asked: the first source's walk J; behind its item the second source's walk, from whose end Nx is reached; D is the set -/
def tSc2 (P : Program) (w : World) (wi : TI) (g : TG) (wj : TI) (k : TG) (te : TE) (vs us : List Nat) : TE := fun σ H Q => wi σ H fun J H1 => ∀ D, H1 D = none → ∃ W : Nat → Nat → Hp → Prop, (∃ m, W 0 m (upd H1 D (SetL P w D []))) ∧ ∀ i m H, W i m H →
  (J.stop i H ∧ Q (.ref D) H) ∨ (J.go i H ∧ ∃ Nx : Hp → Prop, (∀ H', Nx H' → ∃ m', m' < m ∧ W (i + 1) m' H') ∧ ∀ v H', J.yld i H v H' → g v (wipe σ vs) H' fun σ2 H2 => wipe σ2 vs = wipe σ vs ∧
    wj σ2 H2 fun J2 H3 => ∃ W2 : Nat → Nat → Hp → Prop, (∃ m, W2 0 m H3) ∧ ∀ j l H, W2 j l H →
      (J2.stop j H ∧ Nx H) ∨ (J2.go j H ∧ ∃ N2 : Hp → Prop, (∀ H', N2 H' → ∃ l', l' < l ∧ W2 (j + 1) l' H') ∧ ∀ v H', J2.yld j H v H' → k v (wipe σ2 us) H' fun σ3 H4 => wipe σ3 us = wipe σ2 us ∧
        te σ3 H4 fun z H5 => ∃ (t : Str) (ts : List Str), z = .str t ∧ H5 D = some (SetL P w D ts) ∧ ts.length + 1 < scanBound ∧ N2 (upd H5 D (SetL P w D (addL t ts)))))
section
variable {X : Cx} {e a x b y : Expr} {sc : Scope} {p : Pos} {own : List (PySem.Str × Nat)} {us : List Nat} {wi wj : TI} {g k : TG} {te : TE}
theorem pe_sc2 (calm : X.calm = true) (nd : X.N.Nodup) (src : PI X a x wi) (ok : BlkOk X.N X.env.scope sc own) (sub : ∀ i ∈ us, i ∈ own.map (·.2))
    (tg : ∀ (s : Shared) (H : Hp) (C : Addr) (cl : List (PySem.Str × Addr)) (F : List Addr), PG (X.blk s H sc (compEnvC sc cl C X.env) F) a g)
    (src2 : ∀ (s : Shared) (H : Hp) (C : Addr) (cl : List (PySem.Str × Addr)) (F : List Addr), PI (X.blk s H sc (compEnvC sc cl C X.env) F) b y wj)
    (tg2 : ∀ (s : Shared) (H : Hp) (C : Addr) (cl : List (PySem.Str × Addr)) (F : List Addr), PG (X.blk s H sc (compEnvC sc cl C X.env) F) b k)
    (elt : ∀ (s : Shared) (H : Hp) (C : Addr) (cl : List (PySem.Str × Addr)) (F : List Addr), PE (X.blk s H sc (compEnvC sc cl C X.env) F) e te)
    (f1 : ∀ z, foldedSetIterable x X.env z = pure z := by intro _; rfl) (f2 : ∀ env z, foldedSetIterable y env z = pure z := by intro _ _; rfl) :
    PE X (sc2 e a x b y sc p) (tSc2 X.prog X.w wi g wj k te (own.map (·.2)) us) := by
  refine ⟨fun pins s σ H Q I h => ?_⟩
  have cells : ∀ n ∈ sc.names, n.2 = .free → ∃ c, X.env.cells.lookup n.1 = some c := fun n hn z => (ok.free n hn z).elim (fun q => I.ok.has _ (.inl q)) fun q => I.ok.has _ (.inr q)
  rw [eval_SetComp]
  refine wpAny_comprehension_free (use := none) rfl f1 (closure_ok cells) ok.kind (fun n hn z => by rw [ok.uniq n hn, z]) (thn (src.run pins s σ H _ I h) fun _ _ h1 => thn h1 fun _ s2 h2 => ?_)
  obtain ⟨it, F, tn, J, H2, rfl, I2, T, at0, out, q⟩ := h2
  refine newSet_ok (newEnv_comp ?_)
  generalize eD : s2.heap.objs.size = D
  have free : H2 D = none := I2.hok.fresh (Nat.le_of_eq eD)
  obtain ⟨W, ⟨m0, w0⟩, turn⟩ := q D free
  -- the set is laid
  generalize e3 : ({ s2 with heap := s2.heap.push { cls := .type "set", dict := none, data := .set #[] 0 (.fresh 0 0 (!X.w.params.followText "set-order")) } } : Shared) = s3
  have g3 : s3.heap = s2.heap.push { cls := .type "set", dict := none, data := .set #[] 0 (.fresh 0 0 (!X.w.params.followText "set-order")) } := by rw [← e3]
  have I3 : Inv X pins σ (upd H2 D (SetL X.prog X.w D [])) s3 := by
    subst e3 eD
    exact I2.laid (t' := s2.toks) (fun _ _ z => Heap.get?_push_of_some _ z) (Nat.le_refl _) (setL_new txAt_new)
  have lowF : ∀ c ∈ F, c < s2.heap.objs.size := fun c hc => (T.obj _ _ at0 c hc).elim fun _ z => Heap.lt_size z.1
  have outF : ∀ c ∈ F, FpOk X pins (upd H2 D (SetL X.prog X.w D [])) c ∧ c < s3.heap.objs.size := fun c hc => by
    have lt := lowF c hc
    have ne : c ≠ D := by rw [← eD]; exact Nat.ne_of_lt lt
    exact ⟨⟨(upd_ne ne).trans (out c hc).1, (out c hc).2⟩, by rw [g3, Heap.size_push]; exact Nat.lt_succ_of_lt lt⟩
  have at3 : tn 0 s3.heap := T.keep _ _ _ at0 fun c _ o z => by rw [g3]; exact Heap.get?_push_of_some _ z
  have I4 := block_start I3 ok nd outF
  have rg := tg s3 (upd H2 D (SetL X.prog X.w D [])) s3.heap.objs.size (cellsFrom (s3.heap.objs.size + 1) sc.names (cloFrom X.env.cells sc.names [])) F
  have rj := src2 s3 (upd H2 D (SetL X.prog X.w D [])) s3.heap.objs.size (cellsFrom (s3.heap.objs.size + 1) sc.names (cloFrom X.env.cells sc.names [])) F
  have rk := tg2 s3 (upd H2 D (SetL X.prog X.w D [])) s3.heap.objs.size (cellsFrom (s3.heap.objs.size + 1) sc.names (cloFrom X.env.cells sc.names [])) F
  have re := elt s3 (upd H2 D (SetL X.prog X.w D [])) s3.heap.objs.size (cellsFrom (s3.heap.objs.size + 1) sc.names (cloFrom X.env.cells sc.names [])) F
  show codeAny _ _ (.compStart (sc2 e a x b y sc p) 0 (.ref it) (.ref D) (compEnvC sc (cellsFrom (s3.heap.objs.size + 1) sc.names (cloFrom X.env.cells sc.names [])) s3.heap.objs.size X.env)) (compPost (model X.prog X.w) X.A X.xe none (EP X pins σ Q) (.ref D) s3.heap.objs.size) { s3 with heap := pushCells (s3.heap.push { cls := .type "dict", data := .dict #[] }) sc.names }
  have offF : ∀ c ∈ F, (upd H2 D (SetL X.prog X.w D [])) c = none := fun c hc => (outF c hc).1.1
  generalize ec : compEnvC sc (cellsFrom (s3.heap.objs.size + 1) sc.names (cloFrom X.env.cells sc.names [])) s3.heap.objs.size X.env = ce at I4 rg rj rk re ⊢
  have cloc : ce.locals = s3.heap.objs.size := ec ▸ rfl
  generalize eH : upd H2 D (SetL X.prog X.w D []) = H3 at I3 I4 rg rj rk re w0 offF outF
  generalize e4 : ({ s3 with heap := pushCells (s3.heap.push { cls := .type "dict", data := .dict #[] }) sc.names } : Shared) = s4 at I4 ⊢
  have at4 : tn 0 s4.heap := T.keep _ _ _ at3 fun c _ o z => by rw [← e4]; exact pushCells_keeps _ _ _ _ (Heap.get?_push_of_some _ z)
  let B := X.blk s3 H3 sc ce F
  have inB : ∀ {σ' : L2.St} {H' : Hp} {s' : Shared}, Inv B [] σ' H' s' → (∀ c ∈ F, H' c = none) → ∀ c ∈ F, FpOk B [] H' c := fun I' n c hc =>
    ⟨n c hc, (I'.ok.exf c hc).1, I'.ok.exfs c hc, .inl hc, fun z d q => (I'.ok.exf c hc).2 z d q, fun z hz => absurd (show z ∈ ([] : List (Addr × Obj)) ++ [] from hz) (by simp)⟩
  refine codeAny_compStart_set (rest := [⟨b, y, [], 0⟩]) ?_ (T.self X.A 0 _ _ _ at4 ?_)
  all_goals
    refine loop_first (f2 ce) (fun n s' => ∃ i H', Inv B [] (wipe σ (own.map (·.2))) H' s' ∧ tn i s'.heap ∧ (∀ c ∈ F, H' c = none) ∧ W i n H') ?_ (n := m0) ⟨0, H3, I4, at4, offF, w0⟩
    rintro n s5 ⟨i, H5, I5, at5, n5, w5⟩
    rcases turn i n H5 w5 with ⟨stop, fin⟩ | ⟨go, Nx, back, each⟩
    · refine thnF (T.done B rfl rfl rfl calm i [] s5 _ H5 (fun _ _ => False) I5 (inB I5 n5) at5 stop) fun r s6 ⟨hr, I6⟩ => ?_
      subst hr
      have I7 : Inv X pins σ H5 s6 := I3.call' (ch := F) I6.os I6.base I6.hok I6.bare fun c hc => ⟨(outF c hc).1.2.2.2.1, (outF c hc).1.2.1, (outF c hc).1.2.2.2.2.1, (outF c hc).1.2.2.2.2.2⟩
      have none_ : H5 s3.heap.objs.size = none := cloc ▸ (I6.free : H5 ce.locals = none)
      obtain ⟨m, hm, _⟩ := I6.loc
      have hm : s6.heap.Ns s3.heap.objs.size m := cloc ▸ (hm : s6.heap.Ns ce.locals m)
      refine ⟨m, hm, fun h'' sb => ?_⟩
      obtain ⟨u0, u1, u2, u3, u4, u5⟩ := I3.fpOk (Nat.le_refl _) none_
      exact ⟨.ref D, H5, I7.turned (t' := s6.toks) (fun c o hc z => (sb.2 c hc).trans z) u0 u1 u3 u4 u5, rfl, fin⟩
    · refine thnF (T.item B rfl rfl rfl calm i [] s5 _ H5 (fun _ _ => False) I5 (inB I5 n5) at5 go) fun r s6 ⟨u, hr, h6⟩ => ?_
      subst hr
      refine thnF h6 fun _ s7 ⟨v, H7, I7, r7, y7, at7, n7⟩ => ?_
      have P7 := I7.pinned (inB I7 n7) (T.obj _ _ at7)
      refine thnF (rg.run _ s7 _ H7 v u _ P7 r7 (each v H7 y7)) fun _ s8 ⟨σ8, H8, I8, same8, q8⟩ => ?_
      have len8 : (wipe σ (own.map (·.2))).length = σ8.length := by rw [← same8, wipe_length]
      -- behind the second walk
      have turned : ∀ {s' : Shared} {H' : Hp}, Inv B ([] ++ pinsAt F s7.heap) (wipe σ8 us) H' s' → Nx H' → ∃ m, m < n ∧ ∃ i H', Inv B [] (wipe σ (own.map (·.2))) H' s' ∧ tn i s'.heap ∧ (∀ c ∈ F, H' c = none) ∧ W i m H' := fun {s' H'} I' nx => by
        obtain ⟨m', hm, w'⟩ := back H' nx
        have kept : ∀ c ∈ F, ∀ o, s7.heap.get? c = some o → s'.heap.get? c = some o ∧ H' c = none := fun c hc o z =>
          have z2 := I'.pin (c, o) (List.mem_append_right _ (List.mem_append_right _ (mem_pinsAt hc z)))
          ⟨z2.1, z2.2.1⟩
        refine ⟨m', hm, i + 1, H', (I'.unpinned (pins := [])).weak (len8.trans (wipe_length σ8 us).symm) (fun j v z => ?_), T.keep _ _ _ at7 fun c hc o z => (kept c hc o z).1, fun c hc => (T.obj _ _ at7 c hc).elim fun o z => (kept c hc o z.1).2, w'⟩
        rw [← same8] at z
        obtain ⟨z1, z2⟩ := wipe_some z
        exact (wipe_out fun hj => z2 (sub j hj)).trans z1
      refine thnF (rj.run _ s8 σ8 H8 _ I8 q8) fun _ s9 h9 => thnF h9 fun _ s10 ⟨it2, F2, tn2, J2, H10, e10, I10, T2, at10, out2, W2, ⟨m2, w2⟩, turn2⟩ => ?_
      subst e10
      have in2 : ∀ {H' : Hp}, (∀ c ∈ F2, H' c = none) → ∀ c ∈ F2, FpOk B ([] ++ pinsAt F s7.heap) H' c := fun n c hc => ⟨n c hc, (out2 c hc).2⟩
      refine start_second ?_ (T2.self X.A 0 _ _ _ at10 ?_)
      all_goals
        refine loop_second (fun l s' => ∃ j H', Inv B ([] ++ pinsAt F s7.heap) (wipe σ8 us) H' s' ∧ tn2 j s'.heap ∧ (∀ c ∈ F2, H' c = none) ∧ W2 j l H') ?_ (n := m2) ⟨0, H10, I10.weak (wipe_length _ _) (fun j v z => (wipe_some z).1), at10, fun c hc => (out2 c hc).1, w2⟩
        rintro l s11 ⟨j, H11, I11, at11, n11, w11⟩
        rcases turn2 j l H11 w11 with ⟨stop2, nx⟩ | ⟨go2, N2, back2, each2⟩
        · refine thnF (T2.done B rfl rfl rfl calm j _ s11 (wipe σ8 us) H11 (fun _ _ => False) I11 (in2 n11) at11 stop2) fun r s12 ⟨hr, I12⟩ => ?_
          subst hr
          exact turned I12 nx
        · refine thnF (T2.item B rfl rfl rfl calm j _ s11 (wipe σ8 us) H11 (fun _ _ => False) I11 (in2 n11) at11 go2) fun r s12 ⟨u2, hr, h12⟩ => ?_
          subst hr
          refine thnF h12 fun _ s13 ⟨v2, H13, I13, r13, y13, at13, n13⟩ => ?_
          have P13 := I13.pinned (in2 n13) (T2.obj _ _ at13)
          refine thnF (rk.run _ s13 (wipe σ8 us) H13 v2 u2 _ P13 r13 (each2 v2 H13 y13)) fun _ s14 ⟨σ14, H14, I14, same14, q14⟩ => ?_
          refine thnF (re.run _ s14 σ14 H14 _ I14 q14) fun z s15 ⟨zv, H15, I15, r15, t, ts, ez, hD, room, nx2⟩ => ?_
          subst ez
          refine setL_add (X := B) I15 hD room r15 fun s16 I16 => ?_
          obtain ⟨l', hl', w'⟩ := back2 _ nx2
          have kept2 : ∀ c ∈ F2, ∀ o, s13.heap.get? c = some o → s16.heap.get? c = some o ∧ upd H15 D (SetL X.prog X.w D (addL t ts)) c = none := fun c hc o z =>
            have z2 := I16.pin (c, o) (List.mem_append_right _ (List.mem_append_right _ (mem_pinsAt hc z)))
            ⟨z2.1, z2.2.1⟩
          exact ⟨l', hl', j + 1, _, I16.unpinned.weak (by rw [← same14, wipe_length]) (fun j v z => by rw [← same14] at z; exact (wipe_some z).1), T2.keep _ _ _ at13 fun c hc o z => (kept2 c hc o z).1, fun c hc => (T2.obj _ _ at13 c hc).elim fun o z => (kept2 c hc o z.1).2, w'⟩
end
end Wh

namespace Wh
open PySem PySem.Spec PyProof.Rows L2
/-! ### a first except clause with any test that says yes, and a name -/
/-- what stands stays: an error in flight stays so when objects are added -/
theorem fly_add {B h h' : Heap} {l : List Env} {e : Addr} {Z : Obj → Prop} (R : HandSPX.FlyingZ B l e Z h) (add : ∀ b o, h.get? b = some o → h'.get? b = some o) : HandSPX.FlyingZ B l e Z h' := by
  rcases R with ⟨keep, fresh, frames, oe, ws, tr, otr, trs, at_, isZ, fields, noctx, ne1, ne2, trAt, trFields, nofl⟩
  refine ⟨fun b o q => add b o (keep b o q), fresh, ?_, oe, ws, tr, otr, trs, add _ _ at_, isZ, fields, noctx, ne1, ne2, add _ _ trAt, trFields, nofl⟩
  exact frames.of_keeps fun b o q _ => ⟨o, add b o q, rfl⟩
/-- the test, asked while the error stands at a: it makes new objects at most, and says yes to errors of the classes that `yes` names -/
def Asks (X : Cx) (test : Expr) (yes : Value → Prop) : Prop := ∀ (a : Addr) (oe : Obj) (cls : Value) (pn pins : List (Addr × Obj)) (σ : L2.St) (H : Hp) (s : Shared), L2.Inv (X.suite a ((a, oe) :: pn)) pins σ H s → s.heap.get? a = some oe → oe.cls = cls → yes cls →
  ∀ {Q : Value → Shared → Prop} {E : Value → Shared → Prop}, (∀ (v : Value) (h' : Heap), (∀ b o, s.heap.get? b = some o → h'.get? b = some o) → PySem.W.Looks (model X.prog X.w) h' (excMatches (.ref a) v) true → Q v { s with heap := h' }) →
    wpAny (model X.prog X.w) (X.A.mark (some (.ref a))) (eval test X.env) Q E s
/-- the ends of a suite that holds an error by a name in slot i: behind it the slot is empty -/
def letGo (i : Nat) (D : Ends) : Ends where
  nx := fun τ G => D.nx (τ.set i none) G
  rt := D.rt
  bk := fun τ G => D.bk (τ.set i none) G
  ct := fun τ G => D.ct (τ.set i none) G
def wWhen (N : Nat) (yes : Value → Prop) (i : Nat) (ts : Addr → Value → Option Addr → TS) (D : Ends) : WX := fun cls d σ H => yes cls ∧ (σ.length = N → ∀ a, H a = none → ts a cls d (letGo i D) (σ.set i (some (.ref a))) H)
section
variable {X : Cx}
/-- an end of the tried body is an end of the whole -/
theorem sp_tried {pn : List (Addr × Obj)} {pins : List (Addr × Obj)} {xe : Value → Shared → Prop} {D : Ends} {f : Flow} {s : Shared} (ok : X.Ok) (q : SP (X.tr (pn ++ pins) xe) [] D f s) (e : pn = X.pn) : SP X pins D f s := by
  subst e
  match f, q with
  | .next, ⟨τ, G, J, z⟩ => exact ⟨τ, G, J.ofTry ok, z⟩
  | .brk, ⟨τ, G, J, z⟩ => exact ⟨τ, G, J.ofTry ok, z⟩
  | .cont, ⟨τ, G, J, z⟩ => exact ⟨τ, G, J.ofTry ok, z⟩
  | .ret _, ⟨v, τ, G, J, r, z⟩ => exact ⟨v, τ, G, J.ofTry ok, r, z⟩
/-- behind the suite its name goes -/
theorem sp_named {n : Str} {i : Nat} {a : Addr} {oe : Obj} {pins : List (Addr × Obj)} {p : Pos} {D : Ends} {f : Flow} {s : Shared} (ok : X.Ok) (nd : X.N.Nodup) (at_ : X.N[i]? = some n) (loc : X.env.kindOf n = some .local)
    (q : SP (X.suite a ((a, oe) :: (X.pn ++ pins))) [] (letGo i D) f s) : wpAny (model X.prog X.w) X.A (do bindName X.env n .none; unbindBehindTheSuite X.env n p) (fun _ s' => SP X pins D f s') X.xe s := by
  match f, q with
  | .next, ⟨τ, G, J, z⟩ => exact gone_ok (J.unsuite ok) nd at_ loc fun _ I => ⟨_, G, I, z⟩
  | .brk, ⟨τ, G, J, z⟩ => exact gone_ok (J.unsuite ok) nd at_ loc fun _ I => ⟨_, G, I, z⟩
  | .cont, ⟨τ, G, J, z⟩ => exact gone_ok (J.unsuite ok) nd at_ loc fun _ I => ⟨_, G, I, z⟩
  | .ret _, ⟨v, τ, G, J, r, z⟩ => exact gone_ok (J.unsuite ok) nd at_ loc fun _ I => ⟨v, _, G, I, r, z⟩
/-- an error's object is no frame -/
theorem err_noframe {B h : Heap} {l : List Env} {a : Addr} {o : Obj} {vs : Array Value} (fr : h.FunFrames B l) (at_ : h.get? a = some o) (fields : o.data = .fields vs) : a ∉ frs l := fun m => by
  obtain ⟨_, u, eu, no⟩ := fr.mem m
  cases at_.symm.trans eu
  exact no _ fields
theorem ps_try_when {test : Expr} {yes : Value → Prop} {n : Str} {i : Nat} {body suite : List Stmt} {b₀ : Stmt} {p p' : Pos} {rest : List ExceptHandler} {tb : WX → TS} {ts : Addr → Value → Option Addr → TS}
    (stk : X.stack = X.env :: X.outer) (frm : X.env.frame = some X.env.locals) (nd : X.N.Nodup) (at_ : X.N[i]? = some n) (loc : X.env.kindOf n = some .local) (ask : Asks X test yes)
    (bod : ∀ (W : WX) (pn : List (Addr × Obj)) (xe : Value → Shared → Prop), Takes (X.tr pn xe) W → PSs (X.tr pn xe) body (tb W))
    (sui : ∀ (a : Addr) (oe : Obj) (cls : Value) (d : Option Addr) (pn : List (Addr × Obj)), Zc cls d oe → (∃ vs, oe.data = .fields vs) → PSs (X.suite a ((a, oe) :: pn)) (b₀ :: suite) (ts a cls d)) :
    PS X (.Try body (.ExceptHandler (some test) (some n) (b₀ :: suite) p' :: rest) [] [] p) (fun D σ H => tb (wWhen X.N.length yes i ts D) D σ H) where
  run pins s σ H D I rd := by
    have ok := I.ok
    have top : X.A.frames = some (X.env :: X.outer) := ok.frames.trans (congrArg some stk)
    refine wpAny_Try_except ?_
    let caught : Value → Shared → Prop := fun e s₁ => wpAny (model X.prog X.w) X.A (noteFrame e X.env) (fun _ s₂ => wpAny (model X.prog X.w) X.A (setFlight e none) (fun _ s₃ => wpAny (model X.prog X.w) X.A (handleBy e X.env (.ExceptHandler (some test) (some n) (b₀ :: suite) p' :: rest)) (SP X pins D) X.xe s₃) X.xe s₂) X.xe s₁
    have takes : Takes (X.tr (X.pn ++ pins) caught) (wWhen X.N.length yes i ts D) := by
      rintro _ s' ⟨a, B, sI, pins', τ, G, cls, d, rfl, J0, nb, up, sky, na, os, bare, isYes, go⟩
      have J : L2.Inv X pins τ G sI := J0.ofTry ok
      have sky1 : Sky B (X.env :: X.outer) a (Zc cls d) X.env.locals s'.heap := stk ▸ sky
      refine Sky.land (A := X.A) (Q := fun _ s₃ => wpAny (model X.prog X.w) X.A (handleBy (.ref a) X.env (.ExceptHandler (some test) (some n) (b₀ :: suite) p' :: rest)) (SP X pins D) X.xe s₃) Zc.steady top frm sky1 fun g fly upg => ?_
      have Jg : L2.Inv X pins τ G { s' with heap := g } := J.landed nb fly.1 (up.trans upg) os bare
      obtain ⟨oe, vs, here, isZ, fields⟩ := fly.there
      have outF := err_noframe fly.2.2.1 here fields
      have notL : a ≠ X.env.locals := fun z => outF (List.mem_filterMap.mpr ⟨X.env, .head _, frm.trans (congrArg some z.symm)⟩)
      have notFs : a ∉ X.fs := fun m => by
        obtain ⟨e, he, q⟩ := List.mem_filterMap.mp m
        exact outF (List.mem_filterMap.mpr ⟨e, .tail _ he, q⟩)
      refine wpAny_handleBy_cons (codeAny_handlers_test (ask a oe cls (X.pn ++ pins) _ τ G _ (Jg.suite here fields na notL notFs) here isZ.1 isYes fun v g2 add says => says.here ?_)) (fun z => by cases z)
      refine codeAny_handlers_suite_as (HandSPX.lands_againZ (fly_add fly add) fun g3 fly3 up3 => ?_)
      have J3 : L2.Inv X pins τ G { s' with heap := g3 } := J.landed nb fly3.1 (((up.trans upg).trans (Heap.UpToSlots.of_keeps add)).trans up3) os bare
      obtain ⟨oe3, vs3, here3, isZ3, fields3⟩ := fly3.there
      refine store_ok (X := X.suite a ((a, oe3) :: (X.pn ++ pins))) (v := .ref a) (J3.suite here3 fields3 na notL notFs) nd at_ (.inl loc) rfl (fun s5 S5 => ?_) (.inr loc)
      exact wpAny_mono ((sui a oe3 cls d (X.pn ++ pins) isZ3 ⟨_, fields3⟩).run [] s5 _ G _ S5 (go J.len a na)) (fun f s6 q => sp_named ok nd at_ loc q) fun _ _ z => z.elim
    refine wpAny_mono ((bod _ _ _ takes).run [] s σ H D (I.toTry _) rd) (fun f s1 q => ?_) fun _ _ z => z
    have q' := sp_tried ok q rfl
    match f, q' with
    | .next, q' => exact wpAny_execs_nil q'
    | .brk, q' => exact q'
    | .cont, q' => exact q'
    | .ret _, q' => exact q'
/-- the test is a tuple of four names of classes -/
theorem asks4 {x1 x2 x3 x4 : Str} {c1 c2 c3 c4 : Value} {p1 p2 p3 p4 tp : Pos} {kk : Nat} (n1 : Names X x1 c1) (n2 : Names X x2 c2) (n3 : Names X x3 c3) (n4 : Names X x4 c4) :
    Asks X (.Tuple [.Name x1 p1, .Name x2 p2, .Name x3 p3, .Name x4 p4] kk tp) (fun cls => PySem.W.exmAny X.K cls [c1, c2, c3, c4] = some true) := by
  intro a oe cls pn pins σ H s S here isC yes Q E done
  have name : ∀ {x : Str} {q : Pos} {c : Value} {R : Value → Shared → Prop}, Names X x c → R c s → wpAny (model X.prog X.w) (X.A.mark (some (.ref a))) (eval (.Name x q) X.env) R E s := fun {x q c R} ⟨g, nb, k⟩ r => by
    rcases k with m | ⟨m, bt, nn⟩
    · exact ld_glob (X := X.suite a ((a, oe) :: pn)) S g m r nb
    · exact ld_blt (X := X.suite a ((a, oe) :: pn)) S g m bt r nn nb
  refine wpAny_Tuple (wpAny_items_cons (name n1 (wpAny_items_cons (name n2 (wpAny_items_cons (name n3 (wpAny_items_cons (name n4 (wpAny_items_nil ⟨by rw [sizeLine_eq]; exact (by decide : 4 ≤ 16777216), ?_⟩)))))))))
  have add : ∀ b o, s.heap.get? b = some o → (s.heap.push { cls := .type "tuple", data := .seq [c1, c2, c3, c4].toArray }).get? b = some o := fun _ _ q => Heap.get?_push_of_some _ q
  have ty : PySem.W.Looks (model X.prog X.w) s.heap (typeOf (.ref a)) cls := fun A R E' s' k r => wpAny_typeOf_ref (k _ _ here) (isC ▸ r)
  exact done _ _ add (PySem.W.exm_tup4 (M := model X.prog X.w) (S.kIn.keeps add) (ty.keeps add) (Heap.get?_push_size s.heap rfl) yes)
end
end Wh

namespace Wh
open PySem PySem.Spec PyProof.Rows L2
/-! ### isinstance(e, c), e the exception that the suite holds, with fields -/
def rIsD (K : PySem.W.Frag) (a : Addr) (cls : Value) (d : Option Addr) : List V → Hp → VK → Prop := fun xs H Q => ∃ (D : Addr) (c : V) (cv : Value) (b : Bool) (dd : Addr) (fs : List (Str × V)), cls = .ref D ∧ L2.ExcC K D ∧ d = some dd ∧ H dd = some (.xd fs) ∧
  xs = [.ref a, c] ∧ (∀ u, RelV c u → u = cv) ∧ PySem.W.kitOne K (.ref D) cv = some b ∧ Q (.bl b) H
theorem call_isD {X : Cx} {a : Addr} {cls : Value} {d : Option Addr} {oe : Obj} {pn : List (Addr × Obj)} (hz : Zc cls d oe) (hf : ∃ vs, oe.data = .fields vs) : CallR (X.suite a ((a, oe) :: pn)) (.builtin "isinstance") (rIsD X.K a cls d) := by
  intro pins s σ H xs us Q I r h
  obtain ⟨D, c, cv, b, dd, fs, ec, C, ed, hdd, rfl, hcv, e, q⟩ := h
  subst ec
  subst ed
  cases r with
  | cons rx rr =>
    cases rr with
    | cons rt rr =>
      cases rr
      cases rx
      have ec := hcv _ rt
      subst ec
      obtain ⟨hget, _⟩ := I.pin (a, oe) (List.mem_append.mpr (.inl List.mem_cons_self))
      obtain ⟨vs, hv⟩ := hf
      have hx : ObjOk X.prog X.w H s.heap dd (.xd fs) := I.hok dd _ hdd
      obtain ⟨mA, hns, hr⟩ := hx
      obtain ⟨od, ho, hl⟩ := lookIn_ns hns
      have J : PySem.W.InstAt s.heap a oe D (some od) := ⟨hget, hz.1, by unfold PySem.W.notCls; rw [hv] <;> rfl, by rw [hz.2]; exact ho⟩
      have hcl : (PySem.W.clsIn X.K D).isSome = true := by
        obtain ⟨cd, hc, _⟩ := PySem.W.any_some C.hd
        rw [hc]
        rfl
      exact PySem.W.kia_one (PySem.W.kitx_exc hcl C.hg C.hk C.hs C.ha C.hn C.ht C.hm) I.kIn J e (fun z => nomatch z) fun tk => ⟨.bl b, H, I.tok tk, rfl, q⟩
def rReprS : List V → Hp → VK → Prop := fun xs H Q => ∃ x, xs = [V.str x] ∧ (reprText x).length ≤ sizeLine ∧ Q (.str (reprText x)) H
theorem call_repr_str {X : Cx} : CallR X (.builtin "repr") rReprS := by
  intro pins s σ H xs us Q I r h
  obtain ⟨x, rfl, hz, q⟩ := h
  obtain ⟨u, rfl, rx⟩ := vals1 r
  obtain ⟨t, rfl⟩ := rx
  exact PySem.P.repr_of_str ⟨.str _, H, I.tok _, ⟨_, rfl⟩, q⟩ hz
end Wh

namespace Wh
open PySem L2 PySem.Spec PyProof.Rows
/-! ### sorted(xs) of data that are alike: the one stable arrangement -/
def rSortD (K : PySem.W.Frag) : List V → Hp → VK → Prop := fun vs H Q => ∃ (a : Addr) (bs : List (V × PyData)), vs = [V.ref a] ∧ SqL K H a (bs.map (·.1)) ∧ (∀ b ∈ bs, Dp K H b.1 b.2) ∧
  PySem.W.AllAlike (bs.map (·.2)) ∧ PySem.W.Sortable (bs.map (·.2)) ∧ (∀ b ∈ bs, b.2.depth ≤ 8) ∧
  ∀ p, H p = none → Q (.ref p) (upd H p (.lst ((bs.mergeSort (PySem.W.dataLe false (·.2))).map (·.1))))
theorem each_vals : ∀ {bs : List (V × PyData)} {us : List Value}, Vals (bs.map (·.1)) us → PySem.W.EachIs (fun (v : Value) (b : V × PyData) => RelV b.1 v) us bs
  | [], _, .nil => .nil
  | _ :: _, _, .cons r t => .cons r (each_vals t)
theorem vals_each : ∀ {bs : List (V × PyData)} {us : List Value}, PySem.W.EachIs (fun (v : Value) (b : V × PyData) => RelV b.1 v) us bs → Vals (bs.map (·.1)) us
  | _, _, .nil => .nil
  | _, _, .cons r t => .cons r (vals_each t)
theorem each_reads {X : Cx} {pins : List (Addr × Obj)} {σ : L2.St} {H : Hp} {s : Shared} (I : Inv X pins σ H s) : ∀ {bs : List (V × PyData)} {us : List Value}, Vals (bs.map (·.1)) us → (∀ b ∈ bs, Dp X.K H b.1 b.2) →
    PySem.W.EachIs (fun (v : Value) (b : V × PyData) => ∃ as, Reads s.heap v b.2 as) us bs
  | [], _, .nil, _ => .nil
  | b :: bs, _, .cons r t, h => .cons (Dp.reads I b.2 b.1 _ (h b List.mem_cons_self) r) (each_reads I t fun c hc => h c (List.mem_cons_of_mem _ hc))
section
variable {X : Cx}
theorem cr_sortD (hu : X.A.units + 64 < cLine) : CallR X (.builtin "sorted") (rSortD X.K) := by
  intro pins s σ H vs us Q I r h
  obtain ⟨a, bs, rfl, hs, hd, hal, hk, hdp, q⟩ := h
  obtain ⟨its, rv, hl, hz⟩ := I.list hs
  obtain ⟨u, rfl, ru⟩ := vals1 r
  obtain rfl : u = Value.ref a := ru
  have hlen : its.length = bs.length := by rw [← rv.length, List.length_map]
  refine PySem.W.sorted_data (vs := its) (bs := bs) (enc := (·.2)) (R := fun (v : Value) (b : V × PyData) => RelV b.1 v) hl.isList (each_vals rv) (each_reads I rv hd) hal hk (by rw [List.length_map] at hz; exact hz) (fun b hb => ?_) fun out ho he => ?_
  · have h1 := hdp b hb
    omega
  · obtain ⟨ep, he'⟩ := PyProof.Rows.sortedAll_at s.heap its (List.toArray out)
    refine ⟨.ref _, upd H (s.heap.objs.size + 1) (.lst ((bs.mergeSort (PySem.W.dataLe false (·.2))).map (·.1))), I.laid (t' := s.toks) (fun _ _ => PyProof.Rows.sortedAll_old) (Nat.le_succ _) ⟨?_, out, ep, vals_each he, he'⟩, rfl, q _ (I.hok.fresh (Nat.le_succ _))⟩
    rw [List.length_map, (List.mergeSort_perm bs _).length_eq]
    rw [List.length_map] at hz
    exact hz
end
end Wh

namespace Wh
open PySem L2
/-! ### pairs of houses, ties -/
abbrev Pr := Nat × Nat
def prV (p : Pr) : List V := [.int (p.1 : Int), .int (p.2 : Int)]
structure Tie where
  a : Nat
  m : Nat
  b : Nat
  o : Nat
  deriving DecidableEq
def sgn (c : Nat) : Str := ⟨#[c]⟩
def tieV (t : Tie) : List V := [.int (t.a : Int), .str (sgn t.m), .int (t.b : Int), .str (sgn t.o)]
/-- a row of new tuples -/
def At {α : Type} (f : α → List V) (H : Hp) (ps : List (Addr × α)) : Prop := ∀ p ∈ ps, H p.1 = some (.tup (f p.2))
def refs {α : Type} (ps : List (Addr × α)) : List V := ps.map fun p => V.ref p.1
theorem refs_app {α : Type} (ps qs : List (Addr × α)) : refs (ps ++ qs) = refs ps ++ refs qs := List.map_append
theorem refs_len {α : Type} (ps : List (Addr × α)) : (refs ps).length = ps.length := List.length_map _
theorem At.mono {α : Type} {f : α → List V} {H H' : Hp} {ps : List (Addr × α)} (h : At f H ps) (k : ∀ b xs, H b = some (.tup xs) → H' b = some (.tup xs)) : At f H' ps := fun p hp => k _ _ (h p hp)
theorem At.same {α : Type} {f : α → List V} {H H' : Hp} {ps : List (Addr × α)} (h : At f H ps) (s : Same H H') : At f H' ps := h.mono fun b xs e => s b _ e
theorem At.snoc {α : Type} {f : α → List V} {H : Hp} {ps : List (Addr × α)} {p : Addr} {x : α} (h : At f H ps) (e : H p = some (.tup (f x))) : At f H (ps ++ [(p, x)]) := fun q hq => by
  rcases List.mem_append.mp hq with z | z
  · exact h q z
  · rw [List.mem_singleton.mp z]
    exact e
/-- tuples are never at a list's address -/
theorem But.tup {c : Addr} {H H' : Hp} (h : But c H H') {ys : List V} (hc : H c = some (.lst ys)) : ∀ b xs, H b = some (.tup xs) → H' b = some (.tup xs) := fun b xs e => h b _ e (ne_of e hc (by intro z; cases z))
theorem Cup.tup {c : Addr} {H H' : Hp} (hc : Cup H c) (h : But c H H') : ∀ b xs, H b = some (.tup xs) → H' b = some (.tup xs) := by
  obtain ⟨x, y, e⟩ := hc
  exact h.tup e
theorem At.but {α : Type} {f : α → List V} {H H' : Hp} {ps : List (Addr × α)} {c : Addr} (h : At f H ps) (hc : Cup H c) (b : But c H H') : At f H' ps := h.mono (hc.tup b)
theorem upd_tup {H : Hp} {l : Addr} {ys : List V} {o : HO} (hl : H l = some (.lst ys)) : ∀ b xs, H b = some (.tup xs) → upd H l o b = some (.tup xs) := fun b xs e => put_ne e (ne_of e hl (by intro z; cases z))
theorem Cup.of_lst {H : Hp} {c l : Addr} {o : HO} (h : Cup H c) (n : c ≠ l) : Cup (upd H l o) c := by
  obtain ⟨x, y, e⟩ := h
  exact ⟨x, y, put_ne e n⟩
theorem At.perm {α : Type} {f : α → List V} {H : Hp} {ps qs : List (Addr × α)} (h : At f H ps) (p : ps.Perm qs) : At f H qs := fun q hq => h q (p.mem_iff.mpr hq)
/-! ### drawn pairs -/
structure PairsOk (n : Nat) (qs : List Pr) : Prop where
  lt : ∀ q ∈ qs, q.1 < q.2 ∧ q.2 < n
  hang : ∀ h, 1 ≤ h → h < n → ∃ q ∈ qs, q.2 = h
  nd : qs.Nodup
theorem pairsOk_first {n : Nat} {qs : List Pr} (h1 : qs.map (·.2) = List.range' 1 (n - 1)) (h2 : ∀ q ∈ qs, q.1 < q.2) : PairsOk n qs := by
  refine ⟨fun q hq => ⟨h2 q hq, ?_⟩, fun h a b => ?_, ?_⟩
  · have m : q.2 ∈ qs.map (·.2) := List.mem_map_of_mem hq
    rw [h1, List.mem_range'] at m
    obtain ⟨i, hi, e⟩ := m
    omega
  · have m : h ∈ List.range' 1 (n - 1) := by
      rw [List.mem_range']
      exact ⟨h - 1, by omega, by omega⟩
    rw [← h1, List.mem_map] at m
    exact m
  · have nd : (qs.map (·.2)).Nodup := by
      rw [h1]
      exact List.nodup_range'
    exact List.Pairwise.of_map _ (fun a b h e => h (congrArg _ e)) nd
theorem PairsOk.perm {n : Nat} {qs rs : List Pr} (h : PairsOk n qs) (p : qs.Perm rs) : PairsOk n rs :=
  ⟨fun q hq => h.lt q (p.mem_iff.mpr hq), fun x a b => let ⟨q, hq, e⟩ := h.hang x a b; ⟨q, p.mem_iff.mp hq, e⟩, p.nodup_iff.mp h.nd⟩
theorem PairsOk.snoc {n : Nat} {qs : List Pr} (h : PairsOk n qs) {p : Pr} (h1 : p.1 < p.2) (h2 : p.2 < n) (h3 : p ∉ qs) : PairsOk n (qs ++ [p]) := by
  refine ⟨fun q hq => ?_, fun x a b => ?_, ?_⟩
  · rcases List.mem_append.mp hq with z | z
    · exact h.lt q z
    · rw [List.mem_singleton.mp z]
      exact ⟨h1, h2⟩
  · obtain ⟨q, hq, e⟩ := h.hang x a b
    exact ⟨q, List.mem_append_left _ hq, e⟩
  · exact nd_snoc h.nd h3
/-! ### data: ints, texts, None; tuples of them -/
def vD : V → PyData
  | .int i => .int i
  | .str x => .str x
  | _ => .none
def nb : V → Bool
  | .int _ => true
  | .str x => strOkB x
  | .non => true
  | _ => false
where strOkB (x : Str) : Bool := PyData.canLay0 (.str x)
theorem nb_str {x : Str} (h : PyData.canLay0 (.str x) = true) : nb (.str x) = true := h
theorem vD_eqv : ∀ {x y : V}, nb x = true → nb y = true → PyData.eqv (vD x) (vD y) = decide (x = y) := by
  intro x y hx hy
  cases x <;> cases y <;> first | (simp [nb] at hx; done) | (simp [nb] at hy; done) | (simp [vD, PyData.eqv]; done) | skip
  · rename_i i j
    show (i == j) = _
    by_cases e : i = j <;> simp [e]
  · rename_i i j
    show (i == j) = _
    by_cases e : i = j <;> simp [e]
theorem vD_lay {x : V} (h : nb x = true) : (vD x).canLay0 = true := by
  cases x <;> first | (simp [nb] at h; done) | exact h | simp [vD, PyData.canLay0]
theorem vD_depth (x : V) : (vD x).depth = 0 := by
  cases x <;> simp [vD, PyData.depth]
theorem vDs_eqv : ∀ {xs ys : List V}, xs.all nb = true → ys.all nb = true → PyData.eqvAll (xs.map vD) (ys.map vD) = decide (xs = ys)
  | [], [], _, _ => by simp [PyData.eqvAll]
  | [], _ :: _, _, _ => by simp [PyData.eqvAll]
  | _ :: _, [], _, _ => by simp [PyData.eqvAll]
  | x :: xs, y :: ys, hx, hy => by
    rw [List.all_cons, Bool.and_eq_true] at hx hy
    rw [List.map_cons, List.map_cons, PyData.eqvAll, vD_eqv hx.1 hy.1, vDs_eqv hx.2 hy.2]
    by_cases e1 : x = y
    · by_cases e2 : xs = ys
      · simp [e1, e2]
      · simp [e2]
    · simp [e1]
theorem vDs_lay : ∀ {xs : List V}, xs.all nb = true → PyData.canLayAll0 (xs.map vD) = true
  | [], _ => by simp [PyData.canLayAll0]
  | x :: xs, h => by
    rw [List.all_cons, Bool.and_eq_true] at h
    rw [List.map_cons, PyData.canLayAll0, vD_lay h.1, vDs_lay h.2]
    rfl
theorem vDs_depth : ∀ (xs : List V), PyData.depthAll (xs.map vD) = 0
  | [] => by simp [PyData.depthAll]
  | x :: xs => by
    rw [List.map_cons, PyData.depthAll, vD_depth, vDs_depth xs]
    rfl
theorem vDs_dp (K : PySem.W.Frag) (H : Hp) : ∀ {xs : List V}, xs.all nb = true → DpAll K H xs (xs.map vD)
  | [], _ => .nil
  | x :: xs, h => by
    rw [List.all_cons, Bool.and_eq_true] at h
    refine .cons ?_ (vDs_dp K H h.2)
    have h1 := h.1
    cases x <;> first | (simp [nb] at h1; done) | constructor
/-- a flat tuple -/
def tD (xs : List V) : PyData := .tuple (xs.map vD)
theorem tD_lay {xs : List V} (h : xs.all nb = true) : (tD xs).canLay0 = true := by
  show PyData.canLay0 (.tuple (xs.map vD)) = true
  rw [PyData.canLay0]
  exact vDs_lay h
theorem tD_depth (xs : List V) : (tD xs).depth = 1 := by
  show PyData.depth (.tuple (xs.map vD)) = 1
  rw [PyData.depth, vDs_depth]
theorem tD_shaped {xs : List V} (h : xs.all nb = true) : SeqAt.shaped (tD xs) = true := by
  show ((tD xs).canLay0 && decide ((tD xs).depth ≤ 64)) = true
  rw [tD_lay h, tD_depth]
  rfl
theorem tD_eqv {xs ys : List V} (hx : xs.all nb = true) (hy : ys.all nb = true) : PyData.eqv (tD xs) (tD ys) = decide (xs = ys) := by
  show PyData.eqv (.tuple (xs.map vD)) (.tuple (ys.map vD)) = _
  rw [PyData.eqv]
  exact vDs_eqv hx hy
theorem tD_dp (K : PySem.W.Frag) {H : Hp} {p : Addr} {xs : List V} (h : xs.all nb = true) (e : H p = some (.tup xs)) : Dp K H (.ref p) (tD xs) := .tup (SqT.of e) (vDs_dp K H h)
/-- rows of flat tuples -/
def rowD {α : Type} (f : α → List V) (ps : List (Addr × α)) : List PyData := ps.map fun p => tD (f p.2)
theorem rowD_dp {α : Type} {f : α → List V} (K : PySem.W.Frag) {H : Hp} : ∀ {ps : List (Addr × α)}, (∀ p ∈ ps, (f p.2).all nb = true) → At f H ps → DpAll K H (refs ps) (rowD f ps)
  | [], _, _ => .nil
  | p :: ps, hn, h => .cons (tD_dp K (hn p List.mem_cons_self) (h p List.mem_cons_self)) (rowD_dp K (fun q hq => hn q (List.mem_cons_of_mem _ hq)) fun q hq => h q (List.mem_cons_of_mem _ hq))
theorem rowD_lay {α : Type} {f : α → List V} : ∀ {ps : List (Addr × α)}, (∀ p ∈ ps, (f p.2).all nb = true) → PyData.canLayAll0 (rowD f ps) = true
  | [], _ => by simp [rowD, PyData.canLayAll0]
  | p :: ps, hn => by
    show PyData.canLayAll0 (tD (f p.2) :: rowD f ps) = true
    rw [PyData.canLayAll0, tD_lay (hn p List.mem_cons_self), rowD_lay fun q hq => hn q (List.mem_cons_of_mem _ hq)]
    rfl
theorem rowD_depth {α : Type} {f : α → List V} : ∀ (ps : List (Addr × α)), PyData.depthAll (rowD f ps) ≤ 1
  | [] => by simp [rowD, PyData.depthAll]
  | p :: ps => by
    show PyData.depthAll (tD (f p.2) :: rowD f ps) ≤ 1
    have h := rowD_depth (f := f) ps
    rw [PyData.depthAll, tD_depth]
    omega
theorem rowD_shaped {α : Type} {f : α → List V} {ps : List (Addr × α)} (hn : ∀ p ∈ ps, (f p.2).all nb = true) : SeqAt.shaped (.list (rowD f ps)) = true := by
  show (PyData.canLay0 (.list (rowD f ps)) && decide (PyData.depth (.list (rowD f ps)) ≤ 64)) = true
  have h := rowD_depth (f := f) ps
  rw [PyData.canLay0, PyData.depth, rowD_lay hn, decide_eq_true (by omega)]
  rfl
theorem rowD_any {α : Type} [DecidableEq α] {f : α → List V} (inj : ∀ a b, f a = f b → a = b) (x : α) (hx : (f x).all nb = true) : ∀ {ps : List (Addr × α)}, (∀ p ∈ ps, (f p.2).all nb = true) →
    ((rowD f ps).any fun z => PyData.eqv z (tD (f x))) = decide (x ∈ ps.map (·.2))
  | [], _ => rfl
  | p :: ps, hn => by
    show (PyData.eqv (tD (f p.2)) (tD (f x)) || (rowD f ps).any fun z => PyData.eqv z (tD (f x))) = _
    rw [rowD_any inj x hx fun q hq => hn q (List.mem_cons_of_mem _ hq), tD_eqv (hn p List.mem_cons_self) hx, List.map_cons]
    by_cases e : f p.2 = f x
    · rw [decide_eq_true e, inj _ _ e]
      simp
    · have n : ¬ x = p.2 := fun z => e (by rw [z])
      rw [decide_eq_false e, Bool.false_or]
      simp [n]
theorem rowD_any_iff {α : Type} {f : α → List V} (inj : ∀ a b, f a = f b → a = b) (x : α) (hx : (f x).all nb = true) {ps : List (Addr × α)} (hn : ∀ p ∈ ps, (f p.2).all nb = true) :
    ((rowD f ps).any fun z => PyData.eqv z (tD (f x))) = true ↔ x ∈ ps.map (·.2) := by
  classical
  rw [rowD_any inj x hx hn, decide_eq_true_iff]
theorem prV_nb (q : Pr) : (prV q).all nb = true := rfl
theorem prV_inj (a b : Pr) (h : prV a = prV b) : a = b := by
  obtain ⟨a1, a2⟩ := a
  obtain ⟨b1, b2⟩ := b
  simp [prV] at h
  simp
  omega
end Wh

namespace Wh
open PySem L2
/-! ### marks at houses -/
def letters : List Nat := [97, 98, 99, 100, 101, 102, 103, 104, 105, 106, 107, 108]
theorem letters_nd : letters.Nodup := by decide
def sV (c : Nat) : V := .str (sgn c)
def Tie.pr (t : Tie) : Pr := (t.a, t.b)
def endsAt (h : Nat) (t : Tie) : List Nat := (if t.a = h then [t.m] else []) ++ (if t.b = h then [t.o] else [])
def marksAt (h : Nat) (ts : List Tie) : List Nat := ts.flatMap (endsAt h)
theorem marksAt_snoc (h : Nat) (ts : List Tie) (t : Tie) : marksAt h (ts ++ [t]) = marksAt h ts ++ endsAt h t := by
  unfold marksAt
  rw [List.flatMap_append, List.flatMap_singleton]
theorem marksAt_len (h : Nat) : ∀ {ts : List Tie}, (∀ t ∈ ts, t.a < t.b) → (marksAt h ts).length ≤ ts.length
  | [], _ => Nat.le_refl _
  | t :: ts, hl => by
    have ih := marksAt_len h (ts := ts) fun u hu => hl u (List.mem_cons_of_mem _ hu)
    have h1 := hl t List.mem_cons_self
    show (endsAt h t ++ marksAt h ts).length ≤ ts.length + 1
    rw [List.length_append]
    have h2 : (endsAt h t).length ≤ 1 := by
      unfold endsAt
      by_cases e1 : t.a = h
      · have e2 : ¬ t.b = h := by omega
        rw [if_pos e1, if_neg e2]
        exact Nat.le_refl _
      · rw [if_neg e1]
        split <;> simp
    omega
theorem nd_sub_len {α : Type} [DecidableEq α] : ∀ {l s : List α}, l.Nodup → (∀ x ∈ l, x ∈ s) → l.length ≤ s.length
  | [], s, _, _ => Nat.zero_le _
  | x :: l, s, hn, hs => by
    have hx : x ∈ s := hs x List.mem_cons_self
    have ih := nd_sub_len (l := l) (s := s.erase x) (List.nodup_cons.mp hn).2 fun y hy => by
      have ne : y ≠ x := fun e => (List.nodup_cons.mp hn).1 (e ▸ hy)
      exact (List.mem_erase_of_ne ne).mpr (hs y (List.mem_cons_of_mem _ hy))
    have e := List.length_erase_of_mem hx
    have p : 0 < s.length := List.length_pos_of_mem hx
    show l.length + 1 ≤ s.length
    omega
/-- the letters that are not yet marks -/
def notIn (ms : List Nat) (c : Nat) : Bool := !ms.contains c
def free (ms : List Nat) : List Nat := letters.filter (notIn ms)
theorem filt_yes {l : List Nat} {p : Nat → Bool} {z : Nat} (h : p z = true) : (l ++ [z]).filter p = l.filter p ++ [z] := by
  rw [List.filter_append, List.filter_cons_of_pos h]
  rfl
theorem filt_no {l : List Nat} {p : Nat → Bool} {z : Nat} (h : p z = false) : (l ++ [z]).filter p = l.filter p := by
  rw [List.filter_append, List.filter_cons_of_neg (by rw [h]; exact Bool.false_ne_true), List.filter_nil, List.append_nil]
theorem free_pos {ms : List Nat} (h : ms.length < 12) : 1 ≤ (free ms).length := by
  rcases Nat.eq_zero_or_pos (free ms).length with z | z
  · exfalso
    have h2 : ∀ x ∈ letters, x ∈ ms := fun x hx => by
      by_cases q : x ∈ ms
      · exact q
      · have m : x ∈ free ms := List.mem_filter.mpr ⟨hx, by simp [notIn, q]⟩
        rw [List.eq_nil_of_length_eq_zero z] at m
        cases m
    have := nd_sub_len letters_nd h2
    have e : letters.length = 12 := rfl
    omega
  · exact z
theorem free_mem {ms : List Nat} {c : Nat} (h : c ∈ free ms) : c ∈ letters ∧ c ∉ ms := by
  have q := List.mem_filter.mp h
  exact ⟨q.1, by simpa [notIn] using q.2⟩
theorem inV_sV (c : Nat) (ms : List Nat) : inV (sV c) (ms.map sV) = ms.contains c := by
  unfold inV
  rw [List.any_map]
  induction ms with
  | nil => rfl
  | cons m ms ih =>
    rw [List.any_cons, List.contains_cons, ih]
    have e : ((fun y => eqV y (sV c)) ∘ sV) m = (c == m) := by
      show (sgn m == sgn c) = (c == m)
      by_cases q : c = m
      · rw [q, beq_self_eq_true, beq_self_eq_true]
      · have n : ¬ sgn m = sgn c := fun z => q (by
          have z2 := congrArg (fun s : Str => s.cps.toList) z
          simp [sgn] at z2
          omega)
        rw [beq_eq_false_iff_ne.mpr n, beq_eq_false_iff_ne.mpr q]
    rw [e]
theorem flat_sV (ms : List Nat) : (ms.map sV).all flatV = true := by
  rw [List.all_map, List.all_eq_true]
  intro _ _
  rfl
theorem letters_str : ("abcdefghijkl" : Str).cps = #[97, 98, 99, 100, 101, 102, 103, 104, 105, 106, 107, 108] := by decide +kernel
/-- xs[:k], k a natural number -/
theorem cut_to {xs : List V} {k : Nat} : cutV xs none (some (k : Int)) = xs.take k := by
  unfold cutV
  rw [HT.sIx_none, List.drop_zero]
  rw [show HT.sIx xs.length xs.length (some (k : Int)) = min k xs.length from HT.sIx_nat xs.length xs.length k]
  rw [Nat.sub_zero]
  by_cases h : k ≤ xs.length
  · rw [Nat.min_eq_left h]
  · rw [Nat.min_eq_right (by omega), List.take_length, List.take_of_length_le (by omega)]
/-- the state of the drawing: the cup, the list of lists of used marks, the told ties -/
structure Wk (H : Hp) (c u tl : Addr) (us : List Addr) (n : Nat) (ts : List (Addr × Tie)) : Prop where
  cup : Cup H c
  hu : H u = some (.lst (us.map V.ref))
  ul : us.length = n
  nd : (c :: u :: tl :: us).Nodup
  ht : H tl = some (.lst (refs ts))
  hA : At tieV H ts
  hm : ∀ (h : Nat) (a : Addr), us[h]? = some a → H a = some (.lst ((marksAt h (ts.map (·.2))).map sV))
end Wh

namespace Wh
open PySem L2
/-! ### sorted(rows of flat tuples) -/
theorem sort_rows {α : Type} {K : PySem.W.Frag} {H : Hp} {a : Addr} {Q : VK} (f : α → List V) (le : α → α → Bool) {ps : List (Addr × α)} (hl : SqL K H a (refs ps)) (hA : At f H ps) (hn : ∀ p ∈ ps, (f p.2).all nb = true)
    (hal : ∀ x y : α, PySem.W.alike (tD (f x)) (tD (f y)) = true) (hne : ∀ x : α, ∃ v r, f x = v :: r) (hle : ∀ x y : α, (!PySem.W.dataLt (tD (f y)) (tD (f x))) = le x y)
    (h : ∀ z, H z = none → Q (.ref z) (upd H z (.lst (refs (ps.mergeSort fun p q => le p.2 q.2))))) : rSortD K [.ref a] H Q := by
  refine ⟨a, ps.map fun p => (V.ref p.1, tD (f p.2)), rfl, ?_, ?_, ?_, ?_, ?_, fun z nz => ?_⟩
  · rw [List.map_map]
    exact hl
  · intro b hb
    obtain ⟨p, hp, rfl⟩ := List.mem_map.mp hb
    exact tD_dp K (hn p hp) (hA p hp)
  · intro d hd d' hd'
    rw [List.map_map] at hd hd'
    obtain ⟨p, hp, rfl⟩ := List.mem_map.mp hd
    obtain ⟨q, hq, rfl⟩ := List.mem_map.mp hd'
    exact hal p.2 q.2
  · refine .inl fun d hd => ?_
    rw [List.map_map] at hd
    obtain ⟨p, hp, rfl⟩ := List.mem_map.mp hd
    obtain ⟨v, r, e⟩ := hne p.2
    exact ⟨vD v, r.map vD, by show PyData.tuple ((f p.2).map vD) = _; rw [e]; rfl⟩
  · intro b hb
    obtain ⟨p, hp, rfl⟩ := List.mem_map.mp hb
    show (tD (f p.2)).depth ≤ 8
    rw [tD_depth]
    decide
  · have e : ((ps.map fun p => (V.ref p.1, tD (f p.2))).mergeSort (PySem.W.dataLe false (·.2))).map (·.1) = refs (ps.mergeSort fun p q => le p.2 q.2) := by
      rw [← PySem.W.sort_maps (r := fun p q : Addr × α => le p.2 q.2) (s := PySem.W.dataLe false (·.2)) (fun p : Addr × α => (V.ref p.1, tD (f p.2))) (fun p _ q _ => ?_), List.map_map]
      · rfl
      · rw [PySem.W.dataLe_eq]
        exact (hle p.2 q.2).symm
    rw [e]
    exact h z nz
/-! ### pairs by order -/
def prLe (x y : Pr) : Bool := decide (x.1 < y.1 ∨ (x.1 = y.1 ∧ x.2 ≤ y.2))
theorem prLe_iff {x y : Pr} : prLe x y = true ↔ x.1 < y.1 ∨ (x.1 = y.1 ∧ x.2 ≤ y.2) := decide_eq_true_iff
theorem prLe_data (x y : Pr) : (!PySem.W.dataLt (tD (prV y)) (tD (prV x))) = prLe x y := by
  have h := congrFun (congrFun (PySem.W.dataLe_ii (β := Pr) (fun p => (p.1 : Int)) (fun p => (p.2 : Int))) x) y
  rw [PySem.W.dataLe_eq] at h
  refine Eq.trans h ?_
  unfold prLe
  congr 1
  simp only [eq_iff_iff]
  omega
theorem prLe_trans (a b c : Pr) (h1 : prLe a b = true) (h2 : prLe b c = true) : prLe a c = true := by
  rw [prLe_iff] at *
  omega
theorem prLe_total (a b : Pr) : (prLe a b || prLe b a) = true := by
  rw [Bool.or_eq_true, prLe_iff, prLe_iff]
  omega
theorem pr_alike (x y : Pr) : PySem.W.alike (tD (prV x)) (tD (prV y)) = true := by
  show PySem.W.alike (.tuple [.int _, .int _]) (.tuple [.int _, .int _]) = true
  simp [PySem.W.alike, PySem.W.alikeAll]
/-- x strictly ahead of y -/
def PrLt (x y : Pr) : Prop := x.1 < y.1 ∨ (x.1 = y.1 ∧ x.2 < y.2)
theorem sorted_prs (ps : List (Addr × Pr)) (hn : (ps.map (·.2)).Nodup) : ((ps.mergeSort fun p q => prLe p.2 q.2).map (·.2)).Pairwise PrLt ∧ (ps.mergeSort fun p q => prLe p.2 q.2).Perm ps := by
  have hp := List.mergeSort_perm ps fun p q => prLe p.2 q.2
  refine ⟨?_, hp⟩
  have hs := List.pairwise_mergeSort (le := fun p q : Addr × Pr => prLe p.2 q.2) (fun a b c => prLe_trans a.2 b.2 c.2) (fun a b => prLe_total a.2 b.2) ps
  have hn2 : ((ps.mergeSort fun p q => prLe p.2 q.2).map (·.2)).Nodup := (hp.map _).nodup_iff.mpr hn
  generalize (ps.mergeSort fun p q => prLe p.2 q.2) = qs at hs hn2
  rw [List.pairwise_map]
  have hn3 : qs.Pairwise fun a b => a.2 ≠ b.2 := List.pairwise_map.mp hn2
  refine (hs.and hn3).imp fun {a b} ⟨h1, h2⟩ => ?_
  rw [prLe_iff] at h1
  unfold PrLt
  have : ¬ (a.2.1 = b.2.1 ∧ a.2.2 = b.2.2) := fun ⟨e1, e2⟩ => h2 (Prod.ext e1 e2)
  omega
/-- a drawn web: its ties in the order of their houses -/
structure Told (n : Nat) (ts : List Tie) : Prop where
  n2 : 2 ≤ n
  n8 : n ≤ 8
  lt : ∀ t ∈ ts, t.a < t.b ∧ t.b < n
  hang : ∀ h, 1 ≤ h → h < n → ∃ t ∈ ts, t.b = h
  srt : (ts.map Tie.pr).Pairwise PrLt
  let_ : ∀ t ∈ ts, t.m ∈ letters ∧ t.o ∈ letters
  uniq : ∀ h, (marksAt h ts).Nodup
  len : ts.length ≤ 9
theorem refs_get {α : Type} {ps : List (Addr × α)} {k : Nat} {x : V} (h : (refs ps)[k]? = some x) : ∃ p, ps[k]? = some p ∧ x = V.ref p.1 := by
  unfold refs at h
  rw [List.getElem?_map] at h
  obtain ⟨p, hp, e⟩ := Option.map_eq_some_iff.mp h
  exact ⟨p, hp, e.symm⟩
/-- at a stands a list of some letters, none of ms, one at least -/
structure FreeAt (H : Hp) (c a : Addr) (xs ms : List Nat) : Prop where
  at_ : H a = some (.lst (xs.map sV))
  ne : a ≠ c
  pos : 1 ≤ xs.length
  most : xs.length ≤ 12
  mem : ∀ z ∈ xs, z ∈ letters ∧ z ∉ ms
theorem FreeAt.but {H H' : Hp} {c a : Addr} {xs ms : List Nat} (f : FreeAt H c a xs ms) (b : But c H H') : FreeAt H' c a xs ms := ⟨b _ _ f.at_ f.ne, f.ne, f.pos, f.most, f.mem⟩
theorem Wk.upd_new {H : Hp} {c u tl : Addr} {us : List Addr} {n : Nat} {ts : List (Addr × Tie)} {p : Addr} {o : HO} (w : Wk H c u tl us n ts) (np : H p = none) : Wk (upd H p o) c u tl us n ts :=
  ⟨w.cup.put np, put_old w.hu np, w.ul, w.nd, put_old w.ht np, w.hA.same (same_upd np), fun h a e => put_old (w.hm h a e) np⟩
theorem Wk.but {H H' : Hp} {c u tl : Addr} {us : List Addr} {n : Nat} {ts : List (Addr × Tie)} (w : Wk H c u tl us n ts) (b : But c H H') (hc : Cup H' c) : Wk H' c u tl us n ts := by
  have nd := w.nd
  rw [List.nodup_cons, List.nodup_cons, List.nodup_cons] at nd
  obtain ⟨h1, h2, h3, h4⟩ := nd
  have cu : u ≠ c := fun e => h1 (by simp [e])
  have ct : tl ≠ c := fun e => h1 (by simp [e])
  have cs : ∀ a ∈ us, a ≠ c := fun a ha e => h1 (by simp [← e, ha])
  exact ⟨hc, b _ _ w.hu cu, w.ul, w.nd, b _ _ w.ht ct, w.hA.but w.cup b, fun h a e => b _ _ (w.hm h a e) (cs a (List.mem_of_getElem? e))⟩
theorem Wk.dist {H : Hp} {c u tl : Addr} {us : List Addr} {n : Nat} {ts : List (Addr × Tie)} (w : Wk H c u tl us n ts) {h : Nat} {a : Addr} (e : us[h]? = some a) : a ≠ c ∧ a ≠ u ∧ a ≠ tl := by
  have nd := w.nd
  rw [List.nodup_cons, List.nodup_cons, List.nodup_cons] at nd
  obtain ⟨h1, h2, h3, h4⟩ := nd
  have m := List.mem_of_getElem? e
  exact ⟨fun z => h1 (by simp [← z, m]), fun z => h2 (by simp [← z, m]), fun z => h3 (by simp [← z, m])⟩
theorem Wk.us_nd {H : Hp} {c u tl : Addr} {us : List Addr} {n : Nat} {ts : List (Addr × Tie)} (w : Wk H c u tl us n ts) : us.Nodup ∧ c ≠ u ∧ c ≠ tl ∧ u ≠ tl := by
  have nd := w.nd
  rw [List.nodup_cons, List.nodup_cons, List.nodup_cons] at nd
  obtain ⟨h1, h2, h3, h4⟩ := nd
  exact ⟨h4, fun z => h1 (by simp [z]), fun z => h1 (by simp [z]), fun z => h2 (by simp [z])⟩
theorem endsAt_a {t : Tie} (h : t.a ≠ t.b) : endsAt t.a t = [t.m] := by
  unfold endsAt
  rw [if_pos rfl, if_neg (fun e => h e.symm)]
  rfl
theorem endsAt_b {t : Tie} (h : t.a ≠ t.b) : endsAt t.b t = [t.o] := by
  unfold endsAt
  rw [if_neg h, if_pos rfl]
  rfl
theorem endsAt_no {h : Nat} {t : Tie} (h1 : h ≠ t.a) (h2 : h ≠ t.b) : endsAt h t = [] := by
  unfold endsAt
  rw [if_neg (fun e => h1 e.symm), if_neg (fun e => h2 e.symm)]
  rfl
/-- one more tie is told -/
theorem Wk.step {H : Hp} {c u tl : Addr} {us : List Addr} {n : Nat} {ts : List (Addr × Tie)} (w : Wk H c u tl us n ts) (t : Tie) (ne : t.a ≠ t.b) {a1 a2 p : Addr} (h1 : us[t.a]? = some a1) (h2 : us[t.b]? = some a2)
    (np : (upd (upd H a1 (.lst ((marksAt t.a (ts.map (·.2))).map sV ++ [sV t.m]))) a2 (.lst ((marksAt t.b (ts.map (·.2))).map sV ++ [sV t.o]))) p = none) :
    Wk (upd (upd (upd (upd H a1 (.lst ((marksAt t.a (ts.map (·.2))).map sV ++ [sV t.m]))) a2 (.lst ((marksAt t.b (ts.map (·.2))).map sV ++ [sV t.o]))) p (.tup (tieV t))) tl (.lst (refs ts ++ [.ref p]))) c u tl us n (ts ++ [(p, t)]) := by
  obtain ⟨d1, d2, d3⟩ := w.dist h1
  obtain ⟨e1, e2, e3⟩ := w.dist h2
  obtain ⟨und, cu, ct, ut⟩ := w.us_nd
  have n12 : a1 ≠ a2 := fun z => ne (nd_ix und h1 (by rw [z]; exact h2))
  have np2 := new_of np
  have np3 := new_of np2
  have keep : ∀ {b o}, H b = some o → b ≠ a1 → b ≠ a2 → b ≠ tl → (upd (upd (upd (upd H a1 (.lst ((marksAt t.a (ts.map (·.2))).map sV ++ [sV t.m]))) a2 (.lst ((marksAt t.b (ts.map (·.2))).map sV ++ [sV t.o]))) p (.tup (tieV t))) tl (.lst (refs ts ++ [.ref p]))) b = some o := fun {b o} e x1 x2 x3 =>
    put_ne (put_ne (put_ne (put_ne e x1) x2) (ne_of_none e np3)) x3
  have ptl : p ≠ tl := (ne_of_none w.ht np3).symm
  refine ⟨?_, keep w.hu (fun z => d2 z.symm) (fun z => e2 z.symm) ut, w.ul, w.nd, ?_, ?_, fun h a e => ?_⟩
  · obtain ⟨x, y, e⟩ := w.cup
    exact ⟨x, y, keep e (fun z => d1 z.symm) (fun z => e1 z.symm) ct⟩
  · rw [upd_same, refs_app]
    rfl
  · refine At.snoc (fun q hq => ?_) (put_ne upd_same ptl)
    have e := w.hA q hq
    exact keep e (ne_of e (w.hm _ _ h1) (by intro z; cases z)) (ne_of e (w.hm _ _ h2) (by intro z; cases z)) (ne_of e w.ht (by intro z; cases z))
  · obtain ⟨f1, f2, f3⟩ := w.dist e
    rw [List.map_append, show [(p, t)].map (·.2) = [t] from rfl, marksAt_snoc, List.map_append]
    by_cases ha : h = t.a
    · have ea : a = a1 := Option.some.inj ((ha ▸ e).symm.trans h1)
      rw [ha, endsAt_a ne, ea]
      exact put_ne (put_ne (put_ne upd_same n12) (ne_new np2)) d3
    · by_cases hb : h = t.b
      · have eb : a = a2 := Option.some.inj ((hb ▸ e).symm.trans h2)
        rw [hb, endsAt_b ne, eb]
        exact put_ne (put_ne upd_same (ne_new np)) e3
      · rw [endsAt_no ha hb, List.map_nil, List.append_nil]
        exact keep (w.hm h a e) (fun z => ha (nd_ix und e (by rw [z]; exact h1))) (fun z => hb (nd_ix und e (by rw [z]; exact h2))) f3
end Wh

namespace Wh
open PySem L2
/-! ### the texts of ties -/
theorem num_str : ∀ a : Nat, a < 10 → ((toString (a : Int) : String) : Str) = sgn (48 + a) := by decide +kernel
theorem num_log {a : Nat} (h : a < 1000) : ((a : Int)).natAbs.log2 < 1920 := by
  have e : ((a : Int)).natAbs = a := rfl
  rw [e]
  by_cases z : a = 0
  · rw [z]
    decide
  · exact Nat.lt_of_le_of_lt (Nat.le_of_lt_succ (Nat.lt_succ_of_lt ((Nat.log2_lt z).mpr (Nat.lt_of_lt_of_le h (by decide : 1000 ≤ 2 ^ 10))))) (by decide)
def lineL (t : Tie) : List Nat := [48 + t.a, 32, t.m, 32, 48 + t.b, 32, t.o]
def lineS (t : Tie) : Str := SX.S (lineL t)
def textL (ts : List Tie) : List Nat := TL.joinL [10] (ts.map lineL)
def webS (ts : List Tie) : Str := SX.S (textL ts)
def partsS (t : Tie) : List Str := [sgn (48 + t.a), sgn t.m, sgn (48 + t.b), sgn t.o]
theorem line_join (t : Tie) : Txt.join (" " : Str) (partsS t) = lineS t := by
  have e : partsS t = [[48 + t.a], [t.m], [48 + t.b], [t.o]].map SX.S := rfl
  have e2 : (" " : Str) = SX.S [32] := by decide +kernel
  rw [e, e2, SX.join_S]
  rfl
theorem text_join (ts : List Tie) : Txt.join ("\n" : Str) (ts.map lineS) = webS ts := by
  have e : ts.map lineS = (ts.map lineL).map SX.S := by rw [List.map_map]; rfl
  have e2 : ("\n" : Str) = SX.S [10] := by decide +kernel
  rw [e, e2, SX.join_S]
  rfl
theorem lineS_len (t : Tie) : (lineS t).length = 7 := by
  unfold lineS
  rw [SX.S_len]
  rfl
theorem lines_sum : ∀ ts : List Tie, ((ts.map lineS).map (·.length)).sum = 7 * ts.length
  | [] => rfl
  | t :: ts => by
    rw [List.map_cons, List.map_cons, List.sum_cons, lines_sum ts, lineS_len, List.length_cons]
    omega
theorem textL_len : ∀ ts : List Tie, (textL ts).length ≤ 8 * ts.length
  | [] => Nat.le_refl _
  | [t] => by
    show (lineL t).length ≤ 8
    show 7 ≤ 8
    omega
  | t :: u :: r => by
    have ih := textL_len (u :: r)
    show (lineL t ++ ([10] ++ textL (u :: r))).length ≤ _
    rw [List.length_append, List.length_append]
    have e : (lineL t).length = 7 := rfl
    have e2 : ([10] : List Nat).length = 1 := rfl
    have e3 : (t :: u :: r).length = (u :: r).length + 1 := rfl
    omega
theorem webS_len (ts : List Tie) : (webS ts).length ≤ 8 * ts.length := by
  unfold webS
  rw [SX.S_len]
  exact textL_len ts
theorem no_nl {t : Tie} (ha : t.a < 10) (hb : t.b < 10) (hm : t.m ∈ letters) (ho : t.o ∈ letters) : 10 ∉ lineL t := by
  have big : ∀ z ∈ letters, 97 ≤ z ∧ z ≤ 108 := by decide
  have h1 := big _ hm
  have h2 := big _ ho
  unfold lineL
  simp only [List.mem_cons, List.not_mem_nil, or_false]
  omega
theorem text_split {ts : List Tie} (hne : ts ≠ []) (h : ∀ t ∈ ts, 10 ∉ lineL t) : Txt.split (webS ts) ("\n" : Str) = ts.map lineS := by
  rw [← text_join]
  have e2 : ("\n" : Str) = SX.S [10] := by decide +kernel
  rw [e2]
  refine TL.split_join (s := 10) (S := []) rfl (by decide +kernel) (by simpa using hne) fun p hp => ?_
  obtain ⟨t, ht, rfl⟩ := List.mem_map.mp hp
  exact h t ht
theorem line_split {t : Tie} (hm : t.m ∈ letters) (ho : t.o ∈ letters) : Txt.split (lineS t) (" " : Str) = partsS t := by
  have big : ∀ z ∈ letters, 97 ≤ z ∧ z ≤ 108 := by decide
  have h1 := big _ hm
  have h2 := big _ ho
  rw [← line_join]
  have e2 : (" " : Str) = SX.S [32] := by decide +kernel
  rw [e2]
  refine TL.split_join (s := 32) (S := []) rfl (by decide +kernel) (by simp [partsS]) fun p hp => ?_
  unfold partsS at hp
  simp only [List.mem_cons, List.not_mem_nil, or_false] at hp
  have sg : ∀ z : Nat, TL.tl (sgn z) = [z] := fun _ => rfl
  rcases hp with rfl | rfl | rfl | rfl <;> (rw [sg]; simp; omega)
theorem joinL_mem {x : Nat} : ∀ {ls : List (List Nat)}, x ∈ TL.joinL [10] ls → x = 10 ∨ ∃ l ∈ ls, x ∈ l
  | [], h => by cases h
  | [l], h => .inr ⟨l, List.mem_cons_self, h⟩
  | l :: m :: r, h => by
    have h' : x ∈ l ++ ([10] ++ TL.joinL [10] (m :: r)) := h
    rcases List.mem_append.mp h' with z | z
    · exact .inr ⟨l, List.mem_cons_self, z⟩
    · rcases List.mem_append.mp z with z | z
      · exact .inl (List.mem_singleton.mp z)
      · rcases joinL_mem z with z | ⟨k, hk, z⟩
        · exact .inl z
        · exact .inr ⟨k, List.mem_cons_of_mem _ hk, z⟩
theorem no_unread {ts : List Tie} (h : ∀ t ∈ ts, t.a < 10 ∧ t.b < 10 ∧ t.m ∈ letters ∧ t.o ∈ letters) : 63 ∉ (webS ts).cps.toList := fun z => by
  have big : ∀ z ∈ letters, 97 ≤ z ∧ z ≤ 108 := by decide
  have z' : 63 ∈ textL ts := z
  rcases joinL_mem z' with e | ⟨l, hl, e⟩
  · omega
  · obtain ⟨t, ht, rfl⟩ := List.mem_map.mp hl
    obtain ⟨ha, hb, hm, ho⟩ := h t ht
    have h1 := big _ hm
    have h2 := big _ ho
    unfold lineL at e
    simp only [List.mem_cons, List.not_mem_nil, or_false] at e
    omega
end Wh

namespace Wh
open PySem L2
/-! ### webs, their ties in any order -/
structure WebOk (n : Nat) (ts : List Tie) : Prop where
  n2 : 2 ≤ n
  n10 : n ≤ 10
  lt : ∀ t ∈ ts, t.a < t.b ∧ t.b < n
  hang : ∀ S : Nat → Prop, S 0 → (∀ t ∈ ts, S t.a ↔ S t.b) → ∀ h, h < n → S h
  pnd : (ts.map Tie.pr).Nodup
  let_ : ∀ t ∈ ts, t.m ∈ letters ∧ t.o ∈ letters
  uniq : ∀ h, (marksAt h ts).Nodup
  len : ts.length ≤ 100
/-- all houses hang together where each has a tie to a lesser one -/
theorem hang_low {n : Nat} {ts : List Tie} (lt : ∀ t ∈ ts, t.a < t.b ∧ t.b < n) (low : ∀ h, 1 ≤ h → h < n → ∃ t ∈ ts, t.b = h) : ∀ S : Nat → Prop, S 0 → (∀ t ∈ ts, S t.a ↔ S t.b) → ∀ h, h < n → S h := by
  intro S s0 cl h
  induction h using Nat.strongRecOn with
  | _ h ih =>
    intro hn
    by_cases h0 : h = 0
    · rw [h0]
      exact s0
    · obtain ⟨t, ht, e⟩ := low h (by omega) hn
      have l := (lt t ht).1
      rw [← e]
      exact (cl t ht).mp (ih t.a (by omega) (by omega))
theorem prLt_ne {x y : Pr} (h : PrLt x y) : x ≠ y := fun e => by
  subst e
  unfold PrLt at h
  omega
theorem Told.ok {n : Nat} {ts : List Tie} (h : Told n ts) : WebOk n ts :=
  ⟨h.n2, by have := h.n8; omega, h.lt, hang_low h.lt h.hang, h.srt.imp prLt_ne, h.let_, h.uniq, by have := h.len; omega⟩
theorem marksAt_perm {ts us : List Tie} (p : ts.Perm us) (h : Nat) : (marksAt h ts).Perm (marksAt h us) := p.flatMap_right _
theorem WebOk.perm {n : Nat} {ts us : List Tie} (w : WebOk n ts) (p : ts.Perm us) : WebOk n us :=
  ⟨w.n2, w.n10, fun t ht => w.lt t (p.mem_iff.mpr ht), fun S s0 cl => w.hang S s0 fun t ht => cl t (p.mem_iff.mp ht), (p.map _).nodup_iff.mp w.pnd, fun t ht => w.let_ t (p.mem_iff.mpr ht), fun h => (marksAt_perm p h).nodup_iff.mp (w.uniq h), by rw [← p.length_eq]; exact w.len⟩
theorem WebOk.ne {n : Nat} {ts : List Tie} (w : WebOk n ts) : ts ≠ [] := fun e => by
  subst e
  have z := w.hang (fun x => x = 0) rfl (fun t ht => (by cases ht)) 1 w.n2
  cases z
theorem WebOk.top {n : Nat} {ts : List Tie} (w : WebOk n ts) : ∃ t ∈ ts, t.b + 1 = n := by
  have := w.n2
  refine Classical.byContradiction fun no => ?_
  refine w.hang (fun x => x ≠ n - 1) (show 0 ≠ n - 1 by omega) (fun t ht => ?_) (n - 1) (by omega) rfl
  have l := w.lt t ht
  have nb : t.b + 1 ≠ n := fun e => no ⟨t, ht, e⟩
  exact ⟨fun _ => show t.b ≠ n - 1 by omega, fun _ => show t.a ≠ n - 1 by omega⟩
theorem letters_big : ∀ z ∈ letters, 97 ≤ z ∧ z ≤ 108 := by decide
theorem tieV_nb {t : Tie} (hm : t.m ∈ letters) (ho : t.o ∈ letters) : (tieV t).all nb = true := by
  have h1 := letters_big _ hm
  have h2 := letters_big _ ho
  have e : ∀ z : Nat, z ≤ 108 → PyData.canLay0 (.str (sgn z)) = true := fun z hz => by
    rw [PyData.canLay0]
    show (sgn z).cps.all (· < 0x110000) = true
    simp [sgn]
    omega
  show (true && (nb (.str (sgn t.m)) && (true && (nb (.str (sgn t.o)) && true)))) = true
  rw [nb_str (e _ h1.2), nb_str (e _ h2.2)]
  rfl
theorem sgn_inj {a b : Nat} (h : sgn a = sgn b) : a = b := by
  have z := congrArg (fun s : Str => s.cps.toList) h
  simp [sgn] at z
  omega
theorem tieV_inj (x y : Tie) (h : tieV x = tieV y) : x = y := by
  obtain ⟨a, m, b, o⟩ := x
  obtain ⟨a2, m2, b2, o2⟩ := y
  unfold tieV at h
  injection h with h1 h
  injection h with h2 h
  injection h with h3 h
  injection h with h4 _
  injection h1 with h1
  injection h2 with h2
  injection h3 with h3
  injection h4 with h4
  have e2 := sgn_inj h2
  have e4 := sgn_inj h4
  have e1 : a = a2 := by
    have : (a : Int) = (a2 : Int) := h1
    omega
  have e3 : b = b2 := by
    have : (b : Int) = (b2 : Int) := h3
    omega
  subst e1 e2 e3 e4
  rfl
/-! ### doors: for each house a dict -/
def endsD (h : Nat) (t : Tie) : List (Nat × Nat) := (if t.a = h then [(t.m, t.b)] else []) ++ (if t.b = h then [(t.o, t.a)] else [])
def doorsAt (h : Nat) (ts : List Tie) : List (Nat × Nat) := ts.flatMap (endsD h)
def kD (d : Nat × Nat) : Key × V := (Sum.inr (sgn d.1), V.int (d.2 : Int))
def doorsK (h : Nat) (ts : List Tie) : List (Key × V) := (doorsAt h ts).map kD
theorem endsD_fst (h : Nat) (t : Tie) : (endsD h t).map (·.1) = endsAt h t := by
  unfold endsD endsAt
  rw [List.map_append]
  congr 1 <;> split <;> rfl
theorem doorsAt_fst (h : Nat) : ∀ ts : List Tie, (doorsAt h ts).map (·.1) = marksAt h ts
  | [] => rfl
  | t :: ts => by
    show (endsD h t ++ doorsAt h ts).map (·.1) = endsAt h t ++ marksAt h ts
    rw [List.map_append, endsD_fst, doorsAt_fst h ts]
theorem doorsAt_snoc (h : Nat) (ts : List Tie) (t : Tie) : doorsAt h (ts ++ [t]) = doorsAt h ts ++ endsD h t := by
  unfold doorsAt
  rw [List.flatMap_append, List.flatMap_singleton]
theorem doorsK_keys (h : Nat) (ts : List Tie) : (doorsK h ts).map (·.1) = (marksAt h ts).map fun m => (Sum.inr (sgn m) : Key) := by
  rw [← doorsAt_fst]
  unfold doorsK
  rw [List.map_map, List.map_map]
  rfl
theorem doorsK_len (h : Nat) (ts : List Tie) : (doorsK h ts).length = (marksAt h ts).length := by
  have e := congrArg List.length (doorsK_keys h ts)
  rw [List.length_map, List.length_map] at e
  exact e
theorem endsD_a {t : Tie} (h : t.a ≠ t.b) : endsD t.a t = [(t.m, t.b)] := by
  unfold endsD
  rw [if_pos rfl, if_neg (fun e => h e.symm)]
  rfl
theorem endsD_b {t : Tie} (h : t.a ≠ t.b) : endsD t.b t = [(t.o, t.a)] := by
  unfold endsD
  rw [if_neg h, if_pos rfl]
  rfl
theorem endsD_no {h : Nat} {t : Tie} (h1 : h ≠ t.a) (h2 : h ≠ t.b) : endsD h t = [] := by
  unfold endsD
  rw [if_neg (fun e => h1 e.symm), if_neg (fun e => h2 e.symm)]
  rfl
structure Dr (H : Hp) (dl : Addr) (ds : List Addr) (n : Nat) (ts : List Tie) : Prop where
  hl : H dl = some (.lst (ds.map V.ref))
  len : ds.length = n
  nd : (dl :: ds).Nodup
  hd : ∀ (h : Nat) (a : Addr), ds[h]? = some a → H a = some (.dK (doorsK h ts))
theorem Dr.same {H H' : Hp} {dl : Addr} {ds : List Addr} {n : Nat} {ts : List Tie} (d : Dr H dl ds n ts) (s : Same H H') : Dr H' dl ds n ts := ⟨s _ _ d.hl, d.len, d.nd, fun h a e => s _ _ (d.hd h a e)⟩
/-- a key that is not yet there is put behind -/
theorem put_mark {h : Nat} {ts : List Tie} {m : Nat} (v : V) (hm : m ∉ marksAt h ts) : putK (doorsK h ts) (Sum.inr (sgn m) : Key) v = doorsK h ts ++ [(Sum.inr (sgn m), v)] := by
  refine putK_new _ ?_
  cases e : valV (doorsK h ts) (Sum.inr (sgn m) : Key) with
  | none => rfl
  | some u =>
    have q := valV_in e
    rw [doorsK_keys, List.mem_map] at q
    obtain ⟨m2, h2, e2⟩ := q
    have e3 := sgn_inj (Sum.inr.inj e2)
    exact absurd (e3 ▸ h2) hm
theorem Dr.step {H : Hp} {dl : Addr} {ds : List Addr} {n : Nat} {ts : List Tie} (w : Dr H dl ds n ts) (t : Tie) (ne : t.a ≠ t.b) {a1 a2 : Addr} (h1 : ds[t.a]? = some a1) (h2 : ds[t.b]? = some a2) :
    Dr (upd (upd H a1 (.dK (doorsK t.a ts ++ [kD (t.m, t.b)]))) a2 (.dK (doorsK t.b ts ++ [kD (t.o, t.a)]))) dl ds n (ts ++ [t]) := by
  obtain ⟨h3, und⟩ := List.nodup_cons.mp w.nd
  have n12 : a1 ≠ a2 := fun z => ne (nd_ix und h1 (by rw [z]; exact h2))
  have d1 : dl ≠ a1 := fun z => h3 (z ▸ List.mem_of_getElem? h1)
  have d2 : dl ≠ a2 := fun z => h3 (z ▸ List.mem_of_getElem? h2)
  refine ⟨put_ne (put_ne w.hl d1) d2, w.len, w.nd, fun h a e => ?_⟩
  unfold doorsK
  rw [doorsAt_snoc, List.map_append]
  by_cases ha : h = t.a
  · have ea : a = a1 := Option.some.inj ((ha ▸ e).symm.trans h1)
    rw [ha, endsD_a ne, ea]
    exact put_ne upd_same n12
  · by_cases hb : h = t.b
    · have eb : a = a2 := Option.some.inj ((hb ▸ e).symm.trans h2)
      rw [hb, endsD_b ne, eb]
      exact upd_same
    · rw [endsD_no ha hb, List.map_nil, List.append_nil]
      exact put_ne (put_ne (w.hd h a e) (fun z => ha (nd_ix und e (by rw [z]; exact h1)))) (fun z => hb (nd_ix und e (by rw [z]; exact h2)))
theorem take_split {α : Type} {l : List α} {i : Nat} {t : α} (h : l[i]? = some t) : l = l.take i ++ t :: l.drop (i + 1) := by
  obtain ⟨hi, e⟩ := List.getElem?_eq_some_iff.mp h
  rw [← e, List.getElem_cons_drop, List.take_append_drop]
theorem marksAt_app (h : Nat) (ts us : List Tie) : marksAt h (ts ++ us) = marksAt h ts ++ marksAt h us := by
  unfold marksAt
  rw [List.flatMap_append]
theorem mark_new {ts : List Tie} {i : Nat} {t : Tie} (h : Nat) (hn : (marksAt h ts).Nodup) (hi : ts[i]? = some t) {m : Nat} (hm : m ∈ endsAt h t) : m ∉ marksAt h (ts.take i) := by
  rw [take_split hi, marksAt_app] at hn
  have h2 := (List.nodup_append.mp hn).2.2
  intro z
  exact h2 m z m (List.mem_append_left _ hm) rfl
theorem mark_new_a {ts : List Tie} {i : Nat} {t : Tie} (hn : ∀ h, (marksAt h ts).Nodup) (hi : ts[i]? = some t) (ne : t.a ≠ t.b) : t.m ∉ marksAt t.a (ts.take i) := mark_new _ (hn _) hi (by rw [endsAt_a ne]; exact List.mem_singleton.mpr rfl)
theorem mark_new_b {ts : List Tie} {i : Nat} {t : Tie} (hn : ∀ h, (marksAt h ts).Nodup) (hi : ts[i]? = some t) (ne : t.a ≠ t.b) : t.o ∉ marksAt t.b (ts.take i) := mark_new _ (hn _) hi (by rw [endsAt_b ne]; exact List.mem_singleton.mpr rfl)
theorem marksAt_take_len (h : Nat) {n : Nat} {ts : List Tie} (w : WebOk n ts) (i : Nat) : (marksAt h (ts.take i)).length ≤ 100 := by
  have h1 := marksAt_len h (ts := ts.take i) fun t ht => (w.lt t (List.mem_of_mem_take ht)).1
  have h2 := w.len
  rw [List.length_take] at h1
  omega
end Wh

namespace Wh
open PySem L2
/-! ### a mark at a house is changed -/
def chg (h m o : Nat) (t : Tie) : Tie := if t.a = h ∧ t.m = m then ⟨t.a, o, t.b, t.o⟩ else if t.b = h ∧ t.o = m then ⟨t.a, t.m, t.b, o⟩ else t
def ren (m o x : Nat) : Nat := if x = m then o else x
theorem chg_a (h m o : Nat) (t : Tie) : (chg h m o t).a = t.a := by
  unfold chg
  split
  · rfl
  · split <;> rfl
theorem chg_b (h m o : Nat) (t : Tie) : (chg h m o t).b = t.b := by
  unfold chg
  split
  · rfl
  · split <;> rfl
theorem chg_pr (h m o : Nat) (t : Tie) : (chg h m o t).pr = t.pr := by
  show ((chg h m o t).a, (chg h m o t).b) = (t.a, t.b)
  rw [chg_a, chg_b]
theorem chg_m (h m o : Nat) {t : Tie} (ne : t.a ≠ t.b) : (chg h m o t).m = if t.a = h then ren m o t.m else t.m := by
  unfold chg ren
  by_cases h1 : t.a = h <;> by_cases h2 : t.m = m <;> by_cases h3 : t.b = h ∧ t.o = m <;> simp [h1, h2, h3]
theorem chg_o (h m o : Nat) {t : Tie} (ne : t.a ≠ t.b) : (chg h m o t).o = if t.b = h then ren m o t.o else t.o := by
  unfold chg ren
  by_cases h1 : t.b = h
  · have h2 : ¬ t.a = h := fun e => ne (e.trans h1.symm)
    by_cases h3 : t.o = m <;> simp [h1, h2, h3]
  · by_cases h2 : t.a = h ∧ t.m = m <;> simp [h1, h2]
theorem endsAt_chg (h m o k : Nat) {t : Tie} (ne : t.a ≠ t.b) : endsAt k (chg h m o t) = if k = h then (endsAt h t).map (ren m o) else endsAt k t := by
  unfold endsAt
  rw [chg_a, chg_b, chg_m h m o ne, chg_o h m o ne]
  by_cases hk : k = h
  · subst hk
    rw [if_pos rfl]
    by_cases h1 : t.a = k
    · have h2 : ¬ t.b = k := fun e => ne (h1.trans e.symm)
      simp [h1, h2]
    · by_cases h2 : t.b = k <;> simp [h1, h2]
  · rw [if_neg hk]
    by_cases h1 : t.a = k
    · have h3 : ¬ t.a = h := fun e => hk (h1.symm.trans e)
      have h2 : ¬ t.b = k := fun e => ne (h1.trans e.symm)
      have h4 : ¬ k = h := hk
      simp [h1, h2, h4]
    · by_cases h2 : t.b = k
      · have h4 : ¬ k = h := hk
        simp [h1, h2, h4]
      · simp [h1, h2]
theorem marksAt_chg (h m o k : Nat) : ∀ {ts : List Tie}, (∀ t ∈ ts, t.a ≠ t.b) → marksAt k (ts.map (chg h m o)) = if k = h then (marksAt h ts).map (ren m o) else marksAt k ts
  | [], _ => by
    show ([] : List Nat) = _
    split <;> rfl
  | t :: ts, hn => by
    show endsAt k (chg h m o t) ++ marksAt k (ts.map (chg h m o)) = if k = h then (endsAt h t ++ marksAt h ts).map (ren m o) else endsAt k t ++ marksAt k ts
    rw [endsAt_chg h m o k (hn t List.mem_cons_self), marksAt_chg h m o k fun u hu => hn u (List.mem_cons_of_mem _ hu)]
    by_cases hk : k = h
    · rw [if_pos hk, if_pos hk, if_pos hk, List.map_append]
    · rw [if_neg hk, if_neg hk, if_neg hk]
theorem ren_nd {m o : Nat} : ∀ {xs : List Nat}, xs.Nodup → o ∉ xs → (xs.map (ren m o)).Nodup
  | [], _, _ => List.nodup_nil
  | x :: xs, hn, ho => by
    obtain ⟨h1, h2⟩ := List.nodup_cons.mp hn
    have ho2 : o ∉ xs := fun z => ho (List.mem_cons_of_mem _ z)
    have ho1 : o ≠ x := fun z => ho (z ▸ List.mem_cons_self)
    refine List.nodup_cons.mpr ⟨fun z => ?_, ren_nd h2 ho2⟩
    obtain ⟨y, hy, e⟩ := List.mem_map.mp z
    have yo : y ≠ o := fun z => ho2 (z ▸ hy)
    unfold ren at e
    by_cases c1 : y = m <;> by_cases c2 : x = m
    · exact h1 ((c2.trans c1.symm) ▸ hy)
    · rw [if_pos c1, if_neg c2] at e
      exact ho1 e
    · rw [if_neg c1, if_pos c2] at e
      exact yo e
    · rw [if_neg c1, if_neg c2] at e
      exact h1 (e ▸ hy)
theorem mem_ends {h : Nat} {t : Tie} {ts : List Tie} (ht : t ∈ ts) {x : Nat} (hx : x ∈ endsAt h t) : x ∈ marksAt h ts := List.mem_flatMap.mpr ⟨t, ht, hx⟩
theorem WebOk.lt2 {n : Nat} {ts : List Tie} (w : WebOk n ts) : ∀ t ∈ ts, t.a ≠ t.b := fun t ht e => by
  have := (w.lt t ht).1
  omega
theorem map_pr (h m o : Nat) (ts : List Tie) : (ts.map (chg h m o)).map Tie.pr = ts.map Tie.pr := by
  rw [List.map_map]
  exact List.map_congr_left fun t _ => chg_pr h m o t
theorem WebOk.chg {n : Nat} {ts : List Tie} (w : WebOk n ts) {h m o : Nat} (ho : o ∈ letters) (hn : o ∉ marksAt h ts) : WebOk n (ts.map (Wh.chg h m o)) := by
  refine ⟨w.n2, w.n10, fun t ht => ?_, fun S s0 cl => w.hang S s0 fun t ht => ?_, by rw [map_pr]; exact w.pnd, fun t ht => ?_, fun k => ?_, by rw [List.length_map]; exact w.len⟩
  · obtain ⟨u, hu, rfl⟩ := List.mem_map.mp ht
    rw [chg_a, chg_b]
    exact w.lt u hu
  · have z := cl _ (List.mem_map_of_mem ht)
    rwa [chg_a, chg_b] at z
  · obtain ⟨u, hu, rfl⟩ := List.mem_map.mp ht
    obtain ⟨h1, h2⟩ := w.let_ u hu
    have ne := w.lt2 u hu
    rw [chg_m h m o ne, chg_o h m o ne]
    unfold ren
    refine ⟨?_, ?_⟩
    · split
      · split
        · exact ho
        · exact h1
      · exact h1
    · split
      · split
        · exact ho
        · exact h2
      · exact h2
  · rw [marksAt_chg h m o k w.lt2]
    by_cases hk : k = h
    · rw [if_pos hk]
      exact ren_nd (w.uniq h) hn
    · rw [if_neg hk]
      exact w.uniq k
theorem chg_back1 {h m o : Nat} {t : Tie} (ne : t.a ≠ t.b) (hn : o ∉ endsAt h t) : chg h o m (chg h m o t) = t := by
  have h1 : t.a = h → t.m ≠ o := fun e z => hn (by
    unfold endsAt
    rw [if_pos e]
    exact List.mem_append_left _ (by rw [z]; exact List.mem_singleton.mpr rfl))
  have h2 : t.b = h → t.o ≠ o := fun e z => hn (by
    unfold endsAt
    rw [if_pos e]
    exact List.mem_append_right _ (by rw [z]; exact List.mem_singleton.mpr rfl))
  obtain ⟨a, m1, b, o1⟩ := t
  have ne' : (chg h m o ⟨a, m1, b, o1⟩).a ≠ (chg h m o ⟨a, m1, b, o1⟩).b := by
    rw [chg_a, chg_b]
    exact ne
  have e3 : (chg h o m (chg h m o ⟨a, m1, b, o1⟩)).m = m1 := by
    rw [chg_m h o m ne', chg_m h m o ne, chg_a]
    show (if a = h then ren o m (if a = h then ren m o m1 else m1) else if a = h then ren m o m1 else m1) = m1
    by_cases c : a = h
    · have := h1 c
      simp only [if_pos c]
      unfold ren
      by_cases d : m1 = m
      · rw [if_pos d, if_pos rfl, d]
      · rw [if_neg d, if_neg this]
    · simp only [if_neg c]
  have e4 : (chg h o m (chg h m o ⟨a, m1, b, o1⟩)).o = o1 := by
    rw [chg_o h o m ne', chg_o h m o ne, chg_b]
    show (if b = h then ren o m (if b = h then ren m o o1 else o1) else if b = h then ren m o o1 else o1) = o1
    by_cases c : b = h
    · have := h2 c
      simp only [if_pos c]
      unfold ren
      by_cases d : o1 = m
      · rw [if_pos d, if_pos rfl, d]
      · rw [if_neg d, if_neg this]
    · simp only [if_neg c]
  have e1 : (chg h o m (chg h m o ⟨a, m1, b, o1⟩)).a = a := by rw [chg_a, chg_a]
  have e2 : (chg h o m (chg h m o ⟨a, m1, b, o1⟩)).b = b := by rw [chg_b, chg_b]
  revert e1 e2 e3 e4
  generalize chg h o m (chg h m o ⟨a, m1, b, o1⟩) = u
  intro e1 e2 e3 e4
  obtain ⟨x1, x2, x3, x4⟩ := u
  simp only at e1 e2 e3 e4
  rw [e1, e2, e3, e4]
theorem chg_back {n : Nat} {ts : List Tie} (w : WebOk n ts) {h m o : Nat} (hn : o ∉ marksAt h ts) : (ts.map (chg h m o)).map (chg h o m) = ts := by
  rw [List.map_map]
  refine (List.map_congr_left fun t ht => ?_).trans (List.map_id _)
  exact chg_back1 (w.lt2 t ht) fun z => hn (mem_ends ht z)
/-- behind a change the mark is gone, the other letter is there -/
theorem chg_marks {n : Nat} {ts : List Tie} (w : WebOk n ts) (h m o : Nat) : marksAt h (ts.map (chg h m o)) = (marksAt h ts).map (ren m o) := by
  rw [marksAt_chg h m o h w.lt2, if_pos rfl]
theorem chg_has {n : Nat} {ts : List Tie} (w : WebOk n ts) {h m o : Nat} (hm : m ∈ marksAt h ts) : o ∈ marksAt h (ts.map (chg h m o)) := by
  rw [chg_marks w]
  exact List.mem_map.mpr ⟨m, hm, by unfold ren; rw [if_pos rfl]⟩
theorem chg_not {n : Nat} {ts : List Tie} (w : WebOk n ts) {h m o : Nat} (hmo : m ≠ o) : m ∉ marksAt h (ts.map (chg h m o)) := by
  rw [chg_marks w]
  intro z
  obtain ⟨y, _, e⟩ := List.mem_map.mp z
  unfold ren at e
  by_cases c : y = m
  · rw [if_pos c] at e
    exact hmo e.symm
  · rw [if_neg c] at e
    exact c e
end Wh

namespace Wh
open PySem L2
/-! ### houses and ends that stand apart -/
def kP (p : Pr) : List Key := [.inl (p.1 : Int), .inl (p.2 : Int)]
def kE (h m : Nat) : List Key := [.inl (h : Int), .inr (sgn m)]
def prK (ts : List Tie) : List (List Key × V) := ts.map fun t => (kP t.pr, .bl true)
def endK (ts : List Tie) : List (List Key × V) := ts.flatMap fun t => [(kE t.a t.m, .bl true), (kE t.b t.o, .bl true)]
theorem val_none {κ : Type} [DecidableEq κ] {kvs : List (κ × V)} {k : κ} (h : k ∉ kvs.map (·.1)) : valV kvs k = none := by
  cases e : valV kvs k with
  | none => rfl
  | some u => exact absurd (valV_in e) h
theorem kP_inj {p q : Pr} (h : kP p = kP q) : p = q := by
  obtain ⟨a, b⟩ := p
  obtain ⟨c, d⟩ := q
  unfold kP at h
  injection h with h1 h
  injection h with h2 _
  injection h1 with h1
  injection h2 with h2
  have e1 : (a : Int) = (c : Int) := h1
  have e2 : (b : Int) = (d : Int) := h2
  rw [show a = c by omega, show b = d by omega]
theorem kE_inj {h m h2 m2 : Nat} (e : kE h m = kE h2 m2) : h = h2 ∧ m = m2 := by
  unfold kE at e
  injection e with e1 e
  injection e with e2 _
  injection e1 with e1
  injection e2 with e2
  have e3 : (h : Int) = (h2 : Int) := e1
  exact ⟨by omega, sgn_inj e2⟩
theorem prK_no {ts : List Tie} {p : Pr} (h : p ∉ ts.map Tie.pr) : valV (prK ts) (kP p) = none := by
  refine val_none fun z => h ?_
  unfold prK at z
  rw [List.map_map] at z
  obtain ⟨t, ht, e⟩ := List.mem_map.mp z
  exact List.mem_map.mpr ⟨t, ht, kP_inj e⟩
theorem marks_of {h m : Nat} {ts : List Tie} {t : Tie} (ht : t ∈ ts) (hm : m ∈ endsAt h t) : m ∈ marksAt h ts := List.mem_flatMap.mpr ⟨t, ht, hm⟩
theorem endK_no {ts : List Tie} {h m : Nat} (hn : m ∉ marksAt h ts) : valV (endK ts) (kE h m) = none := by
  refine val_none fun z => hn ?_
  obtain ⟨kv, hkv, e⟩ := List.mem_map.mp z
  obtain ⟨t, ht, q⟩ := List.mem_flatMap.mp hkv
  simp only [List.mem_cons, List.not_mem_nil, or_false] at q
  refine marks_of ht ?_
  rcases q with rfl | rfl
  · obtain ⟨e1, e2⟩ := kE_inj e
    subst e1 e2
    unfold endsAt
    rw [if_pos rfl]
    exact List.mem_append_left _ (List.mem_singleton.mpr rfl)
  · obtain ⟨e1, e2⟩ := kE_inj e
    subst e1 e2
    unfold endsAt
    rw [if_pos (show t.b = t.b from rfl)]
    exact List.mem_append_right _ (List.mem_singleton.mpr rfl)
theorem prK_snoc (ts : List Tie) (t : Tie) : prK (ts ++ [t]) = prK ts ++ [(kP t.pr, .bl true)] := List.map_append
theorem endK_snoc (ts : List Tie) (t : Tie) : endK (ts ++ [t]) = endK ts ++ [(kE t.a t.m, .bl true)] ++ [(kE t.b t.o, .bl true)] := by
  unfold endK
  rw [List.flatMap_append, List.flatMap_singleton, List.append_assoc]
  rfl
theorem prK_len (ts : List Tie) : (prK ts).length = ts.length := List.length_map _
theorem endK_len : ∀ ts : List Tie, (endK ts).length = 2 * ts.length
  | [] => rfl
  | t :: ts => by
    show ([(kE t.a t.m, V.bl true), (kE t.b t.o, V.bl true)] ++ endK ts).length = _
    rw [List.length_append, endK_len ts]
    show 2 + 2 * ts.length = 2 * (ts.length + 1)
    omega
theorem pr_new {n : Nat} {ts : List Tie} (w : WebOk n ts) {i : Nat} {t : Tie} (hi : ts[i]? = some t) : t.pr ∉ (ts.take i).map Tie.pr := by
  have h := w.pnd
  rw [take_split hi, List.map_append, List.map_cons] at h
  intro z
  exact (List.nodup_append.mp h).2.2 _ z _ List.mem_cons_self rfl
/-- the other end too: its key is new, also behind the first -/
theorem endK_no2 {n : Nat} {ts : List Tie} (w : WebOk n ts) {i : Nat} {t : Tie} (hi : ts[i]? = some t) : valV (endK (ts.take i) ++ [(kE t.a t.m, .bl true)]) (kE t.b t.o) = none := by
  have ne : t.a ≠ t.b := by
    have := (w.lt t (List.mem_of_getElem? hi)).1
    omega
  refine val_none fun z => ?_
  rw [List.map_append] at z
  rcases List.mem_append.mp z with z | z
  · have h := endK_no (mark_new_b w.uniq hi ne)
    exact valV_not h z
  · have e := List.mem_singleton.mp z
    exact ne (kE_inj e).1.symm
/-! ### houses that are reached -/
def reachK (hs : List Nat) : List (Key × V) := hs.map fun (h : Nat) => (Sum.inl (h : Int), V.bl true)
theorem reach_mem {hs : List Nat} {h : Nat} : (Sum.inl (h : Int) : Key) ∈ (reachK hs).map (·.1) ↔ h ∈ hs := by
  unfold reachK
  rw [List.map_map, List.mem_map]
  constructor
  · rintro ⟨x, hx, e⟩
    have e2 : (x : Int) = (h : Int) := Sum.inl.inj e
    have e3 : x = h := by omega
    exact e3 ▸ hx
  · exact fun hh => ⟨h, hh, rfl⟩
theorem reach_val (hs : List Nat) (h : Nat) : (valV (reachK hs) (Sum.inl (h : Int) : Key)).isSome = decide (h ∈ hs) := by
  cases e : valV (reachK hs) (Sum.inl (h : Int) : Key) with
  | none =>
    have q := valV_not e
    rw [reach_mem] at q
    simp [q]
  | some u =>
    have q := valV_in e
    rw [reach_mem] at q
    simp [q]
def addH (hs : List Nat) (h : Nat) : List Nat := if h ∈ hs then hs else hs ++ [h]
theorem reach_put (hs : List Nat) (h : Nat) : putK (reachK hs) (Sum.inl (h : Int) : Key) (.bl true) = reachK (addH hs h) := by
  unfold addH
  by_cases hh : h ∈ hs
  · rw [if_pos hh]
    unfold putK
    have e : ((reachK hs).any fun kv => decide (kv.1 = (Sum.inl (h : Int) : Key))) = true := by
      rw [List.any_eq_true]
      exact ⟨(Sum.inl (h : Int), .bl true), List.mem_map.mpr ⟨h, hh, rfl⟩, by simp⟩
    rw [if_pos e]
    have e2 : ∀ kv ∈ reachK hs, (if kv.1 = (Sum.inl (h : Int) : Key) then (kv.1, V.bl true) else kv) = kv := by
      intro kv hkv
      obtain ⟨x, _, rfl⟩ := List.mem_map.mp hkv
      split <;> rfl
    rw [List.map_congr_left e2, List.map_id']
  · rw [if_neg hh, putK_new _ (val_none (fun z => hh (reach_mem.mp z)))]
    unfold reachK
    rw [List.map_append]
    rfl
theorem addH_mem {hs : List Nat} {h x : Nat} : x ∈ addH hs h ↔ x ∈ hs ∨ x = h := by
  unfold addH
  by_cases hh : h ∈ hs
  · rw [if_pos hh]
    exact ⟨.inl, fun z => z.elim id fun e => e ▸ hh⟩
  · rw [if_neg hh, List.mem_append, List.mem_singleton]
theorem addH_nd {hs : List Nat} (h : Nat) (n : hs.Nodup) : (addH hs h).Nodup := by
  unfold addH
  by_cases hh : h ∈ hs
  · rw [if_pos hh]
    exact n
  · rw [if_neg hh]
    exact nd_snoc n hh
theorem addH_len (hs : List Nat) (h : Nat) : hs.length ≤ (addH hs h).length ∧ ((addH hs h).length = hs.length → h ∈ hs) := by
  unfold addH
  by_cases hh : h ∈ hs
  · rw [if_pos hh]
    exact ⟨Nat.le_refl _, fun _ => hh⟩
  · rw [if_neg hh, List.length_append]
    exact ⟨Nat.le_add_right _ _, fun e => by simp at e⟩
/-- one pass over one tie -/
def passT (hs : List Nat) (t : Tie) : List Nat := if t.a ∈ hs ∨ t.b ∈ hs then addH (addH hs t.a) t.b else hs
structure Reach (n : Nat) (hs : List Nat) : Prop where
  nd : hs.Nodup
  lt : ∀ h ∈ hs, h < n
  zero : 0 ∈ hs
theorem Reach.len {n : Nat} {hs : List Nat} (r : Reach n hs) : hs.length ≤ n := by
  have := nd_sub_len (s := List.range n) r.nd fun x hx => List.mem_range.mpr (r.lt x hx)
  rwa [List.length_range] at this
theorem Reach.pass {n : Nat} {hs : List Nat} (r : Reach n hs) {t : Tie} (ha : t.a < n) (hb : t.b < n) : Reach n (passT hs t) ∧ hs.length ≤ (passT hs t).length ∧ ((passT hs t).length = hs.length → passT hs t = hs ∧ (t.a ∈ hs ↔ t.b ∈ hs)) := by
  unfold passT
  by_cases h : t.a ∈ hs ∨ t.b ∈ hs
  · rw [if_pos h]
    have l1 := addH_len hs t.a
    have l2 := addH_len (addH hs t.a) t.b
    refine ⟨⟨addH_nd _ (addH_nd _ r.nd), fun x hx => ?_, addH_mem.mpr (.inl (addH_mem.mpr (.inl r.zero)))⟩, by omega, fun e => ?_⟩
    · rcases addH_mem.mp hx with hx | rfl
      · rcases addH_mem.mp hx with hx | rfl
        · exact r.lt x hx
        · exact ha
      · exact hb
    · have m1 := l1.2 (by omega)
      have e1 : addH hs t.a = hs := by
        unfold addH
        rw [if_pos m1]
      rw [e1] at l2 e ⊢
      have m2 := l2.2 (by omega)
      refine ⟨?_, fun _ => m2, fun _ => m1⟩
      unfold addH
      rw [if_pos m2]
  · rw [if_neg h]
    exact ⟨r, Nat.le_refl _, fun _ => ⟨rfl, fun z => absurd (.inl z) h, fun z => absurd (.inr z) h⟩⟩
/-- nothing more is reached: all houses are -/
theorem reach_all {n : Nat} {ts : List Tie} (w : WebOk n ts) {hs : List Nat} (r : Reach n hs) (cl : ∀ t ∈ ts, t.a ∈ hs ↔ t.b ∈ hs) : hs.length = n := by
  have all : ∀ h, h < n → h ∈ hs := w.hang (fun x => x ∈ hs) r.zero cl
  have h1 := r.len
  have h2 := nd_sub_len (l := List.range n) (s := hs) List.nodup_range fun x hx => all x (List.mem_range.mp hx)
  rw [List.length_range] at h2
  omega
end Wh

namespace Wh
open PySem L2
/-! ### sorted rows: some arrangement by the order of the data -/
theorem sort_rows2 {α : Type} {K : PySem.W.Frag} {H : Hp} {a : Addr} {Q : VK} (f : α → List V) {ps : List (Addr × α)} (hl : SqL K H a (refs ps)) (hA : At f H ps) (hn : ∀ p ∈ ps, (f p.2).all nb = true)
    (hal : ∀ x y : α, PySem.W.alike (tD (f x)) (tD (f y)) = true) (hne : ∀ x : α, ∃ v r, f x = v :: r)
    (h : ∀ (z : Addr) (qs : List (Addr × α)), qs.Perm ps → qs.Pairwise (fun p q => (!PySem.W.dataLt (tD (f q.2)) (tD (f p.2))) = true) → H z = none → Q (.ref z) (upd H z (.lst (refs qs)))) : rSortD K [.ref a] H Q := by
  refine sort_rows f (fun x y => !PySem.W.dataLt (tD (f y)) (tD (f x))) hl hA hn hal hne (fun _ _ => rfl) fun z nz => h z _ (List.mergeSort_perm _ _) ?_ nz
  exact PySem.W.sort_pairwise (le := fun p q : Addr × α => !PySem.W.dataLt (tD (f q.2)) (tD (f p.2))) (PySem.W.sortLe_total (PyProof.Rows.listOrd PyProof.Rows.itemOrd) false fun p : Addr × α => PySem.W.keyToks (tD (f p.2))) ps
theorem tie_alike (x y : Tie) : PySem.W.alike (tD (tieV x)) (tD (tieV y)) = true := by
  show PySem.W.alike (.tuple [.int _, .str _, .int _, .str _]) (.tuple [.int _, .str _, .int _, .str _]) = true
  simp [PySem.W.alike, PySem.W.alikeAll]
/-! ### rows by the pairs of houses -/
def rowV (t : Tie) : List V := [.int (t.a : Int), .int (t.b : Int), .str (sgn t.m), .str (sgn t.o)]
theorem row_alike (x y : Tie) : PySem.W.alike (tD (rowV x)) (tD (rowV y)) = true := by
  show PySem.W.alike (.tuple [.int _, .int _, .str _, .str _]) (.tuple [.int _, .int _, .str _, .str _]) = true
  simp [PySem.W.alike, PySem.W.alikeAll]
theorem rowV_nb {t : Tie} (hm : t.m ∈ letters) (ho : t.o ∈ letters) : (rowV t).all nb = true := by
  have h := tieV_nb hm ho
  unfold tieV at h
  unfold rowV
  simp only [List.all_cons, List.all_nil, Bool.and_true, Bool.and_eq_true] at *
  exact ⟨h.1, h.2.2.1, h.2.1, h.2.2.2⟩
instance (x y : Pr) : Decidable (PrLt x y) := by unfold PrLt; infer_instance
theorem row_lt {x y : Tie} (h : x.pr ≠ y.pr) : PySem.W.dataLt (tD (rowV x)) (tD (rowV y)) = decide (PrLt x.pr y.pr) := by
  show PySem.W.dataLt (.tuple [.int (x.a : Int), .int (x.b : Int), .str (sgn x.m), .str (sgn x.o)]) (.tuple [.int (y.a : Int), .int (y.b : Int), .str (sgn y.m), .str (sgn y.o)]) = _
  have al : ∀ i j : Int, PySem.W.alike (.int i) (.int j) = true := fun _ _ => by simp [PySem.W.alike]
  rw [PySem.W.dataLt_tuple, PySem.W.dataLt_cons (al _ _), PySem.W.dataLt_cons (al _ _), PySem.W.dataLt_int, PySem.W.dataLt_int]
  have e1 : PyData.eqv (.int (x.a : Int)) (.int (y.a : Int)) = decide (x.a = y.a) := by
    rw [PyData.eqv]
    by_cases q : x.a = y.a
    · simp [q]
    · rw [decide_eq_false q, beq_eq_false_iff_ne]
      omega
  have e2 : PyData.eqv (.int (x.b : Int)) (.int (y.b : Int)) = decide (x.b = y.b) := by
    rw [PyData.eqv]
    by_cases q : x.b = y.b
    · simp [q]
    · rw [decide_eq_false q, beq_eq_false_iff_ne]
      omega
  rw [e1, e2]
  unfold PrLt Tie.pr
  by_cases q1 : x.a = y.a
  · have q2 : ¬ x.b = y.b := fun q2 => h (by unfold Tie.pr; rw [q1, q2])
    rw [if_pos (decide_eq_true q1), if_neg (by rw [decide_eq_false q2]; exact Bool.false_ne_true)]
    congr 1
    simp only [eq_iff_iff]
    omega
  · rw [if_neg (by rw [decide_eq_false q1]; exact Bool.false_ne_true)]
    congr 1
    simp only [eq_iff_iff]
    omega
theorem prLt_asym {x y : Pr} (h : PrLt x y) : ¬ PrLt y x := by
  unfold PrLt at *
  omega
theorem prLt_tri {x y : Pr} (h : x ≠ y) (h2 : ¬ PrLt y x) : PrLt x y := by
  obtain ⟨a, b⟩ := x
  obtain ⟨c, d⟩ := y
  unfold PrLt at *
  have : ¬ (a = c ∧ b = d) := fun ⟨e1, e2⟩ => h (by rw [e1, e2])
  simp only at *
  omega
/-- just one list is in order -/
theorem srt_uniq : ∀ {l m : List Tie}, (l.map Tie.pr).Pairwise PrLt → (m.map Tie.pr).Pairwise PrLt → l.Perm m → l = m
  | [], m, _, _, p => p.nil_eq
  | x :: l, [], _, _, p => absurd p.length_eq (by simp)
  | x :: l, y :: m, hl, hm, p => by
    rw [List.map_cons, List.pairwise_cons] at hl hm
    have e : x = y := by
      rcases List.mem_cons.mp (p.mem_iff.mp (List.mem_cons_self (a := x))) with e | hx
      · exact e
      · rcases List.mem_cons.mp (p.mem_iff.mpr (List.mem_cons_self (a := y))) with e | hy
        · exact e.symm
        · exact absurd (hl.1 _ (List.mem_map_of_mem hy)) (prLt_asym (hm.1 _ (List.mem_map_of_mem hx)))
    subst e
    rw [srt_uniq hl.2 hm.2 p.cons_inv]
/-- rows in order are ties in the order of their houses -/
theorem rows_srt {qs : List (Addr × Tie)} (hn : ((qs.map (·.2)).map Tie.pr).Nodup) (hs : qs.Pairwise (fun p q => (!PySem.W.dataLt (tD (rowV q.2)) (tD (rowV p.2))) = true)) : ((qs.map (·.2)).map Tie.pr).Pairwise PrLt := by
  rw [List.map_map] at hn ⊢
  rw [List.pairwise_map]
  have hn2 : qs.Pairwise fun a b => a.2.pr ≠ b.2.pr := List.pairwise_map.mp hn
  refine (hs.and hn2).imp fun {a b} ⟨h1, h2⟩ => ?_
  rw [row_lt (fun e => h2 e.symm), Bool.not_eq_true', decide_eq_false_iff_not] at h1
  exact prLt_tri h2 h1
/-! ### the pieces of a line -/
theorem line_app (t : Tie) : ((((((Str.empty ++ sgn (48 + t.a)) ++ (" " : Str)) ++ sgn t.m) ++ (" " : Str)) ++ sgn (48 + t.b)) ++ (" " : Str)) ++ sgn t.o = lineS t := by
  have e : (" " : Str) = SX.S [32] := by decide +kernel
  have e0 : Str.empty = SX.S [] := rfl
  have es : ∀ c : Nat, sgn c = SX.S [c] := fun _ => rfl
  rw [e, e0]
  simp only [es, SX.S_cat]
  rfl
theorem str_app (x y : Str) : (x ++ y).length = x.length + y.length := by
  rw [TL.len_tl (x ++ y), TL.len_tl x, TL.len_tl y, TL.tl_append, List.length_append]
theorem small_str {x : Str} (h : x.length ≤ 1000) : x.length ≤ sizeLine := Nat.le_of_lt (small1000 h)
theorem sgn_len (c : Nat) : (sgn c).length = 1 := rfl
theorem sp_len : (" " : Str).length = 1 := by decide +kernel
theorem emp_len : Str.empty.length = 0 := rfl
end Wh

namespace Wh
open PySem L2
/-! ### sorted ties: one row only -/
def tLt (x y : Tie) : Prop := x.a < y.a ∨ (x.a = y.a ∧ (x.m < y.m ∨ (x.m = y.m ∧ (x.b < y.b ∨ (x.b = y.b ∧ x.o < y.o)))))
instance (x y : Tie) : Decidable (tLt x y) := by unfold tLt; infer_instance
theorem int_eqv (i j : Nat) : PyData.eqv (.int (i : Int)) (.int (j : Int)) = decide (i = j) := by
  rw [PyData.eqv]
  by_cases q : i = j
  · simp [q]
  · rw [decide_eq_false q, beq_eq_false_iff_ne]
    omega
theorem sgn_eqv (i j : Nat) : PyData.eqv (.str (sgn i)) (.str (sgn j)) = decide (i = j) := by
  rw [PyData.eqv]
  by_cases q : i = j
  · simp [q]
  · rw [decide_eq_false q, beq_eq_false_iff_ne]
    exact fun e => q (sgn_inj e)
theorem sgn_lt (i j : Nat) : PySem.W.dataLt (.str (sgn i)) (.str (sgn j)) = decide (i < j) := by
  rw [PySem.W.dataLt_str]
  show decide ([i] < [j]) = decide (i < j)
  by_cases q : i < j
  · rw [decide_eq_true q]
    exact decide_eq_true (List.cons_lt_cons_iff.mpr (.inl q))
  · rw [decide_eq_false q]
    refine decide_eq_false fun e => ?_
    rcases List.cons_lt_cons_iff.mp e with z | ⟨_, z⟩
    · exact q z
    · exact absurd z (by simp)
theorem tie_lt (x y : Tie) : PySem.W.dataLt (tD (tieV x)) (tD (tieV y)) = decide (tLt x y) := by
  show PySem.W.dataLt (.tuple [.int (x.a : Int), .str (sgn x.m), .int (x.b : Int), .str (sgn x.o)]) (.tuple [.int (y.a : Int), .str (sgn y.m), .int (y.b : Int), .str (sgn y.o)]) = _
  have ai : ∀ i j : Int, PySem.W.alike (.int i) (.int j) = true := fun _ _ => by simp [PySem.W.alike]
  have as : ∀ i j : Str, PySem.W.alike (.str i) (.str j) = true := fun _ _ => by simp [PySem.W.alike]
  rw [PySem.W.dataLt_tuple, PySem.W.dataLt_cons (ai _ _), PySem.W.dataLt_cons (as _ _), PySem.W.dataLt_cons (ai _ _), PySem.W.dataLt_cons (as _ _), PySem.W.dataLt_int, PySem.W.dataLt_int, int_eqv, int_eqv, sgn_eqv, sgn_eqv, sgn_lt, sgn_lt]
  have il : ∀ i j : Nat, decide ((i : Int) < (j : Int)) = decide (i < j) := fun i j => by
    by_cases q : i < j
    · rw [decide_eq_true q]
      exact decide_eq_true (by omega)
    · rw [decide_eq_false q]
      exact decide_eq_false (by omega)
  rw [il, il]
  unfold tLt
  by_cases h1 : x.a = y.a <;> by_cases h2 : x.m = y.m <;> by_cases h3 : x.b = y.b <;> by_cases h4 : x.o = y.o <;> simp [h1, h2, h3, h4]
  exact PyProof.Rows.lex_irrefl _
theorem tLt_tri (x y : Tie) (h1 : ¬ tLt x y) (h2 : ¬ tLt y x) : x = y := by
  obtain ⟨a, m, b, o⟩ := x
  obtain ⟨a2, m2, b2, o2⟩ := y
  unfold tLt at h1 h2
  simp only at h1 h2
  have e1 : a = a2 := by omega
  have e2 : m = m2 := by omega
  have e3 : b = b2 := by omega
  have e4 : o = o2 := by omega
  subst e1 e2 e3 e4
  rfl
/-- two rows of the same ties, both sorted, are one -/
theorem ties_uniq : ∀ {l m : List Tie}, l.Pairwise (fun x y => ¬ tLt y x) → m.Pairwise (fun x y => ¬ tLt y x) → l.Perm m → l = m
  | [], _, _, _, p => p.nil_eq
  | x :: l, [], _, _, p => absurd p.length_eq (by simp)
  | x :: l, y :: m, hl, hm, p => by
    rw [List.pairwise_cons] at hl hm
    have e : x = y := by
      rcases List.mem_cons.mp (p.mem_iff.mp (List.mem_cons_self (a := x))) with e | hx
      · exact e
      · rcases List.mem_cons.mp (p.mem_iff.mpr (List.mem_cons_self (a := y))) with e | hy
        · exact e.symm
        · exact tLt_tri x y (hm.1 _ hx) (hl.1 _ hy)
    subst e
    rw [ties_uniq hl.2 hm.2 p.cons_inv]
theorem ties_srt {qs : List (Addr × Tie)} (h : qs.Pairwise (fun p q => (!PySem.W.dataLt (tD (tieV q.2)) (tD (tieV p.2))) = true)) : (qs.map (·.2)).Pairwise (fun x y => ¬ tLt y x) := by
  rw [List.pairwise_map]
  refine h.imp fun {p q} e => ?_
  rw [tie_lt] at e
  simpa using e
end Wh

namespace Wh
open PySem L2
/-! ### webs as objects -/
def webF (txt pl : Str) (l dl : Addr) : List (Str × V) := [("_text", .str txt), ("_plain", .str pl), ("_ties", .ref l), ("_doors", .ref dl)]
theorem putF_new (f : Str) (v : V) : putF f v [] = [(f, v)] := rfl
theorem putF_1 (v w : V) : putF ("_plain" : Str) w [(("_text" : Str), v)] = [(("_text" : Str), v), ("_plain", w)] := by
  unfold putF
  rw [if_neg (by decide +kernel)]
  rfl
theorem putF_2 (v w x : V) : putF ("_ties" : Str) x [(("_text" : Str), v), ("_plain", w)] = [(("_text" : Str), v), ("_plain", w), ("_ties", x)] := by
  unfold putF
  rw [if_neg (by decide +kernel)]
  unfold putF
  rw [if_neg (by decide +kernel)]
  rfl
theorem putF_3 (v w x y : V) : putF ("_doors" : Str) y [(("_text" : Str), v), ("_plain", w), ("_ties", x)] = [(("_text" : Str), v), ("_plain", w), ("_ties", x), ("_doors", y)] := by
  unfold putF
  rw [if_neg (by decide +kernel)]
  unfold putF
  rw [if_neg (by decide +kernel)]
  unfold putF
  rw [if_neg (by decide +kernel)]
  rfl
theorem ff_plain (t p : Str) (l d : Addr) : (webF t p l d).lookup ("_plain" : Str) = some (.str p) := by
  unfold webF
  rw [List.lookup_cons, show (("_plain" : Str) == ("_text" : Str)) = false by decide +kernel, List.lookup_cons, show (("_plain" : Str) == ("_plain" : Str)) = true by decide +kernel]
theorem ff_ties (t p : Str) (l d : Addr) : (webF t p l d).lookup ("_ties" : Str) = some (.ref l) := by
  unfold webF
  rw [List.lookup_cons, show (("_ties" : Str) == ("_text" : Str)) = false by decide +kernel, List.lookup_cons, show (("_ties" : Str) == ("_plain" : Str)) = false by decide +kernel, List.lookup_cons, show (("_ties" : Str) == ("_ties" : Str)) = true by decide +kernel]
theorem ff_doors (t p : Str) (l d : Addr) : (webF t p l d).lookup ("_doors" : Str) = some (.ref d) := by
  unfold webF
  rw [List.lookup_cons, show (("_doors" : Str) == ("_text" : Str)) = false by decide +kernel, List.lookup_cons, show (("_doors" : Str) == ("_plain" : Str)) = false by decide +kernel, List.lookup_cons, show (("_doors" : Str) == ("_ties" : Str)) = false by decide +kernel, List.lookup_cons, show (("_doors" : Str) == ("_doors" : Str)) = true by decide +kernel]
theorem ff_no (t p : Str) (l d : Addr) {f : Str} (h : (f == ("_text" : Str)) = false ∧ (f == ("_plain" : Str)) = false ∧ (f == ("_ties" : Str)) = false ∧ (f == ("_doors" : Str)) = false) : (webF t p l d).lookup f = none := by
  unfold webF
  rw [List.lookup_cons, h.1, List.lookup_cons, h.2.1, List.lookup_cons, h.2.2.1, List.lookup_cons, h.2.2.2]
  rfl
structure WebAt (C : Addr) (H : Hp) (x : Addr) (n : Nat) (ts : List Tie) : Prop where
  ex : ∃ (dx : Addr) (txt : Str) (l : Addr) (ps : List (Addr × Tie)) (dl : Addr) (ds : List Addr), H x = some (.ins C dx (webF txt (webS ts) l dl)) ∧ H l = some (.tup (refs ps)) ∧ At tieV H ps ∧ (ps.map (·.2)).Perm ts ∧ Dr H dl ds n (ps.map (·.2)) ∧ (ps.map (·.2)).Pairwise (fun x y => ¬ tLt y x)
  wk : WebOk n ts
  srt : (ts.map Tie.pr).Pairwise PrLt
theorem WebAt.same {C : Addr} {H H' : Hp} {x : Addr} {n : Nat} {ts : List Tie} (w : WebAt C H x n ts) (s : Same H H') : WebAt C H' x n ts := by
  obtain ⟨dx, txt, l, ps, dl, ds, h1, h2, h3, h4, h5, h6⟩ := w.ex
  exact ⟨⟨dx, txt, l, ps, dl, ds, s _ _ h1, s _ _ h2, h3.same s, h4, h5.same s, h6⟩, w.wk, w.srt⟩
theorem WebAt.isI {C : Addr} {H : Hp} {x : Addr} {n : Nat} {ts : List Tie} (w : WebAt C H x n ts) : ∃ dx fs, H x = some (.ins C dx fs) := by
  obtain ⟨dx, txt, l, ps, dl, ds, h1, _⟩ := w.ex
  exact ⟨dx, _, h1⟩
/-- what of the text the class Web must have -/
structure WebC (K : PySem.W.Frag) (C : Addr) : Prop where
  c : Cls K C
  n1 : NoAttr K C "_text"
  n2 : NoAttr K C "_plain"
  n3 : NoAttr K C "_ties"
  n4 : NoAttr K C "_doors"
theorem But.tupI {c : Addr} {H H' : Hp} (h : But c H H') {C dx : Addr} {fs : List (Str × V)} (hc : H c = some (.ins C dx fs)) : ∀ b xs, H b = some (.tup xs) → H' b = some (.tup xs) := fun b xs e => h b _ e (ne_of e hc (by intro z; cases z))
theorem At.butI {α : Type} {f : α → List V} {H H' : Hp} {ps : List (Addr × α)} {c : Addr} {C dx : Addr} {fs : List (Str × V)} (h : At f H ps) (hc : H c = some (.ins C dx fs)) (b : But c H H') : At f H' ps := h.mono (b.tupI hc)
/-! ### some texts of single letters -/
def sS (ms : List Nat) : Str := SX.S ms
theorem sS_len (ms : List Nat) : (sS ms).length = ms.length := SX.S_len ms
theorem sS_cps (ms : List Nat) : (sS ms).cps.toList = ms := rfl
theorem join_sgn (ms : List Nat) : Txt.join ("" : Str) (ms.map sgn) = sS ms := by
  have e2 : ("" : Str) = SX.S [] := by decide +kernel
  have e : ms.map sgn = (ms.map fun m => [m]).map SX.S := by rw [List.map_map]; rfl
  rw [e, e2, SX.join_S]
  unfold sS
  congr 1
  have : ∀ xs : List Nat, TL.joinL [] (xs.map fun m => [m]) = xs := by
    intro xs
    induction xs with
    | nil => rfl
    | cons x r ih =>
      cases r with
      | nil => rfl
      | cons y r =>
        show [x] ++ ([] ++ TL.joinL [] ((y :: r).map fun m => [m])) = _
        rw [ih]
        rfl
  exact this ms
theorem sgn_perm {ys : List Str} {ms : List Nat} (p : ys.Perm (ms.map sgn)) : ∃ ns : List Nat, ys = ns.map sgn ∧ ns.Perm ms := by
  refine ⟨ys.map fun y => y.cps.toList.headD 0, ?_, ?_⟩
  · rw [List.map_map]
    refine ((List.map_congr_left fun y hy => ?_).trans (List.map_id _)).symm
    obtain ⟨m, _, rfl⟩ := List.mem_map.mp (p.mem_iff.mp hy)
    rfl
  · have q := p.map fun y : Str => y.cps.toList.headD 0
    rw [List.map_map] at q
    have e : (List.map ((fun y : Str => y.cps.toList.headD 0) ∘ sgn) ms) = ms := (List.map_congr_left fun y hy => rfl).trans (List.map_id _)
    rw [e] at q
    exact q
theorem marks_let {n : Nat} {ts : List Tie} (w : WebOk n ts) (h : Nat) : ∀ x ∈ marksAt h ts, x ∈ letters := fun x hx => by
  obtain ⟨t, ht, hx⟩ := List.mem_flatMap.mp hx
  obtain ⟨h1, h2⟩ := w.let_ t ht
  unfold endsAt at hx
  rcases List.mem_append.mp hx with z | z
  · split at z
    · rw [List.mem_singleton.mp z]
      exact h1
    · cases z
  · split at z
    · rw [List.mem_singleton.mp z]
      exact h2
    · cases z
theorem marks12 {n : Nat} {ts : List Tie} (w : WebOk n ts) (h : Nat) : (marksAt h ts).length ≤ 12 := nd_sub_len (w.uniq h) (marks_let w h)
theorem sgn_sum : ∀ ns : List Nat, ((ns.map sgn).map (·.length)).sum = ns.length
  | [] => rfl
  | n :: ns => by
    rw [List.map_cons, List.map_cons, List.sum_cons, sgn_sum ns, sgn_len, List.length_cons]
    omega
end Wh

namespace Wh
open PySem PySem.Spec PyProof.Rows L2
/-! ### list(x), x a text -/
def rListS : List V → Hp → VK → Prop := fun xs H Q => ∃ x : Str, xs = [V.str x] ∧ x.length ≤ sizeLine ∧ ∀ p, H p = none → Q (.ref p) (upd H p (.lst (x.cps.toList.map fun c => V.str (sgn c))))
theorem call_list_S {X : Cx} (hc : X.calm = true) : CallR X (.type "list") rListS := by
  intro pins s σ H xs us Q I r h
  obtain ⟨x, e, hz, q⟩ := h
  subst e
  obtain ⟨u, eu, rx⟩ := vals1 r
  subst eu
  obtain ⟨t, rfl⟩ := rx
  refine call_list_str (I.ok.hd hc) x t (hn := hz) fun h' tk acc' c' hkeep hS hacc => ?_
  refine ⟨.ref s.heap.objs.size, upd H s.heap.objs.size (.lst (x.cps.toList.map fun c => V.str (sgn c))), I.laid hkeep (Nat.le_refl _) (show ObjOk X.prog X.w _ _ _ (.lst (x.cps.toList.map fun c => V.str (sgn c))) from ⟨?_, acc'.toList, c', ?_, ?_⟩), rfl, q _ (I.hok.fresh (Nat.le_refl _))⟩
  · rw [List.length_map]
    exact hz
  · refine vals_of_at (by rw [List.length_map]; simp [hacc.1]) fun j y w h1 h2 => ?_
    obtain ⟨c, u, hcv, hi⟩ := hacc.2 j w (by rw [← Array.getElem?_toList]; exact h2)
    rw [List.getElem?_map, Array.getElem?_toList, hcv] at h1
    cases h1
    exact ⟨u, hi⟩
  · simpa using hS
/-! ### x != y, own == , instances -/
structure NeF (K : PySem.W.Frag) (C f : Addr) : Prop where
  cls : ∃ nm q N bs hdct sn sub ab col dd k0 k1 k2 k3 k5 newId, K.lookup C = some (excClassObj nm q C N bs [.type "object"] hdct sn sub ab col dd k0 k1 k2 k3 k5 newId) ∧ PySem.W.nsOkIn K N = true ∧ PySem.W.nsIn K N "__eq__" = some (some (.ref f)) ∧ PySem.W.nsIn K N "__ne__" = some none
  fn : ∃ of, K.lookup f = some of ∧ of.cls = .type "function"
theorem obj_eq_name : typeLookup (.type "object") "__eq__" = pure (some (.builtin "object.__eq__")) := by rw [typeLookup_type, builtinLookup_eq_fast]; kernel_rfl
theorem ns_some_of {K : PySem.W.Frag} {h : Heap} {N : Addr} {mg : Str → Option Value} {n : Str} {v : Value} (X : K.In h) (G : h.Ns N mg) (e : PySem.W.nsIn K N n = some (some v)) : mg n = some v := by
  obtain ⟨o, es, ep, ho, hd, _, hf⟩ := G
  unfold PySem.W.nsIn at e
  split at e
  · rename_i c d es' n' sl q
    have := X _ _ q
    rw [ho] at this
    cases this
    cases hd
    split at e
    · rename_i en he
      cases e
      rw [← hf]
      unfold nsFind findBy
      rw [← Array.find?_toList, he]
      rfl
    · split at e <;> cases e
  · cases e
def rNeI (C : Addr) (sp : Sp) : R2 := fun x y H Q => ∃ a b dx dy fs gs, x = .ref a ∧ y = .ref b ∧ H a = some (.ins C dx fs) ∧ H b = some (.ins C dy gs) ∧ sp [.ref a, .ref b] H (fun v H' => ∃ c, v = .bl c ∧ Q (.bl (!c)) H') C8.E0
theorem op_neI {X : Cx} {n : Nat} {C f : Addr} {fd : FuncData} {ps : List Str} {sp : Sp} (F : FnOk X.prog X.w X.K X.mg X.base C8.CX0 n f fd ps sp) (T : NeF X.K C f) (hb : Binds X.K fd ps []) (hr : Room (n + 1) X.A) : OpR X (compareOp .NotEq) (rNeI C sp) := by
  intro pins s σ H x y v u Q I rx ry d
  obtain ⟨a, b, dx, dy, fs, gs, rfl, rfl, ha, hb', hsp⟩ := d
  cases rx
  cases ry
  obtain ⟨mA, J, _⟩ := ins_get I.hok ha
  obtain ⟨mB, J', _⟩ := ins_get I.hok hb'
  obtain ⟨od, J, _⟩ := J.look
  obtain ⟨od', J', _⟩ := J'.look
  obtain ⟨nm, q, N, bs, hdct, sn, sub, ab, col, dd, k0, k1, k2, k3, k5, newId, hC, hns, heq, hne⟩ := T.cls
  obtain ⟨of, hof, hofc⟩ := T.fn
  have KX := I.kIn
  have hN : s.heap.Ns N (s.heap.nsMap N) := .of_isNs (PySem.W.isNs_of_in KX hns)
  have OE : s.heap.OwnEqNoNe a C f "object" [.type "object"] := ⟨_, of, nm, q, N, bs, hdct, sn, sub, ab, col, dd, k0, k1, k2, k3, k5, newId, _, _, J.at_, J.cls, KX _ _ hC, hN, ns_some_of KX hN heq, KX _ _ hof, hofc, PySem.F.mro_object, obj_eq_name, PySem.W.ns_none_of KX hN hne⟩
  have r2 : Vals [V.ref a, V.ref b] [Value.ref a, Value.ref b] := .cons rfl (.cons rfl .nil)
  have hl := F.len _ _ _ _ hsp
  have e0 := I.env0.in1
  have hcall : wpAny (model X.prog X.w) X.A.in1 (call (.ref f) [.ref a, .ref b]) (fun v s' => ∃ c, v = .bool c ∧ EP X pins σ Q (.bool (!c)) s') X.xe s := by
    refine wpAny_call (codeAny_mono (F.run X.A.in1 X.stack s H ⟨[.ref a, .ref b], []⟩ [.ref a, .ref b] [.ref a, .ref b] _ C8.E0 hr.in1 e0 (by
      have := hb s [.ref a, .ref b] I.kIn (by simpa using hl)
      simpa using this) r2 hsp) fun r s' hq => ?_)
    cases r with
    | error e => exact hq.elim
    | ok fl =>
      cases fl with
      | ret w =>
        obtain ⟨z, H', I', rz, c, ez, q⟩ := I.after hq
        subst ez
        cases rz
        exact ⟨c, rfl, .bl (!c), H', I', rfl, q⟩
      | next => exact False.elim hq
      | brk => exact False.elim hq
      | cont => exact False.elim hq
  obtain ⟨hh, g, d', t, os⟩ := s
  exact compareOp_ne_ownEq PySem.F.cmp_object OE J'.at_ J'.cls (by have := hr.un; omega) hcall
/-! ### o.m(k = v, ..) -/
def tMethK (C : Addr) (m : Str) (sp : Sp) (gV : List V → List V → List V) (E : XK) (ta : TE) (tk : TA) : TE := fun σ H Q => ta σ H fun x H1 => ∃ a dx fs, x = .ref a ∧ H1 a = some (.ins C dx fs) ∧ fs.lookup m = none ∧ tk σ H1 fun zs H2 => sp (gV [x] zs) H2 Q E
theorem pe_methK0 {X : Cx} {CX : CXT} {k : Nat} {f C : Addr} {fd : FuncData} {ps ks : List Str} {sp : Sp} {E : XK} {m : Str} {pos apos : Pos} {o : Expr} {kws : List Keyword} {ta : TE} {tk : TA} {g : List Value → List Value → List Value} {gV : List V → List V → List V} {pl : Sem Bool}
    (he : PE X o ta) (c : Cls X.K C) (hm : Meth X.K C m f) (F : FnOk X.prog X.w X.K X.mg X.base CX k f fd ps sp) (hr : Room k X.A) (hb : KBinds X.K fd ps ks g gV) (hx : Passes CX X E) (hkw : PK X kws tk)
    (hall : (backToKw pos (keywordEach kws X.env)).all (·.1.isSome) = true := by rfl) (hks : (backToKw pos (keywordEach kws X.env)).filterMap (·.1) = ks := by rfl)
    (hpl : ((backTo pos (starEach [] X.env)).any (·.1) || (backToKw pos (keywordEach kws X.env)).any (·.1.isNone)) = false := by rfl)
    (ht : eval (.Call (.Attribute o m apos) [] kws pos) X.env = (do
      let ov ← eval o X.env
      standAt apos.atName
      let (f, first) ← holding [ov] (getMethod ov m pl)
      callWith pos f first (backTo pos (starEach [] X.env)) (backToKw pos (keywordEach kws X.env))) := by rfl) :
    PE X (.Call (.Attribute o m apos) [] kws pos) (tMethK C m sp gV E ta tk) := by
  refine ⟨fun pins s σ H Q I h => ?_⟩
  refine PySem.W.methodCall_KW (pl := pl) (thn (he.run pins s σ H _ I h) fun u s1 ⟨x, H1, I1, rx, a, dx, fs, ex, ea, l, q⟩ => ?_) ht
  subst ex
  obtain rfl : u = Value.ref a := rx
  refine getmeth_ok I1 ea c hm l ?_
  refine PySem.W.callWith_KW0 (first := [.ref a]) (h₀ := X.base) I.ok.mod.kin hm.kp hall ?_ hpl
  refine thn (hkw.run pos pins s1 σ H1 _ I1 q) fun ws s2 ⟨zs, H2, I2, rz, q2⟩ => ⟨I2.kIn, ?_⟩
  rw [hks]
  exact run_fnk (us := [.ref a]) (vs := [.ref a]) F hr hb hx I2 (.cons rfl .nil) rz q2
end Wh

namespace Wh
open PySem L2 LamX
/-- all that was tracked is as it was, but what stands at c, and the tables of code objects -/
def Kp (c : Addr) (H H' : Hp) : Prop := ∀ b o, H b = some o → b ≠ c → (∀ ps, o ≠ .tbl ps) → H' b = some o
theorem Kp.refl (c : Addr) (H : Hp) : Kp c H H := fun _ _ h _ _ => h
theorem Kp.trans {c : Addr} {H H1 H2 : Hp} (a : Kp c H H1) (b : Kp c H1 H2) : Kp c H H2 := fun d o h n t => b d o (a d o h n t) n t
theorem _root_.L2.Same.kp {c : Addr} {H H' : Hp} (s : Same H H') : Kp c H H' := fun b o h _ _ => s b o h
theorem But.kp {c : Addr} {H H' : Hp} (s : But c H H') : Kp c H H' := fun b o h n _ => s b o h n
theorem _root_.LamX.ExtN.kp {c : Addr} {H H' : Hp} (s : ExtN H H') : Kp c H H' := fun b o h _ t => s b o h t
theorem Cup.ne_refs {H : Hp} {c l : Addr} {ps : List Addr} (h : Cup H c) (e : H l = some (.lst (ps.map V.ref))) : l ≠ c := fun z => by
  obtain ⟨x, y, q⟩ := h
  rw [z, q] at e
  cases ps with
  | nil => cases e
  | cons p ps => cases e
theorem refs_eq {α : Type} (ps : List (Addr × α)) : refs ps = (ps.map (·.1)).map V.ref := by
  unfold refs
  rw [List.map_map]
  rfl
theorem Cup.ne_o {H : Hp} {c b : Addr} {o : HO} (h : Cup H c) (e : H b = some o) (n : ∀ xs, o ≠ .lst xs) : b ≠ c := fun z => by
  obtain ⟨x, y, q⟩ := h
  rw [z, q] at e
  exact n _ (Option.some.inj e).symm
theorem Cup.ext {H H' : Hp} {c : Addr} (h : Cup H c) (e : ExtN H H') : Cup H' c := by
  obtain ⟨x, y, q⟩ := h
  exact ⟨x, y, e _ _ q (fun ps z => by cases z)⟩
theorem Kp.tup {c : Addr} {H H' : Hp} (k : Kp c H H') (hc : Cup H c) {b : Addr} {xs : List V} (e : H b = some (.tup xs)) : H' b = some (.tup xs) := k _ _ e (hc.ne_o e fun ys z => by cases z) (fun ps z => by cases z)
theorem At.kp {α : Type} {f : α → List V} {H H' : Hp} {ps : List (Addr × α)} {c : Addr} (h : At f H ps) (k : Kp c H H') (hc : Cup H c) : At f H' ps := fun p hp => k.tup hc (h p hp)
theorem Kp.refs {c l : Addr} {H H' : Hp} {ps : List Addr} (k : Kp c H H') (hc : Cup H c) (e : H l = some (.lst (ps.map V.ref))) : H' l = some (.lst (ps.map V.ref)) := k _ _ e (hc.ne_refs e) (fun ps z => by cases z)
theorem Dr.kp {H H' : Hp} {dl c : Addr} {ds : List Addr} {n : Nat} {ts : List Tie} (d : Dr H dl ds n ts) (k : Kp c H H') (hc : Cup H c) : Dr H' dl ds n ts :=
  ⟨k.refs hc d.hl, d.len, d.nd, fun h a e => k _ _ (d.hd h a e) (hc.ne_o (d.hd h a e) fun ys z => by cases z) (fun ps z => by cases z)⟩
theorem WebAt.kp {C c : Addr} {H H' : Hp} {x : Addr} {n : Nat} {ts : List Tie} (w : WebAt C H x n ts) (k : Kp c H H') (hc : Cup H c) : WebAt C H' x n ts := by
  obtain ⟨dx, txt, l, ps, dl, ds, h1, h2, h3, h4, h5, h6⟩ := w.ex
  exact ⟨⟨dx, txt, l, ps, dl, ds, k _ _ h1 (hc.ne_o h1 fun ys z => by cases z) (fun ps z => by cases z), k.tup hc h2, h3.kp k hc, h4, h5.kp k hc, h6⟩, w.wk, w.srt⟩
theorem Tabs.but {T : List (Addr × Str)} {H H' : Hp} {c : Addr} (t : Tabs T H) (b : But c H H') (hc : Cup H c) : Tabs T H' := fun p hp => by
  obtain ⟨ps, h1, h2, h3⟩ := t p hp
  refine ⟨ps, b _ _ h1 (hc.ne_o h1 fun ys z => by cases z), h2, fun pos cv hcv => ?_⟩
  obtain ⟨d, e1, e2⟩ := h3 pos cv hcv
  exact ⟨d, e1, b _ _ e2 (hc.ne_o e2 fun ys z => by unfold CodeO at z; cases z)⟩
/-- within a turn: the cup, the tables, the web, what was told of it -/
structure St4 (C c : Addr) (T : List (Addr × Str)) (H0 H : Hp) (x l : Addr) (n : Nat) (ts : List Tie) : Prop where
  kp : Kp c H0 H
  cup : Cup H c
  tabs : Tabs T H
  web : WebAt C H x n ts
  told : ∃ ps, H l = some (.lst (refs ps)) ∧ At tieV H ps ∧ ps.map (·.2) = ts
section
variable {C c : Addr} {T : List (Addr × Str)} {H0 H H' : Hp} {x l : Addr} {n : Nat} {ts : List Tie}
theorem St4.step (s : St4 C c T H0 H x l n ts) (k : Kp c H H') (cu : Cup H' c) (tb : Tabs T H') : St4 C c T H0 H' x l n ts := by
  obtain ⟨ps, h1, h2, h3⟩ := s.told
  refine ⟨s.kp.trans k, cu, tb, s.web.kp k s.cup, ps, ?_, h2.kp k s.cup, h3⟩
  rw [refs_eq] at h1 ⊢
  exact k.refs s.cup h1
theorem St4.same (s : St4 C c T H0 H x l n ts) (e : Same H H') : St4 C c T H0 H' x l n ts := s.step e.kp (s.cup.same e) (s.tabs.ext e)
theorem St4.but (s : St4 C c T H0 H x l n ts) (e : But c H H') (cu : Cup H' c) : St4 C c T H0 H' x l n ts := s.step e.kp cu (Tabs.but s.tabs e s.cup)
theorem St4.ext (s : St4 C c T H0 H x l n ts) (e : ExtN H H') (tb : Tabs T H') : St4 C c T H0 H' x l n ts := s.step e.kp (s.cup.ext e) tb
end
theorem WebAt.fs {C : Addr} {H : Hp} {x : Addr} {n : Nat} {ts : List Tie} (w : WebAt C H x n ts) : ∃ dx fs, H x = some (.ins C dx fs) ∧ fs.lookup ("at" : Str) = none ∧ fs.lookup ("changed" : Str) = none := by
  obtain ⟨dx, txt, l, ps, dl, ds, h1, _⟩ := w.ex
  exact ⟨dx, _, h1, ff_no _ _ _ _ (by decide +kernel), ff_no _ _ _ _ (by decide +kernel)⟩
theorem marks_pos {n : Nat} {ts : List Tie} (w : WebOk n ts) {h : Nat} (hn : h < n) : 0 < (marksAt h ts).length := by
  have n2 := w.n2
  have ex : ∃ t ∈ ts, endsAt h t ≠ [] := by
    have some : ∃ t ∈ ts, t.a = h ∨ t.b = h := by
      refine Classical.byContradiction fun no => ?_
      by_cases h0 : h = 0
      · have z := w.hang (fun x => x = 0) rfl (fun t ht => ⟨fun e => absurd ⟨t, ht, .inl (e.trans h0.symm)⟩ no, fun e => absurd ⟨t, ht, .inr (e.trans h0.symm)⟩ no⟩) 1 (by omega)
        cases z
      · exact w.hang (fun x => x ≠ h) (Ne.symm h0) (fun t ht => ⟨fun _ e => no ⟨t, ht, .inr e⟩, fun _ e => no ⟨t, ht, .inl e⟩⟩) h hn rfl
    obtain ⟨t, ht, e⟩ := some
    refine ⟨t, ht, fun z => ?_⟩
    unfold endsAt at z
    rcases e with e | e
    · rw [if_pos e] at z
      have := congrArg List.length z
      simp at this
    · rw [if_pos e] at z
      have := congrArg List.length z
      simp at this
  obtain ⟨t, ht, e⟩ := ex
  obtain ⟨y, hy⟩ := List.exists_mem_of_ne_nil _ e
  exact List.length_pos_of_mem (mem_ends ht hy)
/-! ### lists of flat data, equal -/
def lD (xs : List V) : PyData := .list (xs.map vD)
theorem lD_dp (K : PySem.W.Frag) {H : Hp} {p : Addr} {xs : List V} (h : xs.all nb = true) (e : H p = some (.lst xs)) : Dp K H (.ref p) (lD xs) := .lst (SqL.of e) (vDs_dp K H h)
theorem lD_shaped {xs : List V} (h : xs.all nb = true) : SeqAt.shaped (lD xs) = true := by
  show (PyData.canLay0 (.list (xs.map vD)) && decide (PyData.depth (.list (xs.map vD)) ≤ 64)) = true
  rw [PyData.canLay0, PyData.depth, vDs_lay h, vDs_depth]
  rfl
theorem lD_eqv {xs : List V} (h : xs.all nb = true) : PyData.eqv (lD xs) (lD xs) = true := by
  show PyData.eqv (.list (xs.map vD)) (.list (xs.map vD)) = true
  rw [PyData.eqv, vDs_eqv h h]
  exact decide_eq_true rfl
theorem rNeL {K : PySem.W.Frag} {H : Hp} {p q : Addr} {xs : List V} {Q : VK} (hp : H p = some (.lst xs)) (hq : H q = some (.lst xs)) (h : xs.all nb = true) (k : Q (.bl false) H) : rNeD K (.ref p) (.ref q) H Q :=
  ⟨_, _, lD_dp K h hp, lD_dp K h hq, lD_shaped h, lD_shaped h, by rw [lD_eqv h]; exact k⟩
theorem repr_nb : ∀ c ∈ letters, PyData.canLay0 (.str (reprText (sgn c))) = true := by
  intro c hc
  rw [PyData.canLay0]
  revert c
  decide +kernel
end Wh

namespace Wh
open PySem L2
/-! ### where a mark leads, where a word ends -/
def door (h m : Nat) (ts : List Tie) : Option Nat := ((doorsAt h ts).find? fun d => decide (d.1 = m)).map (·.2)
def walkN (ts : List Tie) : Nat → List Nat → Option Nat
  | h, [] => some h
  | h, m :: ms => (door h m ts).bind fun k => walkN ts k ms
theorem valV_door (h m : Nat) (ts : List Tie) : valV (doorsK h ts) (Sum.inr (sgn m) : Key) = (door h m ts).map (fun k : Nat => V.int (k : Int)) := by
  unfold valV doorsK door
  rw [List.find?_map]
  have e : ((fun kv : Key × V => decide (kv.1 = (Sum.inr (sgn m) : Key))) ∘ kD) = fun d => decide (d.1 = m) := by
    funext d
    show decide ((Sum.inr (sgn d.1) : Key) = Sum.inr (sgn m)) = decide (d.1 = m)
    by_cases c : d.1 = m
    · rw [c, decide_eq_true rfl, decide_eq_true rfl]
    · rw [decide_eq_false c, decide_eq_false fun z => c (sgn_inj (Sum.inr.inj z))]
  rw [e, Option.map_map, Option.map_map]
  rfl
theorem door_mem {h m k : Nat} {ts : List Tie} (e : door h m ts = some k) : (m, k) ∈ doorsAt h ts := by
  unfold door at e
  cases q : (doorsAt h ts).find? fun d => decide (d.1 = m) with
  | none =>
    rw [q] at e
    cases e
  | some d =>
    rw [q] at e
    have h1 := List.mem_of_find?_eq_some q
    have h2 : d.1 = m := of_decide_eq_true (List.find?_some (p := fun d : Nat × Nat => decide (d.1 = m)) q)
    have h3 : d.2 = k := Option.some.inj e
    obtain ⟨x, y⟩ := d
    simp only at h2 h3
    rw [h2, h3] at h1
    exact h1
theorem door_of {h m k : Nat} {ts : List Tie} (nd : (marksAt h ts).Nodup) (hm : (m, k) ∈ doorsAt h ts) : door h m ts = some k := by
  rw [← doorsAt_fst] at nd
  unfold door
  revert nd hm
  generalize doorsAt h ts = l
  intro nd hm
  induction l with
  | nil => cases hm
  | cons d l ih =>
    rw [List.map_cons] at nd
    obtain ⟨n1, n2⟩ := List.nodup_cons.mp nd
    rw [List.find?_cons]
    rcases List.mem_cons.mp hm with e | e
    · rw [← e]
      simp
    · have ne : d.1 ≠ m := fun z => n1 (List.mem_map.mpr ⟨(m, k), e, z.symm⟩)
      rw [decide_eq_false ne]
      exact ih n2 e
theorem doorsAt_perm {ts us : List Tie} (p : ts.Perm us) (h : Nat) : (doorsAt h ts).Perm (doorsAt h us) := p.flatMap_right _
theorem door_perm {n : Nat} {ts us : List Tie} (w : WebOk n ts) (p : ts.Perm us) (h m : Nat) : door h m ts = door h m us := by
  have pd := doorsAt_perm p h
  have nd2 : (marksAt h us).Nodup := (w.perm p).uniq h
  cases e : door h m ts with
  | some k => exact (door_of nd2 (pd.mem_iff.mp (door_mem e))).symm
  | none =>
    cases e2 : door h m us with
    | none => rfl
    | some k =>
      have := door_of (w.uniq h) (pd.mem_iff.mpr (door_mem e2))
      rw [e] at this
      cases this
theorem walkN_perm {n : Nat} {ts us : List Tie} (w : WebOk n ts) (p : ts.Perm us) : ∀ (ms : List Nat) (h : Nat), walkN ts h ms = walkN us h ms
  | [], _ => rfl
  | m :: ms, h => by
    show (door h m ts).bind _ = (door h m us).bind _
    rw [door_perm w p]
    cases door h m us with
    | none => rfl
    | some k => exact walkN_perm w p ms k
theorem door_lt {n h m k : Nat} {ts : List Tie} (w : WebOk n ts) (e : door h m ts = some k) : k < n := by
  have hm := door_mem e
  obtain ⟨t, ht, hm⟩ := List.mem_flatMap.mp hm
  have := w.lt t ht
  unfold endsD at hm
  rcases List.mem_append.mp hm with z | z
  · split at z
    · have e := List.mem_singleton.mp z
      injection e with e1 e2
      omega
    · cases z
  · split at z
    · have e := List.mem_singleton.mp z
      injection e with e1 e2
      omega
    · cases z
theorem walkN_app (ts : List Tie) : ∀ (xs ys : List Nat) (h : Nat), walkN ts h (xs ++ ys) = (walkN ts h xs).bind fun p => walkN ts p ys
  | [], _, _ => rfl
  | x :: xs, ys, h => by
    show (door h x ts).bind _ = ((door h x ts).bind _).bind _
    cases door h x ts with
    | none => rfl
    | some k => exact walkN_app ts xs ys k
theorem walk_step {ts : List Tie} {h p m : Nat} {ms : List Nat} {i : Nat} (hi : ms[i]? = some m) (hp : walkN ts h (ms.take i) = some p) : walkN ts h (ms.take (i + 1)) = door p m ts := by
  rw [List.take_succ, hi]
  show walkN ts h (ms.take i ++ [m]) = _
  rw [walkN_app, hp]
  show (door p m ts).bind _ = _
  cases door p m ts <;> rfl
theorem walk_stop {ts : List Tie} {h p m : Nat} {ms : List Nat} {i : Nat} (hi : ms[i]? = some m) (hp : walkN ts h (ms.take i) = some p) (hd : door p m ts = none) : walkN ts h ms = none := by
  rw [take_split hi, walkN_app, hp]
  show (door p m ts).bind _ = none
  rw [hd]
  rfl
def walkV : Option Nat → V
  | none => .non
  | some k => .int (k : Int)
end Wh

namespace Wh
open PySem L2
/-- a line's tie, the lesser house ahead -/
def nrm (t : Tie) : Tie := if t.a < t.b then t else ⟨t.b, t.o, t.a, t.m⟩
theorem nrm_id {t : Tie} (h : t.a < t.b) : nrm t = t := if_pos h
theorem nrm_map {ts : List Tie} (h : ∀ t ∈ ts, t.a < t.b) : ts.map nrm = ts := (List.map_congr_left fun t ht => nrm_id (h t ht)).trans (List.map_id _)
/-- a line that may be turned round -/
structure RawOk (t : Tie) : Prop where
  ne : t.a ≠ t.b
  a10 : t.a < 10
  b10 : t.b < 10
  lm : t.m ∈ letters
  lo : t.o ∈ letters
theorem raw_of {n : Nat} {ts : List Tie} (w : WebOk n (ts.map nrm)) : ∀ t ∈ ts, RawOk t := fun t ht => by
  have h1 := w.lt _ (List.mem_map_of_mem ht)
  have h2 := w.let_ _ (List.mem_map_of_mem ht)
  have h3 := w.n10
  unfold nrm at h1 h2
  by_cases c : t.a < t.b
  · rw [if_pos c] at h1 h2
    exact ⟨by omega, by omega, by omega, h2.1, h2.2⟩
  · rw [if_neg c] at h1 h2
    have h4 : t.b < t.a ∧ t.a < n := h1
    exact ⟨by omega, by omega, by omega, h2.2, h2.1⟩
/-- the text of a web, as it was given -/
def TextAt (C : Addr) (H : Hp) (x : Addr) (txt : Str) : Prop := ∃ (dx : Addr) (pl : Str) (l dl : Addr), H x = some (.ins C dx (webF txt pl l dl))
theorem TextAt.same {C : Addr} {H H' : Hp} {x : Addr} {txt : Str} (t : TextAt C H x txt) (s : Same H H') : TextAt C H' x txt := by
  obtain ⟨dx, pl, l, dl, h⟩ := t
  exact ⟨dx, pl, l, dl, s _ _ h⟩
theorem TextAt.kp {C c : Addr} {H H' : Hp} {x : Addr} {txt : Str} (t : TextAt C H x txt) (k : Kp c H H') (hc : Cup H c) : TextAt C H' x txt := by
  obtain ⟨dx, pl, l, dl, h⟩ := t
  exact ⟨dx, pl, l, dl, k _ _ h (hc.ne_o h fun ys z => by cases z) (fun ps z => by cases z)⟩
theorem ff_text (t p : Str) (l d : Addr) : (webF t p l d).lookup ("_text" : Str) = some (.str t) := by
  unfold webF
  rw [List.lookup_cons, show (("_text" : Str) == ("_text" : Str)) = true by decide +kernel]
end Wh

namespace Wh
open PySem PySem.Spec PyProof.Rows L2
/-! ### x == y, x an object with an own ==, y anything whose kind is known -/
def rEqI (K : PySem.W.Frag) (C : Addr) (sp : Sp) : R2 := fun x y H Q => ∃ (a dx : Addr) (fs : List (Str × V)) (t : Value), x = .ref a ∧ H a = some (.ins C dx fs) ∧ TyX K H y t ∧ PySem.W.notFirst K C t = true ∧ sp [.ref a, y] H (fun v H' => ∃ c, v = .bl c ∧ Q (.bl c) H') C8.E0
theorem op_eqI {X : Cx} {n : Nat} {C f : Addr} {fd : FuncData} {ps : List Str} {sp : Sp} (F : FnOk X.prog X.w X.K X.mg X.base C8.CX0 n f fd ps sp) (own : PySem.W.findIn X.K (.ref C) "__eq__" = some (some (.ref f))) (isF : PySem.W.isFn X.K (.ref f) = true) (bnd : Binds X.K fd ps []) (room : Room n X.A) : OpR X (compareOp .Eq) (rEqI X.K C sp) := by
  intro pins s σ H x y v u Q I rx ry d
  obtain ⟨a, dx, fs, t, rfl, ha, ty, first, hsp⟩ := d
  cases rx
  obtain ⟨mA, O, _⟩ := ins_get I.hok ha
  obtain ⟨od, at_, _⟩ := O.look
  obtain ⟨G, kit, g, _⟩ := kit_of I ry ty
  obtain ⟨m, fr⟩ := I.fr
  have vals : Vals [V.ref a, y] [Value.ref a, u] := .cons rfl (.cons ry .nil)
  have len := F.len _ _ _ _ hsp
  have bind : BindsTo s fd ⟨[.ref a, u], []⟩ (ps.zip [.ref a, u]) := by
    have z := bnd s [.ref a, u] I.kIn (by rw [List.append_nil]; exact len)
    rw [List.append_nil] at z
    exact z
  refine PySem.W.cmp_K (op := .Eq) (tb := t) room.units0 fr I.ok.mod.kin at_ (kit.ty _ _ I.kIn g) first own isF ?_
  refine wpAny_call (codeAny_mono (F.run X.A X.stack s H _ _ _ _ C8.E0 room I.env0 bind vals hsp) fun r s' end_ => ?_)
  match r, end_ with
  | .error _, z => exact z.elim
  | .ok .next, z => exact False.elim z
  | .ok .brk, z => exact False.elim z
  | .ok .cont, z => exact False.elim z
  | .ok (.ret w), z =>
    obtain ⟨o, H', I', ro, c, eo, q⟩ := I.after z
    subst eo
    cases ro
    exact ⟨.bl c, H', I', rfl, q⟩
/-! ### webs with one plain text are one -/
theorem lineS_inj {t u : Tie} (e : lineS t = lineS u) : t = u := by
  have z := congrArg (fun s : Str => s.cps.toList) e
  have z2 : lineL t = lineL u := z
  obtain ⟨a, m, b, o⟩ := t
  obtain ⟨a2, m2, b2, o2⟩ := u
  unfold lineL at z2
  simp only [List.cons.injEq] at z2
  obtain ⟨h1, _, h2, _, h3, _, h4, _⟩ := z2
  have e1 : a = a2 := by omega
  have e3 : b = b2 := by omega
  subst e1 e3 h2 h4
  rfl
theorem map_inj {α β : Type} {f : α → β} (h : ∀ x y, f x = f y → x = y) : ∀ {xs ys : List α}, xs.map f = ys.map f → xs = ys
  | [], [], _ => rfl
  | [], _ :: _, e => by cases e
  | _ :: _, [], e => by cases e
  | x :: xs, y :: ys, e => by
    rw [List.map_cons, List.map_cons] at e
    injection e with e1 e2
    rw [h x y e1, map_inj h e2]
theorem webS_inj {n m : Nat} {ts us : List Tie} (w1 : WebOk n ts) (w2 : WebOk m us) (e : webS ts = webS us) : ts = us := by
  have sp : ∀ {k : Nat} {rs : List Tie}, WebOk k rs → Txt.split (webS rs) ("\n" : Str) = rs.map lineS := fun {k rs} w => text_split w.ne fun t ht => by
    have h1 := w.lt t ht
    have h2 := w.n10
    exact no_nl (by omega) (by omega) (w.let_ t ht).1 (w.let_ t ht).2
  have z : ts.map lineS = us.map lineS := by rw [← sp w1, ← sp w2, e]
  exact map_inj (fun _ _ => lineS_inj) z
end Wh

namespace Wh
open PySem PySem.Spec L2 PyProof.Rows
/-! ### sorted letters: one row only -/
theorem lt_sgn (i j : Nat) : ltCps (sgn i).cps.toList (sgn j).cps.toList = decide (i < j) := by
  show ltCps [i] [j] = decide (i < j)
  unfold ltCps
  by_cases q : i < j
  · simp [q]
  · by_cases e : i = j
    · subst e
      simp [ltCps]
    · simp [q, e, ltCps]
theorem rising_all : ∀ (ns : List Nat) (p : Nat), risingS (sgn p) (ns.map sgn) = true → (∀ n ∈ ns, p ≤ n) ∧ ns.Pairwise (· ≤ ·)
  | [], _, _ => ⟨(fun _ h => by cases h), .nil⟩
  | n :: ns, p, h => by
    have h' : (!ltCps (sgn n).cps.toList (sgn p).cps.toList && risingS (sgn n) (ns.map sgn)) = true := h
    rw [lt_sgn, Bool.and_eq_true] at h'
    have h1 : ¬ n < p := by simpa using h'.1
    obtain ⟨h2, h3⟩ := rising_all ns n h'.2
    refine ⟨fun k hk => ?_, List.pairwise_cons.mpr ⟨h2, h3⟩⟩
    rcases List.mem_cons.mp hk with e | e
    · omega
    · have := h2 k e
      omega
theorem letters_srt : ∀ ns : List Nat, sortedS (ns.map sgn) = true → ns.Pairwise (· ≤ ·)
  | [], _ => .nil
  | n :: ns, h => by
    obtain ⟨h1, h2⟩ := rising_all ns n h
    exact List.pairwise_cons.mpr ⟨h1, h2⟩
theorem nat_uniq : ∀ {l m : List Nat}, l.Pairwise (· ≤ ·) → m.Pairwise (· ≤ ·) → l.Perm m → l = m
  | [], _, _, _, p => p.nil_eq
  | x :: l, [], _, _, p => absurd p.length_eq (by simp)
  | x :: l, y :: m, hl, hm, p => by
    rw [List.pairwise_cons] at hl hm
    have e : x = y := by
      rcases List.mem_cons.mp (p.mem_iff.mp (List.mem_cons_self (a := x))) with e | hx
      · exact e
      · rcases List.mem_cons.mp (p.mem_iff.mpr (List.mem_cons_self (a := y))) with e | hy
        · exact e.symm
        · have := hm.1 _ hx
          have := hl.1 _ hy
          omega
    subst e
    rw [nat_uniq hl.2 hm.2 p.cons_inv]
end Wh

namespace Wh
open PySem L2
/-! ### a walk by an invariant, whatever the turn is -/
theorem walk_by {J : It} {n : Nat} {G : Hp → Prop} {Y : Nat → Hp → V → Hp → Prop} (w : Walk J n G Y) {turn : (Hp → Prop) → V → Hp → Prop} {H0 : Hp} {Qd : Hp → Prop} (Pv : Nat → Hp → Prop) (h0 : Pv 0 H0) (hG : ∀ i H, i ≤ n → Pv i H → G H)
    (hs : ∀ i x H H', i < n → Pv i H → Y i H x H' → turn (Pv (i + 1)) x H') (hd : ∀ H, Pv n H → Qd H) :
    ∃ W : Nat → Nat → Hp → Prop, (∃ m, W 0 m H0) ∧ ∀ i m H, W i m H → (J.stop i H ∧ Qd H) ∨ (J.go i H ∧ ∃ Nx : Hp → Prop, (∀ H', Nx H' → ∃ m', m' < m ∧ W (i + 1) m' H') ∧ ∀ x H', J.yld i H x H' → turn Nx x H') := by
  refine ⟨fun i m H => m + i = n ∧ Pv i H, ⟨n, rfl, h0⟩, ?_⟩
  rintro i m H ⟨hm, p⟩
  have g := hG i H (by omega) p
  rcases Nat.eq_zero_or_pos m with z | z
  · have e : i = n := by omega
    subst e
    exact .inl ⟨w.stops H g, hd H p⟩
  · exact .inr ⟨w.goes i H (by omega) g, Pv (i + 1), fun H' p' => ⟨m - 1, by omega, by omega, p'⟩, fun x H' y => hs i x H H' (by omega) p (w.yields i H x H' (by omega) g y)⟩
/-! ### some things locked while an expression runs -/
def lkH (od : Addr → Obj) (L : List (Addr × HO)) (H : Hp) : Hp := fun a => match L.lookup a with
  | some u => some (.frz (od a) u)
  | none => H a
def ulH (L : List (Addr × HO)) (H : Hp) : Hp := fun a => match L.lookup a with
  | some u => some u
  | none => H a
theorem look_no {L : List (Addr × HO)} {a : Addr} (h : a ∉ L.map (·.1)) : L.lookup a = none := by
  induction L with
  | nil => rfl
  | cons p L ih =>
    rw [List.map_cons, List.mem_cons, not_or] at h
    rw [List.lookup_cons, beq_eq_false_iff_ne.mpr h.1]
    exact ih h.2
theorem look_at {L : List (Addr × HO)} (nd : (L.map (·.1)).Nodup) {p : Addr × HO} (hp : p ∈ L) : L.lookup p.1 = some p.2 := by
  induction L with
  | nil => cases hp
  | cons q L ih =>
    rw [List.map_cons] at nd
    obtain ⟨n1, n2⟩ := List.nodup_cons.mp nd
    rw [List.lookup_cons]
    rcases List.mem_cons.mp hp with e | e
    · rw [e, beq_self_eq_true]
    · have ne : p.1 ≠ q.1 := fun z => n1 (z ▸ List.mem_map_of_mem e)
      rw [beq_eq_false_iff_ne.mpr ne]
      exact ih n2 e
theorem lk_cons (od : Addr → Obj) (p : Addr × HO) (L : List (Addr × HO)) (H : Hp) : lkH od (p :: L) H = upd (lkH od L H) p.1 (.frz (od p.1) p.2) := by
  funext a
  unfold lkH
  rw [List.lookup_cons]
  by_cases e : a = p.1
  · subst e
    rw [beq_self_eq_true, upd_same]
  · rw [beq_eq_false_iff_ne.mpr e, upd_ne e]
theorem ul_cons (p : Addr × HO) (L : List (Addr × HO)) (H : Hp) : ulH (p :: L) H = upd (ulH L H) p.1 p.2 := by
  funext a
  unfold ulH
  rw [List.lookup_cons]
  by_cases e : a = p.1
  · subst e
    rw [beq_self_eq_true, upd_same]
  · rw [beq_eq_false_iff_ne.mpr e, upd_ne e]
theorem lk_congr {od od' : Addr → Obj} {L : List (Addr × HO)} {H : Hp} (h : ∀ a ∈ L.map (·.1), od a = od' a) : lkH od L H = lkH od' L H := by
  induction L with
  | nil => rfl
  | cons p L ih =>
    rw [lk_cons, lk_cons, ih fun a ha => h a (List.mem_cons_of_mem _ ha), h p.1 List.mem_cons_self]
theorem lk_out {od : Addr → Obj} {L : List (Addr × HO)} {H : Hp} {a : Addr} (h : a ∉ L.map (·.1)) : lkH od L H a = H a := by
  unfold lkH
  rw [look_no h]
theorem lk_in {od : Addr → Obj} {L : List (Addr × HO)} {H : Hp} (nd : (L.map (·.1)).Nodup) {p : Addr × HO} (hp : p ∈ L) : lkH od L H p.1 = some (.frz (od p.1) p.2) := by
  unfold lkH
  rw [look_at nd hp]
theorem ul_out {L : List (Addr × HO)} {H : Hp} {a : Addr} (h : a ∉ L.map (·.1)) : ulH L H a = H a := by
  unfold ulH
  rw [look_no h]
theorem ul_in {L : List (Addr × HO)} {H : Hp} (nd : (L.map (·.1)).Nodup) {p : Addr × HO} (hp : p ∈ L) : ulH L H p.1 = some p.2 := by
  unfold ulH
  rw [look_at nd hp]
theorem lk_free {od : Addr → Obj} {L : List (Addr × HO)} {H : Hp} (nd : (L.map (·.1)).Nodup) {a : Addr} (h : lkH od L H a = none) : a ∉ L.map (·.1) ∧ H a = none := by
  have h1 : a ∉ L.map (·.1) := fun z => by
    obtain ⟨p, hp, rfl⟩ := List.mem_map.mp z
    rw [lk_in nd hp] at h
    cases h
  exact ⟨h1, (lk_out h1).symm.trans h⟩
/-- behind the unlocking all is as it was, and what is new -/
theorem ul_same {od : Addr → Obj} {L : List (Addr × HO)} {H H' : Hp} (nd : (L.map (·.1)).Nodup) (at_ : ∀ p ∈ L, H p.1 = some p.2) (s : Same (lkH od L H) H') : Same H (ulH L H') := fun a o e => by
  by_cases h : a ∈ L.map (·.1)
  · obtain ⟨p, hp, rfl⟩ := List.mem_map.mp h
    rw [ul_in nd hp, ← at_ p hp]
    exact e
  · rw [ul_out h]
    exact s a o ((lk_out h).trans e)
def tLocks (t : TE) : TE := fun σ H Q => ∃ L : List (Addr × HO), (L.map (·.1)).Nodup ∧ (∀ p ∈ L, H p.1 = some p.2 ∧ Mut (some p.2)) ∧ ∀ od : Addr → Obj, t σ (lkH od L H) fun v H' => (∀ p ∈ L, H' p.1 = some (.frz (od p.1) p.2)) ∧ Q v (ulH L H')
section
variable {X : Cx} {pins : List (Addr × Obj)} {σ : L2.St} {H : Hp} {s : Shared}
theorem inv_locks (I : Inv X pins σ H s) : ∀ L : List (Addr × HO), (L.map (·.1)).Nodup → (∀ p ∈ L, H p.1 = some p.2 ∧ Mut (some p.2)) → ∃ od : Addr → Obj, Inv X pins σ (lkH od L H) s
  | [], _, _ => ⟨fun _ => { cls := .none, data := .fields #[] }, I⟩
  | p :: L, nd, h => by
    rw [List.map_cons] at nd
    obtain ⟨n1, n2⟩ := List.nodup_cons.mp nd
    obtain ⟨od, I1⟩ := inv_locks I L n2 fun q hq => h q (List.mem_cons_of_mem _ hq)
    obtain ⟨hp, mp⟩ := h p List.mem_cons_self
    obtain ⟨o, I2⟩ := I1.lock ((lk_out n1).trans hp) mp
    refine ⟨fun a => if a = p.1 then o else od a, ?_⟩
    have e : lkH (fun a => if a = p.1 then o else od a) L H = lkH od L H := lk_congr fun a ha => if_neg fun z : a = p.1 => n1 (by rw [← z]; exact ha)
    rw [lk_cons, if_pos rfl, e]
    exact I2
theorem inv_unlocks {od : Addr → Obj} (I : Inv X pins σ H s) : ∀ L : List (Addr × HO), (L.map (·.1)).Nodup → (∀ p ∈ L, H p.1 = some (.frz (od p.1) p.2) ∧ ∀ o' u', X.H_0 p.1 ≠ some (.frz o' u')) → Inv X pins σ (ulH L H) s
  | [], _, _ => I
  | p :: L, nd, h => by
    rw [List.map_cons] at nd
    obtain ⟨n1, n2⟩ := List.nodup_cons.mp nd
    rw [ul_cons]
    obtain ⟨h1, h2⟩ := h p List.mem_cons_self
    exact (inv_unlocks I L n2 fun q hq => h q (List.mem_cons_of_mem _ hq)).unlock ((ul_out n1).trans h1) h2
theorem pe_locks {e : Expr} {t : TE} (h : PE X e t) : PE X e (tLocks t) := by
  refine ⟨fun pins s σ H Q I ⟨L, nd, at_, hw⟩ => ?_⟩
  obtain ⟨od, I1⟩ := inv_locks I L nd at_
  refine thn (h.run pins s σ _ _ I1 (hw od)) fun v s1 ⟨x, H1, I2, r, back, q⟩ => ⟨x, _, inv_unlocks (od := od) I2 L nd fun p hp => ⟨back p hp, I.nofrz (at_ p hp).1 (at_ p hp).2⟩, r, q⟩
end
/-! ### members of a set of texts -/
theorem addL_mem {y z : Str} {l : List Str} : z ∈ addL y l ↔ z = y ∨ z ∈ l := by
  unfold addL
  by_cases h : y ∈ l
  · rw [if_pos h]
    exact ⟨.inr, fun q => q.elim (fun e => e ▸ h) id⟩
  · rw [if_neg h, List.mem_cons]
theorem addL_nd {y : Str} {l : List Str} (h : l.Nodup) : (addL y l).Nodup := by
  unfold addL
  split
  · exact h
  · exact List.nodup_cons.mpr ⟨by assumption, h⟩
end Wh

namespace Wh
open PySem L2
/-! ### two houses walk by one word -/
def step2 (ts : List Tie) (q : Pr) (m : Nat) : Option Pr := (door q.1 m ts).bind fun a => (door q.2 m ts).map fun b => (a, b)
def walk2 (ts : List Tie) : Pr → List Nat → Option Pr
  | q, [] => some q
  | q, m :: ms => (step2 ts q m).bind fun r => walk2 ts r ms
theorem step2_some {ts : List Tie} {q r : Pr} {m : Nat} : step2 ts q m = some r ↔ door q.1 m ts = some r.1 ∧ door q.2 m ts = some r.2 := by
  unfold step2
  cases h1 : door q.1 m ts with
  | none => simp
  | some a =>
    cases h2 : door q.2 m ts with
    | none => simp
    | some b =>
      simp only [Option.bind_some, Option.map_some, Option.some.injEq]
      constructor
      · rintro rfl
        exact ⟨rfl, rfl⟩
      · rintro ⟨rfl, rfl⟩
        rfl
theorem walk2_some {ts : List Tie} : ∀ {ms : List Nat} {q r : Pr}, walk2 ts q ms = some r ↔ walkN ts q.1 ms = some r.1 ∧ walkN ts q.2 ms = some r.2
  | [], q, r => by
    show some q = some r ↔ some q.1 = some r.1 ∧ some q.2 = some r.2
    simp only [Option.some.injEq]
    exact Prod.ext_iff
  | m :: ms, q, r => by
    show (step2 ts q m).bind _ = some r ↔ (door q.1 m ts).bind _ = some r.1 ∧ (door q.2 m ts).bind _ = some r.2
    unfold step2
    cases h1 : door q.1 m ts with
    | none => simp
    | some a =>
      cases h2 : door q.2 m ts with
      | none => simp
      | some b => exact walk2_some (ms := ms) (q := (a, b))
theorem walk2_app (ts : List Tie) : ∀ (xs ys : List Nat) (q : Pr), walk2 ts q (xs ++ ys) = (walk2 ts q xs).bind fun r => walk2 ts r ys
  | [], _, _ => rfl
  | x :: xs, ys, q => by
    show (step2 ts q x).bind _ = ((step2 ts q x).bind _).bind _
    cases step2 ts q x with
    | none => rfl
    | some k => exact walk2_app ts xs ys k
theorem walk2_snoc {ts : List Tie} {q r s : Pr} {u : List Nat} {m : Nat} (h : walk2 ts q u = some r) (k : step2 ts r m = some s) : walk2 ts q (u ++ [m]) = some s := by
  rw [walk2_app, h]
  show (step2 ts r m).bind _ = some s
  rw [k]
  rfl
theorem walk2_last {ts : List Tie} {q s : Pr} {w : List Nat} (h : walk2 ts q w = some s) (ne : w ≠ []) : ∃ u m r, w = u ++ [m] ∧ walk2 ts q u = some r ∧ step2 ts r m = some s := by
  obtain ⟨u, m, rfl⟩ : ∃ u m, w = u ++ [m] := ⟨w.dropLast, w.getLast ne, (List.dropLast_concat_getLast ne).symm⟩
  rw [walk2_app] at h
  cases e : walk2 ts q u with
  | none =>
    rw [e] at h
    cases h
  | some r =>
    rw [e] at h
    refine ⟨u, m, r, rfl, e, ?_⟩
    have h : (step2 ts r m).bind (fun t => some t) = some s := h
    cases e2 : step2 ts r m with
    | none =>
      rw [e2] at h
      cases h
    | some t =>
      rw [e2] at h
      exact h
theorem step2_mark {ts : List Tie} {q r : Pr} {m : Nat} (h : step2 ts q m = some r) : m ∈ marksAt q.1 ts ∧ m ∈ marksAt q.2 ts := by
  obtain ⟨h1, h2⟩ := step2_some.mp h
  exact ⟨doorsAt_fst q.1 ts ▸ List.mem_map_of_mem (door_mem h1), doorsAt_fst q.2 ts ▸ List.mem_map_of_mem (door_mem h2)⟩
theorem step2_lt {n : Nat} {ts : List Tie} {q r : Pr} {m : Nat} (w : WebOk n ts) (h : step2 ts q m = some r) : r.1 < n ∧ r.2 < n := by
  obtain ⟨h1, h2⟩ := step2_some.mp h
  exact ⟨door_lt w h1, door_lt w h2⟩
/-! ### a walk through all, breadth first -/
abbrev En := Pr × List Nat
def qu (p0 : Pr) (es : List En) : List En := (p0, []) :: es
/-- what the queue holds: entries below i are done, entry i for the marks in done -/
structure Bfs (n : Nat) (ts : List Tie) (p0 : Pr) (es : List En) (i : Nat) (done : List Nat) : Prop where
  sound : ∀ e ∈ es, e.2 ≠ [] ∧ walk2 ts p0 e.2 = some e.1
  nd : (es.map (·.1)).Nodup
  lt : ∀ e ∈ es, e.1.1 < n ∧ e.1.2 < n
  lets : ∀ e ∈ es, ∀ m ∈ e.2, m ∈ letters
  closed : ∀ (k : Nat) (e : En), k < i → (qu p0 es)[k]? = some e → ∀ m r, step2 ts e.1 m = some r → ∃ f ∈ es, f.1 = r ∧ f.2.length ≤ e.2.length + 1
  part : ∀ e : En, (qu p0 es)[i]? = some e → ∀ m ∈ done, ∀ r, step2 ts e.1 m = some r → ∃ f ∈ es, f.1 = r ∧ f.2.length ≤ e.2.length + 1
  mono : ∀ (k l : Nat) (e f : En), k ≤ l → (qu p0 es)[k]? = some e → (qu p0 es)[l]? = some f → e.2.length ≤ f.2.length
  top : ∀ e : En, (qu p0 es)[i]? = some e → ∀ f ∈ es, f.2.length ≤ e.2.length + 1
  len : ∀ (k : Nat) (e : En), (qu p0 es)[k]? = some e → e.2.length ≤ k
theorem Bfs.init (n : Nat) (ts : List Tie) (p0 : Pr) : Bfs n ts p0 [] 0 [] := by
  refine ⟨(fun e h => by cases h), List.nodup_nil, (fun e h => by cases h), (fun e h => by cases h), (fun k e h => by omega), (fun e _ m h => by cases h), fun k l e f _ h1 h2 => ?_, (fun e _ f h => by cases h), fun k e h => ?_⟩
  · match k, l, h1, h2 with
    | 0, 0, h1, h2 =>
      rw [h1] at h2
      obtain rfl := Option.some.inj h2
      exact Nat.le_refl _
    | 0, l + 1, _, h2 => cases h2
    | k + 1, _, h1, _ => cases h1
  · match k, h with
    | 0, h =>
      obtain rfl := Option.some.inj h
      exact Nat.le_refl _
    | k + 1, h => cases h
theorem qu_len (p0 : Pr) (es : List En) : (qu p0 es).length = es.length + 1 := rfl
theorem qu_old {p0 : Pr} {es : List En} {x : En} {k : Nat} {e : En} (h : (qu p0 es)[k]? = some e) : (qu p0 (es ++ [x]))[k]? = some e := by
  have hk : k < (qu p0 es).length := (List.getElem?_eq_some_iff.mp h).1
  show ((p0, []) :: (es ++ [x]))[k]? = some e
  rw [show ((p0, ([] : List Nat)) :: (es ++ [x])) = qu p0 es ++ [x] from rfl, List.getElem?_append_left hk]
  exact h
theorem qu_cases {p0 : Pr} {es : List En} {x : En} {k : Nat} {e : En} (h : (qu p0 (es ++ [x]))[k]? = some e) : (qu p0 es)[k]? = some e ∨ (k = es.length + 1 ∧ e = x) := by
  have h' : (qu p0 es ++ [x])[k]? = some e := h
  by_cases hk : k < (qu p0 es).length
  · rw [List.getElem?_append_left hk] at h'
    exact .inl h'
  · rw [List.getElem?_append_right (by omega)] at h'
    have hl : (qu p0 es).length = es.length + 1 := rfl
    match e2 : k - (qu p0 es).length, h' with
    | 0, h' => exact .inr ⟨by omega, (Option.some.inj h').symm⟩
    | j + 1, h' => cases h'
theorem Bfs.skip {n : Nat} {ts : List Tie} {p0 : Pr} {es : List En} {i m : Nat} {done : List Nat} (B : Bfs n ts p0 es i done) (h : ∀ e, (qu p0 es)[i]? = some e → ∀ r, step2 ts e.1 m = some r → r ∈ es.map (·.1)) : Bfs n ts p0 es i (done ++ [m]) :=
  ⟨B.sound, B.nd, B.lt, B.lets, B.closed, fun e he k hk r hr => by
    rcases List.mem_append.mp hk with z | z
    · exact B.part e he k z r hr
    · have z : k = m := by simpa using z
      obtain ⟨f, hf, e1⟩ := List.mem_map.mp (h e he r (z ▸ hr))
      exact ⟨f, hf, e1, B.top e he f hf⟩, B.mono, B.top, B.len⟩
theorem Bfs.add {n : Nat} {ts : List Tie} {p0 : Pr} {es : List En} {i m : Nat} {done : List Nat} {e : En} {r : Pr} (wk : WebOk n ts) (B : Bfs n ts p0 es i done) (he : (qu p0 es)[i]? = some e) (hr : step2 ts e.1 m = some r) (new : r ∉ es.map (·.1)) :
    Bfs n ts p0 (es ++ [(r, e.2 ++ [m])]) i (done ++ [m]) := by
  have hw : walk2 ts p0 e.2 = some e.1 := by
    match i, he with
    | 0, he =>
      obtain rfl := Option.some.inj he
      rfl
    | i + 1, he => exact (B.sound e (List.mem_of_getElem? he)).2
  have hl : ∀ k ∈ e.2, k ∈ letters := by
    match i, he with
    | 0, he =>
      obtain rfl := Option.some.inj he
      exact fun k hk => by cases hk
    | i + 1, he => exact B.lets e (List.mem_of_getElem? he)
  have hi : i < (qu p0 es).length := (List.getElem?_eq_some_iff.mp he).1
  have hi2 : i ≤ es.length := by rw [qu_len] at hi; omega
  have lm : m ∈ letters := marks_let wk _ _ (step2_mark hr).1
  have len1 : (e.2 ++ [m]).length = e.2.length + 1 := by rw [List.length_append]; rfl
  have all : ∀ f ∈ es ++ [(r, e.2 ++ [m])], f.2.length ≤ e.2.length + 1 := fun f hf => by
    rcases List.mem_append.mp hf with z | z
    · exact B.top e he f z
    · rw [List.mem_singleton.mp z]
      exact Nat.le_of_eq len1
  have keep : ∀ {k : Nat} {f : En}, k ≤ i → (qu p0 (es ++ [(r, e.2 ++ [m])]))[k]? = some f → (qu p0 es)[k]? = some f := fun hk h => (qu_cases h).elim id fun z => by omega
  refine ⟨fun f hf => ?_, ?_, fun f hf => ?_, fun f hf => ?_, fun k f hk hf m2 r2 h2 => ?_, fun f hf m2 hm2 r2 h2 => ?_, fun k l f g hkl hf hg => ?_, fun f hf => ?_, fun k f hf => ?_⟩
  · rcases List.mem_append.mp hf with z | z
    · exact B.sound f z
    · rw [List.mem_singleton.mp z]
      exact ⟨by simp, walk2_snoc hw hr⟩
  · rw [List.map_append]
    exact nd_snoc B.nd new
  · rcases List.mem_append.mp hf with z | z
    · exact B.lt f z
    · rw [List.mem_singleton.mp z]
      exact step2_lt wk hr
  · rcases List.mem_append.mp hf with z | z
    · exact B.lets f z
    · rw [List.mem_singleton.mp z]
      intro k hk
      rcases List.mem_append.mp hk with y | y
      · exact hl k y
      · rw [List.mem_singleton.mp y]
        exact lm
  · obtain ⟨g, hg, e1⟩ := B.closed k f hk (keep (by omega) hf) m2 r2 h2
    exact ⟨g, List.mem_append_left _ hg, e1⟩
  · have hf' := keep (Nat.le_refl _) hf
    obtain rfl : f = e := Option.some.inj (hf'.symm.trans he)
    rcases List.mem_append.mp hm2 with z | z
    · obtain ⟨g, hg, e1⟩ := B.part f he m2 z r2 h2
      exact ⟨g, List.mem_append_left _ hg, e1⟩
    · have z : m2 = m := by simpa using z
      subst z
      obtain rfl := Option.some.inj (h2.symm.trans hr)
      exact ⟨_, List.mem_append_right _ (List.mem_singleton.mpr rfl), rfl, Nat.le_of_eq len1⟩
  · rcases qu_cases hf with hf' | ⟨ek, rfl⟩
    · rcases qu_cases hg with hg' | ⟨el, rfl⟩
      · exact B.mono k l f g hkl hf' hg'
      · show f.2.length ≤ (e.2 ++ [m]).length
        rw [len1]
        match k, hf' with
        | 0, hf' =>
          obtain rfl := Option.some.inj hf'
          exact Nat.zero_le _
        | k + 1, hf' => exact B.top e he f (List.mem_of_getElem? hf')
    · rcases qu_cases hg with hg' | ⟨el, rfl⟩
      · have := (List.getElem?_eq_some_iff.mp hg').1
        rw [qu_len] at this
        omega
      · exact Nat.le_refl _
  · obtain rfl : f = e := Option.some.inj ((keep (Nat.le_refl _) hf).symm.trans he)
    exact all
  · rcases qu_cases hf with hf' | ⟨ek, rfl⟩
    · exact B.len k f hf'
    · show (e.2 ++ [m]).length ≤ k
      have := B.len i e he
      rw [len1]
      omega
theorem Bfs.next {n : Nat} {ts : List Tie} {p0 : Pr} {es : List En} {i : Nat} {done : List Nat} {e : En} (B : Bfs n ts p0 es i done) (he : (qu p0 es)[i]? = some e) (all : ∀ m, m ∈ marksAt e.1.1 ts → m ∈ done) : Bfs n ts p0 es (i + 1) [] := by
  refine ⟨B.sound, B.nd, B.lt, B.lets, fun k f hk hf m r h => ?_, (fun f _ m h => by cases h), B.mono, fun f hf g hg => ?_, B.len⟩
  · by_cases z : k = i
    · subst z
      obtain rfl : f = e := Option.some.inj (hf.symm.trans he)
      exact B.part f he m (all m (step2_mark h).1) r h
    · exact B.closed k f (by omega) hf m r h
  · have h1 := B.mono i (i + 1) e f (Nat.le_succ i) he hf
    have h2 := B.top e he g hg
    omega
theorem pr_few {n : Nat} {l : List Pr} (nd : l.Nodup) (lt : ∀ q ∈ l, q.1 < n ∧ q.2 < n) : l.length ≤ n * n := by
  have h : ∀ q ∈ l, q ∈ (List.range n).flatMap fun a => (List.range n).map fun b => (a, b) := fun q hq => by
    obtain ⟨h1, h2⟩ := lt q hq
    exact List.mem_flatMap.mpr ⟨q.1, List.mem_range.mpr h1, List.mem_map.mpr ⟨q.2, List.mem_range.mpr h2, rfl⟩⟩
  have := nd_sub_len nd h
  have e : ((List.range n).flatMap fun a => (List.range n).map fun b => ((a, b) : Pr)).length = n * n := by
    rw [List.length_flatMap]
    have e2 : ((List.range n).map fun a => ((List.range n).map fun b => ((a, b) : Pr)).length) = List.replicate n n := by
      rw [List.eq_replicate_iff]
      refine ⟨by simp, fun x hx => ?_⟩
      obtain ⟨a, _, rfl⟩ := List.mem_map.mp hx
      simp
    rw [e2, List.sum_replicate_nat]
  omega
theorem Bfs.few {n : Nat} {ts : List Tie} {p0 : Pr} {es : List En} {i : Nat} {done : List Nat} (B : Bfs n ts p0 es i done) : es.length ≤ n * n := by
  have := pr_few B.nd (n := n) fun q hq => by
    obtain ⟨e, he, rfl⟩ := List.mem_map.mp hq
    exact B.lt e he
  rwa [List.length_map] at this
/-- the walk's end: each pair that a word leads to, with a shortest such word -/
structure Beside (n : Nat) (ts : List Tie) (p0 : Pr) (es : List En) : Prop where
  nd : (es.map (·.1)).Nodup
  sound : ∀ e ∈ es, e.2 ≠ [] ∧ walk2 ts p0 e.2 = some e.1
  lets : ∀ e ∈ es, ∀ m ∈ e.2, m ∈ letters
  short : ∀ w r, w ≠ [] → walk2 ts p0 w = some r → ∃ e ∈ es, e.1 = r ∧ e.2.length ≤ w.length
  len : ∀ e ∈ es, e.2.length ≤ n * n
theorem Bfs.end {n : Nat} {ts : List Tie} {p0 : Pr} {es : List En} {i : Nat} {done : List Nat} (B : Bfs n ts p0 es i done) (hi : es.length + 1 ≤ i) : Beside n ts p0 es := by
  have key : ∀ (k : Nat) (w : List Nat) (r : Pr), w.length = k → walk2 ts p0 w = some r → ∃ (j : Nat) (e : En), (qu p0 es)[j]? = some e ∧ e.1 = r ∧ e.2.length ≤ w.length ∧ (w ≠ [] → e ∈ es) := by
    intro k
    induction k with
    | zero =>
      intro w r hw h
      obtain rfl := List.eq_nil_of_length_eq_zero hw
      obtain rfl := Option.some.inj h
      exact ⟨0, (p0, []), rfl, rfl, Nat.le_refl _, fun z => absurd rfl z⟩
    | succ k ih =>
      intro w r hw h
      have ne : w ≠ [] := fun z => by
        rw [z] at hw
        cases hw
      obtain ⟨u, m, q, rfl, h1, h2⟩ := walk2_last h ne
      have lu : u.length = k := by
        rw [List.length_append] at hw
        exact Nat.succ.inj hw
      obtain ⟨j, e, hj, rfl, hl, _⟩ := ih u q lu h1
      have hj2 : j < (qu p0 es).length := (List.getElem?_eq_some_iff.mp hj).1
      rw [qu_len] at hj2
      obtain ⟨f, hf, e1, e2⟩ := B.closed j e (by omega) hj m r h2
      obtain ⟨l, hlf⟩ := List.mem_iff_getElem?.mp hf
      refine ⟨l + 1, f, hlf, e1, ?_, fun _ => hf⟩
      rw [List.length_append]
      show f.2.length ≤ u.length + 1
      omega
  refine ⟨B.nd, B.sound, B.lets, fun w r ne h => ?_, fun e he => ?_⟩
  · obtain ⟨j, e, _, e1, e2, e3⟩ := key _ w r rfl h
    exact ⟨e, e3 ne, e1, e2⟩
  · obtain ⟨l, hl⟩ := List.mem_iff_getElem?.mp he
    have h1 := B.len (l + 1) e hl
    have h2 := (List.getElem?_eq_some_iff.mp hl).1
    have h3 := B.few
    omega
/-! ### the same by edges -/
structure Lev (n : Nat) (ts : List Tie) (p0 tgt : Pr) (k : Nat) (edge seen : List Pr) : Prop where
  from_ : ∀ q ∈ edge, ∃ w, w.length = k ∧ walk2 ts p0 w = some q
  out : tgt ∉ seen
  closed : ∀ q ∈ seen, q ∈ edge ∨ ∀ m r, step2 ts q m = some r → r ∈ seen
  all : ∀ w r, w ≠ [] → w.length ≤ k → walk2 ts p0 w = some r → r ∈ seen
  one : k = 0 → p0 ∈ edge
  nde : edge.Nodup
  lte : ∀ q ∈ edge, q.1 < n ∧ q.2 < n
  nds : seen.Nodup
  lts : ∀ q ∈ seen, q.1 < n ∧ q.2 < n
theorem Lev.init {n : Nat} {ts : List Tie} {p0 : Pr} (tgt : Pr) (h1 : p0.1 < n) (h2 : p0.2 < n) : Lev n ts p0 tgt 0 [p0] [] := by
  refine ⟨fun q hq => ⟨[], rfl, by rw [List.mem_singleton.mp hq]; rfl⟩, (fun z => by cases z), (fun q z => by cases z), fun w r ne hl => absurd (List.eq_nil_of_length_eq_zero (Nat.le_zero.mp hl)) ne, fun _ => List.mem_singleton.mpr rfl, by simp, fun q hq => ?_, List.nodup_nil, (fun q z => by cases z)⟩
  rw [List.mem_singleton.mp hq]
  exact ⟨h1, h2⟩
theorem Lev.step {n : Nat} {ts : List Tie} {p0 tgt : Pr} {k : Nat} {edge seen later edge' : List Pr} (wk : WebOk n ts) (V : Lev n ts p0 tgt k edge seen) (hl : ∀ r, r ∈ later ↔ ∃ q ∈ edge, ∃ m, step2 ts q m = some r) (no : tgt ∉ later)
    (nd : edge'.Nodup) (he : ∀ r, r ∈ edge' ↔ r ∈ later ∧ r ∉ seen) : Lev n ts p0 tgt (k + 1) edge' (seen ++ edge') := by
  have into : ∀ r, r ∈ later → r ∈ seen ++ edge' := fun r h => by
    by_cases z : r ∈ seen
    · exact List.mem_append_left _ z
    · exact List.mem_append_right _ ((he r).mpr ⟨h, z⟩)
  have lt' : ∀ q ∈ edge', q.1 < n ∧ q.2 < n := fun r hr => by
    obtain ⟨q, _, m, h⟩ := (hl r).mp ((he r).mp hr).1
    exact step2_lt wk h
  refine ⟨fun r hr => ?_, fun z => ?_, fun q hq => ?_, fun w r ne hw h => ?_, fun z => by omega, nd, lt', ?_, fun q hq => ?_⟩
  · obtain ⟨q, hq, m, h⟩ := (hl r).mp ((he r).mp hr).1
    obtain ⟨w, e1, e2⟩ := V.from_ q hq
    exact ⟨w ++ [m], by rw [List.length_append, e1]; rfl, walk2_snoc e2 h⟩
  · rcases List.mem_append.mp z with z | z
    · exact V.out z
    · exact no ((he tgt).mp z).1
  · rcases List.mem_append.mp hq with z | z
    · rcases V.closed q z with y | y
      · exact .inr fun m r h => into r ((hl r).mpr ⟨q, y, m, h⟩)
      · exact .inr fun m r h => List.mem_append_left _ (y m r h)
    · exact .inl z
  · by_cases hk : w.length ≤ k
    · exact List.mem_append_left _ (V.all w r ne hk h)
    · obtain ⟨u, m, q, rfl, h1, h2⟩ := walk2_last h ne
      rw [List.length_append] at hk hw
      have lu : u.length = k := by
        have : ([m] : List Nat).length = 1 := rfl
        omega
      by_cases ue : u = []
      · subst ue
        have k0 : k = 0 := lu.symm
        obtain rfl := Option.some.inj h1
        exact into r ((hl r).mpr ⟨p0, V.one k0, m, h2⟩)
      · have hq := V.all u q ue (Nat.le_of_eq lu) h1
        rcases V.closed q hq with y | y
        · exact into r ((hl r).mpr ⟨q, y, m, h2⟩)
        · exact List.mem_append_left _ (y m r h2)
  · exact List.nodup_append.mpr ⟨V.nds, nd, fun a ha b hb e => ((he b).mp hb).2 (e ▸ ha)⟩
  · rcases List.mem_append.mp hq with z | z
    · exact V.lts q z
    · exact lt' q z
/-- how long a shortest word from pair to pair is; 0: no word of up to 39 marks -/
def ShortOk (ts : List Tie) (p0 tgt : Pr) (L : Nat) : Prop :=
  (L = 0 ∧ ∀ w, w ≠ [] → w.length ≤ 39 → walk2 ts p0 w ≠ some tgt) ∨ (1 ≤ L ∧ (∃ w, w.length = L ∧ walk2 ts p0 w = some tgt) ∧ ∀ w, w ≠ [] → walk2 ts p0 w = some tgt → L ≤ w.length)
theorem Lev.found {n : Nat} {ts : List Tie} {p0 tgt : Pr} {k : Nat} {edge seen later : List Pr} (V : Lev n ts p0 tgt k edge seen) (hl : ∀ r, r ∈ later ↔ ∃ q ∈ edge, ∃ m, step2 ts q m = some r) (h : tgt ∈ later) : ShortOk ts p0 tgt (k + 1) := by
  obtain ⟨q, hq, m, h1⟩ := (hl tgt).mp h
  obtain ⟨w, e1, e2⟩ := V.from_ q hq
  refine .inr ⟨by omega, ⟨w ++ [m], by rw [List.length_append, e1]; rfl, walk2_snoc e2 h1⟩, fun w' ne h' => ?_⟩
  rcases Nat.lt_or_ge k w'.length with z | z
  · exact z
  · exact absurd (V.all w' tgt ne z h') V.out
theorem Lev.never {n : Nat} {ts : List Tie} {p0 tgt : Pr} {edge seen : List Pr} (V : Lev n ts p0 tgt 39 edge seen) : ShortOk ts p0 tgt 0 :=
  .inl ⟨rfl, fun w ne hl h => V.out (V.all w tgt ne hl h)⟩
/-- what joined tells -/
def JoinOk (n : Nat) (ts : List Tie) (p0 tgt : Pr) (r : Option (List Nat)) : Prop := match r with
  | none => ∀ w, w ≠ [] → walk2 ts p0 w ≠ some tgt
  | some w => w ≠ [] ∧ w.length ≤ n * n ∧ (∀ m ∈ w, m ∈ letters) ∧ walk2 ts p0 w = some tgt ∧ ∀ w', w' ≠ [] → walk2 ts p0 w' = some tgt → w.length ≤ w'.length
theorem Beside.join {n : Nat} {ts : List Tie} {p0 tgt : Pr} {es : List En} (n10 : n ≤ 10) (B : Beside n ts p0 es) : JoinOk n ts p0 tgt ((es.find? fun e => decide (e.1 = tgt)).map (·.2)) := by
  cases h : es.find? fun e => decide (e.1 = tgt) with
  | none =>
    intro w ne hw
    obtain ⟨e, he, e1, _⟩ := B.short w tgt ne hw
    exact absurd (List.find?_eq_none.mp h e he) (by simp [e1])
  | some e =>
    have he := List.mem_of_find?_eq_some h
    have e1 : e.1 = tgt := of_decide_eq_true (List.find?_some (p := fun e : En => decide (e.1 = tgt)) h)
    obtain ⟨s1, s2⟩ := B.sound e he
    have h1 := B.len e he
    refine ⟨s1, (show e.2.length ≤ n * n by omega), B.lets e he, by rw [← e1]; exact s2, fun w' ne hw => ?_⟩
    obtain ⟨f, hf, f1, f2⟩ := B.short w' tgt ne hw
    have : f = e := by
      have e3 : f.1 = e.1 := f1.trans e1.symm
      obtain ⟨i, hi⟩ := List.mem_iff_getElem?.mp hf
      obtain ⟨j, hj⟩ := List.mem_iff_getElem?.mp he
      have i1 : (es.map (·.1))[i]? = some f.1 := by rw [List.getElem?_map, hi]; rfl
      have j1 : (es.map (·.1))[j]? = some f.1 := by rw [List.getElem?_map, hj, e3]; rfl
      have : i = j := nd_ix B.nd i1 j1
      subst this
      exact Option.some.inj (hi.symm.trans hj)
    rw [← this]
    exact f2
end Wh

namespace Wh
open PySem PySem.Spec PyProof.Rows L2
/-! ### nested data without dicts: equal to itself -/
theorem vD_plain (x : V) : (vD x).plain = true := by
  cases x <;> rfl
theorem vDs_plain : ∀ xs : List V, PyData.plainAll (xs.map vD) = true
  | [] => rfl
  | x :: xs => by
    rw [List.map_cons, PyData.plainAll, vD_plain, vDs_plain xs]
    rfl
theorem tD_plain (xs : List V) : (tD xs).plain = true := by
  show PyData.plain (.tuple (xs.map vD)) = true
  rw [PyData.plain]
  exact vDs_plain xs
theorem rowD_plain {α : Type} (f : α → List V) : ∀ ps : List (Addr × α), PyData.plainAll (rowD f ps) = true
  | [] => rfl
  | p :: ps => by
    show PyData.plainAll (tD (f p.2) :: rowD f ps) = true
    rw [PyData.plainAll, tD_plain, rowD_plain f ps]
    rfl
theorem rNe_self {K : PySem.W.Frag} {H : Hp} {x y : V} {d : PyData} {Q : VK} (h1 : Dp K H x d) (h2 : Dp K H y d) (sd : SeqAt.shaped d = true) (pl : d.plain = true) (k : Q (.bl false) H) : rNeD K x y H Q :=
  ⟨d, d, h1, h2, sd, sd, by rw [SeqAt.eqv_refl_plain d pl]; exact k⟩
/-- a list of two -/
def twoD (d e : PyData) : PyData := .list [d, e]
theorem twoD_plain {d e : PyData} (h1 : d.plain = true) (h2 : e.plain = true) : (twoD d e).plain = true := by
  show PyData.plain (.list [d, e]) = true
  rw [PyData.plain, PyData.plainAll, PyData.plainAll, PyData.plainAll, h1, h2]
  rfl
theorem twoD_shaped {d e : PyData} (h1 : d.canLay0 = true) (h2 : e.canLay0 = true) (k1 : d.depth ≤ 60) (k2 : e.depth ≤ 60) : SeqAt.shaped (twoD d e) = true := by
  show (PyData.canLay0 (.list [d, e]) && decide (PyData.depth (.list [d, e]) ≤ 64)) = true
  rw [PyData.canLay0, PyData.canLayAll0, PyData.canLayAll0, PyData.canLayAll0, h1, h2, PyData.depth, PyData.depthAll, PyData.depthAll, PyData.depthAll, Bool.and_eq_true]
  exact ⟨rfl, decide_eq_true (by omega)⟩
theorem twoD_dp {K : PySem.W.Frag} {H : Hp} {a : Addr} {x y : V} {d e : PyData} (h : H a = some (.lst [x, y])) (h1 : Dp K H x d) (h2 : Dp K H y e) : Dp K H (.ref a) (twoD d e) := .lst (SqL.of h) (.cons h1 (.cons h2 .nil))
/-- a tuple of flat tuples -/
def ttL {α : Type} (f : α → List V) (l : List α) : PyData := .tuple (l.map fun x => tD (f x))
theorem rowD_map {α : Type} {f : α → List V} {ps : List (Addr × α)} {l : List α} (e : ps.map (·.2) = l) : rowD f ps = l.map fun x => tD (f x) := by
  rw [← e, List.map_map]
  rfl
theorem ttL_row {α : Type} (f : α → List V) (l : List α) : ttL f l = .tuple (rowD f (l.map fun x => ((0 : Addr), x))) := by
  rw [rowD_map (l := l) (by rw [List.map_map]; exact List.map_id _)]
  rfl
theorem ttL_plain {α : Type} (f : α → List V) (l : List α) : (ttL f l).plain = true := by
  rw [ttL_row, PyData.plain]
  exact rowD_plain f _
theorem ttL_lay {α : Type} {f : α → List V} (hn : ∀ x, (f x).all nb = true) (l : List α) : (ttL f l).canLay0 = true := by
  rw [ttL_row, PyData.canLay0]
  exact rowD_lay fun p _ => hn p.2
theorem ttL_depth {α : Type} (f : α → List V) (l : List α) : (ttL f l).depth ≤ 2 := by
  rw [ttL_row, PyData.depth]
  have := rowD_depth (f := f) (l.map fun x => ((0 : Addr), x))
  omega
theorem ttL_dp {α : Type} {f : α → List V} {K : PySem.W.Frag} {H : Hp} {a : Addr} {ps : List (Addr × α)} {l : List α} (hn : ∀ x, (f x).all nb = true) (h : H a = some (.tup (refs ps))) (hA : At f H ps) (e : ps.map (·.2) = l) : Dp K H (.ref a) (ttL f l) := by
  unfold ttL
  rw [← rowD_map e]
  exact .tup (SqT.of h) (rowD_dp K (fun p _ => hn p.2) hA)
/-! ### x not in t, t a tuple of data -/
def rNotInTD (K : PySem.W.Frag) : R2 := fun x y H Q => ∃ d ds, Dp K H x d ∧ Dp K H y (.tuple ds) ∧ d.plain = true ∧ PyData.plainAll ds = true ∧ min (PyData.depthAll ds) d.depth ≤ 60 ∧ Q (.bl (!ds.any fun z => PyData.eqv z d)) H
theorem op_notInTD {X : Cx} (K : PySem.W.Frag) (h : X.K = K) (hu : X.A.units + 64 < cLine) : OpR X (compareOp .NotIn) (rNotInTD K) := by
  subst h
  intro pins s σ H x y v u Q I rx ry h
  obtain ⟨d, ds, hd, he, pd, pds, hdep, q⟩ := h
  obtain ⟨as, r1⟩ := Dp.reads I d x v hd rx
  obtain ⟨bs, r2⟩ := Dp.reads I (.tuple ds) y u he ry
  exact SeqAt.notIn_tuple_data r2 r1 pds pd (by omega) ⟨.bl _, H, I, rfl, q⟩
/-! ### f(k = v, ..), keywords alone -/
def tCallK0 (sp : Sp) (gV : List V → List V → List V) (E : XK) (tk : TA) : TE := fun σ H Q => tk σ H fun zs H2 => sp (gV [] zs) H2 Q E
theorem pe_callK0 {X : Cx} {CX : CXT} {k : Nat} {f : Addr} {fd : FuncData} {ps ks : List Str} {sp : Sp} {E : XK} {x : Str} {p pos : Pos} {kws : List Keyword} {tk : TA} {g : List Value → List Value → List Value} {gV : List V → List V → List V}
    (F : FnOk X.prog X.w X.K X.mg X.base CX k f fd ps sp) (hr : Room k X.A) (hg : Gl X x) (hm : X.mg x = some (.ref f)) (hk : PySem.W.keepIn X.K (.ref f) = true) (hb : KBinds X.K fd ps ks g gV) (hx : Passes CX X E) (hkw : PK X kws tk)
    (hall : (backToKw pos (keywordEach kws X.env)).all (·.1.isSome) = true := by rfl) (hks : (backToKw pos (keywordEach kws X.env)).filterMap (·.1) = ks := by rfl)
    (hdb : (x == ("__debug__" : Str)) = false := by decide)
    (hpl : ((backTo pos (starEach [] X.env)).any (·.1) || (backToKw pos (keywordEach kws X.env)).any (·.1.isNone)) = false := by rfl) :
    PE X (.Call (.Name x p) [] kws pos) (tCallK0 sp gV E tk) := by
  refine ⟨fun pins s σ H Q I h => ?_⟩
  refine wpAny_Call_Name_kw (ld_glob I hg hm ?_ hdb)
  refine PySem.W.callWith_KW0 (first := []) (h₀ := X.base) I.ok.mod.kin hk hall ?_ hpl
  refine thn (hkw.run pos pins s σ H _ I h) fun ws s2 ⟨zs, H2, I2, rz, q2⟩ => ⟨I2.kIn, ?_⟩
  rw [hks]
  exact run_fnk (us := []) (vs := []) F hr hb hx I2 .nil rz q2
theorem make_same {H H3 : Hp} {x dx : Addr} {o1 o2 : HO} (b : But x (upd (upd H dx o1) x o2) H3) (nx : H x = none) (nd : H dx = none) : Same H H3 := fun a o e => by
  have h1 : a ≠ x := ne_of_none e nx
  have h2 : a ≠ dx := ne_of_none e nd
  exact b a o (by rw [upd_ne h1, upd_ne h2]; exact e) h1
/-! ### what joined tells beside the shortest length told -/
theorem join_short {n : Nat} {ts : List Tie} {p0 tgt : Pr} {r : Option (List Nat)} {L : Nat} (n4 : n ≤ 4) (J : JoinOk n ts p0 tgt r) (S : ShortOk ts p0 tgt L) : (r = none ∧ L = 0) ∨ ∃ w, r = some w ∧ w.length = L ∧ 1 ≤ L := by
  cases r with
  | none =>
    rcases S with ⟨h, _⟩ | ⟨h1, ⟨w, e, hw⟩, _⟩
    · exact .inl ⟨rfl, h⟩
    · exact absurd hw (J w fun z => by rw [z] at e; simp at e; omega)
  | some w =>
    obtain ⟨ne, hl, _, hw, mn⟩ := J
    have h16 : n * n ≤ 4 * 4 := Nat.mul_le_mul n4 n4
    rcases S with ⟨_, h⟩ | ⟨h1, ⟨w2, e, hw2⟩, mn2⟩
    · exact absurd hw (h w ne (by omega))
    · have a := mn2 w ne hw
      have b := mn w2 (fun z => by rw [z] at e; simp at e; omega) hw2
      exact .inr ⟨w, rfl, by omega, h1⟩
theorem walk2_swap {ts : List Tie} {a b c d : Nat} {w : List Nat} (h : walk2 ts (a, b) w = some (c, d)) : walk2 ts (b, a) w = some (d, c) := by
  have h := walk2_some.mp h
  exact walk2_some.mpr ⟨h.2, h.1⟩
theorem join_swap {n : Nat} {ts : List Tie} {a b c d : Nat} {r q : Option (List Nat)} (J : JoinOk n ts (a, b) (c, d) r) (J2 : JoinOk n ts (b, a) (d, c) q) : r = none → q = none := by
  intro e
  subst e
  cases q with
  | none => rfl
  | some w =>
    obtain ⟨ne, _, _, hw, _⟩ := J2
    exact absurd (walk2_swap hw) (J w ne)
end Wh

namespace Wh
open PySem PySem.Spec PyProof PyProof.Rows L2
/-! ### promises that hold where no repr is under way -/
structure RoomG (k : Nat) (A : Around) : Prop where
  room : Room k A
  idle : A.guards = some []
theorem RoomG.mono {j k : Nat} {A : Around} (r : RoomG k A) (h : j ≤ k) : RoomG j A := ⟨r.room.mono h, r.idle⟩
theorem RoomG.deeper {k : Nat} {A : Around} (r : RoomG (k + 1) A) (env : Env) : RoomG k (A.deeper env) := ⟨r.room.deeper env, r.idle⟩
structure FnG (P : Program) (w : World) (K : PySem.W.Frag) (mg : Str → Option Value) (base : Heap) (k : Nat) (f : Addr) (fd : FuncData) (ps : List Str) (sp : Sp) : Prop where
  arity : ∀ vs H Q E, sp vs H Q E → vs.length = ps.length
  does : ∀ {A : Around} {outer : List Env} {s : Shared} {H : Hp} {args : Args} {us : List Value} {vs : List V} {Q : VK} {E : XK}, RoomG k A → Env0 P w K mg base A outer s H → BindsTo s fd args (ps.zip us) → Vals vs us → sp vs H Q E →
    codeAny (model P w) A (.call (.ref f) args) (CR C8.CX0 outer P w H s Q E) s
set_option maxHeartbeats 1000000 in
theorem fnG_of {P : Program} {w : World} {K : PySem.W.Frag} {mg : Str → Option Value} {base : Heap} {k : Nat} {x qual : Str} {st : Stmt} {f : Addr} {fd : FuncData} {N ps : List Str} {sp : Sp} (F : Fun K x qual st f fd) (S : FnScope N ps (defScope st)) (ar : ∀ vs H Q E, sp vs H Q E → vs.length = ps.length)
    (bod : ∀ (cdv : Value) (A : Around) (outer : List Env) (s : Shared) (H : Hp) (vs : List V) (Q : VK) (E : XK), RoomG k (A.deeper (envOfC qual (defScope st) s.heap.objs.size f cdv)) → sp vs H Q E →
      ∃ t, PSs (cxOf C8.CX0 P w K mg base N qual (defScope st) f cdv A outer s H E).nox (defBody st) t ∧ t { nx := fun _ H' => Q .non H', rt := Q } (start N vs) H) : FnG P w K mg base (k + 1) f fd ps sp := by
  obtain ⟨oc, od, kV, doc, pm, an, cdv, ct, osl, rfl, lk, cd⟩ := F.ex
  refine ⟨ar, ?_⟩
  intro A outer s H args us vs Q E room env bnd rv want
  have old : ∀ b o, base.get? b = some o → s.heap.get? b = some o := fun b o e => (env.bs b o e).1
  have inK : K.In s.heap := env.mod.kin.keeps old
  have kinds : ∀ y ∈ ps.zip us, (defScope st).names.lookup y.1 = some .local ∨ ((defScope st).names.lookup y.1 = some .cell ∧ ((cellsFrom (s.heap.objs.size + 1) (defScope st).names []).lookup y.1).isSome = true) := by
    rintro ⟨m, v⟩ hy
    refine (S.par m (List.of_mem_zip hy).1).imp id fun q => ⟨q, ?_⟩
    exact PySem.W.cellsFrom_some _ _ _ (.inl q)
  refine codeAny_call_function room.room.depth (inK _ _ lk) rfl S.co S.gen rfl (PySem.W.codeRec_of inK cd) (bnd _ _ _ _ ?_)
  refine wpAny_newFunctionEnv_cells S.kind kinds ?_
  rintro env' rfl s1 made
  refine ⟨(env.mod.nolimit.keeps old).keeps made.toInCall.keep, codeAny_func ?_⟩
  obtain ⟨t, ht, q⟩ := bod cdv A outer s H vs Q E (room.deeper _) want
  have J := inv_start (CX := C8.CX0) (E := E) S room.room.hd env (ar _ _ _ _ want) rv made
  have ends : ∀ {σ' : L2.St} {H' : Hp} {v : V} {u : Value} {s' : Shared}, Inv (cxOf C8.CX0 P w K mg base N qual (defScope st) f cdv A outer s H E) [] σ' H' s' → RelV v u → Q v H' → CE outer P w H s Q u s' :=
    fun {_ H' v _ _} I r z => ⟨v, H', I.os, I.bare, I.base, I.hok, r, z⟩
  refine wpAny_mono (ht.nox.run [] s1 (start N vs) H _ J q) ?_ fun _ _ z => z
  intro fl s' z
  cases fl with
  | ret u => exact let ⟨_, _, _, I, r, y⟩ := z; ends I r y
  | next => exact let ⟨_, _, I, y⟩ := z; ends (v := V.non) (u := Value.none) I rfl y
  | brk => exact let ⟨_, _, _, y⟩ := z; y.elim
  | cont => exact let ⟨_, _, _, y⟩ := z; y.elim
/-- f(e, ..), where no repr is under way -/
theorem pe_callG {X : Cx} {k : Nat} {f : Addr} {fd : FuncData} {ps : List Str} {sp : Sp} {E : XK} {x : Str} {p pos : Pos} {e : Expr} {es : List Expr} {t : TA} (F : FnG X.prog X.w X.K X.mg X.base k f fd ps sp) (room : RoomG k X.A) (gl : Gl X x) (m : X.mg x = some (.ref f)) (kp : PySem.W.keepIn X.K (.ref f) = true)
    (b : Binds X.K fd ps []) (ps_ : Passes C8.CX0 X E) (ha : PA X (e :: es) t) (nd : (x == ("__debug__" : Str)) = false := by decide) (st : starEach (e :: es) X.env = (false, eval e X.env) :: starEach es X.env := by rfl) (pl : (backTo pos (starEach es X.env)).any (·.1) = false := by rfl) :
    PE X (.Call (.Name x p) (e :: es) [] pos) (tCall sp [] E t) := by
  constructor
  intro pins s σ H Q I h
  refine wpAny_Call_Name_kw (ld_glob I gl m ?_ nd)
  refine PySem.W.callWith_K (h₀ := X.base) I.ok.mod.kin kp (thn (ha.run pos pins s σ H _ I h) ?_) st pl
  rintro us s1 ⟨vs, H1, J, r, q⟩
  refine ⟨J.kIn, ?_⟩
  rw [List.append_nil] at q
  have le : (us ++ ([] : List Value)).length = ps.length := by
    rw [List.append_nil, ← r.length]
    exact F.arity _ _ _ _ q
  have bb := b s1 us J.kIn le
  rw [List.append_nil] at bb
  refine wpAny_call (codeAny_mono (F.does room J.env0 bb r q) ?_)
  intro o s' z
  cases o with
  | error err => exact ps_ pins σ H1 s1 err s' J z
  | ok fl =>
    cases fl with
    | ret u => exact J.after z
    | next => exact z.elim
    | brk => exact z.elim
    | cont => exact z.elim
/-! ### repr of lists and tuples -/
def rReprD (K : PySem.W.Frag) : List V → Hp → VK → Prop := fun xs H Q => ∃ (a : Addr) (d : PyData), xs = [V.ref a] ∧ Dp K H (.ref a) d ∧ d.showable = true ∧ d.hasDict = false ∧ d.depth ≤ 60 ∧ d.shown.length ≤ sizeLine ∧ Q (.str d.shown) H
theorem call_repr_D {X : Cx} (idle : X.A.guards = some []) (hu : X.A.units + 64 < cLine) : CallR X (.builtin "repr") (rReprD X.K) := by
  intro pins s σ H xs us Q I r h
  obtain ⟨a, d, e, hd, hs, nd, dep, hl, q⟩ := h
  subst e
  rw [Vals.ref1 r]
  obtain ⟨as, rd⟩ := Dp.reads I d _ (.ref a) hd rfl
  refine repr_of_reads' rd hs (fun z => by rw [nd] at z; cases z) idle (by omega) (fun _ _ z => z) (fun h' u tk hk => ?_) hl
  exact ⟨.str d.shown, H, I.kept hk, ⟨_, rfl⟩, q⟩
end Wh

set_option maxHeartbeats 3200000
namespace Wh
open PySem PySem.Spec PyProof.Rows L2 PySem.Froz
/-! ### set(xs), xs a list of texts -/
def gotL (xs : List Str) : List Str := xs.foldl (fun l y => addL y l) []
theorem gotL_snoc (xs : List Str) (y : Str) : gotL (xs ++ [y]) = addL y (gotL xs) := by
  unfold gotL
  rw [List.foldl_append]
  rfl
theorem addL_len (y : Str) (l : List Str) : (addL y l).length ≤ l.length + 1 := by
  unfold addL
  split
  · omega
  · exact Nat.le_refl _
theorem addL_in {x y : Str} {l : List Str} : x ∈ addL y l ↔ x = y ∨ x ∈ l := by
  unfold addL
  split
  · rename_i h
    exact ⟨.inr, fun z => z.elim (fun e => e ▸ h) id⟩
  · exact List.mem_cons
theorem gotL_all (xs : List Str) : (gotL xs).length ≤ xs.length ∧ (∀ x, x ∈ gotL xs ↔ x ∈ xs) ∧ (gotL xs).Nodup := by
  have main : ∀ (ys acc : List Str), acc.Nodup → (ys.foldl (fun l y => addL y l) acc).length ≤ acc.length + ys.length ∧ (∀ x, x ∈ ys.foldl (fun l y => addL y l) acc ↔ x ∈ acc ∨ x ∈ ys) ∧ (ys.foldl (fun l y => addL y l) acc).Nodup := by
    intro ys
    induction ys with
    | nil => exact fun acc nd => ⟨Nat.le_refl _, fun x => by simp, nd⟩
    | cons y ys ih =>
      intro acc nd
      have nd' : (addL y acc).Nodup := by
        unfold addL
        split
        · exact nd
        · rename_i h
          exact List.nodup_cons.mpr ⟨h, nd⟩
      obtain ⟨h1, h2, h3⟩ := ih (addL y acc) nd'
      have := addL_len y acc
      refine ⟨?_, fun x => ?_, h3⟩
      · rw [List.foldl_cons, List.length_cons]
        omega
      · rw [List.foldl_cons, h2, addL_in, List.mem_cons]
        constructor
        · rintro ((z | z) | z)
          · exact .inr (.inl z)
          · exact .inl z
          · exact .inr (.inr z)
        · rintro (z | z | z)
          · exact .inl (.inr z)
          · exact .inl (.inl z)
          · exact .inr z
  have := main xs [] List.nodup_nil
  refine ⟨by have h := this.1; rw [List.length_nil, Nat.zero_add] at h; exact h, fun x => by rw [show gotL xs = xs.foldl (fun l y => addL y l) [] from rfl, this.2.1]; simp, this.2.2⟩
theorem texts_at : ∀ {vs : List Value} {xs : List Str}, StrsAre vs xs → ∀ {i : Nat} {v : Value}, vs[i]? = some v → ∃ x u, xs[i]? = some x ∧ v = .str x u
  | _, _, .cons x u _, 0, _, e => ⟨x, u, rfl, (Option.some.inj e).symm⟩
  | _, _, .cons _ _ h, i + 1, _, e => texts_at h (i := i) e
section
variable {P : Program} {w : World} {A : Around} {E : Value → Shared → Prop} {s : Shared}
/-- one text more -/
theorem tx_put {S : Addr} {l : List Str} {x : Str} {u : Tok} {Q : Bool → Shared → Prop} (R : TxAt P w s.heap S l) (room : l.length + 1 < scanBound)
    (q : ∀ b h', Heap.SameBut S s.heap h' → TxAt P w h' S (addL x l) → Q b { s with heap := h', toks := s.toks + 1 }) : wpAny (model P w) A (setAdd S (.str x u)) Q E s := by
  obtain ⟨D, at_, ok, nd, few, g⟩ := R
  delta setAdd
  refine wpAny_holding (wpAny_bind ((PySem.strKind P w).pyHash (is_str x u) ?_))
  by_cases known : x ∈ l
  · refine txAt_same (s := { s with toks := s.toks + 1 }) at_ ok known few (q _ _ (Heap.SameBut.refl S s.heap) ?_)
    rw [show addL x l = l from if_pos known]
    exact ⟨D, at_, ok, nd, few, g⟩
  · refine add_x (s := { s with toks := s.toks + 1 }) at_ ok known room (q _ _ (Heap.SameBut.update _ S _) ?_)
    rw [show addL x l = x :: l from if_neg known]
    exact ⟨_, Heap.get?_update_self _ at_ rfl, add_ok u ok, List.nodup_cons.mpr ⟨known, nd⟩, room, tabGo_add g⟩
theorem upd_texts {I : Addr} {fp wr : List Addr} {G : Array GenState → Array GenState → Prop} {n : Nat} {Pv : Nat → Value → Prop} {St : Nat → Shared → Prop} {R : Result → Shared → Prop} (W : WalksS P w A.in1 I fp wr G n Pv St) (S : Addr) (out : S ∉ fp) (xs : List Str) (len : n = xs.length)
    (few : xs.length + 1 < scanBound) (val : ∀ i v, Pv i v → ∃ x u, xs[i]? = some x ∧ v = .str x u) :
    ∀ (k i : Nat) (s : Shared), n - i = k → i ≤ n → St i s → TxAt P w s.heap S (gotL (xs.take i)) → (∀ s', Moved (S :: wr) G s s' → TxAt P w s'.heap S (gotL xs) → R (.ok (.ret .none)) s') →
      codeAny (model P w) A (.builtin "set.update.loop" ⟨[.ref S, .ref I], []⟩) R s := by
  have outW : S ∉ wr := fun h => out (W.sub _ h)
  have more : ∀ b ∈ wr, b ∈ S :: wr := fun _ h => List.mem_cons_of_mem _ h
  have stay : ∀ {s s' : Shared} {l : List Str}, Moved wr G s s' → TxAt P w s.heap S l → TxAt P w s'.heap S l := fun mv tx => tx.keep fun o e => mv.heap S o outW e
  intro k
  induction k with
  | zero =>
    intro i s e le st tx fin
    obtain rfl : i = n := by omega
    rw [len, List.take_length] at tx
    refine codeAny_builtin PyProof.Rows.F.entry_set_update_loop ?_
    rw [Around.under_plainId PyProof.Rows.F.plain_set_update_loop _]
    show wpAny _ A.in1 (pyNext (.ref I) >>= fun _ => _) _ _ s
    exact wpAny_bind (W.done s _ _ st fun s' mv => wpAny_pure (fin s' (mv.mono more) (stay mv tx)))
  | succ k ih =>
    intro i s e le st tx fin
    have lt : i < n := by omega
    refine codeAny_builtin PyProof.Rows.F.entry_set_update_loop ?_
    rw [Around.under_plainId PyProof.Rows.F.plain_set_update_loop _]
    show wpAny _ A.in1 (pyNext (.ref I) >>= fun _ => _) _ _ s
    refine wpAny_bind (W.item i s _ _ lt st fun v s1 pv st1 mv => ?_)
    obtain ⟨x, u, hx, rfl⟩ := val i v pv
    have step : gotL (xs.take (i + 1)) = addL x (gotL (xs.take i)) := by rw [List.take_succ, hx, ← gotL_snoc]; rfl
    have small : (gotL (xs.take i)).length + 1 < scanBound := by
      have := (gotL_all (xs.take i)).1
      rw [List.length_take] at this
      omega
    show wpAny _ A.in1 (holding [Value.str x u] (setAdd S (.str x u)) >>= fun _ => _) _ _ s1
    refine wpAny_bind (wpAny_holding (tx_put (stay mv tx) small fun b h' sb tx' => ?_))
    rw [← step] at tx'
    have same : ∀ b : Addr, b ≠ S → ∀ o, s1.heap.get? b = some o → h'.get? b = some o := fun b ne o e => (sb.2 b ne).trans e
    refine wpAny_pure ⟨plainId_quiet PyProof.Rows.F.plain_set_update_loop _, ih (i + 1) _ (by omega) lt (W.frame _ s1 _ _ st1 (Nat.le_add_right _ _) fun b hb o e => same b (fun z => out (z ▸ hb)) o e) tx' fun s2 mv2 tx2 => ?_⟩
    refine fin s2 (Moved.trans W.gtrans ((mv.mono more).then_heap (Nat.le_add_right _ _) fun b o hb e => same b (fun z => hb (z ▸ List.mem_cons_self)) o e) mv2) tx2
abbrev setNew (w : World) : Obj := { cls := .type "set", dict := none, data := .set #[] 0 (.fresh 0 0 (!w.params.followText "set-order")) }
theorem set_texts {l : Addr} {items : Array Value} {xs : List Str} {Q : Value → Shared → Prop} (calm : A.handled = none) (hl : s.heap.IsList l items) (is : StrsAre items.toList xs) (few : xs.length + 1 < scanBound)
    (q : ∀ (h' : Heap) (tk : Nat), TxAt P w h' s.heap.objs.size (gotL xs) → (∀ b o, s.heap.get? b = some o → h'.get? b = some o) → Q (.ref s.heap.objs.size) { s with heap := h', toks := tk }) :
    wpAny (model P w) A (call (.type "set") [.ref l]) Q E s := by
  have len : items.size = xs.length := by
    rw [← Array.length_toList]
    exact strs_len is
  have at_ : (s.heap.push (setNew w)).get? s.heap.objs.size = some (setNew w) := Heap.get?_push_size _ rfl
  obtain ⟨c0, tl0, mro0⟩ := PySem.F.called_set.mro
  have made0 := PySem.F.called_set.made
  have sub0 := PySem.F.called_set.sub
  refine wpAny_call (codeAny_of_tree (show wpAny _ _ (callAny (.type "set") _) _ _ _ from wpAny_pure ⟨Code.quiet_builtin _ (by decide +kernel), codeAny_builtin PySem.F.entry_type_call ?_⟩))
  rw [Around.under_plain (weight_type_call_type "set" [.ref l] []) rfl]
  have no0 := PySem.F.called_set.notType
  have can0 := PySem.F.called_set.canCreate
  have tc0 := PySem.F.typeCall_set_1 (.ref l)
  repeat any_goals (first | assumption | wp_step)
  refine codeAny_mono (code_set_led1 (.ref l) (E := E) (Q₁ := fun obj t => obj = .ref s.heap.objs.size ∧ t = { s with heap := s.heap.push (setNew w) }) ⟨rfl, rfl⟩) ?_
  intro r t hr
  match r, hr with
  | .error _, hr => exact hr
  | .ok .next, hr => exact hr.elim
  | .ok .brk, hr => exact hr.elim
  | .ok .cont, hr => exact hr.elim
  | .ok (.ret obj), ⟨e1, e2⟩ =>
    subst e1
    subst e2
    have ty0 : Shared.TypeIs { s with heap := s.heap.push (setNew w) } (.ref s.heap.objs.size) "set" := ⟨_, at_, rfl⟩
    have look0 := PySem.F.called_set.init.lookup
    have bind0 := PySem.F.called_set.init.bind (.ref s.heap.objs.size)
    repeat any_goals (first | assumption | wp_step)
    refine codeAny_mono (codeAny_call_builtin (R := wants (fun r t => r = .none ∧ ∃ h' tk, t = { s with heap := h', toks := tk } ∧ TxAt P w h' s.heap.objs.size (gotL xs) ∧ ∀ b o, s.heap.get? b = some o → h'.get? b = some o) E) PySem.F.called_set.init.plain PySem.F.entry_set_init (check_set_init_1 ty0 ?_)) ?_
    · obtain ⟨⟨oc, od, odt, osl⟩, ol, ec, nl, ed⟩ := hl
      simp only at ec ed
      subst ec
      subst ed
      have old : (s.heap.push (setNew w)).get? l = some { cls := .type "list", dict := od, data := .seq items nl, slots := osl } := Heap.get?_push_of_some _ ol
      have isl : (s.heap.push (setNew w)).IsList l items := ⟨_, old, rfl, nl, rfl⟩
      have n1 := PySem.F.sub_list_set
      have n2 := PySem.F.sub_list_frozenset
      have n3 : (Value.type "list" == Value.type "dict") = false := by decide
      delta Builtin.«set.__init__» noKeywords Builtin.Frozenset.updateFrom
      generalize keep : pyIter = PI
      wp_walk
      subst keep
      refine wpAny_pyIter_list isl (wpAny_bind (wpAny_runValue ?_))
      have lt : l < s.heap.objs.size := Heap.lt_size ol
      have sz : (s.heap.push (setNew w)).objs.size = s.heap.objs.size + 1 := Heap.size_push ..
      have ne : l ≠ (s.heap.push (setNew w)).objs.size := by rw [sz]; exact Nat.ne_of_lt (Nat.lt_succ_of_lt lt)
      have out : s.heap.objs.size ∉ [(s.heap.push (setNew w)).objs.size, l] := by
        rw [sz]
        intro z
        rcases List.mem_cons.mp z with z | z
        · omega
        · exact Nat.ne_of_gt lt (List.mem_singleton.mp z)
      refine upd_texts ((Walks.list (A := A.in1.in1.in1) (by simp [calm]) _ l ne items).toS) s.heap.objs.size out xs len few ?val (items.size - 0) 0 _ (by omega) (Nat.zero_le _) ⟨⟨_, Heap.get?_push_size _ rfl, rfl, rfl⟩, isl.push _⟩ ?start ?end_
      case val =>
        intro i v hv
        have hv : items.toList[i]? = some v := by rw [Array.getElem?_toList]; exact hv
        exact texts_at is hv
      case start =>
        exact (txAt_new (P := P) (w := w) (h := s.heap)).keep fun o e => Heap.get?_push_of_some _ e
      case end_ =>
        intro t mv tx
        have keepB : ∀ b o, s.heap.get? b = some o → t.heap.get? b = some o := fun b o e => by
          have lt' := Heap.lt_size e
          refine mv.heap b o (fun z => ?_) (Heap.get?_push_of_some _ (Heap.get?_push_of_some _ e))
          rcases List.mem_cons.mp z with z | z
          · exact Nat.ne_of_lt lt' z
          · have z := List.mem_singleton.mp z
            rw [sz] at z
            exact Nat.ne_of_lt (Nat.lt_succ_of_lt lt') z
        obtain ⟨h', g2, d', tk', os'⟩ := t
        obtain rfl : g2 = s.gens := mv.gens
        obtain rfl : d' = s.drawn := mv.drawn
        obtain rfl : os' = s.os := mv.os
        exact wpAny_pure (wpAny_pure ⟨rfl, h', tk', rfl, tx, keepB⟩)
    · intro r t hr
      match r, hr with
      | .error _, hr => exact hr
      | .ok .next, hr => exact hr.elim
      | .ok .brk, hr => exact hr.elim
      | .ok .cont, hr => exact hr.elim
      | .ok (.ret _), ⟨e1, h', tk, e2, tx, kp⟩ =>
        subst e1
        subst e2
        repeat any_goals (first | assumption | wp_step)
        exact q h' tk tx kp
end
/-- set(xs) -/
def rSetOfL (K : PySem.W.Frag) (P : Program) (w : World) : List V → Hp → VK → Prop := fun vs H Q => ∃ (l : Addr) (xs : List Str), vs = [V.ref l] ∧ SqL K H l (xs.map V.str) ∧ xs.length < 60 ∧ ∀ a, H a = none → Q (.ref a) (upd H a (SetL P w a (gotL xs)))
theorem cr_setOfL {X : Cx} (hc : X.calm = true) : CallR X (.type "set") (rSetOfL X.K X.prog X.w) := by
  intro pins s σ H vs us Q I r h
  obtain ⟨l, xs, rfl, hl, few, q⟩ := h
  rw [Vals.ref1 r]
  obtain ⟨its, rv, pl, _⟩ := I.list hl
  have fresh : H s.heap.objs.size = none := I.hok.fresh (Nat.le_refl _)
  have scan : xs.length + 1 < scanBound := Nat.lt_trans (Nat.succ_lt_succ few) (by decide)
  refine set_texts (I.ok.hd hc) pl.isList (by simpa using strs_of_vals rv) scan fun h' tk tx k => ?_
  exact ⟨.ref s.heap.objs.size, upd H s.heap.objs.size (SetL X.prog X.w s.heap.objs.size (gotL xs)), I.laid (t' := tk) k (Nat.le_refl _) (setL_new tx), rfl, q _ fresh⟩
end Wh

set_option maxHeartbeats 3200000
namespace Wh
open PySem PySem.Spec PyProof.Rows L2 PySem.Froz PpSet
/-! ### set(xs), xs a list of ints -/
theorem ints_at : ∀ {vs : List Value} {xs : List Int}, IntsAre vs xs → ∀ {i : Nat} {v : Value}, vs[i]? = some v → ∃ x u, xs[i]? = some x ∧ v = .int x u
  | _, _, .cons x u _, 0, _, e => ⟨x, u, rfl, (Option.some.inj e).symm⟩
  | _, _, .cons _ _ h, i + 1, _, e => ints_at h (i := i) e
section
variable {P : Program} {w : World} {A : Around} {E : Value → Shared → Prop} {s : Shared}
theorem set_ints {l : Addr} {items : Array Value} {xs : List Int} {Q : Value → Shared → Prop} (calm : A.handled = none) (hl : s.heap.IsList l items) (is : IntsAre items.toList xs) (few : xs.length + 1 < scanBound)
    (q : ∀ (h' : Heap) (tk c : Nat), SetR w h' s.heap.objs.size (fun j => decide (j ∈ xs)) c → c ≤ xs.length → (∀ b o, s.heap.get? b = some o → h'.get? b = some o) → Q (.ref s.heap.objs.size) { s with heap := h', toks := tk }) :
    wpAny (model P w) A (call (.type "set") [.ref l]) Q E s := by
  have len : items.size = xs.length := by
    rw [← Array.length_toList]
    exact IntsAre.length is
  have at_ : (s.heap.push (setNew w)).get? s.heap.objs.size = some (setNew w) := Heap.get?_push_size _ rfl
  obtain ⟨c0, tl0, mro0⟩ := PySem.F.called_set.mro
  have made0 := PySem.F.called_set.made
  have sub0 := PySem.F.called_set.sub
  refine wpAny_call (codeAny_of_tree (show wpAny _ _ (callAny (.type "set") _) _ _ _ from wpAny_pure ⟨Code.quiet_builtin _ (by decide +kernel), codeAny_builtin PySem.F.entry_type_call ?_⟩))
  rw [Around.under_plain (weight_type_call_type "set" [.ref l] []) rfl]
  have no0 := PySem.F.called_set.notType
  have can0 := PySem.F.called_set.canCreate
  have tc0 := PySem.F.typeCall_set_1 (.ref l)
  repeat any_goals (first | assumption | wp_step)
  refine codeAny_mono (code_set_led1 (.ref l) (E := E) (Q₁ := fun obj t => obj = .ref s.heap.objs.size ∧ t = { s with heap := s.heap.push (setNew w) }) ⟨rfl, rfl⟩) ?_
  intro r t hr
  match r, hr with
  | .error _, hr => exact hr
  | .ok .next, hr => exact hr.elim
  | .ok .brk, hr => exact hr.elim
  | .ok .cont, hr => exact hr.elim
  | .ok (.ret obj), ⟨e1, e2⟩ =>
    subst e1
    subst e2
    have ty0 : Shared.TypeIs { s with heap := s.heap.push (setNew w) } (.ref s.heap.objs.size) "set" := ⟨_, at_, rfl⟩
    have look0 := PySem.F.called_set.init.lookup
    have bind0 := PySem.F.called_set.init.bind (.ref s.heap.objs.size)
    repeat any_goals (first | assumption | wp_step)
    refine codeAny_mono (codeAny_call_builtin (R := wants (fun r t => r = .none ∧ ∃ h' tk, t = { s with heap := h', toks := tk } ∧ (∃ c, SetR w h' s.heap.objs.size (fun j => decide (j ∈ xs)) c ∧ c ≤ xs.length) ∧ ∀ b o, s.heap.get? b = some o → h'.get? b = some o) E) PySem.F.called_set.init.plain PySem.F.entry_set_init (check_set_init_1 ty0 ?_)) ?_
    · obtain ⟨⟨oc, od, odt, osl⟩, ol, ec, nl, ed⟩ := hl
      simp only at ec ed
      subst ec
      subst ed
      have old : (s.heap.push (setNew w)).get? l = some { cls := .type "list", dict := od, data := .seq items nl, slots := osl } := Heap.get?_push_of_some _ ol
      have isl : (s.heap.push (setNew w)).IsList l items := ⟨_, old, rfl, nl, rfl⟩
      have n1 := PySem.F.sub_list_set
      have n2 := PySem.F.sub_list_frozenset
      have n3 : (Value.type "list" == Value.type "dict") = false := by decide
      delta Builtin.«set.__init__» noKeywords Builtin.Frozenset.updateFrom
      generalize keep : pyIter = PI
      wp_walk
      subst keep
      refine wpAny_pyIter_list isl (wpAny_bind (wpAny_runValue ?_))
      have lt : l < s.heap.objs.size := Heap.lt_size ol
      have sz : (s.heap.push (setNew w)).objs.size = s.heap.objs.size + 1 := Heap.size_push ..
      have ne : l ≠ (s.heap.push (setNew w)).objs.size := by rw [sz]; exact Nat.ne_of_lt (Nat.lt_succ_of_lt lt)
      have out : s.heap.objs.size ∉ [(s.heap.push (setNew w)).objs.size, l] := by
        rw [sz]
        intro z
        rcases List.mem_cons.mp z with z | z
        · omega
        · exact Nat.ne_of_gt lt (List.mem_singleton.mp z)
      refine set_update_ints ((Walks.list (A := A.in1.in1.in1) (by simp [calm]) _ l ne items).toS) s.heap.objs.size out xs len few ?val (items.size - 0) 0 _ (by omega) (Nat.zero_le _) ⟨⟨_, Heap.get?_push_size _ rfl, rfl, rfl⟩, isl.push _⟩ ?start ?end_
      case val =>
        intro i v hv
        have hv : items.toList[i]? = some v := by rw [Array.getElem?_toList]; exact hv
        exact ints_at is hv
      case start =>
        exact ⟨0, Nat.le_refl _, setR_new_at (Heap.get?_push_of_some _ (Heap.get?_push_size _ rfl))⟩
      case end_ =>
        intro t c mv cle tx
        have keepB : ∀ b o, s.heap.get? b = some o → t.heap.get? b = some o := fun b o e => by
          have lt' := Heap.lt_size e
          refine mv.heap b o (fun z => ?_) (Heap.get?_push_of_some _ (Heap.get?_push_of_some _ e))
          rcases List.mem_cons.mp z with z | z
          · exact Nat.ne_of_lt lt' z
          · have z := List.mem_singleton.mp z
            rw [sz] at z
            exact Nat.ne_of_lt (Nat.lt_succ_of_lt lt') z
        obtain ⟨h', g2, d', tk', os'⟩ := t
        obtain rfl : g2 = s.gens := mv.gens
        obtain rfl : d' = s.drawn := mv.drawn
        obtain rfl : os' = s.os := mv.os
        exact wpAny_pure (wpAny_pure ⟨rfl, h', tk', rfl, ⟨c, tx, by rw [len] at cle; exact cle⟩, keepB⟩)
    · intro r t hr
      match r, hr with
      | .error _, hr => exact hr
      | .ok .next, hr => exact hr.elim
      | .ok .brk, hr => exact hr.elim
      | .ok .cont, hr => exact hr.elim
      | .ok (.ret _), ⟨e1, h', tk, e2, ⟨c, tx, cle⟩, kp⟩ =>
        subst e1
        subst e2
        repeat any_goals (first | assumption | wp_step)
        exact q h' tk c tx cle kp
end
/-- set(xs) -/
def rSetOfI (K : PySem.W.Frag) (w : World) : List V → Hp → VK → Prop := fun vs H Q => ∃ (l : Addr) (xs : List Int), vs = [V.ref l] ∧ SqL K H l (xs.map V.int) ∧ xs.length < 60 ∧ ∀ a c, H a = none → c ≤ xs.length → Q (.ref a) (upd H a (SetO w a (fun j => decide (j ∈ xs)) c))
theorem cr_setOfI {X : Cx} (hc : X.calm = true) : CallR X (.type "set") (rSetOfI X.K X.w) := by
  intro pins s σ H vs us Q I r h
  obtain ⟨l, xs, rfl, hl, few, q⟩ := h
  rw [Vals.ref1 r]
  obtain ⟨its, rv, pl, _⟩ := I.list hl
  have fresh : H s.heap.objs.size = none := I.hok.fresh (Nat.le_refl _)
  have scan : xs.length + 1 < scanBound := Nat.lt_trans (Nat.succ_lt_succ few) (by decide)
  refine set_ints (I.ok.hd hc) pl.isList (by simpa using ints_of_vals rv) scan fun h' tk c tx cle k => ?_
  exact ⟨.ref s.heap.objs.size, upd H s.heap.objs.size (SetO X.w s.heap.objs.size (fun j => decide (j ∈ xs)) c), I.laid (t' := tk) k (Nat.le_refl _) (setO_new tx), rfl, q _ _ fresh cle⟩
/-! ### {elt for a in x}: a set of ints -/
section
variable {e a x : Expr} {sc : Scope} {p : Pos}
abbrev sc1 (e a x : Expr) (sc : Scope) (p : Pos) : Expr := .SetComp e [⟨a, x, [], 0⟩] sc p
theorem turn_only (it acc : Value) (env : Env) : compTurn (sc1 e a x sc p) 0 it acc env = (do
      standAt x.pos
      match ← pyNext it with
      | none => pure (.done .next)
      | some v =>
        letOwnedTupleGo a it v
        assign a env v
        (do let z ← eval e env; standAt e.pos; let _ ← call (.builtin "set.add") [acc, z])
        again (.compLoop (sc1 e a x sc p) 0 it acc env)) := by rfl
variable {prog : Program} {w : World} {A : Around} {R : Result → Shared → Prop} {env : Env} {it acc : Value}
theorem loop_only (J : Nat → Shared → Prop)
    (step : ∀ n s, J n s → wpAny (model prog w) A (pyNext it) (fun r s1 => match r with
      | none => R (.ok .next) s1
      | some v => wpAny (model prog w) A (letOwnedTupleGo a it v) (fun _ s2 => wpAny (model prog w) A (assign a env v) (fun _ s3 => wpAny (model prog w) A (eval e env) (fun z s4 =>
          wpAny (model prog w) A (call (.builtin "set.add") [acc, z]) (fun _ s5 => ∃ m, m < n ∧ J m s5) (Nt prog w A env R) s4) (Nt prog w A env R) s3) (Nt prog w A env R) s2) (Nt prog w A env R) s1) (Nt prog w A env R) s)
    {n : Nat} {s : Shared} (h : J n s) : codeAny (model prog w) A (.compLoop (sc1 e a x sc p) 0 it acc env) R s := by
  refine codeAny_loop rfl J (fun n s hJ => ?_) n h
  show wpAny _ A (Sem.onRaise (compTurn (sc1 e a x sc p) 0 it acc env) fun er => do noteFrame er env; theTreesLotGoes er) _ _ s
  rw [turn_only]
  refine wpAny_noted (wpAny_bind (wpAny_standAt (wpAny_bind (wpAny_mono (step n s hJ) (fun r s1 h1 => ?_) fun _ _ z => z))))
  match r, h1 with
  | none, h1 => exact wpAny_pure h1
  | some v, h1 =>
    refine wpAny_bind (wpAny_mono h1 (fun _ s2 h2 => wpAny_bind (wpAny_mono h2 (fun _ s3 h3 => ?_) fun _ _ z => z)) fun _ _ z => z)
    exact wpAny_bind (wpAny_bind (wpAny_mono h3 (fun z s4 h4 => wpAny_bind (wpAny_standAt (wpAny_bind (wpAny_mono h4 (fun _ s5 h5 => wpAny_pure (wpAny_pure ⟨rfl, h5⟩)) fun _ _ z => z)))) fun _ _ z => z))
end
/-- what is asked: the source's walk J, D is the set -/
def tSc1 (w : World) (wi : TI) (g : TG) (te : TE) (vs : List Nat) : TE := fun σ H Q => wi σ H fun J H1 => ∀ D, H1 D = none → ∃ W : Nat → Nat → Hp → Prop, (∃ m, W 0 m (upd H1 D (SetO w D (fun _ => false) 0))) ∧ ∀ i m H, W i m H →
  (J.stop i H ∧ Q (.ref D) H) ∨ (J.go i H ∧ ∃ Nx : Hp → Prop, (∀ H', Nx H' → ∃ m', m' < m ∧ W (i + 1) m' H') ∧ ∀ v H', J.yld i H v H' → g v (wipe σ vs) H' fun σ2 H2 => wipe σ2 vs = wipe σ vs ∧
    te σ2 H2 fun z H5 => ∃ (k : Int) (S : Int → Bool) (c : Nat), z = .int k ∧ H5 D = some (SetO w D S c) ∧ c + 1 < scanBound ∧ Nx (upd H5 D (SetO w D (fun j => S j || decide (j = k)) (if S k = true then c else c + 1))))
section
variable {X : Cx} {e a x : Expr} {sc : Scope} {p : Pos} {own : List (PySem.Str × Nat)} {wi : TI} {g : TG} {te : TE}
theorem setI_add {X : Cx} {pins : List (Addr × Obj)} {σ : L2.St} {H : Hp} {s : Shared} {D : Addr} {k : Int} {S : Int → Bool} {c : Nat} {z : Value} {E : Value → Shared → Prop} {Q : Value → Shared → Prop} {A : Around} (I : Inv X pins σ H s) (hD : H D = some (SetO X.w D S c)) (room : c + 1 < scanBound) (r : RelV (.int k) z)
    (q : ∀ s', Inv X pins σ (upd H D (SetO X.w D (fun j => S j || decide (j = k)) (if S k = true then c else c + 1))) s' → Q .none s') : wpAny (model X.prog X.w) A (call (.builtin "set.add") [.ref D, z]) Q E s := by
  obtain ⟨tk, rfl⟩ := r
  refine setR_add (setO_get I hD) room fun h' sb new => q _ ?_
  have he : ∃ u, h'.get? D = some u := by
    obtain ⟨o, _, _, _, ho, _⟩ := new
    exact ⟨o, ho⟩
  exact I.write (e := D) (t' := s.toks + 1) (by rw [hD]; trivial) (.inl rfl) (fun b u hb hu => (sb.2 b hb).trans hu) he (setO_new new)
theorem pe_sc1 (calm : X.calm = true) (nd : X.N.Nodup) (src : PI X a x wi) (ok : BlkOk X.N X.env.scope sc own)
    (tg : ∀ (s : Shared) (H : Hp) (C : Addr) (cl : List (PySem.Str × Addr)) (F : List Addr), PG (X.blk s H sc (compEnvC sc cl C X.env) F) a g)
    (elt : ∀ (s : Shared) (H : Hp) (C : Addr) (cl : List (PySem.Str × Addr)) (F : List Addr), PE (X.blk s H sc (compEnvC sc cl C X.env) F) e te)
    (f1 : ∀ z, foldedSetIterable x X.env z = pure z := by intro _; rfl) :
    PE X (sc1 e a x sc p) (tSc1 X.w wi g te (own.map (·.2))) := by
  refine ⟨fun pins s σ H Q I h => ?_⟩
  have cells : ∀ n ∈ sc.names, n.2 = .free → ∃ c, X.env.cells.lookup n.1 = some c := fun n hn z => (ok.free n hn z).elim (fun q => I.ok.has _ (.inl q)) fun q => I.ok.has _ (.inr q)
  rw [eval_SetComp]
  refine wpAny_comprehension_free (use := none) rfl f1 (closure_ok cells) ok.kind (fun n hn z => by rw [ok.uniq n hn, z]) (thn (src.run pins s σ H _ I h) fun _ _ h1 => thn h1 fun _ s2 h2 => ?_)
  obtain ⟨it, F, tn, J, H2, rfl, I2, T, at0, out, q⟩ := h2
  refine newSet_ok (newEnv_comp ?_)
  generalize eD : s2.heap.objs.size = D
  have free : H2 D = none := I2.hok.fresh (Nat.le_of_eq eD)
  obtain ⟨W, ⟨m0, w0⟩, turn⟩ := q D free
  -- the set is laid
  generalize e3 : ({ s2 with heap := s2.heap.push { cls := .type "set", dict := none, data := .set #[] 0 (.fresh 0 0 (!X.w.params.followText "set-order")) } } : Shared) = s3
  have g3 : s3.heap = s2.heap.push { cls := .type "set", dict := none, data := .set #[] 0 (.fresh 0 0 (!X.w.params.followText "set-order")) } := by rw [← e3]
  have I3 : Inv X pins σ (upd H2 D (SetO X.w D (fun _ => false) 0)) s3 := by
    subst e3 eD
    exact I2.laid (t' := s2.toks) (fun _ _ z => Heap.get?_push_of_some _ z) (Nat.le_refl _) (setO_new (setR_fresh X.w))
  have lowF : ∀ c ∈ F, c < s2.heap.objs.size := fun c hc => (T.obj _ _ at0 c hc).elim fun _ z => Heap.lt_size z.1
  have outF : ∀ c ∈ F, FpOk X pins (upd H2 D (SetO X.w D (fun _ => false) 0)) c ∧ c < s3.heap.objs.size := fun c hc => by
    have lt := lowF c hc
    have ne : c ≠ D := by rw [← eD]; exact Nat.ne_of_lt lt
    exact ⟨⟨(upd_ne ne).trans (out c hc).1, (out c hc).2⟩, by rw [g3, Heap.size_push]; exact Nat.lt_succ_of_lt lt⟩
  have at3 : tn 0 s3.heap := T.keep _ _ _ at0 fun c _ o z => by rw [g3]; exact Heap.get?_push_of_some _ z
  have I4 := block_start I3 ok nd outF
  have rg := tg s3 (upd H2 D (SetO X.w D (fun _ => false) 0)) s3.heap.objs.size (cellsFrom (s3.heap.objs.size + 1) sc.names (cloFrom X.env.cells sc.names [])) F
  have re := elt s3 (upd H2 D (SetO X.w D (fun _ => false) 0)) s3.heap.objs.size (cellsFrom (s3.heap.objs.size + 1) sc.names (cloFrom X.env.cells sc.names [])) F
  show codeAny _ _ (.compStart (sc1 e a x sc p) 0 (.ref it) (.ref D) (compEnvC sc (cellsFrom (s3.heap.objs.size + 1) sc.names (cloFrom X.env.cells sc.names [])) s3.heap.objs.size X.env)) (compPost (model X.prog X.w) X.A X.xe none (EP X pins σ Q) (.ref D) s3.heap.objs.size) { s3 with heap := pushCells (s3.heap.push { cls := .type "dict", data := .dict #[] }) sc.names }
  have offF : ∀ c ∈ F, (upd H2 D (SetO X.w D (fun _ => false) 0)) c = none := fun c hc => (outF c hc).1.1
  generalize ec : compEnvC sc (cellsFrom (s3.heap.objs.size + 1) sc.names (cloFrom X.env.cells sc.names [])) s3.heap.objs.size X.env = ce at I4 rg re ⊢
  have cloc : ce.locals = s3.heap.objs.size := ec ▸ rfl
  generalize eH : upd H2 D (SetO X.w D (fun _ => false) 0) = H3 at I3 I4 rg re w0 offF outF
  generalize e4 : ({ s3 with heap := pushCells (s3.heap.push { cls := .type "dict", data := .dict #[] }) sc.names } : Shared) = s4 at I4 ⊢
  have at4 : tn 0 s4.heap := T.keep _ _ _ at3 fun c _ o z => by rw [← e4]; exact pushCells_keeps _ _ _ _ (Heap.get?_push_of_some _ z)
  let B := X.blk s3 H3 sc ce F
  have inB : ∀ {σ' : L2.St} {H' : Hp} {s' : Shared}, Inv B [] σ' H' s' → (∀ c ∈ F, H' c = none) → ∀ c ∈ F, FpOk B [] H' c := fun I' n c hc =>
    ⟨n c hc, (I'.ok.exf c hc).1, I'.ok.exfs c hc, .inl hc, fun z d q => (I'.ok.exf c hc).2 z d q, fun z hz => absurd (show z ∈ ([] : List (Addr × Obj)) ++ [] from hz) (by simp)⟩
  refine codeAny_compStart_set (rest := []) ?_ (T.self X.A 0 _ _ _ at4 ?_)
  all_goals
    refine loop_only (fun n s' => ∃ i H', Inv B [] (wipe σ (own.map (·.2))) H' s' ∧ tn i s'.heap ∧ (∀ c ∈ F, H' c = none) ∧ W i n H') ?_ (n := m0) ⟨0, H3, I4, at4, offF, w0⟩
    rintro n s5 ⟨i, H5, I5, at5, n5, w5⟩
    rcases turn i n H5 w5 with ⟨stop, fin⟩ | ⟨go, Nx, back, each⟩
    · refine thnF (T.done B rfl rfl rfl calm i [] s5 _ H5 (fun _ _ => False) I5 (inB I5 n5) at5 stop) fun r s6 ⟨hr, I6⟩ => ?_
      subst hr
      have I7 : Inv X pins σ H5 s6 := I3.call' (ch := F) I6.os I6.base I6.hok I6.bare fun c hc => ⟨(outF c hc).1.2.2.2.1, (outF c hc).1.2.1, (outF c hc).1.2.2.2.2.1, (outF c hc).1.2.2.2.2.2⟩
      have none_ : H5 s3.heap.objs.size = none := cloc ▸ (I6.free : H5 ce.locals = none)
      obtain ⟨m, hm, _⟩ := I6.loc
      have hm : s6.heap.Ns s3.heap.objs.size m := cloc ▸ (hm : s6.heap.Ns ce.locals m)
      refine ⟨m, hm, fun h'' sb => ?_⟩
      obtain ⟨u0, u1, u2, u3, u4, u5⟩ := I3.fpOk (Nat.le_refl _) none_
      exact ⟨.ref D, H5, I7.turned (t' := s6.toks) (fun c o hc z => (sb.2 c hc).trans z) u0 u1 u3 u4 u5, rfl, fin⟩
    · refine thnF (T.item B rfl rfl rfl calm i [] s5 _ H5 (fun _ _ => False) I5 (inB I5 n5) at5 go) fun r s6 ⟨u, hr, h6⟩ => ?_
      subst hr
      refine thnF h6 fun _ s7 ⟨v, H7, I7, r7, y7, at7, n7⟩ => ?_
      have P7 := I7.pinned (inB I7 n7) (T.obj _ _ at7)
      refine thnF (rg.run _ s7 _ H7 v u _ P7 r7 (each v H7 y7)) fun _ s8 ⟨σ8, H8, I8, same8, q8⟩ => ?_
      have len8 : (wipe σ (own.map (·.2))).length = σ8.length := by rw [← same8, wipe_length]
      refine thnF (re.run _ s8 σ8 H8 _ I8 q8) fun z s15 ⟨zv, H15, I15, r15, k, S, c, ez, hD, room, nx⟩ => ?_
      subst ez
      refine setI_add (X := B) I15 hD room r15 fun s16 I16 => ?_
      obtain ⟨m', hm, w'⟩ := back _ nx
      have kept : ∀ c ∈ F, ∀ o, s7.heap.get? c = some o → s16.heap.get? c = some o ∧ _ = none := fun c hc o z =>
        have z2 := I16.pin (c, o) (List.mem_append_right _ (List.mem_append_right _ (mem_pinsAt hc z)))
        ⟨z2.1, z2.2.1⟩
      exact ⟨m', hm, i + 1, _, I16.unpinned.weak len8 (fun j v z => by rw [← same8] at z; exact (wipe_some z).1), T.keep _ _ _ at7 fun c hc o z => (kept c hc o z).1, fun c hc => (T.obj _ _ at7 c hc).elim fun o z => (kept c hc o z.1).2, w'⟩
end
end Wh

set_option maxHeartbeats 4000000
namespace Wh
open PySem PySem.Spec PyProof.Rows L2
/-! ### raise C(), C an own error over ArithmeticError whose __init__ keeps nothing -/
def bmA : List Value := [.type "ArithmeticError", .type "Exception", .type "BaseException", .type "object"]
structure AexC (K : PySem.W.Frag) (C : Addr) : Prop where
  q : PySem.W.excInitIn K C bmA "ArithmeticError.__new__" = true
  exC : PySem.W.subIn K (.ref C) (.type "BaseException") = some true
  tyC : PySem.W.typeIn K (.ref C) = some (.type "type")
  kC : PySem.W.keepIn K (.ref C) = true
def spNoI : Sp := fun vs H Q _ => ∃ a : Addr, vs = [.ref a] ∧ Q .non H
theorem mk_bare {X : Cx} {pins : List (Addr × Obj)} {σ : L2.St} {H1 : Hp} {Q : XK} {hp hp2 h2 : Heap} {g1 g2 : Array GenState} {d1 d2 : Drawn} {t1 t2 : Nat} {os1 os2 : OsState} {a C : Addr} (T : Raises X (.ref C)) (I1 : Inv X pins σ H1 ⟨hp, g1, d1, t1, os1⟩)
    (ha : hp.objs.size ≤ a) (k : ∀ b o, hp.get? b = some o → hp2.get? b = some o) (un : Un (frs X.stack) [] (upd H1 a (exo a C none)) (upd H1 a (exo a C none)) hp2 h2) (hok : HOk X.prog X.w (upd H1 a (exo a C none)) h2) (ho : os2 = os1) (hb : AllBare g2)
    (q : Q (.ref C) none H1) : MkP X pins σ Q (.ref a) ⟨h2, g2, d2, t2, os2⟩ := by
  obtain ⟨t0, hoe⟩ := exo_at hok (upd_same (H := H1))
  have hn : H1 a = none := I1.hok.fresh ha
  obtain ⟨G, g1', g2'⟩ := restrict h2 fun b => decide (b ≠ a)
  have gk : ∀ b, b ≠ a → G.get? b = h2.get? b := fun b hb => g1' b (decide_eq_true hb)
  have ge : G.get? a = none := g2' a (by simp)
  have nha : ∀ {b : Addr} {o : Obj}, hp.get? b = some o → b ≠ a := fun {b o} z => Nat.ne_of_lt (Nat.lt_of_lt_of_le (Heap.lt_size z) ha)
  have up : ∀ {b : Addr}, b ≠ a → H1 b = none → upd H1 a (exo a C none) b = none := fun {b} hb n => by rw [upd_ne hb]; exact n
  have U : Un (frs X.stack) [] H1 H1 hp G := {
    keep := fun b o z n hf hx => by
      rw [gk b (nha z)]
      exact un.keep b o (k b o z) (up (nha z) n) hf hx
    slot := fun b o z n hf hx => by
      rw [gk b (nha z)]
      exact un.slot b o (k b o z) (up (nha z) n) hf hx
    free := fun b o z n hx => n
    there := fun b o z hx => by
      rw [gk b (nha z)]
      exact un.there b o (k b o z) hx
    tups := fun b xs z => z
    frzs := fun b o v z => z
    tbls := fun b ps z => by
      have e : b ≠ a := ne_of_none z hn
      obtain ⟨ps2, hps⟩ := un.tbls b ps (by rw [upd_ne e]; exact z)
      exact ⟨ps2, by rw [upd_ne e] at hps; exact hps⟩ }
  have hok3 : HOk X.prog X.w H1 G := fun b o z => by
    have hba : b ≠ a := ne_of_none z hn
    have z2 : upd H1 a (exo a C none) b = some o := by rw [upd_ne hba]; exact z
    exact (hok b o z2).stay (fun c v hc y => by
        have hca : c ≠ a := by
          rcases hc with hc | hc
          · rw [hc]
            exact hba
          · exact at_ne (upd_same (H := H1)) hc exo_own
        rw [gk c hca]
        exact y)
      (fun c hc => by rw [upd_ne (at_ne (upd_same (H := H1)) hc exo_own)] at hc; exact hc) (fun c xs hc => by rw [upd_ne (at_ne (upd_same (H := H1)) hc exo_tup)] at hc; exact hc)
  have J : Inv X pins σ H1 ⟨G, g2, d2, t2, os2⟩ := I1.call' (ch := []) ho U hok3 hb (fun b z => absurd z (by simp))
  refine ⟨a, _, _, ⟨G, g2, d2, t2, os2⟩, _, .ref C, none, rfl, J, fun b o z => ?_, ge, hoe, ⟨rfl, rfl⟩, rfl, rfl, hn, rfl, hb, T, q⟩
  by_cases hba : b = a
  · rw [hba] at z
    rw [show (⟨G, g2, d2, t2, os2⟩ : Shared).heap = G from rfl, ge] at z
    cases z
  · exact (gk b hba).symm.trans z
theorem pmk_ax0 {X : Cx} {x : Str} {C fI : Addr} {k : Nat} {fd : FuncData} {p pos : Pos} (T : AexC X.K C) (iC : PySem.W.findIn X.K (.ref C) "__init__" = some (some (.ref fI))) (tI : PySem.W.typeIn X.K (.ref fI) = some (.type "function"))
    (F1 : FnOk X.prog X.w X.K X.mg X.base C8.CX0 k fI fd ["self"] spNoI) (hr : Room (k + 1) X.A) (hb : Binds X.K fd ["self"] []) (hg : Gl X x) (hm : X.mg x = some (.ref C))
    (hdb : (x == ("__debug__" : Str)) = false := by decide) :
    PMk X (.Call (.Name x p) [] [] pos) (fun _ H Q => Q (.ref C) none H) := by
  intro pins s σ H1 Q I1 q
  refine wpAny_Call_Name_kw (ld_glob I1 hg hm ?_ hdb)
  refine PySem.W.callWith_K0 I1.kIn T.kC ?_
  show wpAny _ _ (call (.ref C) []) _ _ _
  obtain ⟨hp, g, dr, tk, os⟩ := s
  obtain ⟨nm, N, qn, bs, bm, hdct, sn, sub, ab, col, dd, k0, k1, k2, k3, k5, hC, hT⟩ := PySem.W.excInit_of I1.kIn T.q
  have hsz : hp.objs.size ≤ hp.objs.size + 1 := Nat.le_succ _
  have hn : H1 (hp.objs.size + 1) = none := I1.hok.fresh hsz
  have kk : ∀ b o, hp.get? b = some o → ((hp.push (PySem.W.kdv_tup [])).push (PySem.HandSPX.excO C hp.objs.size)).get? b = some o := fun b o e => Heap.get?_push_of_some _ (Heap.get?_push_of_some _ e)
  have hget : ((hp.push (PySem.W.kdv_tup [])).push (PySem.HandSPX.excO C hp.objs.size)).get? (hp.objs.size + 1) = some (PySem.HandSPX.excO C hp.objs.size) := by heap_get
  have I2 : Inv X pins σ (upd H1 (hp.objs.size + 1) (exo (hp.objs.size + 1) C none)) ⟨(hp.push (PySem.W.kdv_tup [])).push (PySem.HandSPX.excO C hp.objs.size), g, dr, tk, os⟩ :=
    I1.laid (t' := tk) (a := hp.objs.size + 1) (o := exo (hp.objs.size + 1) C none) (h' := (hp.push (PySem.W.kdv_tup [])).push (PySem.HandSPX.excO C hp.objs.size)) kk hsz (exo_ok hget)
  have r2 : Vals [V.ref (hp.objs.size + 1)] [Value.ref (hp.objs.size + 1)] := .cons rfl .nil
  have hq : spNoI [V.ref (hp.objs.size + 1)] (upd H1 (hp.objs.size + 1) (exo (hp.objs.size + 1) C none)) (fun v H2 => v = .non ∧ H2 = upd H1 (hp.objs.size + 1) (exo (hp.objs.size + 1) C none)) (fun _ _ _ => False) := ⟨_, rfl, rfl, rfl⟩
  refine wpAny_call (PySem.HandSPX.call_own PySem.F.excBase_ArithmeticError hT hC (PySem.W.looks_findIn I1.kIn iC) (fun self => PySem.W.bind_fn I1.kIn self tI) (Nat.zero_le _)
    (codeAny_mono (F1.run _ X.stack _ _ ⟨[Value.ref (hp.objs.size + 1)], []⟩ [Value.ref (hp.objs.size + 1)] _ _ (fun _ _ _ => False) (hr.make C [] []) (I2.env0.make C [] []) (hb _ [Value.ref (hp.objs.size + 1)] I2.kIn rfl) r2 hq) fun r s' hq' => ?_))
  cases r with
  | error er => exact hq'.elim
  | ok fl =>
    cases fl with
    | ret u =>
      obtain ⟨v, H2, os2, bare2, un2, hok2, rv, ev, eH⟩ := hq'
      subst ev eH
      obtain ⟨h2, g2, d2, t2, os'⟩ := s'
      exact ⟨rv, mk_bare (raises_own T.exC T.tyC) I1 hsz kk un2 hok2 os2 bare2 q⟩
    | next => exact False.elim hq'
    | brk => exact False.elim hq'
    | cont => exact False.elim hq'
end Wh

namespace Wh
open PySem L2
/-! ### a set of ints made out of a list -/
theorem sc1_list {w : World} {K : PySem.W.Frag} {l : Addr} {ys : List V} {g : TG} {te : TE} {us : List Nat} {τ : L2.St} {H1 : Hp} {D : Addr} {Fin : Hp → Prop} (J : Nat → Hp → Prop) (start : J 0 (upd H1 D (SetO w D (fun _ => false) 0))) (at_ : ∀ n G, n ≤ ys.length → J n G → SqL K G l ys)
    (turn : ∀ n y G, ys[n]? = some y → J n G → g y (wipe τ us) G fun τ2 G2 => wipe τ2 us = wipe τ us ∧ te τ2 G2 fun z G5 => ∃ (k : Int) (S : Int → Bool) (c : Nat), z = .int k ∧ G5 D = some (SetO w D S c) ∧ c + 1 < scanBound ∧ J (n + 1) (upd G5 D (SetO w D (fun j => S j || decide (j = k)) (if S k = true then c else c + 1))))
    (done : ∀ G, J ys.length G → Fin G) :
    ∃ W : Nat → Nat → Hp → Prop, (∃ m, W 0 m (upd H1 D (SetO w D (fun _ => false) 0))) ∧ ∀ n m G, W n m G →
      ((Itl K l).stop n G ∧ Fin G) ∨ ((Itl K l).go n G ∧ ∃ Nx : Hp → Prop, (∀ G', Nx G' → ∃ m', m' < m ∧ W (n + 1) m' G') ∧ ∀ y G', (Itl K l).yld n G y G' → g y (wipe τ us) G' fun τ2 G2 => wipe τ2 us = wipe τ us ∧
        te τ2 G2 fun z G5 => ∃ (k : Int) (S : Int → Bool) (c : Nat), z = .int k ∧ G5 D = some (SetO w D S c) ∧ c + 1 < scanBound ∧ Nx (upd G5 D (SetO w D (fun j => S j || decide (j = k)) (if S k = true then c else c + 1)))) := by
  refine ⟨fun n m G => n + m = ys.length ∧ J n G, ⟨ys.length, Nat.zero_add _, start⟩, fun n m G hw => ?_⟩
  obtain ⟨e, j⟩ := hw
  have here := at_ n G (by omega) j
  match m, e with
  | 0, e =>
    have e : n = ys.length := e
    subst e
    exact .inl ⟨⟨ys, here, Nat.le_refl _⟩, done G j⟩
  | m + 1, e =>
    have lt : n < ys.length := by omega
    refine .inr ⟨⟨ys, ys[n], here, List.getElem?_eq_getElem lt⟩, J (n + 1), fun G' j' => ⟨m, Nat.lt_succ_self m, by omega, j'⟩, fun y G' hy => ?_⟩
    obtain ⟨eG, hy⟩ := hy
    subst eG
    exact turn n y _ (hy ys here) j
/-- the ints that are in a list, each once, ascending -/
theorem asc_uniq : ∀ {xs ys : List Int}, xs.Pairwise (· < ·) → ys.Pairwise (· < ·) → (∀ k, k ∈ xs ↔ k ∈ ys) → xs = ys
  | [], [], _, _, _ => rfl
  | [], y :: ys, _, _, h => absurd ((h y).mpr List.mem_cons_self) (by simp)
  | x :: xs, [], _, _, h => absurd ((h x).mp List.mem_cons_self) (by simp)
  | x :: xs, y :: ys, h1, h2, h => by
    obtain ⟨a1, a2⟩ := List.pairwise_cons.mp h1
    obtain ⟨b1, b2⟩ := List.pairwise_cons.mp h2
    have e : x = y := by
      have m1 := (h x).mp List.mem_cons_self
      have m2 := (h y).mpr List.mem_cons_self
      rcases List.mem_cons.mp m1 with z | z
      · exact z
      · rcases List.mem_cons.mp m2 with u | u
        · exact u.symm
        · have := b1 x z
          have := a1 y u
          omega
    subst e
    rw [asc_uniq a2 b2 fun k => ?_]
    constructor
    · intro hk
      rcases List.mem_cons.mp ((h k).mp (List.mem_cons_of_mem _ hk)) with z | z
      · have := a1 k hk
        omega
      · exact z
    · intro hk
      rcases List.mem_cons.mp ((h k).mpr (List.mem_cons_of_mem _ hk)) with z | z
      · have := b1 k hk
        omega
      · exact z
theorem cr_sortedSK {X : Cx} (K : PySem.W.Frag) (h : X.K = K) : CallR X (.builtin "sorted") (rSortedS K) := h ▸ cr_sortedS
theorem sqT_same {K : PySem.W.Frag} {H H' : Hp} {a : Addr} {xs : List V} (h : SqT K H a xs) (s : Same H H') : SqT K H' a xs := by
  rcases h with (h | ⟨o, h⟩) | h
  · exact .inl (.inl (s _ _ h))
  · exact .inl (.inr ⟨o, s _ _ h⟩)
  · exact .inr h
mutual
theorem dp_same {K : PySem.W.Frag} {H H' : Hp} (s : Same H H') : ∀ {d : PyData} {v : V}, Dp K H v d → Dp K H' v d
  | _, _, .non => .non
  | _, _, .bl b => .bl b
  | _, _, .int i => .int i
  | _, _, .str x => .str x
  | _, _, .lst h r => .lst (s.seq h) (dpAll_same s r)
  | _, _, .tup h r => .tup (sqT_same h s) (dpAll_same s r)
theorem dpAll_same {K : PySem.W.Frag} {H H' : Hp} (s : Same H H') : ∀ {ds : List PyData} {vs : List V}, DpAll K H vs ds → DpAll K H' vs ds
  | _, _, .nil => .nil
  | _, _, .cons h r => .cons (dp_same s h) (dpAll_same s r)
end
theorem pe_fldK {X : Cx} (K : PySem.W.Frag) (h : X.K = K) {e : Expr} {f : Str} {pos : Pos} {ta : TE} (he : PE X e ta) (hb : attributeBase e f X.env (eval e X.env) = eval e X.env) : PE X (.Attribute e f pos) (tFld K ta f) := h ▸ pe_fld he hb
theorem make_same3 {H H3 : Hp} {x dx : Addr} {o1 o2 : HO} (b : But x (upd (upd H dx o1) x o2) H3) (nx : H x = none) (nd : H dx = none) : Same H H3 := fun a o e => by
  have n1 : a ≠ x := ne_of_none e nx
  have n2 : a ≠ dx := ne_of_none e nd
  exact b a o (by rw [upd_ne n1, upd_ne n2]; exact e) n1
end Wh

namespace Wh
open PySem L2
/-! ### heads: a row of places, each one's head is no greater -/
def nxt (hs : List Nat) (i : Nat) : Nat := (hs[i]?).getD i
def UF (hs : List Nat) : Prop := ∀ i, nxt hs i ≤ i
/-- the head of heads, by steps -/
def rt (hs : List Nat) : Nat → Nat → Nat
  | 0, i => i
  | k + 1, i => if nxt hs i = i then i else rt hs k (nxt hs i)
def root (hs : List Nat) (i : Nat) : Nat := rt hs i i
theorem nxt_some {hs : List Nat} {i v : Nat} (h : hs[i]? = some v) : nxt hs i = v := by unfold nxt; rw [h]; rfl
theorem rt_more {hs : List Nat} (u : UF hs) : ∀ (i k : Nat), i ≤ k → rt hs k i = root hs i := by
  intro i
  induction i using Nat.strongRecOn with
  | ind i ih =>
    intro k hk
    have le := u i
    match i, k, hk with
    | 0, 0, _ => rfl
    | 0, k + 1, _ =>
      show (if nxt hs 0 = 0 then 0 else _) = _
      rw [if_pos (by omega)]
      rfl
    | i + 1, k + 1, hk =>
      show (if nxt hs (i + 1) = i + 1 then i + 1 else rt hs k (nxt hs (i + 1))) = (if nxt hs (i + 1) = i + 1 then i + 1 else rt hs i (nxt hs (i + 1)))
      by_cases e : nxt hs (i + 1) = i + 1
      · rw [if_pos e, if_pos e]
      · rw [if_neg e, if_neg e, ih _ (by omega) k (by omega), ih _ (by omega) i (by omega)]
theorem root_own {hs : List Nat} {i : Nat} (h : nxt hs i = i) : root hs i = i := by
  unfold root
  cases i with
  | zero => rfl
  | succ i => exact if_pos h
theorem root_next {hs : List Nat} (u : UF hs) (i : Nat) : root hs (nxt hs i) = root hs i := by
  by_cases e : nxt hs i = i
  · rw [e]
  · have le := u i
    cases i with
    | zero => exact absurd (by omega) e
    | succ i =>
      have : root hs (i + 1) = rt hs i (nxt hs (i + 1)) := by
        show (if nxt hs (i + 1) = i + 1 then i + 1 else rt hs i (nxt hs (i + 1))) = _
        rw [if_neg e]
      rw [this, rt_more u _ _ (by omega)]
theorem root_le {hs : List Nat} (u : UF hs) : ∀ i, root hs i ≤ i := by
  intro i
  induction i using Nat.strongRecOn with
  | ind i ih =>
    have le := u i
    by_cases e : nxt hs i = i
    · rw [root_own e]
      exact Nat.le_refl _
    · rw [← root_next u i]
      exact Nat.le_trans (ih _ (by omega)) le
theorem root_fix {hs : List Nat} (u : UF hs) : ∀ i, nxt hs (root hs i) = root hs i := by
  intro i
  induction i using Nat.strongRecOn with
  | ind i ih =>
    have le := u i
    by_cases e : nxt hs i = i
    · rw [root_own e, e]
    · rw [← root_next u i]
      exact ih _ (by omega)
theorem root_root {hs : List Nat} (u : UF hs) (i : Nat) : root hs (root hs i) = root hs i := root_own (root_fix u i)
theorem nxt_set {hs : List Nat} {p v : Nat} (hp : p < hs.length) (i : Nat) : nxt (hs.set p v) i = if i = p then v else nxt hs i := by
  unfold nxt
  by_cases e : i = p
  · subst e
    rw [if_pos rfl, List.getElem?_set_self hp]
    rfl
  · rw [if_neg e, List.getElem?_set_ne (Ne.symm e)]
theorem UF.set {hs : List Nat} (u : UF hs) {p v : Nat} (hp : p < hs.length) (hv : v ≤ p) : UF (hs.set p v) := fun i => by
  rw [nxt_set hp]
  split
  · rename_i e
    omega
  · exact u i
/-- a place that gets the head of its head: nothing changes -/
theorem halve {hs : List Nat} (u : UF hs) {p : Nat} (hp : p < hs.length) : ∀ i, root (hs.set p (nxt hs (nxt hs p))) i = root hs i := by
  have l1 := u p
  have l2 := u (nxt hs p)
  have u' : UF (hs.set p (nxt hs (nxt hs p))) := u.set hp (by omega)
  intro i
  induction i using Nat.strongRecOn with
  | ind i ih =>
    have e := nxt_set (v := nxt hs (nxt hs p)) hp i
    by_cases ip : i = p
    · subst ip
      rw [if_pos rfl] at e
      by_cases z : nxt hs (nxt hs i) = i
      · have z1 : nxt hs i = i := by omega
        rw [root_own (by rw [e]; exact z), root_own z1]
      · rw [← root_next u', e, ih _ (by omega), root_next u, root_next u]
    · rw [if_neg ip] at e
      by_cases z : nxt hs i = i
      · rw [root_own (by rw [e]; exact z), root_own z]
      · have le := u i
        rw [← root_next u', e, ih _ (by omega), root_next u]
/-- two heads made one: all below the greater one have the lesser one -/
theorem join_heads {hs : List Nat} (u : UF hs) {a b : Nat} (hb : b < hs.length) (ab : a ≤ b) (fa : nxt hs a = a) (fb : nxt hs b = b) : UF (hs.set b a) ∧ ∀ i, root (hs.set b a) i = if root hs i = b then a else root hs i := by
  have u' : UF (hs.set b a) := u.set hb ab
  refine ⟨u', fun i => ?_⟩
  induction i using Nat.strongRecOn with
  | ind i ih =>
    have e := nxt_set (v := a) hb i
    by_cases ib : i = b
    · subst ib
      rw [if_pos rfl] at e
      rw [root_own fb, if_pos rfl]
      by_cases z : a = i
      · rw [root_own (by rw [e]; exact z), z]
      · rw [← root_next u', e, ih _ (by omega), root_own fa, if_neg z]
    · rw [if_neg ib] at e
      by_cases z : nxt hs i = i
      · rw [root_own (by rw [e]; exact z), root_own z, if_neg ib]
      · have le := u i
        rw [← root_next u', e, ih _ (by omega), root_next u]
/-- of one class -/
def Linked (hs : List Nat) (i j : Nat) : Prop := root hs i = root hs j
theorem linked_join {hs hs' : List Nat} {p q : Nat} (h : ∀ i, root hs' i = if root hs i = max (root hs p) (root hs q) then min (root hs p) (root hs q) else root hs i) (i j : Nat) :
    Linked hs' i j ↔ Linked hs i j ∨ (Linked hs i p ∧ Linked hs q j) ∨ (Linked hs i q ∧ Linked hs p j) := by
  unfold Linked
  rw [h i, h j]
  generalize root hs i = a
  generalize root hs j = b
  generalize root hs p = c
  generalize root hs q = d
  rcases Nat.le_total c d with cd | cd
  · rw [Nat.max_eq_right cd, Nat.min_eq_left cd]
    split <;> split <;> omega
  · rw [Nat.max_eq_left cd, Nat.min_eq_right cd]
    split <;> split <;> omega
theorem uf_range (N : Nat) : UF (List.range N) ∧ ∀ i, root (List.range N) i = i := by
  have e : ∀ i, nxt (List.range N) i = i := fun i => by
    unfold nxt
    by_cases h : i < N
    · rw [List.getElem?_range h]
      rfl
    · rw [List.getElem?_eq_none (by rw [List.length_range]; omega)]
      rfl
  exact ⟨fun i => Nat.le_of_eq (e i), fun i => root_own (e i)⟩
end Wh

namespace Wh
open PySem L2
/-! ### what walks from two houses reach, by a heap of pairs that wait -/
def Rch (ts : List Tie) (p0 q : Pr) : Prop := ∃ w, w ≠ [] ∧ walk2 ts p0 w = some q
theorem Rch.step {ts : List Tie} {p0 q r : Pr} {m : Nat} (c : q = p0 ∨ Rch ts p0 q) (s : step2 ts q m = some r) : Rch ts p0 r := by
  rcases c with rfl | ⟨w, _, h⟩
  · refine ⟨[m], by simp, ?_⟩
    show (step2 ts q m).bind _ = some r
    rw [s]
    rfl
  · exact ⟨w ++ [m], by simp, walk2_snoc h s⟩
/-- between turns -/
structure Dfs (n : Nat) (ts : List Tie) (p0 : Pr) (es st : List Pr) : Prop where
  sound : ∀ q ∈ es, Rch ts p0 q
  nd : (es.map (·.1)).Nodup
  lt : ∀ q ∈ es, q.1 < n ∧ q.2 < n
  stk : ∀ q ∈ st, q = p0 ∨ q ∈ es
  opn : ∀ q, q = p0 ∨ q ∈ es → q ∈ st ∨ ∀ m r, step2 ts q m = some r → r ∈ es
/-- within a turn -/
structure DfsIn (n : Nat) (ts : List Tie) (p0 : Pr) (es st : List Pr) (q0 : Pr) (done : List Nat) : Prop where
  sound : ∀ q ∈ es, Rch ts p0 q
  nd : (es.map (·.1)).Nodup
  lt : ∀ q ∈ es, q.1 < n ∧ q.2 < n
  stk : ∀ q ∈ st, q = p0 ∨ q ∈ es
  cur : q0 = p0 ∨ q0 ∈ es
  opn : ∀ q, q = p0 ∨ q ∈ es → q ∈ st ∨ q = q0 ∨ ∀ m r, step2 ts q m = some r → r ∈ es
  part : ∀ m ∈ done, ∀ r, step2 ts q0 m = some r → r ∈ es
theorem Dfs.init (n : Nat) (ts : List Tie) (p0 : Pr) : Dfs n ts p0 [] [p0] :=
  ⟨fun _ h => (by cases h), List.nodup_nil, fun _ h => (by cases h), fun q h => .inl (List.mem_singleton.mp h), fun q h => h.elim (fun e => .inl (List.mem_singleton.mpr e)) fun h => (by cases h)⟩
theorem Dfs.pop {n : Nat} {ts : List Tie} {p0 q0 : Pr} {es st : List Pr} (D : Dfs n ts p0 es (st ++ [q0])) : DfsIn n ts p0 es st q0 [] := by
  refine ⟨D.sound, D.nd, D.lt, fun q h => D.stk q (List.mem_append_left _ h), D.stk q0 (List.mem_append_right _ (List.mem_singleton.mpr rfl)), fun q h => ?_, fun _ h => by cases h⟩
  rcases D.opn q h with z | z
  · rcases List.mem_append.mp z with y | y
    · exact .inl y
    · exact .inr (.inl (List.mem_singleton.mp y))
  · exact .inr (.inr z)
theorem DfsIn.reach {n : Nat} {ts : List Tie} {p0 q0 r : Pr} {es st : List Pr} {done : List Nat} {m : Nat} (D : DfsIn n ts p0 es st q0 done) (s : step2 ts q0 m = some r) : Rch ts p0 r := Rch.step (D.cur.imp id (D.sound q0)) s
theorem DfsIn.skip {n : Nat} {ts : List Tie} {p0 q0 : Pr} {es st : List Pr} {done : List Nat} {m : Nat} (D : DfsIn n ts p0 es st q0 done) (h : ∀ r, step2 ts q0 m = some r → r ∈ es) : DfsIn n ts p0 es st q0 (done ++ [m]) := by
  refine ⟨D.sound, D.nd, D.lt, D.stk, D.cur, D.opn, fun k hk r hr => ?_⟩
  rcases List.mem_append.mp hk with z | z
  · exact D.part k z r hr
  · rw [List.mem_singleton.mp z] at hr
    exact h r hr
theorem DfsIn.add {n : Nat} {ts : List Tie} {p0 q0 r : Pr} {es st : List Pr} {done : List Nat} {m : Nat} (wk : WebOk n ts) (D : DfsIn n ts p0 es st q0 done) (s : step2 ts q0 m = some r) (new : r.1 ∉ es.map (·.1)) : DfsIn n ts p0 (es ++ [r]) (st ++ [r]) q0 (done ++ [m]) := by
  have into : ∀ {q : Pr}, q ∈ es → q ∈ es ++ [r] := fun h => List.mem_append_left _ h
  have last : r ∈ es ++ [r] := List.mem_append_right _ (List.mem_singleton.mpr rfl)
  refine ⟨fun q h => ?_, ?_, fun q h => ?_, fun q h => ?_, D.cur.imp id into, fun q h => ?_, fun k hk x hx => ?_⟩
  · rcases List.mem_append.mp h with z | z
    · exact D.sound q z
    · rw [List.mem_singleton.mp z]
      exact D.reach s
  · rw [List.map_append]
    exact nd_snoc D.nd new
  · rcases List.mem_append.mp h with z | z
    · exact D.lt q z
    · rw [List.mem_singleton.mp z]
      exact step2_lt wk s
  · rcases List.mem_append.mp h with z | z
    · exact (D.stk q z).imp id into
    · rw [List.mem_singleton.mp z]
      exact .inr last
  · have h' : (q = p0 ∨ q ∈ es) ∨ q = r := by
      rcases h with z | z
      · exact .inl (.inl z)
      · rcases List.mem_append.mp z with y | y
        · exact .inl (.inr y)
        · exact .inr (List.mem_singleton.mp y)
    rcases h' with h' | rfl
    · rcases D.opn q h' with z | z | z
      · exact .inl (List.mem_append_left _ z)
      · exact .inr (.inl z)
      · exact .inr (.inr fun m x hx => into (z m x hx))
    · exact .inl (List.mem_append_right _ (List.mem_singleton.mpr rfl))
  · rcases List.mem_append.mp hk with z | z
    · exact into (D.part k z x hx)
    · rw [List.mem_singleton.mp z, s] at hx
      rw [← Option.some.inj hx]
      exact last
theorem DfsIn.done {n : Nat} {ts : List Tie} {p0 q0 : Pr} {es st : List Pr} {done : List Nat} (D : DfsIn n ts p0 es st q0 done) (all : ∀ m ∈ marksAt q0.1 ts, m ∈ done) : Dfs n ts p0 es st := by
  refine ⟨D.sound, D.nd, D.lt, D.stk, fun q h => ?_⟩
  rcases D.opn q h with z | z | z
  · exact .inl z
  · exact .inr fun m r hr => by
      rw [z] at hr
      exact D.part m (all m (step2_mark hr).1) r hr
  · exact .inr z
theorem Dfs.all {n : Nat} {ts : List Tie} {p0 : Pr} {es : List Pr} (D : Dfs n ts p0 es []) (r : Pr) : r ∈ es ↔ Rch ts p0 r := by
  refine ⟨D.sound r, ?_⟩
  rintro ⟨w, ne, h⟩
  have closed : ∀ q, q = p0 ∨ q ∈ es → ∀ m r, step2 ts q m = some r → r ∈ es := fun q h => (D.opn q h).elim (fun z => by cases z) id
  have main : ∀ (w : List Nat) (q : Pr), (q = p0 ∨ q ∈ es) → w ≠ [] → walk2 ts q w = some r → r ∈ es := by
    intro w
    induction w with
    | nil => exact fun _ _ ne _ => absurd rfl ne
    | cons m w ih =>
      intro q hq _ h
      have h : (step2 ts q m).bind (fun k => walk2 ts k w) = some r := h
      cases s : step2 ts q m with
      | none => rw [s] at h; cases h
      | some k =>
        rw [s] at h
        have hk := closed q hq m k s
        cases w with
        | nil =>
          obtain rfl := Option.some.inj (show some k = some r from h)
          exact hk
        | cons m2 w => exact ih k (.inr hk) (by simp) h
  exact main w p0 (.inl rfl) ne h
theorem fst_few {n : Nat} {es : List Pr} (nd : (es.map (·.1)).Nodup) (lt : ∀ q ∈ es, q.1 < n ∧ q.2 < n) : es.length ≤ n := by
  have := nd_sub_len (s := List.range n) nd fun x hx => by
    obtain ⟨q, hq, rfl⟩ := List.mem_map.mp hx
    exact List.mem_range.mpr (lt q hq).1
  rw [List.length_map, List.length_range] at this
  exact this
/-- two ends beside one -/
def Clash (ts : List Tie) (p0 : Pr) : Prop := ∃ c d e, d ≠ e ∧ Rch ts p0 (c, d) ∧ Rch ts p0 (c, e)
theorem DfsIn.clash {n : Nat} {ts : List Tie} {p0 q0 r : Pr} {es st : List Pr} {done : List Nat} {m d : Nat} (D : DfsIn n ts p0 es st q0 done) (s : step2 ts q0 m = some r) (h : (r.1, d) ∈ es) (ne : d ≠ r.2) : Clash ts p0 :=
  ⟨r.1, d, r.2, ne, D.sound _ h, D.reach s⟩
/-! ### the ends as a dict -/
def enD (es : List Pr) : List (Key × V) := es.map fun q => ((Sum.inl (q.1 : Int) : Key), V.int (q.2 : Int))
theorem enD_val (es : List Pr) (c : Nat) : valV (enD es) (Sum.inl (c : Int) : Key) = (es.find? fun q => decide (q.1 = c)).map fun q => V.int (q.2 : Int) := by
  unfold valV enD
  rw [List.find?_map]
  have e : ((fun kv : Key × V => decide (kv.1 = (Sum.inl (c : Int) : Key))) ∘ fun q : Pr => ((Sum.inl (q.1 : Int) : Key), V.int (q.2 : Int))) = fun q => decide (q.1 = c) := by
    funext q
    show decide ((Sum.inl (q.1 : Int) : Key) = Sum.inl (c : Int)) = decide (q.1 = c)
    by_cases z : q.1 = c
    · rw [z, decide_eq_true rfl, decide_eq_true rfl]
    · rw [decide_eq_false z, decide_eq_false fun y => z (by
        injection y with y
        omega)]
  rw [e, Option.map_map]
  rfl
theorem enD_none {es : List Pr} {c : Nat} (h : c ∉ es.map (·.1)) : valV (enD es) (Sum.inl (c : Int) : Key) = none := by
  rw [enD_val]
  cases e : es.find? fun q => decide (q.1 = c) with
  | none => rfl
  | some q => exact absurd (List.mem_map.mpr ⟨q, List.mem_of_find?_eq_some e, of_decide_eq_true (List.find?_some (p := fun q : Pr => decide (q.1 = c)) e)⟩) h
theorem enD_some {es : List Pr} {c : Nat} (h : c ∈ es.map (·.1)) : ∃ d, (c, d) ∈ es ∧ valV (enD es) (Sum.inl (c : Int) : Key) = some (.int (d : Int)) := by
  rw [enD_val]
  cases e : es.find? fun q => decide (q.1 = c) with
  | none =>
    obtain ⟨q, hq, e1⟩ := List.mem_map.mp h
    exact absurd (List.find?_eq_none.mp e q hq) (by simp [e1])
  | some q =>
    have e1 : q.1 = c := of_decide_eq_true (List.find?_some (p := fun q : Pr => decide (q.1 = c)) e)
    refine ⟨q.2, ?_, rfl⟩
    rw [← e1]
    exact List.mem_of_find?_eq_some e
theorem enD_snoc (es : List Pr) (q : Pr) : enD (es ++ [q]) = enD es ++ [((Sum.inl (q.1 : Int) : Key), V.int (q.2 : Int))] := List.map_append
end Wh

namespace Wh
open PySem PySem.Spec PyProof.Rows L2
/-! ### len(set(l)), l a list of ints -/
theorem met_in (f : Nat → Int) : ∀ (n : Nat), (∀ i, i < n → f i ∈ firstMet f n) ∧ (firstMet f n).length ≤ n
  | 0 => ⟨fun i h => absurd h (Nat.not_lt_zero i), Nat.le_refl _⟩
  | n + 1 => by
    obtain ⟨h1, h2⟩ := met_in f n
    rw [firstMet_succ]
    unfold step_dedup
    split
    · rename_i e
      refine ⟨fun i hi => ?_, by omega⟩
      rcases Nat.lt_or_ge i n with z | z
      · exact h1 i z
      · obtain rfl : i = n := by omega
        obtain ⟨x, hx, e2⟩ := List.any_eq_true.mp e
        rw [← beq_iff_eq.mp e2]
        exact hx
    · refine ⟨fun i hi => ?_, by rw [List.length_append]; exact Nat.succ_le_succ h2⟩
      rcases Nat.lt_or_ge i n with z | z
      · exact List.mem_append_left _ (h1 i z)
      · obtain rfl : i = n := by omega
        exact List.mem_append_right _ (List.mem_singleton.mpr rfl)
theorem met_full (f : Nat → Int) : ∀ (n : Nat), (firstMet f n).length = n → ∀ i j, i < j → j < n → f i ≠ f j
  | 0, _, i, j, _, h => absurd h (Nat.not_lt_zero j)
  | n + 1, e, i, j, ij, hj => by
    obtain ⟨h1, h2⟩ := met_in f n
    rw [firstMet_succ] at e
    unfold step_dedup at e
    split at e
    · omega
    · rename_i no
      rw [List.length_append] at e
      have e : (firstMet f n).length + 1 = n + 1 := e
      rcases Nat.lt_or_ge j n with z | z
      · exact met_full f n (by omega) i j ij z
      · obtain rfl : j = n := by omega
        intro q
        exact no (List.any_eq_true.mpr ⟨f i, h1 i ij, by rw [q]; simp⟩)
theorem met_nodup {ns : List Int} (h : (firstMet (fun i => ns.getD i 0) ns.length).length = ns.length) : ns.Nodup := by
  refine List.pairwise_iff_getElem.mpr fun i j hi hj ij => ?_
  have := met_full _ _ h i j ij hj
  rw [List.getD_eq_getElem?_getD, List.getD_eq_getElem?_getD, List.getElem?_eq_getElem hi, List.getElem?_eq_getElem hj] at this
  exact this
def tLenSetN (K : PySem.W.Frag) (ta : TE) : TE := fun σ H Q => ta σ H fun x H1 => ∃ (l : Addr) (ns : List Int), x = V.ref l ∧ SqL K H1 l (ns.map V.int) ∧ ns.length < 64 ∧ ∀ k : Nat, k ≤ ns.length → (k = ns.length ↔ ns.Nodup) → Q (.int (k : Int)) H1
theorem pe_lenSetN {X : Cx} {a : Expr} {ta : TE} {p p2 q pos : Pos} (calm : X.calm = true) (g1 : Gl X "len") (m1 : X.mg "len" = none) (g2 : Gl X "set") (m2 : X.mg "set" = none) (ha : PE X a ta)
    (one : starEach [a] X.env = (false, eval a X.env) :: starEach [] X.env := by rfl) : PE X (.Call (.Name "len" p) [.Call (.Name "set" p2) [a] [] q] [] pos) (tLenSetN X.K ta) := by
  constructor
  intro pins s σ H Q I h
  refine Call_ (ld_blt I g1 m1 PySem.boot_len (PyProof.Rows.callWith_builtin1 (PyProof.Rows.args_cons ?_ rfl) rfl rfl))
  refine Call_ (ld_blt I g2 m2 PyProof.Rows.boot_set (PyProof.Rows.callWith_type1 (PyProof.Rows.args_cons (thn (ha.run pins s σ H _ I h) ?_) one) one rfl))
  rintro v s1 ⟨x, H1, J, rx, l, ns, rfl, hl, few, want⟩
  cases rx
  obtain ⟨its, r, pl, _⟩ := J.list hl
  have size : its.toArray.size = ns.length := by rw [List.size_toArray, ← r.length, List.length_map]
  refine PyProof.Rows.args_nil (call_set_list (J.ok.hd calm) pl.isList (ns := ns) (by simpa using r.ints) (by unfold scanBound; omega) ?_)
  intro h' tk S keep
  rw [size] at S
  have few2 := (met_in (fun i => ns.getD i 0) ns.length).2
  obtain ⟨o, es, ep, t, at_, cls, dat, _, _, _, fit, num⟩ := S
  have J2 : Inv X pins σ H1 { s1 with heap := h', toks := tk } := J.kept fun b o e => keep b o (Heap.lt_size e) e
  refine PyProof.Rows.args_nil (call_len_set at_ cls dat fit (by rw [num]; omega) ⟨.int ((firstMet (fun i => ns.getD i 0) ns.length).length : Nat), H1, J2.tok _, ⟨_, by rw [num]⟩, want _ few2 ?_⟩)
  refine ⟨met_nodup, fun nd => ?_⟩
  rw [firstMet_nodup ns nd ns.length (Nat.le_refl _), List.take_length]
theorem pe_lenSetNK {X : Cx} (K : PySem.W.Frag) (k : X.K = K) {a : Expr} {ta : TE} {p p2 q pos : Pos} (calm : X.calm = true) (g1 : Gl X "len") (m1 : X.mg "len" = none) (g2 : Gl X "set") (m2 : X.mg "set" = none) (ha : PE X a ta)
    (one : starEach [a] X.env = (false, eval a X.env) :: starEach [] X.env := by rfl) : PE X (.Call (.Name "len" p) [.Call (.Name "set" p2) [a] [] q] [] pos) (tLenSetN K ta) := k ▸ pe_lenSetN calm g1 m1 g2 m2 ha one
/-! ### tuple(l), the program's part told -/
def rTupOf (K : PySem.W.Frag) : List V → Hp → VK → Prop := fun xs H Q => ∃ (l : Addr) (ys : List V), xs = [V.ref l] ∧ SqL K H l ys ∧ ∀ t, H t = none → Q (.ref t) (upd H t (.tup ys))
theorem call_tupOf {X : Cx} (K : PySem.W.Frag) (k : X.K = K) : CallR X (.type "tuple") (rTupOf K) := by
  subst k
  intro pins s σ H xs us Q I r h
  obtain ⟨l, ys, e, hl, q⟩ := h
  exact call_tuple_of pins s σ H xs us Q I r ⟨l, ys, e, .inl ⟨hl, q⟩⟩
def rLenL (K : PySem.W.Frag) : List V → Hp → VK → Prop := fun xs H Q => ∃ (l : Addr) (ys : List V), xs = [V.ref l] ∧ SqL K H l ys ∧ Q (.int (ys.length : Int)) H
theorem call_lenL {X : Cx} (K : PySem.W.Frag) (k : X.K = K) : CallR X (.builtin "len") (rLenL K) := by
  subst k
  intro pins s σ H xs us Q I r h
  obtain ⟨l, ys, e, hl, q⟩ := h
  exact call_len_seq pins s σ H xs us Q I r ⟨l, ys, e, .inl hl, q⟩
/-! ### values numbered in the order in which they come -/
theorem from_left {P : List Nat → Prop} (h0 : P []) (hs : ∀ l v, P l → P (l ++ [v])) : ∀ l, P l := by
  have main : ∀ l : List Nat, P l.reverse := fun l => by
    induction l with
    | nil => exact h0
    | cons v l ih =>
      rw [List.reverse_cons]
      exact hs _ v ih
  intro l
  have := main l.reverse
  rwa [List.reverse_reverse] at this
def firsts (l : List Nat) : List Nat := l.foldl (fun ks v => if v ∈ ks then ks else ks ++ [v]) []
theorem firsts_snoc (l : List Nat) (v : Nat) : firsts (l ++ [v]) = if v ∈ firsts l then firsts l else firsts l ++ [v] := by
  unfold firsts
  rw [List.foldl_append]
  rfl
theorem firsts_mem (l : List Nat) : (∀ x, x ∈ firsts l ↔ x ∈ l) ∧ (firsts l).length ≤ l.length := by
  induction l using from_left with
  | h0 => exact ⟨fun x => Iff.rfl, Nat.le_refl _⟩
  | hs l v ih =>
    rw [firsts_snoc]
    obtain ⟨h1, h2⟩ := ih
    split
    · rename_i e
      refine ⟨fun x => ?_, by rw [List.length_append]; omega⟩
      rw [h1, List.mem_append, List.mem_singleton]
      exact ⟨.inl, fun z => z.elim id fun z => z ▸ (h1 v).mp e⟩
    · refine ⟨fun x => ?_, by rw [List.length_append, List.length_append]; exact Nat.succ_le_succ h2⟩
      rw [List.mem_append, List.mem_append, h1]
def numK (ks : List Nat) : List (Key × V) := ks.mapIdx fun (i v : Nat) => ((Sum.inl (v : Int) : Key), V.int (i : Int))
theorem numK_len (ks : List Nat) : (numK ks).length = ks.length := by unfold numK; rw [List.length_mapIdx]
theorem numK_snoc (ks : List Nat) (v : Nat) : numK (ks ++ [v]) = numK ks ++ [((Sum.inl (v : Int) : Key), V.int (ks.length : Int))] := by
  unfold numK
  rw [List.mapIdx_append]
  simp
theorem key_ne {a b : Nat} (h : a ≠ b) : (Sum.inl (a : Int) : Key) ≠ Sum.inl (b : Int) := fun z => h (by injection z with z; omega)
theorem numK_none {ks : List Nat} {v : Nat} (h : v ∉ ks) : valV (numK ks) (Sum.inl (v : Int) : Key) = none := by
  unfold valV
  have : (numK ks).find? (fun kv => decide (kv.1 = (Sum.inl (v : Int) : Key))) = none := by
    refine List.find?_eq_none.mpr fun kv hkv => ?_
    unfold numK at hkv
    obtain ⟨i, hi, rfl⟩ := List.mem_mapIdx.mp hkv
    simpa using fun z : (Sum.inl ((ks[i] : Nat) : Int) : Key) = Sum.inl (v : Int) => h (by
      have e : ks[i] = v := by injection z with z; omega
      rw [← e]
      exact List.getElem_mem hi)
  rw [this]
  rfl
theorem numK_some : ∀ {ks : List Nat} {v : Nat}, v ∈ ks → valV (numK ks) (Sum.inl (v : Int) : Key) = some (.int (ks.idxOf v : Int)) := by
  intro ks
  induction ks using from_left with
  | h0 => intro v h; cases h
  | hs ks x ih =>
    intro v h
    rw [numK_snoc]
    by_cases hv : v ∈ ks
    · have e := ih hv
      unfold valV at e ⊢
      rw [List.find?_append]
      cases q : (numK ks).find? (fun kv => decide (kv.1 = (Sum.inl (v : Int) : Key))) with
      | none => rw [q] at e; cases e
      | some z =>
        rw [q] at e
        rw [List.idxOf_append, if_pos hv]
        exact e
    · have hx : v = x := by
        rcases List.mem_append.mp h with z | z
        · exact absurd z hv
        · exact List.mem_singleton.mp z
      subst hx
      have e := numK_none hv
      unfold valV at e ⊢
      rw [List.find?_append]
      cases q : (numK ks).find? (fun kv => decide (kv.1 = (Sum.inl (v : Int) : Key))) with
      | some z => rw [q] at e; cases e
      | none =>
        rw [List.idxOf_append, if_neg hv]
        simp
end Wh

namespace Wh
open PySem L2
/-! ### classes of linked pairs -/
def InN (n : Nat) (p : Pr) : Prop := p.1 < n ∧ p.2 < n
/-- one word leads both -/
def LinkR (ts : List Tie) (p q : Pr) : Prop := Rch ts (p.1, q.1) (p.2, q.2)
inductive Cl (n : Nat) (ts : List Tie) : Pr → Pr → Prop
  | refl (p : Pr) : Cl n ts p p
  | step {p q : Pr} : InN n p → InN n q → LinkR ts p q → Cl n ts p q
  | symm {p q : Pr} : Cl n ts p q → Cl n ts q p
  | trans {p q r : Pr} : Cl n ts p q → Cl n ts q r → Cl n ts p r
theorem Cl.inN {n : Nat} {ts : List Tie} {p q : Pr} (h : Cl n ts p q) : InN n p ↔ InN n q := by
  induction h with
  | refl => exact Iff.rfl
  | step h1 h2 _ => exact ⟨fun _ => h2, fun _ => h1⟩
  | symm _ ih => exact ih.symm
  | trans _ _ h1 h2 => exact h1.trans h2
theorem Rch.swap {ts : List Tie} {a b c d : Nat} (h : Rch ts (a, b) (c, d)) : Rch ts (b, a) (d, c) := by
  obtain ⟨w, ne, h⟩ := h
  exact ⟨w, ne, walk2_swap h⟩
theorem Rch.one {ts : List Tie} {a c d : Nat} (h : Rch ts (a, a) (c, d)) : c = d := by
  obtain ⟨w, _, h⟩ := h
  obtain ⟨h1, h2⟩ := walk2_some.mp h
  exact Option.some.inj (h1.symm.trans h2)
theorem Rch.inN {n : Nat} {ts : List Tie} (wk : WebOk n ts) {a b : Nat} (h1 : a < n) (h2 : b < n) {q : Pr} (h : Rch ts (a, b) q) : InN n q := by
  obtain ⟨w, ne, h⟩ := h
  obtain ⟨u, m, r, _, _, s⟩ := walk2_last h ne
  exact step2_lt wk s
/-! ### pairs as places -/
def enc (n : Nat) (p : Pr) : Nat := p.1 * n + p.2
theorem enc_lt {n : Nat} {p : Pr} (h : InN n p) : enc n p < n * n := by
  have h1 : (p.1 + 1) * n ≤ n * n := Nat.mul_le_mul_right n h.1
  have h2 := h.2
  unfold enc
  rw [Nat.add_mul, Nat.one_mul] at h1
  omega
theorem enc_inj {n : Nat} {p q : Pr} (h1 : InN n p) (h2 : InN n q) (e : enc n p = enc n q) : p = q := by
  obtain ⟨a, b⟩ := p
  obtain ⟨c, d⟩ := q
  have hb : b < n := h1.2
  have hd : d < n := h2.2
  have e : a * n + b = c * n + d := e
  have e1 : a = c := by
    have x1 : (a * n + b) / n = a := by rw [Nat.mul_comm, Nat.mul_add_div (by omega), Nat.div_eq_of_lt hb, Nat.add_zero]
    have x2 : (c * n + d) / n = c := by rw [Nat.mul_comm, Nat.mul_add_div (by omega), Nat.div_eq_of_lt hd, Nat.add_zero]
    rw [← x1, ← x2, e]
  subst e1
  have : b = d := by omega
  rw [this]
/-- what the places tell of the classes: done, the pairs of houses that are through -/
structure Uni (n : Nat) (ts : List Tie) (hs : List Nat) (done : Nat → Nat → Prop) : Prop where
  uf : UF hs
  len : hs.length = n * n
  sound : ∀ p q, InN n p → InN n q → Linked hs (enc n p) (enc n q) → Cl n ts p q
  all : ∀ x y, done x y → ∀ c d, Rch ts (x, y) (c, d) → Linked hs (enc n (x, c)) (enc n (y, d))
theorem Uni.init (n : Nat) (ts : List Tie) : Uni n ts (List.range (n * n)) fun _ _ => False := by
  obtain ⟨u, r⟩ := uf_range (n * n)
  refine ⟨u, List.length_range, fun p q hp hq h => ?_, fun _ _ h => h.elim⟩
  unfold Linked at h
  rw [r, r] at h
  rw [enc_inj hp hq h]
  exact .refl q
theorem Uni.weak {n : Nat} {ts : List Tie} {hs : List Nat} {d d' : Nat → Nat → Prop} (u : Uni n ts hs d) (h : ∀ x y, d' x y → d x y) : Uni n ts hs d' := ⟨u.uf, u.len, u.sound, fun x y z => u.all x y (h x y z)⟩
/-- two places made one that are linked -/
theorem Uni.unite {n : Nat} {ts : List Tie} {hs gs : List Nat} {d : Nat → Nat → Prop} {p q : Pr} (u : Uni n ts hs d) (hp : InN n p) (hq : InN n q) (l : LinkR ts p q) (uf : UF gs) (len : gs.length = hs.length)
    (j : ∀ i k, Linked gs i k ↔ Linked hs i k ∨ (Linked hs i (enc n p) ∧ Linked hs (enc n q) k) ∨ (Linked hs i (enc n q) ∧ Linked hs (enc n p) k)) : Uni n ts gs d ∧ Linked gs (enc n p) (enc n q) ∧ ∀ i k, Linked hs i k → Linked gs i k := by
  have pq : Cl n ts p q := .step hp hq l
  refine ⟨⟨uf, len.trans u.len, fun a b ha hb h => ?_, fun x y z c e r => (j _ _).mpr (.inl (u.all x y z c e r))⟩, (j _ _).mpr (.inr (.inl ⟨rfl, rfl⟩)), fun i k h => (j i k).mpr (.inl h)⟩
  rcases (j _ _).mp h with z | ⟨z1, z2⟩ | ⟨z1, z2⟩
  · exact u.sound a b ha hb z
  · exact .trans (u.sound a p ha hp z1) (.trans pq (u.sound q b hq hb z2))
  · exact .trans (u.sound a q ha hq z1) (.trans (.symm pq) (u.sound p b hp hb z2))
/-- when all are through -/
theorem Uni.exact_ {n : Nat} {ts : List Tie} {hs : List Nat} {d : Nat → Nat → Prop} (wk : WebOk n ts) (u : Uni n ts hs d) (all : ∀ x y, x < n → y < x → d x y) {p q : Pr} (hp : InN n p) (hq : InN n q) : Linked hs (enc n p) (enc n q) ↔ Cl n ts p q := by
  refine ⟨u.sound p q hp hq, fun h => ?_⟩
  have main : ∀ p q, Cl n ts p q → InN n p → Linked hs (enc n p) (enc n q) := by
    intro p q h
    induction h with
    | refl p => exact fun _ => rfl
    | @step p q h1 h2 l =>
      intro _
      obtain ⟨a, b⟩ := p
      obtain ⟨c, e⟩ := q
      have l : Rch ts (a, c) (b, e) := l
      rcases Nat.lt_trichotomy a c with z | z | z
      · exact (u.all c a (all c a h2.1 z) e b l.swap).symm
      · subst z
        rw [l.one]
        exact rfl
      · exact u.all a c (all a c h1.1 z) b e l
    | symm h ih => exact fun hq => (ih (h.inN.mpr hq)).symm
    | trans h1 h2 i1 i2 => exact fun hp => (i1 hp).trans (i2 (h1.inN.mp hp))
  exact main p q h hp
theorem clash_cl {n : Nat} {ts : List Tie} (wk : WebOk n ts) {x y : Nat} (hx : x < n) (hy : y < n) (h : Clash ts (x, y)) : ∃ a b c, InN n (a, b) ∧ InN n (a, c) ∧ b ≠ c ∧ Cl n ts (a, b) (a, c) := by
  obtain ⟨c, d, e, ne, h1, h2⟩ := h
  have i1 := h1.inN wk hx hy
  have i2 := h2.inN wk hx hy
  refine ⟨y, d, e, ⟨hy, i1.2⟩, ⟨hy, i2.2⟩, ne, .trans (.symm (.step (p := (x, c)) ⟨hx, i1.1⟩ ⟨hy, i1.2⟩ h1)) (.step (p := (x, c)) ⟨hx, i1.1⟩ ⟨hy, i2.2⟩ h2)⟩
/-- the table of heads, and the table told -/
def headRow (n : Nat) (hs : List Nat) (a : Nat) : List Nat := (List.range n).map fun b => root hs (enc n (a, b))
structure TableOk (n : Nat) (ts : List Tie) (T : List (List Nat)) : Prop where
  ex : ∃ hs : List Nat, (∀ p q, InN n p → InN n q → (Linked hs (enc n p) (enc n q) ↔ Cl n ts p q)) ∧ T = ((List.range n).map (headRow n hs)).map fun row => row.map (firsts ((List.range n).flatMap (headRow n hs))).idxOf
  fair : ∀ a b c, InN n (a, b) → InN n (a, c) → Cl n ts (a, b) (a, c) → b = c
def Unfair (n : Nat) (ts : List Tie) : Prop := ∃ a b c, InN n (a, b) ∧ InN n (a, c) ∧ b ≠ c ∧ Cl n ts (a, b) (a, c)
theorem rows_fair {n : Nat} {ts : List Tie} {hs : List Nat} (e : ∀ p q, InN n p → InN n q → (Linked hs (enc n p) (enc n q) ↔ Cl n ts p q)) : (∀ a, a < n → (headRow n hs a).Nodup) ↔ ¬ Unfair n ts := by
  constructor
  · rintro h ⟨a, b, c, h1, h2, ne, cl⟩
    have nd := h a h1.1
    have l := (e _ _ h1 h2).mpr cl
    have nd := List.pairwise_iff_getElem.mp nd
    have hb : b < (headRow n hs a).length := by unfold headRow; rw [List.length_map, List.length_range]; exact h1.2
    have hc : c < (headRow n hs a).length := by unfold headRow; rw [List.length_map, List.length_range]; exact h2.2
    have get : ∀ k (hk : k < (headRow n hs a).length), (headRow n hs a)[k] = root hs (enc n (a, k)) := fun k hk => by
      simp only [headRow, List.getElem_map, List.getElem_range]
    rcases Nat.lt_or_gt_of_ne ne with z | z
    · exact nd b c hb hc z (by rw [get, get]; exact l)
    · exact nd c b hc hb z (by rw [get, get]; exact l.symm)
  · intro h a ha
    unfold headRow
    refine List.pairwise_iff_getElem.mpr fun i j hi hj ij => ?_
    rw [List.length_map, List.length_range] at hi hj
    rw [List.getElem_map, List.getElem_map, List.getElem_range, List.getElem_range]
    intro z
    exact h ⟨a, i, j, ⟨ha, hi⟩, ⟨ha, hj⟩, by omega, (e (a, i) (a, j) ⟨ha, hi⟩ ⟨ha, hj⟩).mp z⟩
end Wh

namespace Wh
open PySem L2
/-! ### tables that tell a relation of pairs, numbered in the order of the least pairs -/
def cell (T : List (List Nat)) (p : Pr) : Nat := (((T[p.1]?).getD [])[p.2]?).getD 0
structure Tab (n : Nat) (R : Pr → Pr → Prop) (T : List (List Nat)) : Prop where
  len : T.length = n
  row : ∀ r ∈ T, r.length = n
  iff : ∀ p q, InN n p → InN n q → (cell T p = cell T q ↔ R p q)
  num : firsts T.flatten = List.range (firsts T.flatten).length
theorem Tab.congr {n : Nat} {R R' : Pr → Pr → Prop} {T : List (List Nat)} (t : Tab n R T) (h : ∀ p q, InN n p → InN n q → (R p q ↔ R' p q)) : Tab n R' T :=
  ⟨t.len, t.row, fun p q hp hq => (t.iff p q hp hq).trans (h p q hp hq), t.num⟩
theorem flat_get {n : Nat} : ∀ {T : List (List Nat)}, (∀ r ∈ T, r.length = n) → ∀ {a b : Nat}, a < T.length → b < n → T.flatten[a * n + b]? = some (cell T (a, b))
  | [], _, _, _, h, _ => by cases h
  | r :: T, hr, a, b, ha, hb => by
    have lr : r.length = n := hr r List.mem_cons_self
    rw [List.flatten_cons]
    match a with
    | 0 =>
      rw [Nat.zero_mul, Nat.zero_add, List.getElem?_append_left (by omega)]
      unfold cell
      simp only [List.getElem?_cons_zero, Option.getD_some]
      rw [List.getElem?_eq_getElem (by omega)]
      rfl
    | a + 1 =>
      rw [List.getElem?_append_right (by rw [Nat.add_mul]; omega), show (a + 1) * n + b - r.length = a * n + b by rw [Nat.add_mul]; omega]
      rw [flat_get (fun r h => hr r (List.mem_cons_of_mem _ h)) (by rw [List.length_cons] at ha; omega) hb]
      unfold cell
      simp only [List.getElem?_cons_succ]
theorem flat_len {n : Nat} : ∀ {T : List (List Nat)}, (∀ r ∈ T, r.length = n) → T.flatten.length = T.length * n
  | [], _ => by simp
  | r :: T, hr => by
    rw [List.flatten_cons, List.length_append, flat_len (fun r h => hr r (List.mem_cons_of_mem _ h)), hr r List.mem_cons_self, List.length_cons, Nat.add_mul]
    omega
theorem tab_eta {n : Nat} {T : List (List Nat)} (len : T.length = n) (row : ∀ r ∈ T, r.length = n) : T = (List.range n).map fun a => (List.range n).map fun b => cell T (a, b) := by
  apply List.ext_getElem
  · rw [List.length_map, List.length_range, len]
  · intro a h1 h2
    rw [List.getElem_map, List.getElem_range]
    have lr : (T[a]).length = n := row _ (List.getElem_mem h1)
    apply List.ext_getElem
    · rw [List.length_map, List.length_range, lr]
    · intro b h3 h4
      rw [List.getElem_map, List.getElem_range]
      unfold cell
      rw [List.getElem?_eq_getElem h1]
      simp only [Option.getD_some]
      rw [List.getElem?_eq_getElem h3]
      rfl
theorem cell_map {n : Nat} {T : List (List Nat)} {f : Nat → Nat} (len : T.length = n) (row : ∀ r ∈ T, r.length = n) {p : Pr} (hp : InN n p) : cell (T.map fun r => r.map f) p = f (cell T p) := by
  obtain ⟨a, b⟩ := p
  have ha : a < T.length := by rw [len]; exact hp.1
  have hb : b < (T[a]).length := by rw [row _ (List.getElem_mem ha)]; exact hp.2
  unfold cell
  simp only [List.getElem?_map]
  rw [List.getElem?_eq_getElem ha]
  simp only [Option.map_some, Option.getD_some, List.getElem?_map]
  rw [List.getElem?_eq_getElem hb]
  rfl
theorem cell_mem {n : Nat} {T : List (List Nat)} (len : T.length = n) (row : ∀ r ∈ T, r.length = n) {p : Pr} (hp : InN n p) : cell T p ∈ T.flatten := by
  have e := flat_get row (a := p.1) (b := p.2) (by rw [len]; exact hp.1) hp.2
  exact List.mem_of_getElem? e
theorem mem_cell {n : Nat} {T : List (List Nat)} (len : T.length = n) (row : ∀ r ∈ T, r.length = n) {v : Nat} (h : v ∈ T.flatten) : ∃ p, InN n p ∧ cell T p = v := by
  obtain ⟨r, hr, hv⟩ := List.mem_flatten.mp h
  obtain ⟨a, ha, rfl⟩ := List.mem_iff_getElem.mp hr
  obtain ⟨b, hb, rfl⟩ := List.mem_iff_getElem.mp hv
  refine ⟨(a, b), ⟨by rw [← len]; exact ha, by rw [← row _ hr]; exact hb⟩, ?_⟩
  unfold cell
  rw [List.getElem?_eq_getElem ha]
  simp only [Option.getD_some]
  rw [List.getElem?_eq_getElem hb]
  rfl
/-! one numbering only -/
theorem firsts_pre {l : List Nat} {v : Nat} (h : firsts (l ++ [v]) = List.range (firsts (l ++ [v])).length) : firsts l = List.range (firsts l).length := by
  rw [firsts_snoc] at h
  by_cases c : v ∈ firsts l
  · rwa [if_pos c] at h
  · rw [if_neg c, List.length_append, List.length_singleton, List.range_succ] at h
    exact (List.append_inj h (by rw [List.length_range])).1
theorem firsts_new {l : List Nat} {v : Nat} (h : firsts (l ++ [v]) = List.range (firsts (l ++ [v])).length) (c : v ∉ firsts l) : v = (firsts l).length := by
  rw [firsts_snoc, if_neg c, List.length_append, List.length_singleton, List.range_succ] at h
  have := (List.append_inj h (by rw [List.length_range])).2
  exact (List.cons.inj this).1
theorem pattern_one : ∀ l : List Nat, ∀ l' : List Nat, l.length = l'.length → (∀ i j, i < l.length → j < l.length → (l[i]? = l[j]? ↔ l'[i]? = l'[j]?)) → firsts l = List.range (firsts l).length → firsts l' = List.range (firsts l').length → l = l' := by
  refine from_left ?_ ?_
  · intro l' h _ _ _
    exact (List.length_eq_zero_iff.mp h.symm).symm
  · intro l v ih l2 hl hp h1 h2
    rcases List.eq_nil_or_concat l2 with rfl | ⟨l', v', rfl⟩
    · simp at hl
    · rw [List.concat_eq_append] at *
      have hl : l.length = l'.length := by simpa using hl
      have gl : ∀ i, i < l.length → (l ++ [v])[i]? = l[i]? := fun i h => List.getElem?_append_left h
      have gl' : ∀ i, i < l.length → (l' ++ [v'])[i]? = l'[i]? := fun i h => List.getElem?_append_left (by omega)
      have gv : (l ++ [v])[l.length]? = some v := by rw [List.getElem?_append_right (by omega), Nat.sub_self]; rfl
      have gv' : (l' ++ [v'])[l.length]? = some v' := by rw [hl, List.getElem?_append_right (by omega), Nat.sub_self]; rfl
      have len1 : (l ++ [v]).length = l.length + 1 := by simp
      have e : l = l' := ih l' hl (fun i j hi hj => by
        have := hp i j (by omega) (by omega)
        rwa [gl i hi, gl j hj, gl' i hi, gl' j hj] at this) (firsts_pre h1) (firsts_pre h2)
      subst e
      have vv : v = v' := by
        by_cases c : v ∈ firsts l
        · have c2 := ((firsts_mem l).1 v).mp c
          obtain ⟨j, hj, ej⟩ := List.mem_iff_getElem.mp c2
          have q := (hp j l.length (by omega) (by omega)).mp (by rw [gl j hj, gv, List.getElem?_eq_getElem hj, ej])
          rw [gl' j hj, gv', List.getElem?_eq_getElem hj, ej] at q
          exact Option.some.inj q
        · by_cases c' : v' ∈ firsts l
          · have c2 := ((firsts_mem l).1 v').mp c'
            obtain ⟨j, hj, ej⟩ := List.mem_iff_getElem.mp c2
            have q := (hp j l.length (by omega) (by omega)).mpr (by rw [gl' j hj, gv', List.getElem?_eq_getElem hj, ej])
            rw [gl j hj, gv, List.getElem?_eq_getElem hj, ej] at q
            exact (Option.some.inj q).symm
          · rw [firsts_new h1 c, firsts_new h2 c']
      rw [vv]
theorem Tab.uniq {n : Nat} {R : Pr → Pr → Prop} {T T' : List (List Nat)} (t : Tab n R T) (t' : Tab n R T') : T = T' := by
  have f : T.flatten = T'.flatten := by
    refine pattern_one _ _ (by rw [flat_len t.row, flat_len t'.row, t.len, t'.len]) (fun i j hi hj => ?_) t.num t'.num
    rw [flat_len t.row, t.len] at hi hj
    have n0 : 0 < n := by
      rcases Nat.eq_zero_or_pos n with z | z
      · rw [z] at hi
        omega
      · exact z
    have div : ∀ i, i < n * n → i / n < n ∧ i % n < n ∧ i = i / n * n + i % n := fun i h => ⟨Nat.div_lt_of_lt_mul h, Nat.mod_lt _ n0, by rw [Nat.mul_comm]; exact (Nat.div_add_mod i n).symm⟩
    obtain ⟨a1, b1, e1⟩ := div i hi
    obtain ⟨a2, b2, e2⟩ := div j hj
    rw [e1, e2, flat_get t.row (by rw [t.len]; exact a1) b1, flat_get t.row (by rw [t.len]; exact a2) b2, flat_get t'.row (by rw [t'.len]; exact a1) b1, flat_get t'.row (by rw [t'.len]; exact a2) b2]
    have h1 := t.iff (i / n, i % n) (j / n, j % n) ⟨a1, b1⟩ ⟨a2, b2⟩
    have h2 := t'.iff (i / n, i % n) (j / n, j % n) ⟨a1, b1⟩ ⟨a2, b2⟩
    constructor
    · intro z
      rw [h2.mpr (h1.mp (Option.some.inj z))]
    · intro z
      rw [h1.mpr (h2.mp (Option.some.inj z))]
  rw [tab_eta t.len t.row, tab_eta t'.len t'.row]
  apply List.map_congr_left
  intro a ha
  apply List.map_congr_left
  intro b hb
  have ha := List.mem_range.mp ha
  have hb := List.mem_range.mp hb
  have e1 := flat_get t.row (a := a) (b := b) (by rw [t.len]; exact ha) hb
  have e2 := flat_get t'.row (a := a) (b := b) (by rw [t'.len]; exact ha) hb
  rw [f, e2] at e1
  exact (Option.some.inj e1).symm
/-! renumbered -/
def renum (rows : List (List Nat)) : List (List Nat) := rows.map fun row => row.map (firsts rows.flatten).idxOf
theorem firsts_nd (l : List Nat) : (firsts l).Nodup := by
  refine from_left (P := fun l => (firsts l).Nodup) List.nodup_nil (fun l v ih => ?_) l
  rw [firsts_snoc]
  by_cases c : v ∈ firsts l
  · rwa [if_pos c]
  · rw [if_neg c]
    exact List.nodup_append.mpr ⟨ih, List.nodup_cons.mpr ⟨(fun h => by cases h), List.nodup_nil⟩, fun a ha b hb e => c (by rw [List.mem_singleton.mp hb] at e; exact e ▸ ha)⟩
theorem idx_inj {l : List Nat} {u v : Nat} (hu : u ∈ l) (hv : v ∈ l) (e : l.idxOf u = l.idxOf v) : u = v := by
  have h1 := List.getElem_idxOf (List.idxOf_lt_length_iff.mpr hu)
  have h2 := List.getElem_idxOf (List.idxOf_lt_length_iff.mpr hv)
  rw [← h1, ← h2]
  simp only [e]
theorem firsts_map (f : Nat → Nat) : ∀ l : List Nat, (∀ u ∈ l, ∀ v ∈ l, f u = f v → u = v) → firsts (l.map f) = (firsts l).map f := by
  refine from_left (fun _ => rfl) ?_
  intro l v ih inj
  have ih := ih fun u hu w hw => inj u (List.mem_append.mpr (.inl hu)) w (List.mem_append.mpr (.inl hw))
  rw [List.map_append, List.map_singleton, firsts_snoc, firsts_snoc, ih]
  by_cases c : v ∈ firsts l
  · rw [if_pos c, if_pos (List.mem_map_of_mem c)]
  · rw [if_neg c, if_neg, List.map_append, List.map_singleton]
    intro z
    obtain ⟨u, hu, e⟩ := List.mem_map.mp z
    have hu2 := ((firsts_mem l).1 u).mp hu
    have := inj u (List.mem_append.mpr (.inl hu2)) v (List.mem_append.mpr (.inr List.mem_cons_self)) e
    exact c (this ▸ hu)
theorem map_idx (l : List Nat) (nd : l.Nodup) : l.map l.idxOf = List.range l.length := by
  apply List.ext_getElem
  · rw [List.length_map, List.length_range]
  · intro i h1 h2
    rw [List.getElem_map, List.getElem_range]
    exact nd.idxOf_getElem i (by rw [List.length_map] at h1; exact h1)
theorem renum_tab {n : Nat} {rows : List (List Nat)} (len : rows.length = n) (row : ∀ r ∈ rows, r.length = n) : Tab n (fun p q => cell rows p = cell rows q) (renum rows) := by
  have mem : ∀ v, v ∈ firsts rows.flatten ↔ v ∈ rows.flatten := (firsts_mem rows.flatten).1
  refine ⟨by unfold renum; rw [List.length_map, len], fun r hr => ?_, fun p q hp hq => ?_, ?_⟩
  · unfold renum at hr
    obtain ⟨r0, h0, rfl⟩ := List.mem_map.mp hr
    rw [List.length_map]
    exact row _ h0
  · unfold renum
    rw [cell_map len row hp, cell_map len row hq]
    exact ⟨idx_inj ((mem _).mpr (cell_mem len row hp)) ((mem _).mpr (cell_mem len row hq)), fun e => by rw [e]⟩
  · have e : (renum rows).flatten = rows.flatten.map (firsts rows.flatten).idxOf := by
      unfold renum
      rw [List.map_flatten]
    rw [e, firsts_map _ _ fun u hu v hv => idx_inj ((mem _).mpr hu) ((mem _).mpr hv), map_idx _ (firsts_nd _), List.length_range]
theorem cell_head {n : Nat} {hs : List Nat} {p : Pr} (hp : InN n p) : cell ((List.range n).map (headRow n hs)) p = root hs (enc n p) := by
  obtain ⟨a, b⟩ := p
  have ha : a < n := hp.1
  have hb : b < n := hp.2
  unfold cell headRow
  simp [ha, hb]
theorem TableOk.tab {n : Nat} {ts : List Tie} {T : List (List Nat)} (t : TableOk n ts T) : Tab n (Cl n ts) T := by
  obtain ⟨⟨hs, h1, rfl⟩, _⟩ := t
  have len : ((List.range n).map (headRow n hs)).length = n := by rw [List.length_map, List.length_range]
  have row : ∀ r ∈ (List.range n).map (headRow n hs), r.length = n := fun r hr => by
    obtain ⟨a, _, rfl⟩ := List.mem_map.mp hr
    unfold headRow
    rw [List.length_map, List.length_range]
  have r := renum_tab len row
  unfold renum at r
  rw [← List.flatMap_def] at r
  refine r.congr fun p q hp hq => ?_
  rw [cell_head hp, cell_head hq]
  exact h1 p q hp hq
/-! ### how many pairs of places have one number -/
def pairsN (n : Nat) : List (Pr × Pr) := (List.range n).flatMap fun a => (List.range n).flatMap fun b => (List.range n).flatMap fun c => (List.range n).map fun d => ((a, b), (c, d))
theorem mem_pairsN {n : Nat} {p q : Pr} : (p, q) ∈ pairsN n ↔ InN n p ∧ InN n q := by
  obtain ⟨a, b⟩ := p
  obtain ⟨c, d⟩ := q
  unfold pairsN InN
  simp only [List.mem_flatMap, List.mem_range, List.mem_map, Prod.mk.injEq]
  constructor
  · rintro ⟨a', h1, b', h2, c', h3, d', h4, ⟨rfl, rfl⟩, rfl, rfl⟩
    exact ⟨⟨h1, h2⟩, h3, h4⟩
  · rintro ⟨⟨h1, h2⟩, h3, h4⟩
    exact ⟨a, h1, b, h2, c, h3, d, h4, ⟨rfl, rfl⟩, rfl, rfl⟩
def sameN (n : Nat) (T : List (List Nat)) : Nat := (pairsN n).countP fun x => decide (cell T x.1 = cell T x.2)
theorem countP_lt {α : Type} {f g : α → Bool} : ∀ {l : List α}, (∀ x ∈ l, f x = true → g x = true) → (∃ x ∈ l, f x = false ∧ g x = true) → l.countP f < l.countP g
  | [], _, ⟨_, h, _⟩ => by cases h
  | y :: l, hm, ⟨x, hx, h1, h2⟩ => by
    have mono : l.countP f ≤ l.countP g := List.countP_mono_left fun z hz => hm z (List.mem_cons_of_mem _ hz)
    rw [List.countP_cons, List.countP_cons]
    rcases List.mem_cons.mp hx with rfl | hx
    · rw [h1, h2]
      simp only [Bool.false_eq_true, if_false, if_true]
      omega
    · have := countP_lt (fun z hz => hm z (List.mem_cons_of_mem _ hz)) ⟨x, hx, h1, h2⟩
      have hy := hm y List.mem_cons_self
      cases e : f y
      · simp only [Bool.false_eq_true, if_false]
        split <;> omega
      · rw [hy e]
        simp only [if_true]
        omega
theorem sameN_le (n : Nat) (T : List (List Nat)) : sameN n T ≤ (pairsN n).length := List.countP_le_length
theorem sameN_lt {n : Nat} {R R' : Pr → Pr → Prop} {T T' : List (List Nat)} (t : Tab n R T) (t' : Tab n R' T') (le : ∀ p q, InN n p → InN n q → cell T p = cell T q → cell T' p = cell T' q) (ne : T' ≠ T) : sameN n T < sameN n T' := by
  refine countP_lt (fun x hx h => ?_) ?_
  · obtain ⟨p, q⟩ := x
    obtain ⟨hp, hq⟩ := mem_pairsN.mp hx
    exact decide_eq_true (le p q hp hq (of_decide_eq_true h))
  · refine Classical.byContradiction fun no => ne ?_
    refine t'.uniq ((t.congr fun p q hp hq => ?_))
    refine (t.iff p q hp hq).symm.trans (Iff.trans ⟨le p q hp hq, fun h => ?_⟩ (t'.iff p q hp hq))
    refine Classical.byContradiction fun c => no ⟨(p, q), mem_pairsN.mpr ⟨hp, hq⟩, decide_eq_false c, decide_eq_true h⟩
end Wh

namespace Wh
open PySem PySem.Spec PyProof PyProof.Rows L2
/-! ### d.setdefault(t, x), t a tuple -/
def rSetdT : V → List V → Hp → VK → Prop := fun x xs H Q => ∃ (a : Addr) (kvs : List (List L2.Key × V)) (k : List L2.Key) (b : Addr) (d : V), x = .ref a ∧ xs = [.ref b, d] ∧ H a = some (.dT kvs) ∧ H b = some (.tup (k.map kV)) ∧ kvs.length < sizeLine ∧
  (∀ v, valV kvs k = some v → Q v H) ∧ (valV kvs k = none → Q d (upd H a (.dT (putK kvs k d))))
theorem mt_setdT {X : Cx} (hu : X.A.units + 1 < cLine) : MtR X "dict.setdefault" rSetdT := by
  intro pins s σ H x xs v us Q I rx rxs h
  obtain ⟨a, kvs, k, b, d, rfl, rfl, ha, hb, hl, q1, q2⟩ := h
  cases rx
  obtain ⟨u1, u2, rfl, r1, r2⟩ := vals2 rxs
  cases r1
  obtain ⟨z, hd, xs', rel, dd⟩ := dt_of I.hok ha
  have hz : xs'.length ≤ sizeLine := by rw [← Paired.length rel]; exact z
  refine call_setdefault_heap (tupleKind_room_in1 hu) (key_of I.hok hb) hd dd (fun p hp => ?_) (fun hn h' dd' hs => ?_) hz
  · have r := rel.val k
    rw [hp] at r
    cases ev : valV kvs k with
    | none =>
      rw [ev] at r
      exact (show False from r).elim
    | some v0 =>
      rw [ev] at r
      exact ⟨v0, H, I.tok _, r, q1 v0 ev⟩
  · have r := rel.val k
    rw [hn] at r
    have e : valV kvs k = none := by
      cases ev : valV kvs k with
      | none => rfl
      | some v0 =>
        rw [ev] at r
        exact (show False from r).elim
    obtain ⟨o, es, ep, hq, h2, h3, h4, _, h5⟩ := dd'
    have hl2 : (putK kvs k d).length ≤ sizeLine := by have := length_putK kvs k d; omega
    have I2 : Inv X pins σ (upd H a (.dT (putK kvs k d))) { s with heap := h', toks := s.toks + (tupleKind (mixKind X.prog X.w)).draws k } :=
      d_write I (by rw [ha]; exact True.intro) hs ⟨o, hq⟩ ⟨hl2, hd, _, (rel.put k hb r2).keeps (fun c ys ec => (by rw [upd_ne (ne_of ec ha (fun z => nomatch z))]; exact ec)), o, es, ep, hq, h2, h3, h4, h5⟩
    exact ⟨d, _, I2, r2, q2 e⟩
/-! ### len(set(t)), t a tuple of numbers -/
theorem nd_perm_len {α : Type} [DecidableEq α] : ∀ {xs ys : List α}, xs.Nodup → (∀ k ∈ xs, k ∈ ys) → ys.length ≤ xs.length → xs.Perm ys
  | [], ys, _, _, hl => by
    have : ys = [] := List.length_eq_zero_iff.mp (by simpa using hl)
    rw [this]
  | x :: xs, ys, nd, sub, hl => by
    rw [List.nodup_cons] at nd
    have hx := sub x List.mem_cons_self
    have p := List.perm_cons_erase hx
    refine (List.Perm.cons x (nd_perm_len nd.2 (fun k hk => ?_) ?_)).trans p.symm
    · have k1 : k ≠ x := fun e => nd.1 (e ▸ hk)
      exact (List.mem_erase_of_ne k1).mpr (sub k (List.mem_cons_of_mem _ hk))
    · have := p.length_eq
      rw [List.length_cons] at this hl
      omega
theorem setR_num {w : World} {h : Heap} {a : Addr} {ns : List Int} {c : Nat} (S : SetR w h a (fun j => decide (j ∈ ns)) c) : c ≤ ns.length ∧ (c = ns.length ↔ ns.Nodup) := by
  obtain ⟨o, es, ep, t, _, _, _, _, nd, mem, _, _, num, _⟩ := S
  have sub : ∀ k ∈ es.toList.map keyOf, k ∈ ns := fun k hk => of_decide_eq_true ((mem k).mpr hk)
  have sup : ∀ k ∈ ns, k ∈ es.toList.map keyOf := fun k hk => (mem k).mp (decide_eq_true hk)
  have len : (es.toList.map keyOf).length = c := by rw [List.length_map, Array.length_toList, num]
  have le : c ≤ ns.length := by
    rw [← len]
    exact nd_sub_len nd sub
  refine ⟨le, fun e => ?_, fun n => ?_⟩
  · exact (nd_perm_len nd sub (by rw [len, e]; exact Nat.le_refl _)).nodup_iff.mp nd
  · have := nd_sub_len n sup
    rw [len] at this
    omega
def tLenSetT (K : PySem.W.Frag) (ta : TE) : TE := fun σ H Q => ta σ H fun x H1 => ∃ (l : Addr) (ns : List Int), x = V.ref l ∧ SqT K H1 l (ns.map V.int) ∧ ns.length < 64 ∧ ∀ k : Nat, k ≤ ns.length → (k = ns.length ↔ ns.Nodup) → Q (.int (k : Int)) H1
theorem pe_lenSetT {X : Cx} (K : PySem.W.Frag) (k : X.K = K) {a : Expr} {ta : TE} {p p2 q pos : Pos} (calm : X.calm = true) (g1 : Gl X "len") (m1 : X.mg "len" = none) (g2 : Gl X "set") (m2 : X.mg "set" = none) (ha : PE X a ta)
    (one : starEach [a] X.env = (false, eval a X.env) :: starEach [] X.env := by rfl) : PE X (.Call (.Name "len" p) [.Call (.Name "set" p2) [a] [] q] [] pos) (tLenSetT K ta) := by
  subst k
  constructor
  intro pins s σ H Q I h
  refine Call_ (ld_blt I g1 m1 PySem.boot_len (PyProof.Rows.callWith_builtin1 (PyProof.Rows.args_cons ?_ rfl) rfl rfl))
  refine Call_ (ld_blt I g2 m2 PyProof.Rows.boot_set (PyProof.Rows.callWith_type1 (PyProof.Rows.args_cons (thn (ha.run pins s σ H _ I h) ?_) one) one rfl))
  rintro v s1 ⟨x, H1, J, rx, l, ns, rfl, hl, few, want⟩
  cases rx
  obtain ⟨its, r, pl, _⟩ := J.tuple hl
  have hi : IntsAre its.toArray.toList ns := by simpa using r.ints
  refine PyProof.Rows.args_nil (call_set_tupI (P := X.prog) (w := X.w) ns (J.ok.hd calm) pl hi (by unfold scanBound; omega) ?_)
  intro h' tk c S _ keep
  obtain ⟨le, iff⟩ := setR_num S
  obtain ⟨o, es, ep, t, at_, cls, dat, _, _, _, _, fit, num, _⟩ := S
  have J2 : Inv X pins σ H1 { s1 with heap := h', toks := tk } := J.kept fun b o e => keep b o e
  refine PyProof.Rows.args_nil (call_len_set at_ cls dat fit (by rw [num]; omega) ⟨.int (c : Nat), H1, J2.tok _, ⟨_, by rw [num]⟩, want _ le iff⟩)
end Wh

namespace Wh
open PySem L2
/-! ### wide classes -/
inductive Wd (n : Nat) (ts : List Tie) : Pr → Pr → Prop
  | cl {p q : Pr} : Cl n ts p q → Wd n ts p q
  | step {x y u v z w m : Nat} : Wd n ts (x, y) (u, v) → door z m ts = some x → door w m ts = some u → Wd n ts (z, y) (w, v)
  | symm {p q : Pr} : Wd n ts p q → Wd n ts q p
  | trans {p q r : Pr} : Wd n ts p q → Wd n ts q r → Wd n ts p r
theorem door_here {n h m k : Nat} {ts : List Tie} (w : WebOk n ts) (e : door h m ts = some k) : h < n := by
  have hm := door_mem e
  unfold doorsAt at hm
  obtain ⟨t, ht, hm⟩ := List.mem_flatMap.mp hm
  have lt := w.lt t ht
  by_cases h1 : t.a = h
  · omega
  · by_cases h2 : t.b = h
    · omega
    · rw [endsD, if_neg h1, if_neg h2] at hm
      cases hm
theorem Wd.inN {n : Nat} {ts : List Tie} (wk : WebOk n ts) {p q : Pr} (h : Wd n ts p q) : InN n p ↔ InN n q := by
  induction h with
  | cl c => exact c.inN
  | @step x y u v z w m h h1 h2 ih =>
    have x1 := door_lt wk h1
    have x2 := door_lt wk h2
    have z1 := door_here wk h1
    have z2 := door_here wk h2
    unfold InN at ih ⊢
    constructor
    · intro q
      exact ⟨z2, (ih.mp ⟨x1, q.2⟩).2⟩
    · intro q
      exact ⟨z1, (ih.mpr ⟨x2, q.2⟩).2⟩
  | symm _ ih => exact ih.symm
  | trans _ _ i1 i2 => exact i1.trans i2
/-- what one turn makes one -/
inductive Gp (n : Nat) (ts : List Tie) (T : List (List Nat)) : Pr → Pr → Prop
  | eq {p q : Pr} : InN n p → InN n q → cell T p = cell T q → Gp n ts T p q
  | step {x y u v z w m : Nat} : door z m ts = some x → door w m ts = some u → y < n → v < n → cell T (x, y) = cell T (u, v) → Gp n ts T (z, y) (w, v)
  | symm {p q : Pr} : Gp n ts T p q → Gp n ts T q p
  | trans {p q r : Pr} : Gp n ts T p q → Gp n ts T q r → Gp n ts T p r
def bk (m a : Nat) : List L2.Key := [Sum.inr (sgn m), Sum.inl (a : Int)]
def bhK (bs : List ((Nat × Nat) × Nat)) : List (List L2.Key × V) := bs.map fun b => (bk b.1.1 b.1.2, V.int (b.2 : Int))
theorem bk_inj {m a m' a' : Nat} (h : bk m a = bk m' a') : m = m' ∧ a = a' := by
  unfold bk at h
  injection h with h1 h2
  injection h2 with h2 _
  injection h1 with h1
  injection h2 with h2
  exact ⟨sgn_inj h1, by omega⟩
theorem valV_bh (m a : Nat) : ∀ bs : List ((Nat × Nat) × Nat), valV (bhK bs) (bk m a) = (bs.lookup (m, a)).map fun v : Nat => V.int (v : Int)
  | [] => rfl
  | ((m', a'), v) :: bs => by
    have ih := valV_bh m a bs
    unfold bhK at ih ⊢
    rw [List.map_cons]
    by_cases c : m = m' ∧ a = a'
    · obtain ⟨rfl, rfl⟩ := c
      rw [List.lookup_cons_self]
      unfold valV
      simp
    · have ne : ¬ (bk m' a' = bk m a) := fun z => c (by obtain ⟨z1, z2⟩ := bk_inj z; exact ⟨z1.symm, z2.symm⟩)
      have ne2 : ((m, a) == (m', a')) = false := by
        rw [beq_eq_false_iff_ne]
        intro z
        exact c ⟨congrArg Prod.fst z, congrArg Prod.snd z⟩
      rw [List.lookup_cons, ne2, ← ih]
      unfold valV
      simp [ne]
structure Wid (n : Nat) (ts : List Tie) (T : List (List Nat)) (hs : List Nat) (bs : List ((Nat × Nat) × Nat)) (done : Nat → Nat → Nat → Prop) : Prop where
  uf : UF hs
  len : hs.length = n * n
  sound : ∀ p q, InN n p → InN n q → Linked hs (cell T p) (cell T q) → Gp n ts T p q
  wit : ∀ m a v, bs.lookup (m, a) = some v → ∃ h e y, door h m ts = some e ∧ y < n ∧ cell T (e, y) = a ∧ cell T (h, y) = v
  all : ∀ h m y e, done h m y → door h m ts = some e → ∃ v, bs.lookup (m, cell T (e, y)) = some v ∧ Linked hs (cell T (h, y)) v
theorem Tab.lt {n : Nat} {R : Pr → Pr → Prop} {T : List (List Nat)} (t : Tab n R T) {p : Pr} (hp : InN n p) : cell T p < n * n := by
  have h := ((firsts_mem T.flatten).1 _).mpr (cell_mem t.len t.row hp)
  have l := (firsts_mem T.flatten).2
  rw [t.num, List.mem_range] at h
  rw [flat_len t.row, t.len] at l
  omega
theorem Wid.init {n : Nat} {ts : List Tie} {T : List (List Nat)} {R : Pr → Pr → Prop} (t : Tab n R T) : Wid n ts T (List.range (n * n)) [] fun _ _ _ => False := by
  obtain ⟨u, r⟩ := uf_range (n * n)
  refine ⟨u, List.length_range, fun p q hp hq h => ?_, (fun _ _ _ h => by cases h), fun _ _ _ _ h => False.elim h⟩
  unfold Linked at h
  rw [r, r] at h
  exact .eq hp hq h
theorem Wid.weak {n : Nat} {ts : List Tie} {T : List (List Nat)} {hs : List Nat} {bs : List ((Nat × Nat) × Nat)} {d d' : Nat → Nat → Nat → Prop} (W : Wid n ts T hs bs d) (h : ∀ x m y, d' x m y → d x m y) : Wid n ts T hs bs d' :=
  ⟨W.uf, W.len, W.sound, W.wit, fun x m y e z => W.all x m y e (h x m y z)⟩
/-- what is stored where nothing stood -/
def bsPut (bs : List ((Nat × Nat) × Nat)) (m a v : Nat) : List ((Nat × Nat) × Nat) := if (bs.lookup (m, a)).isSome then bs else bs ++ [((m, a), v)]
theorem lookup_snoc {bs : List ((Nat × Nat) × Nat)} {k : Nat × Nat} {v : Nat} : ∀ (j : Nat × Nat), bs.lookup k = none → (bs ++ [(k, v)]).lookup j = if j = k then some v else bs.lookup j := by
  intro j hn
  rw [List.lookup_append]
  by_cases c : j = k
  · subst c
    rw [hn, if_pos rfl, List.lookup_cons_self]
    rfl
  · rw [if_neg c, List.lookup_cons, beq_eq_false_iff_ne.mpr c]
    cases bs.lookup j <;> rfl
/-- one turn: v is what stands behind the key -/
theorem Wid.turn {n : Nat} {ts : List Tie} {T : List (List Nat)} {hs gs : List Nat} {bs : List ((Nat × Nat) × Nat)} {d : Nat → Nat → Nat → Prop} {h m e y v : Nat} (wk : WebOk n ts) (W : Wid n ts T hs bs d) (hd : door h m ts = some e) (hy : y < n)
    (hv : (bs.lookup (m, cell T (e, y))).getD (cell T (h, y)) = v) (uf : UF gs) (len : gs.length = hs.length)
    (j : ∀ i k, Linked gs i k ↔ Linked hs i k ∨ (Linked hs i (cell T (h, y)) ∧ Linked hs v k) ∨ (Linked hs i v ∧ Linked hs (cell T (h, y)) k)) :
    Wid n ts T gs (bsPut bs m (cell T (e, y)) v) fun x m' y' => d x m' y' ∨ (x = h ∧ m' = m ∧ y' = y) := by
  have hh := door_here wk hd
  have ip : InN n (h, y) := ⟨hh, hy⟩
  -- the witness of v
  have wv : ∃ h' e' y', door h' m ts = some e' ∧ y' < n ∧ cell T (e', y') = cell T (e, y) ∧ cell T (h', y') = v := by
    cases q : bs.lookup (m, cell T (e, y)) with
    | none =>
      rw [q] at hv
      exact ⟨h, e, y, hd, hy, rfl, hv⟩
    | some u =>
      rw [q] at hv
      have hv : u = v := hv
      subst hv
      exact W.wit _ _ _ q
  have key : ∀ m' a', (bsPut bs m (cell T (e, y)) v).lookup (m', a') = if (m', a') = (m, cell T (e, y)) then some v else bs.lookup (m', a') := by
    intro m' a'
    unfold bsPut
    cases q : bs.lookup (m, cell T (e, y)) with
    | none =>
      simp only [Option.isSome_none, Bool.false_eq_true, if_false]
      exact lookup_snoc _ q
    | some u =>
      rw [q] at hv
      have hv : u = v := hv
      subst hv
      simp only [Option.isSome_some, if_true]
      by_cases c : (m', a') = (m, cell T (e, y))
      · rw [if_pos c, c, q]
      · rw [if_neg c]
  refine ⟨uf, len.trans W.len, fun p q hp hq z => ?_, fun m' a' v' z => ?_, fun x m' y' e' z hd' => ?_⟩
  · obtain ⟨h', e', y', w1, w2, w3, w4⟩ := wv
    have hh' := door_here wk w1
    have iq : InN n (h', y') := ⟨hh', w2⟩
    have st : Gp n ts T (h, y) (h', y') := .step hd w1 hy w2 w3.symm
    rcases (j _ _).mp z with z | ⟨z1, z2⟩ | ⟨z1, z2⟩
    · exact W.sound p q hp hq z
    · rw [← w4] at z2
      exact .trans (W.sound p _ hp ip z1) (.trans st (W.sound _ q iq hq z2))
    · rw [← w4] at z1
      exact .trans (W.sound p _ hp iq z1) (.trans (.symm st) (W.sound _ q ip hq z2))
  · rw [key] at z
    by_cases c : (m', a') = (m, cell T (e, y))
    · rw [if_pos c] at z
      obtain rfl := Option.some.inj z
      obtain ⟨c1, c2⟩ := Prod.mk.inj c
      subst c1 c2
      exact wv
    · rw [if_neg c] at z
      exact W.wit _ _ _ z
  · rcases z with z | ⟨rfl, rfl, rfl⟩
    · obtain ⟨v', h1, h2⟩ := W.all x m' y' e' z hd'
      rw [key]
      by_cases c : (m', cell T (e', y')) = (m, cell T (e, y))
      · rw [c] at h1
        rw [h1] at hv
        have hv : v' = v := hv
        subst hv
        rw [if_pos c]
        exact ⟨_, rfl, (j _ _).mpr (.inl h2)⟩
      · rw [if_neg c]
        exact ⟨v', h1, (j _ _).mpr (.inl h2)⟩
    · rw [hd] at hd'
      obtain rfl := Option.some.inj hd'
      rw [key, if_pos rfl]
      exact ⟨v, rfl, (j _ _).mpr (.inr (.inl ⟨rfl, rfl⟩))⟩
theorem Wid.exact_ {n : Nat} {ts : List Tie} {T : List (List Nat)} {hs : List Nat} {bs : List ((Nat × Nat) × Nat)} {d : Nat → Nat → Nat → Prop} (wk : WebOk n ts) (W : Wid n ts T hs bs d) (all : ∀ h m y, h < n → m ∈ marksAt h ts → y < n → d h m y) {p q : Pr} (hp : InN n p) (hq : InN n q) : Linked hs (cell T p) (cell T q) ↔ Gp n ts T p q := by
  refine ⟨W.sound p q hp hq, fun h => ?_⟩
  clear hp hq
  induction h with
  | eq _ _ e => rw [e]; exact rfl
  | @step x y u v z w m h1 h2 hy hv e =>
    have mk : ∀ {h k : Nat}, door h m ts = some k → m ∈ marksAt h ts := fun {h k} q => by
      have := door_mem q
      rw [← doorsAt_fst]
      exact List.mem_map_of_mem (f := (·.1)) this
    obtain ⟨v1, k1, l1⟩ := W.all z m y x (all z m y (door_here wk h1) (mk h1) hy) h1
    obtain ⟨v2, k2, l2⟩ := W.all w m v u (all w m v (door_here wk h2) (mk h2) hv) h2
    rw [e, k2] at k1
    obtain rfl := Option.some.inj k1
    exact l1.trans l2.symm
  | symm _ ih => exact ih.symm
  | trans _ _ i1 i2 => exact i1.trans i2
/-! ### turn by turn to the wide classes -/
structure Bnd (n : Nat) (ts : List Tie) (T : List (List Nat)) : Prop where
  tab : Tab n (fun p q => cell T p = cell T q) T
  low : ∀ p q, InN n p → InN n q → Cl n ts p q → cell T p = cell T q
  high : ∀ p q, InN n p → InN n q → cell T p = cell T q → Wd n ts p q
theorem Tab.own {n : Nat} {R : Pr → Pr → Prop} {T : List (List Nat)} (t : Tab n R T) : Tab n (fun p q => cell T p = cell T q) T := t.congr fun p q hp hq => (t.iff p q hp hq).symm
theorem Bnd.init {n : Nat} {ts : List Tie} {T : List (List Nat)} (t : Tab n (Cl n ts) T) : Bnd n ts T := ⟨t.own, fun p q hp hq c => (t.iff p q hp hq).mpr c, fun p q hp hq e => .cl ((t.iff p q hp hq).mp e)⟩
theorem Gp.wd {n : Nat} {ts : List Tie} {T : List (List Nat)} (wk : WebOk n ts) (B : Bnd n ts T) {p q : Pr} (h : Gp n ts T p q) : Wd n ts p q := by
  induction h with
  | eq hp hq e => exact B.high _ _ hp hq e
  | step h1 h2 hy hv e => exact .step (B.high _ _ ⟨door_lt wk h1, hy⟩ ⟨door_lt wk h2, hv⟩ e) h1 h2
  | symm _ ih => exact .symm ih
  | trans _ _ i1 i2 => exact .trans i1 i2
theorem Bnd.next {n : Nat} {ts : List Tie} {T T' : List (List Nat)} (wk : WebOk n ts) (B : Bnd n ts T) (t : Tab n (Gp n ts T) T') : Bnd n ts T' ∧ ∀ p q, InN n p → InN n q → cell T p = cell T q → cell T' p = cell T' q := by
  have le : ∀ p q, InN n p → InN n q → cell T p = cell T q → cell T' p = cell T' q := fun p q hp hq e => (t.iff p q hp hq).mpr (.eq hp hq e)
  exact ⟨⟨t.own, fun p q hp hq c => le p q hp hq (B.low p q hp hq c), fun p q hp hq e => ((t.iff p q hp hq).mp e).wd wk B⟩, le⟩
theorem Bnd.fix {n : Nat} {ts : List Tie} {T : List (List Nat)} (wk : WebOk n ts) (B : Bnd n ts T) (t : Tab n (Gp n ts T) T) : Tab n (Wd n ts) T := by
  refine t.congr fun p q hp hq => ⟨fun h => h.wd wk B, fun h => ?_⟩
  have main : ∀ p q, Wd n ts p q → InN n p → cell T p = cell T q := by
    intro p q h
    induction h with
    | cl c => exact fun hp => B.low _ _ hp (c.inN.mp hp) c
    | @step x y u v z w m h h1 h2 ih =>
      intro hp
      have hq := (Wd.step h h1 h2).inN wk |>.mp hp
      have hx : InN n (x, y) := ⟨door_lt wk h1, hp.2⟩
      exact (t.iff _ _ hp hq).mpr (.step h1 h2 hp.2 hq.2 (ih hx))
    | symm h ih => exact fun hp => (ih ((h.inN wk).mpr hp)).symm
    | trans h _ i1 i2 => exact fun hp => (i1 hp).trans (i2 ((h.inN wk).mp hp))
  exact .eq hp hq (main p q h hp)
/-! ### what parts ends -/
def UnfairR (n : Nat) (R : Pr → Pr → Prop) : Prop := ∃ a b c, InN n (a, b) ∧ InN n (a, c) ∧ b ≠ c ∧ R (a, b) (a, c)
theorem tab_fair {n : Nat} {R : Pr → Pr → Prop} {T : List (List Nat)} (t : Tab n R T) : (∀ r ∈ T, r.Nodup) ↔ ¬ UnfairR n R := by
  constructor
  · rintro h ⟨a, b, c, h1, h2, ne, r⟩
    have e := (t.iff _ _ h1 h2).mpr r
    have ha : a < T.length := by rw [t.len]; exact h1.1
    have nd := List.pairwise_iff_getElem.mp (h _ (List.getElem_mem ha))
    have lr := t.row _ (List.getElem_mem ha)
    have hb : b < T[a].length := by rw [lr]; exact h1.2
    have hc : c < T[a].length := by rw [lr]; exact h2.2
    have g : ∀ k (hk : k < T[a].length), cell T (a, k) = T[a][k] := fun k hk => by
      unfold cell
      rw [List.getElem?_eq_getElem ha]
      simp only [Option.getD_some]
      rw [List.getElem?_eq_getElem hk]
      rfl
    rw [g b hb, g c hc] at e
    rcases Nat.lt_or_gt_of_ne ne with z | z
    · exact nd b c hb hc z e
    · exact nd c b hc hb z e.symm
  · intro h r hr
    obtain ⟨a, ha, rfl⟩ := List.mem_iff_getElem.mp hr
    have lr := t.row _ hr
    refine List.pairwise_iff_getElem.mpr fun i j hi hj ij e => ?_
    have g : ∀ k (hk : k < T[a].length), cell T (a, k) = T[a][k] := fun k hk => by
      unfold cell
      rw [List.getElem?_eq_getElem ha]
      simp only [Option.getD_some]
      rw [List.getElem?_eq_getElem hk]
      rfl
    have h1 : InN n (a, i) := ⟨by rw [← t.len]; exact ha, by rw [← lr]; exact hi⟩
    have h2 : InN n (a, j) := ⟨by rw [← t.len]; exact ha, by rw [← lr]; exact hj⟩
    exact h ⟨a, i, j, h1, h2, by omega, (t.iff _ _ h1 h2).mp (by rw [g i hi, g j hj, e])⟩
theorem UnfairR.mono {n : Nat} {R R' : Pr → Pr → Prop} (u : UnfairR n R) (h : ∀ p q, InN n p → InN n q → R p q → R' p q) : UnfairR n R' := by
  obtain ⟨a, b, c, h1, h2, ne, r⟩ := u
  exact ⟨a, b, c, h1, h2, ne, h _ _ h1 h2 r⟩
/-- what a function promises that tells a table of R, None where U -/
def TabSp (n : Nat) (R : Pr → Pr → Prop) (U : Prop) (H : Hp) (Q : VK) : Prop := (∀ H', Same H H' → U → Q .non H') ∧
  ∀ (t : Addr) (qs : List (Addr × List Nat)) (H' : Hp), Same H H' → H t = none → H' t = some (.tup (refs qs)) → (∀ p ∈ qs, H' p.1 = some (.tup (p.2.map fun h : Nat => V.int (h : Int)))) → Tab n R (qs.map (·.2)) → ¬ U → Q (.ref t) H'
end Wh

namespace Wh
open PySem PySem.Spec PyProof PyProof.Rows L2
/-! ### the law is called from the top, where no repr is under way -/
def scriptO (vs : List Value) : Obj := { cls := .type "list", data := .seq vs.toArray }
/-- the script alone is tracked, or it is one of the program's own objects -/
theorem script_hp {P : Program} {w : World} {K : PySem.W.Frag} {h : Heap} {a : Addr} {vs : List Value} {ns : List Int} (KX : K.In h) (at_ : h.get? a = some (scriptO vs)) (is : IntsAre vs ns) (few : ns.length ≤ sizeLine) :
    ∃ H : Hp, SqL K H a (ns.map V.int) ∧ HOk P w H h ∧ ∀ b u, H b = some u → b = a ∧ K.lookup a = none ∧ u = .frz (scriptO vs) (.lst (ns.map V.int)) := by
  have rel := vals_ints is
  have same := is.length
  cases known : K.lookup a with
  | none =>
    have yes : (fun b => if b = a then some (HO.frz (scriptO vs) (.lst (ns.map V.int))) else none : Hp) a = some (.frz (scriptO vs) (.lst (ns.map V.int))) := if_pos rfl
    have out : ∀ b u, (if b = a then some (HO.frz (scriptO vs) (.lst (ns.map V.int))) else none) = some u → b = a ∧ u = .frz (scriptO vs) (.lst (ns.map V.int)) := by
      intro b u z
      by_cases e : b = a
      · rw [if_pos e] at z
        exact ⟨e, (Option.some.inj z).symm⟩
      · rw [if_neg e] at z
        cases z
    refine ⟨_, .inl (.inr ⟨_, yes⟩), ?_, fun b u z => ⟨(out b u z).1, rfl, (out b u z).2⟩⟩
    intro b u z
    obtain ⟨rfl, rfl⟩ := out b u z
    exact ⟨at_, by rw [List.length_map]; exact few, vs, _, rel, at_⟩
  | some o =>
    have e := (KX a o known).symm.trans at_
    obtain rfl := Option.some.inj e
    exact ⟨fun _ => none, .inr ⟨_, vs.toArray, _, known, rfl, rfl, rfl, by rw [List.size_toArray, same]; exact few, by simpa using rel⟩, fun b u z => (by cases z), fun b u z => (by cases z)⟩
set_option maxHeartbeats 1000000 in
theorem top_call {P : Program} {w : World} {K : PySem.W.Frag} {mg mb : Str → Option Value} {k : Nat} {fa a : Addr} {fd : FuncData} {x : Str} {sp : Sp} {s : Shared} {vs : List Value} {ns : List Int}
    (KX : K.In s.heap) (globals : s.heap.Ns mainGlobals mg) (own : s.heap.Ns builtinsNs mb) (boot : ∀ y : Str, y ≠ "__name__" → mb y = bootBuiltins y) (lim : s.heap.NoLimit) (gens : s.gens = #[])
    (at_ : s.heap.get? a = some (scriptO vs)) (is : IntsAre vs ns) (few : ns.length ≤ sizeLine) (room : Room k callerA)
    (F : ∀ base : Heap, K.In base → base.Ns mainGlobals mg → FnG P w K mg base k fa fd [x] sp) (bnd : ∀ (s : Shared) (u : Value), BindsTo s fd ⟨[u], []⟩ [(x, u)])
    (want : ∀ H : Hp, SqL K H a (ns.map V.int) → sp [.ref a] H (fun v _ => v = .bl true) fun _ _ _ => False) :
    codeAny (model P w) callerA (.call (.ref fa) ⟨[.ref a], []⟩) (fun r t => r = .ok (.ret (.bool true)) ∧ OldK s.heap t.heap ∧ t.os = s.os ∧ AllBare t.gens) s := by
  obtain ⟨H, hS, hok, only⟩ := script_hp (P := P) (w := w) KX at_ is few
  have shown : ∀ {b : Addr} {o : Obj}, s.heap.get? b = some o → H b = none → (hidT s.heap H).get? b = some o := hidT_get
  -- what is no list is not hidden
  have dicts : ∀ {b : Addr} {m : Str → Option Value}, s.heap.Ns b m → (hidT s.heap H).Ns b m := by
    rintro b m ⟨o, es, ep, e, d, rest⟩
    refine ⟨o, es, ep, shown e ?_, d, rest⟩
    cases hb : H b with
    | none => rfl
    | some u =>
      obtain ⟨rfl, _⟩ := only b u hb
      obtain rfl := Option.some.inj (e.symm.trans at_)
      exact nomatch (show Data.seq vs.toArray _ = Data.dict es ep from d)
  have inK : K.In (hidT s.heap H) := by
    intro b o e
    refine shown (KX b o e) ?_
    cases hb : H b with
    | none => rfl
    | some u =>
      obtain ⟨rfl, no, _⟩ := only b u hb
      exact nomatch no.symm.trans e
  have modl : Mod K mg (hidT s.heap H) := by
    obtain ⟨mc, l1, l2⟩ := lim
    exact ⟨inK, dicts globals, ⟨mb, dicts own, boot⟩, mc, dicts l1, l2⟩
  have env : Env0 P w K mg (hidT s.heap H) callerA [] s H := by
    refine ⟨rfl, modl, fun b o e => of_hidT e, Nat.le_of_eq (hidT_size _ _), trivial, ?_, hok, .of_eq gens⟩
    intro b hb
    exact nomatch (show b ∈ ([] : List Addr) from hb)
  have run := (F _ inK (dicts globals)).does (us := [.ref a]) (vs := [V.ref a]) ⟨room, rfl⟩ env (bnd s (.ref a)) (.cons rfl .nil) (want H hS)
  refine codeAny_mono run ?_
  intro r t z
  match r, z with
  | .error e, z => exact False.elim z
  | .ok .next, z => exact False.elim z
  | .ok .brk, z => exact False.elim z
  | .ok .cont, z => exact False.elim z
  | .ok (.ret u), ⟨v, H', os, bare, un, hok', ru, ev⟩ =>
    have ev : v = .bl true := ev
    subst ev
    have eu : u = Value.bool true := ru
    subst eu
    refine ⟨rfl, OldK.of_keep ?_, os, bare⟩
    intro b o e
    cases hb : H b with
    | none => exact un.keep b o e hb (fun z => nomatch (show b ∈ ([] : List Addr) from z)) (by simp)
    | some u =>
      obtain ⟨_, _, rfl⟩ := only b u hb
      have now := (hok' b _ (un.frzs b _ _ hb)).1
      have then_ := (hok b _ hb).1
      obtain rfl := Option.some.inj (e.symm.trans then_)
      exact now
def LawAtG (l : PySem.W.OpenLaw) (w : World) (K : PySem.W.Frag) (k n : Nat) (x : Str) (mg : Str → Option Value) (fa : Addr) : Prop :=
  ∃ (fd : FuncData) (sp : Sp), (∀ (s : Shared) (u : Value), BindsTo s fd ⟨[u], []⟩ [(x, u)]) ∧ (∀ (H : Hp) (a : Addr) (ns : List Int), ns.length ≤ n → (∀ z ∈ ns, Builtin.Int.intBits z ≤ 1048576) → SqL K H a (ns.map V.int) → sp [.ref a] H (fun v _ => v = .bl true) fun _ _ _ => False) ∧
    ∀ base : Heap, K.In base → base.Ns mainGlobals mg → FnG l.prog w K mg base k fa fd [x] sp
theorem walkG {l : PySem.W.OpenLaw} {n k : Nat} {q : Program} {loose : List Str} {XP : (Str → Option Value) → Heap → Prop} {YP : World → Heap → Prop} {d : DefRec} {K : Params → PySem.W.Frag} {x : Str}
    (most : l.most = some n) (fits : n ≤ sizeLine) (plain : d.params.defaults = []) (room : Room k callerA) (inK : ∀ (w : World) (h : Heap), YP w h → (K w.params).In h)
    (F : ∀ (w : World) (mg : Str → Option Value) (fa : Addr) (h : Heap), YP w h → (K w.params).In h → h.Ns mainGlobals mg → mg d.name = some (.ref fa) → LawAtG l w (K w.params) k n x mg fa) :
    PySem.W.WalkO q loose XP YP l.row.toRowW d [] (fun f vs => PySem.call f vs) := by
  refine Att.attach_callB most plain ?_
  intro w s₀ s₁ mg mb fa o pm cd doc a vs ns G Y _ _ _ hm ob is len bits gens
  have KX := inK w _ Y
  obtain ⟨fd, sp, bnd, want, run⟩ := F w mg fa _ Y KX G.T.g hm
  exact top_call KX G.T.g G.T.b G.T.builtins G.T.nolimit gens ob is (Nat.le_trans len fits) room run bnd fun H hS => want H a ns len bits hS
end Wh

namespace Wh
open PySem PySem.Spec PyProof PyProof.Rows L2
/-! ### own == anything -/
def TyO (K : PySem.W.Frag) (C : Addr) (H : Hp) (y : V) (T : Value) : Prop :=
  (∃ z, y = .str z ∧ T = .type "str") ∨ (∃ b xs, y = .ref b ∧ SqT K H b xs ∧ T = .type "tuple") ∨ ∃ b db gs, y = .ref b ∧ H b = some (.ins C db gs) ∧ T = .ref C
def rEqO (K : PySem.W.Frag) (C : Addr) (sp : Sp) : R2 := fun x y H Q => ∃ (a dx : Addr) (fs : List (Str × V)) (T : Value), x = .ref a ∧ H a = some (.ins C dx fs) ∧ TyO K C H y T ∧ PySem.W.notFirst K C T = true ∧ sp [.ref a, y] H (fun v H' => ∃ c, v = .bl c ∧ Q (.bl c) H') C8.E0
theorem looks_tup {M : Model} {h : Heap} {b : Addr} {items : Array Value} (t : h.IsTuple b items) : PySem.W.Looks M h (typeOf (.ref b)) (.type "tuple") := by
  obtain ⟨o, at_, cls, _⟩ := t
  have l : PySem.W.Looks M h (typeOf (.ref b)) o.cls := (PySem.W.Looks.ld (part := none) at_).andThen .now
  rw [cls] at l
  exact l
theorem op_eqO {X : Cx} {n : Nat} {C f : Addr} {fd : FuncData} {ps : List Str} {sp : Sp} (F : FnOk X.prog X.w X.K X.mg X.base C8.CX0 n f fd ps sp) (own : PySem.W.findIn X.K (.ref C) "__eq__" = some (some (.ref f))) (isf : PySem.W.isFn X.K (.ref f) = true) (b : Binds X.K fd ps []) (room : Room n X.A) :
    OpR X (compareOp .Eq) (rEqO X.K C sp) := by
  intro pins s σ H x y v u Q I rx ry d
  obtain ⟨a, dx, fs, T, rfl, ha, ty, nf, want⟩ := d
  obtain rfl : v = Value.ref a := rx
  obtain ⟨_, J, _⟩ := ins_get I.hok ha
  obtain ⟨od, J, _⟩ := J.look
  have tyL : PySem.W.Looks (model X.prog X.w) s.heap (typeOf u) T := by
    rcases ty with ⟨z, rfl, rfl⟩ | ⟨c, xs, rfl, st, rfl⟩ | ⟨c, dc, gs, rfl, hc, rfl⟩
    · obtain ⟨tk, rfl⟩ := ry
      exact .of_pure rfl
    · obtain rfl : u = Value.ref c := ry
      obtain ⟨its, _, t, _⟩ := I.tuple st
      exact looks_tup t
    · obtain rfl : u = Value.ref c := ry
      obtain ⟨_, J2, _⟩ := ins_get I.hok hc
      obtain ⟨_, J2, _⟩ := J2.look
      exact J2.type
  have le := F.len _ _ _ _ want
  have both : Vals [V.ref a, y] [Value.ref a, u] := .cons rfl (.cons ry .nil)
  have runs : wpAny (model X.prog X.w) X.A (call (.ref f) [.ref a, u]) (fun r t => ∃ c, r = .bool c ∧ EP X pins σ Q (.bool c) t) X.xe s := by
    have bb := b s [.ref a, u] I.kIn (by simpa using le)
    rw [List.append_nil] at bb
    refine wpAny_call (codeAny_mono (F.run X.A X.stack s H ⟨[.ref a, u], []⟩ [.ref a, u] [.ref a, y] _ C8.E0 room I.env0 bb both want) ?_)
    intro r t z
    match r, z with
    | .error e, z => exact z.elim
    | .ok .next, z => exact z.elim
    | .ok .brk, z => exact z.elim
    | .ok .cont, z => exact z.elim
    | .ok (.ret r), z =>
      obtain ⟨v, H', I', rv, c, rfl, q⟩ := I.after z
      exact ⟨c, rv, .bl c, H', I', rfl, q⟩
  have tried : wpAny (model X.prog X.w) X.A (tryCompare (.ref a) "__eq__" u) (fun r t => ∃ c, r = some (.bool c) ∧ EP X pins σ Q (.bool c) t) X.xe s := by
    delta tryCompare
    refine wpAny_bind (PySem.W.ifBound_K I.kIn J own isf (wpAny_mono runs (fun r t z => ?_) fun _ _ e => e))
    obtain ⟨c, rfl, q⟩ := z
    exact wpAny_pure ⟨c, rfl, q⟩
  have end_ : ∀ {m : Option Value → Sem Value}, (∀ c, m (some (.bool c)) = pure (.bool c)) → wpAny (model X.prog X.w) X.A (tryCompare (.ref a) "__eq__" u >>= m) (EP X pins σ Q) X.xe s := fun hm => by
    refine wpAny_bind (wpAny_mono tried (fun r t z => ?_) fun _ _ e => e)
    obtain ⟨c, rfl, q⟩ := z
    rw [hm c]
    exact wpAny_pure q
  show wpAny _ _ (richCompare .Eq (.ref a) u) _ _ _
  delta richCompare
  simp only [oneThing_ref, cmpInfo]
  refine wpAny_holding (wpAny_bind (wpAny_cRoomFor (by have := room.un; omega) (wpAny_bind (J.type.here (wpAny_bind (tyL.here ?_))))))
  by_cases same : T = .ref C
  · rw [if_neg (by rw [same]; simp)]
    refine wpAny_bind (wpAny_pure ?_)
    simp only [Bool.false_eq_true, if_false]
    exact end_ fun c => rfl
  · have no : PySem.W.subIn X.K T (.ref C) = some false := by
      rcases Bool.or_eq_true_iff.mp nf with e | e
      · exact absurd (beq_iff_eq.mp e) same
      · exact beq_iff_eq.mp e
    rw [if_pos (by simpa using fun z => same z.symm)]
    refine wpAny_bind ((PySem.W.looks_subIn I.kIn no).here ?_)
    simp only [Bool.false_eq_true, if_false]
    exact end_ fun c => rfl
/-! ### str(own) -/
def rStrO (C : Addr) (sp : Sp) : List V → Hp → VK → Prop := fun xs H Q => ∃ (a dx : Addr) (fs : List (Str × V)), xs = [V.ref a] ∧ H a = some (.ins C dx fs) ∧ sp [.ref a] H (fun v H' => ∃ z, v = .str z ∧ Q (.str z) H') C8.E0
theorem call_strO {X : Cx} {n : Nat} {C f : Addr} {fd : FuncData} {ps : List Str} {sp : Sp} (F : FnOk X.prog X.w X.K X.mg X.base C8.CX0 n f fd ps sp) (own : PySem.W.findIn X.K (.ref C) "__str__" = some (some (.ref f))) (isf : PySem.W.isFn X.K (.ref f) = true) (b : Binds X.K fd ps []) (room : Room (n + 2) X.A) :
    CallR X (.type "str") (rStrO C sp) := by
  intro pins s σ H xs us Q I r h
  obtain ⟨a, dx, fs, rfl, ha, want⟩ := h
  rw [Vals.ref1 r]
  obtain ⟨_, J, _⟩ := ins_get I.hok ha
  obtain ⟨od, J, _⟩ := J.look
  have le := F.len _ _ _ _ want
  have bb := b s [.ref a] I.kIn (by simpa using le)
  rw [List.append_nil] at bb
  have room' : Room n X.A.in1.in1 := Room.in1 (Room.in1 room)
  refine PySem.W.kso_call (by have := room'.un; omega) I.kIn J own isf (wpAny_call (codeAny_mono (F.run X.A.in1.in1 X.stack s H ⟨[.ref a], []⟩ [.ref a] [V.ref a] _ C8.E0 room' I.env0.in1.in1 bb (.cons rfl .nil) want) ?_))
  intro r t z
  match r, z with
  | .error e, z => exact z.elim
  | .ok .next, z => exact z.elim
  | .ok .brk, z => exact z.elim
  | .ok .cont, z => exact z.elim
  | .ok (.ret r), z =>
    obtain ⟨v, H', I', rv, y, rfl, q⟩ := I.after z
    obtain ⟨tk, rfl⟩ := rv
    exact ⟨.str y, H', I', ⟨tk, rfl⟩, q⟩
/-! ### C(k = v), keywords alone -/
theorem pe_makeK0 {X : Cx} {CX : CXT} {k : Nat} {f C : Addr} {fd : FuncData} {ps ks : List Str} {sp : Sp} {E : XK} {x : Str} {p pos : Pos} {kws : List Keyword} {tk : TA} {g : List Value → List Value → List Value} {gV : List V → List V → List V}
    (M : Mk X.K C f) (F : FnOk X.prog X.w X.K X.mg X.base CX k f fd ps sp) (room : Room (k + 1) X.A) (gl : Gl X x) (m : X.mg x = some (.ref C)) (b : KBn X.K fd ps 1 ks g gV) (thru : Passes CX X E) (hkw : PK X kws tk)
    (all : (backToKw pos (keywordEach kws X.env)).all (·.1.isSome) = true := by rfl) (names : (backToKw pos (keywordEach kws X.env)).filterMap (·.1) = ks := by rfl) (nd : (x == ("__debug__" : Str)) = false := by decide)
    (plain : ((backTo pos (starEach [] X.env)).any (·.1) || (backToKw pos (keywordEach kws X.env)).any (·.1.isNone)) = false := by rfl) :
    PE X (.Call (.Name x p) [] kws pos) (fun σ H Q => tk σ H fun zs H2 => zs.length = ks.length ∧ ∀ x dx, H2 x = none → H2 dx = none → dx ≠ x → sp (gV [.ref x] zs) (upd (upd H2 dx (.own x)) x (.ins C dx [])) (fun v H3 => v = .non ∧ Q (.ref x) H3) E) := by
  constructor
  intro pins s σ H Q I h
  refine wpAny_Call_Name_kw (ld_glob I gl m (PySem.W.callWith_KW0 (first := []) (h₀ := X.base) I.ok.mod.kin M.kp all (thn (hkw.run pos pins s σ H _ I h) ?_) plain) nd)
  rintro ws s2 ⟨zs, H2, J, rz, lz, q⟩
  refine ⟨J.kIn, ?_⟩
  rw [names]
  exact run_makeN (n := 0) (us := []) (vs := []) M F room b thru J .nil rz rfl lz q
/-! ### x != y, data without dicts, whatever its texts -/
def rNeP (K : PySem.W.Frag) : R2 := fun x y H Q => ∃ d e, Dp K H x d ∧ Dp K H y e ∧ d.plain = true ∧ e.plain = true ∧ d.depth ≤ 60 ∧ e.depth ≤ 60 ∧ Q (.bl (!PyData.eqv d e)) H
theorem op_neP {X : Cx} (hu : X.A.units + 64 < cLine) : OpR X (compareOp .NotEq) (rNeP X.K) := by
  intro pins s σ H x y v u Q I rx ry want
  obtain ⟨d, e, dx, dy, px, py, lx, ly, q⟩ := want
  obtain ⟨as, r1⟩ := Dp.reads I d x v dx rx
  obtain ⟨bs, r2⟩ := Dp.reads I e y u dy ry
  exact SeqAt.ne_plain r1 r2 px py (by omega) ⟨.bl _, H, I, rfl, q⟩
theorem rNeP_self {K : PySem.W.Frag} {H : Hp} {x y : V} {d : PyData} {Q : VK} (h1 : Dp K H x d) (h2 : Dp K H y d) (pl : d.plain = true) (dep : d.depth ≤ 60) (k : Q (.bl false) H) : rNeP K x y H Q :=
  ⟨d, d, h1, h2, pl, pl, dep, dep, by rw [SeqAt.eqv_refl_plain d pl]; exact k⟩
end Wh

namespace Wh
open PySem PySem.Spec PyProof.Rows L2
open PySem.Sem (wp)
/-! ### bool(x), x an object of an own class that says nothing of its truth -/
theorem meets_bool_obj (x : Addr) : Meets (Builtin.«bool.__new__» ⟨[.type "bool", .ref x], []⟩) (fun _ R s => (∀ (M : Model) (A : Around) (E : Value → Shared → Prop) (Q : Bool → Shared → Prop) (tk : Nat), Q true { s with toks := tk } → wpAny M A (truthy (.ref x)) Q E { s with toks := tk }) ∧ ∀ tk, R (.ok (.ret (.bool true))) { s with toks := tk }) :=
  Meets.of_wp fun prog w A R s hs => by
    obtain ⟨says, hs⟩ := hs
    obtain ⟨hp, g, d, tk, os⟩ := s
    have f1 := F.conv_sub_bool
    repeat (any_goals (first | assumption | (with_reducible refine says _ _ _ _ _ ?_) | wp_step))
    all_goals first | exact ⟨_, rfl, hs _⟩ | exact hs _ | skip
def rBoolO (K : PySem.W.Frag) : List V → Hp → VK → Prop := fun xs H Q => ∃ (a C dx : Addr) (fs : List (Str × V)), xs = [V.ref a] ∧ H a = some (.ins C dx fs) ∧ PySem.W.findIn K (.ref C) "__bool__" = some none ∧ PySem.W.findIn K (.ref C) "__len__" = some none ∧ Q (.bl true) H
theorem call_boolO {X : Cx} : CallR X (.type "bool") (rBoolO X.K) := by
  intro pins s σ H xs us Q I r h
  obtain ⟨a, C, dx, fs, rfl, ha, nb, nl, q⟩ := h
  rw [Vals.ref1 r]
  obtain ⟨m, fr⟩ := I.fr
  obtain ⟨_, J, _⟩ := ins_get I.hok ha
  obtain ⟨od, J, _⟩ := J.look
  exact call_bool_1 (meets_bool_obj a) ⟨fun M A E Q tk hq => PySem.W.truthy_K0 (s := { s with toks := tk }) fr I.ok.mod.kin J nb nl hq, fun tk => ⟨rfl, .bl true, H, I.tok _, rfl, q⟩⟩
end Wh

namespace Wh
open PySem PySem.Spec PyProof PyProof.Rows L2
/-! ### l[:] = b, b another list -/
theorem all_bounds (n : Nat) : sliceBounds none none none n = (((0 : Nat) : Int), ((n : Nat) : Int), 1) := by
  obtain ⟨e1, e2, e3⟩ := L2.slice_bounds none none n
  rw [← Prod.eta (sliceBounds none none none n), ← Prod.eta (sliceBounds none none none n).2, e1, e2, e3]
  rfl
section
variable {prog : Program} {w : World} {A : Around} {E : Value → Shared → Prop} {s : Shared}
theorem stores_all {l b sl : Addr} {its new : Array Value} {n n2 : Nat} {Q : Unit → Shared → Prop} (hz : its.size + new.size ≤ sizeLine) (hne : l ≠ b) (hs : s.heap.IsSliceOf sl .none .none .none)
    (e : s.heap.get? l = some { cls := .type "list", data := .seq its n }) (e2 : s.heap.get? b = some { cls := .type "list", data := .seq new n2 })
    (h : Q () { s with heap := s.heap.update l (Obj.mapSeq fun xs => xs.extract 0 0 ++ new ++ xs.extract its.size xs.size) }) :
    wpAny (model prog w) A (setItem (.ref l) (.ref sl) (.ref b)) Q E s := by
  have L : s.heap.IsList l its := PySem.IsL.isList e
  have B : s.heap.IsList b new := PySem.IsL.isList e2
  have tL := L.typeIs
  obtain ⟨so, h1, h2, h3⟩ := id hs
  have tS : s.TypeIs (.ref sl) "slice" := ⟨so, h1, h2⟩
  have other : Builtin.List.listSameRef (.ref l) (.ref b) = false := beq_eq_false_iff_ne.mpr hne
  have top : (max (0 : Int) (its.size : Int)).toNat = its.size := by omega
  have fits : ((fun xs : Array Value => xs.extract 0 0 ++ new ++ xs.extract its.size xs.size) its).size ≤ sizeLine + 1 := by
    simp only [Array.size_append, Array.size_extract]
    omega
  unfold setItem
  try with_reducible refine wpAny_holding ?_
  first | refine wpAny_bind (wpAny_pure ?_) | skip
  refine wpAny_bind (wpAny_sequenceKey tL (by decide) (wpAny_bind ?_))
  refine wpAny_callSpecial?_slot (name := Str.ofString "__setitem__") tL slot_list_setitem (wpAny_call_entry slot_list_setitem tL entry_list_setitem ?_ (args_list_setitem _ _ _))
  show wpAny _ _ (Builtin.List.listSubscript? (.ref sl) >>= _) _ _ s
  unfold Builtin.List.listSubscript?
  refine wpAny_bind (wpAny_bind (wpAny_specialOf tS slice_no_index ?_))
  simp only [Option.isNone_none, if_true]
  refine wpAny_pure ?_
  show wpAny _ _ (typeOf (.ref sl) >>= _) _ _ s
  refine wpAny_bind (wpAny_typeOf tS ?_)
  rw [if_neg (by decide), listSliceParts_eq]
  have raw0 : ¬ ((rawPart none == rawInt 0) = true) := Bool.false_ne_true
  refine wpAny_bind (wpAny_bind (wpAny_field h1 h3 (x := .none) rfl (wpAny_bind (wpAny_listPart .none ?_))))
  rw [if_neg raw0]
  refine wpAny_bind (wpAny_field h1 h3 (x := .none) rfl (wpAny_bind (wpAny_listPart .none (wpAny_bind (wpAny_field h1 h3 (x := .none) rfl (wpAny_bind (wpAny_listPart .none (wpAny_pure ?_))))))))
  simp only [other, Bool.false_eq_true, if_false]
  refine wpAny_bind (m := Builtin.List.listAllItems (.ref b) "must assign iterable to extended slice") ?_
  unfold Builtin.List.listAllItems
  refine wpAny_bind (wpAny_typeOf B.typeIs ?_)
  first | rw [if_pos (by decide)] | simp only [beq_self_eq_true, Bool.true_or, if_true]
  unfold Builtin.List.listItems
  refine wpAny_bind (wpAny_seqItems e2 rfl (wpAny_pure (wpAny_bind (wpAny_bind (wpAny_seqItems e rfl (wpAny_pure ?_))))))
  refine wpAny_bind (wpAny_of_eq ((sliceIndices_raw none none none its.size (by simp)).trans (congrArg (pure : Int × Int × Int → Sem (Int × Int × Int)) (all_bounds its.size))) ?_)
  show wpAny _ _ (if ((1 : Int) == 1) = true then _ else _) _ _ s
  rw [if_pos (by decide)]
  refine wpAny_bind (wpAny_rule ?_)
  simp only [notLongL hz, Bool.false_eq_true, if_false]
  first | refine wpAny_bind (wpAny_pure ?_) | skip
  show wpAny _ _ (updateSeq l (fun xs => xs.extract 0 ((0 : Nat) : Int).toNat ++ new ++ xs.extract (max ((0 : Nat) : Int) (its.size : Int)).toNat xs.size) >>= _) _ _ s
  rw [show (max ((0 : Nat) : Int) (its.size : Int)).toNat = its.size from top, Int.toNat_natCast]
  refine wpAny_bind (wpAny_updateSeq (hz := Nat.le_trans (Nat.le_add_right _ _) hz) (_hz' := fits) e rfl (wpAny_bind (wpAny_letGo ?_)))
  first
    | exact wpAny_bind (wpAny_pure (wpAny_pure ⟨.none, rfl, wpAny_pure h⟩))
    | exact wpAny_pure ⟨.none, rfl, wpAny_pure h⟩
end
/-- the target l[:] -/
def gAll (to : TE) : TG := fun v σ H Q => to σ H fun o H1 => ∃ (l b : Addr) (xs ys : List V), o = .ref l ∧ v = .ref b ∧ H1 l = some (.lst xs) ∧ H1 b = some (.lst ys) ∧ l ≠ b ∧ xs.length + ys.length ≤ sizeLine ∧ Q σ (upd H1 l (.lst ys))
theorem pg_all {X : Cx} {o : Expr} {to : TE} {p2 pos : Pos} (ho : PE X o to)
    (ha : ∀ v, assign (.Subscript o (.Slice none none none p2) pos) X.env v = (do
      let ov ← holding [v] (eval o X.env)
      let iv ← holding [v, ov] (eval (.Slice none none none p2) X.env)
      standAt pos
      holding [v, ov, iv] (setItem ov iv v)
      release [iv, v, ov] []) := by intro _; rfl) : PG X (.Subscript o (.Slice none none none p2) pos) (gAll to) := by
  refine ⟨fun pins s σ H v u Q I r h => ?_⟩
  rw [ha]
  refine wpAny_bind (wpAny_holding (thn (ho.run pins s σ H _ I h) fun ov s1 ⟨x, H1, I1, r1, q1⟩ => ?_))
  obtain ⟨l, b, xs, ys, rfl, rfl, hl, hb, hne, hz, q⟩ := q1
  obtain rfl : ov = Value.ref l := r1
  obtain rfl : u = Value.ref b := r
  refine wpAny_bind (wpAny_holding (wpAny_Slice ?_))
  rw [evalPart_none]
  refine wpAny_pure (wpAny_pure ?_)
  refine wpAny_pure ?_
  have I2 : Inv X pins σ H1 { s1 with heap := s1.heap.push { cls := .type "slice", data := .fields #[.none, .none, .none] } } := I1.kept (t' := s1.toks) fun b ob q => Heap.get?_push_of_some _ q
  obtain ⟨z, its, n, r2, hl2, e2⟩ := I2.lstM hl
  obtain ⟨z3, its3, n3, r3, hl3, e3⟩ := I2.lstM hb
  have len2 := r2.length
  have len3 := r3.length
  refine wpAny_bind (wpAny_standAt (wpAny_bind (wpAny_holding (stores_all (by rw [List.size_toArray, List.size_toArray]; omega) hne (Heap.IsSliceOf.new ..) e2 e3 ?_))))
  refine wpAny_release ⟨σ, _, I2.lset (its' := its3) (t' := s1.toks) hl e2 ?_ r3 ?_, q⟩
  · apply Array.toList_inj.mp
    simp
  · omega
end Wh

namespace Wh
open PySem PySem.Spec PyProof PyProof.Rows L2 L2H
/-! ### promises of defs that raise nothing, called while some exception is handled (whatever its context) -/
structure FnW (P : Program) (w : World) (K : PySem.W.Frag) (mg : Str → Option Value) (base : Heap) (k : Nat) (f : Addr) (fd : FuncData) (ps : List Str) (sp : Sp) : Prop where
  arity : ∀ vs H Q E, sp vs H Q E → vs.length = ps.length
  does : ∀ {A : Around} {outer : List Env} {s : Shared} {H : Hp} {args : Args} {us : List Value} {vs : List V} {Q : VK} {E : XK} {p : Addr × Obj}, RoomH k A → PinOk outer H s p → Env0 P w K mg base A outer s H → BindsTo s fd args (ps.zip us) → Vals vs us → sp vs H Q E →
    codeAny (model P w) A (.call (.ref f) args) (CR C8.CX0 outer P w H s Q E) s
set_option maxHeartbeats 1000000 in
theorem fnW_of {P : Program} {w : World} {K : PySem.W.Frag} {mg : Str → Option Value} {base : Heap} {k : Nat} {x qual : Str} {st : Stmt} {f : Addr} {fd : FuncData} {N ps : List Str} {sp : Sp} (F : Fun K x qual st f fd) (S : FnScope N ps (defScope st)) (ar : ∀ vs H Q E, sp vs H Q E → vs.length = ps.length)
    (bod : ∀ (cdv : Value) (A : Around) (outer : List Env) (s : Shared) (H : Hp) (vs : List V) (Q : VK) (E : XK) (p : Addr × Obj), RoomH k (A.deeper (envOfC qual (defScope st) s.heap.objs.size f cdv)) → sp vs H Q E →
      ∃ t, PSs (cxH C8.CX0 P w K mg base N qual (defScope st) f cdv A outer s H E p) (defBody st) t ∧ t { nx := fun _ H' => Q .non H', rt := Q } (start N vs) H) : FnW P w K mg base (k + 1) f fd ps sp := by
  obtain ⟨oc, od, kV, doc, pm, an, cdv, ct, osl, rfl, lk, cd⟩ := F.ex
  refine ⟨ar, ?_⟩
  intro A outer s H args us vs Q E p room pin env bnd rv want
  have old : ∀ b o, base.get? b = some o → s.heap.get? b = some o := fun b o e => (env.bs b o e).1
  have inK : K.In s.heap := env.mod.kin.keeps old
  have kinds : ∀ y ∈ ps.zip us, (defScope st).names.lookup y.1 = some .local ∨ ((defScope st).names.lookup y.1 = some .cell ∧ ((cellsFrom (s.heap.objs.size + 1) (defScope st).names []).lookup y.1).isSome = true) := by
    rintro ⟨m, v⟩ hy
    refine (S.par m (List.of_mem_zip hy).1).imp id fun q => ⟨q, ?_⟩
    exact PySem.W.cellsFrom_some _ _ _ (.inl q)
  refine codeAny_call_function room.depth (inK _ _ lk) rfl S.co S.gen rfl (PySem.W.codeRec_of inK cd) (bnd _ _ _ _ ?_)
  refine wpAny_newFunctionEnv_cells S.kind kinds ?_
  rintro env' rfl s1 made
  refine ⟨(env.mod.nolimit.keeps old).keeps made.toInCall.keep, codeAny_func ?_⟩
  obtain ⟨t, ht, q⟩ := bod cdv A outer s H vs Q E p (room.deeper _) want
  have J := inv_startH (CX := C8.CX0) (E := E) S pin env (ar _ _ _ _ want) rv made
  have ends : ∀ {σ' : L2.St} {H' : Hp} {v : V} {u : Value} {s' : Shared}, Inv (cxH C8.CX0 P w K mg base N qual (defScope st) f cdv A outer s H E p) [] σ' H' s' → RelV v u → Q v H' → CE outer P w H s Q u s' :=
    fun {_ H' v _ _} I r z => ⟨v, H', I.os, I.bare, I.base, I.hok, r, z⟩
  refine wpAny_mono (ht.run [] s1 (start N vs) H _ J q) ?_ fun _ _ z => z
  intro fl s' z
  cases fl with
  | ret u => exact let ⟨_, _, _, I, r, y⟩ := z; ends I r y
  | next => exact let ⟨_, _, I, y⟩ := z; ends (v := V.non) (u := Value.none) I rfl y
  | brk => exact let ⟨_, _, _, y⟩ := z; y.elim
  | cont => exact let ⟨_, _, _, y⟩ := z; y.elim
theorem roomH_in1 {k : Nat} {A : Around} (r : RoomH (k + 1) A) : RoomH k A.in1 :=
  ⟨by have := r.dp; show A.depth + 3 * k + 5 < _; omega, by have := r.un; show A.units + 1 + 16 * k + 200 < _; omega⟩
/-- e.f, a property, within an except suite -/
theorem pe_propW {X : Cx} {k : Nat} {C p g : Addr} {f : Str} {fd : FuncData} {ps : List Str} {sp : Sp} {E : XK} {e : Expr} {pos : Pos} {ta : TE} {z : Addr × Obj} (hz : z ∈ X.pn) (he : PE X e ta) (c : Cls X.K C) (hp : PropOf X.K C f p g)
    (F : FnW X.prog X.w X.K X.mg X.base k g fd ps sp) (hr : RoomH (k + 1) X.A) (hb : Binds X.K fd ps []) (hab : attributeBase e f X.env (eval e X.env) = eval e X.env) : PE X (.Attribute e f pos) (tProp C sp [] E ta) := by
  refine ⟨fun pins s σ H Q I h => ?_⟩
  refine attr_of hab (thn (he.run pins s σ H _ I h) fun u s1 ⟨x, H1, I1, rx, a, dx, fs, ex, ea, q⟩ => ?_)
  subst ex
  obtain rfl : u = Value.ref a := rx
  obtain ⟨mA, O, _, _, _, _⟩ := ins_get I1.hok ea
  obtain ⟨od, J, _⟩ := O.look
  obtain ⟨rest, hrec⟩ := hp.rec_
  have I2 := I1.tok (s1.toks + 1)
  have one : ([Value.ref a] ++ []).length = ps.length := F.arity _ _ _ _ q
  have isC : (PySem.W.clsIn X.K C).isSome = true := by
    obtain ⟨cd, hc, _⟩ := PySem.W.any_some c.hd
    rw [hc]
    rfl
  have P1 := I2.pin z (List.mem_append_left _ hz)
  have pin : PinOk X.stack H1 { s1 with toks := s1.toks + 1 } z := ⟨P1.1, P1.2.1, fun hm => (List.mem_cons.mp (I2.stkSub z.1 hm)).elim P1.2.2.1 P1.2.2.2.1, P1.2.2.2.2⟩
  have bb := hb { s1 with toks := s1.toks + 1 } [.ref a] I2.kIn one
  refine PySem.W.get_bind I1.kIn J (PySem.W.plainGet_of (c.get f)).1 (PySem.W.findObj_data isC hp.at_ hp.get hp.tak) (PySem.W.plainGet_of (c.get f)).2 (wpAny_call (PySem.W.prop_get (s := { s1 with toks := s1.toks + 1 }) I1.kIn hrec ?_))
  refine codeAny_mono (F.does (us := [.ref a]) (vs := [V.ref a]) (roomH_in1 hr) pin I2.env0.in1 bb (.cons rfl .nil) q) fun r s' z => ?_
  cases r with
  | error er => exact z.elim
  | ok fl =>
    cases fl with
    | ret u =>
      obtain ⟨v, H', I3, rv, q3⟩ := I2.after z
      show wpAny _ _ (handedOut u) _ _ _
      rw [PySem.W.handedOut_of (handed_of rv)]
      exact wpAny_pure ⟨v, H', I3, rv, q3⟩
    | next => exact z.elim
    | brk => exact z.elim
    | cont => exact z.elim
/-- o.m(), what it raises is told with the slots -/
def tMethS0 (C : Addr) (m : Str) (sp : Sp) (E : L2.St → XK) (ta : TE) : TE := fun σ H Q => ta σ H fun x H1 => ∃ a dx fs, x = .ref a ∧ H1 a = some (.ins C dx fs) ∧ fs.lookup m = none ∧ sp [x] H1 Q (E σ)
theorem pe_methS0 {X : Cx} {CX : CXT} {k : Nat} {f C : Addr} {fd : FuncData} {ps : List Str} {sp : Sp} {E : L2.St → XK} {m : Str} {pos apos : Pos} {o : Expr} {ta : TE} {pl : Sem Bool} (he : PE X o ta) (c : Cls X.K C) (hm : Meth X.K C m f) (F : FnOk X.prog X.w X.K X.mg X.base CX k f fd ps sp) (hr : Room k X.A) (hb : Binds X.K fd ps [])
    (hx : ∀ σ, PassesAt CX X σ (E σ))
    (ht : eval (.Call (.Attribute o m apos) [] [] pos) X.env = (do
      let ov ← eval o X.env
      standAt apos.atName
      let (f, first) ← holding [ov] (getMethod ov m pl)
      callWith pos f first (backTo pos (starEach [] X.env)) (backToKw pos (keywordEach [] X.env))) := by rfl) : PE X (.Call (.Attribute o m apos) [] [] pos) (tMethS0 C m sp E ta) := by
  refine ⟨fun pins s σ H Q I h => PySem.W.methodCall_KW (pl := pl) (thn (he.run pins s σ H _ I h) fun u s1 ⟨x, H1, I1, rx, a, dx, fs, ex, ea, l, q⟩ => ?_) ht⟩
  subst ex
  cases (show u = Value.ref a from rx)
  exact getmeth_ok I1 ea c hm l (PySem.W.callWith_K0 (first := [.ref a]) I1.kIn hm.kp (run_fnS (us := [.ref a]) (vs := [.ref a]) F hr hb (hx σ) I1 (.cons rfl .nil) q))
end Wh

namespace Wh
open PySem PySem.Spec PyProof PyProof.Rows L2
/-! ### list.count of a text -/
def isT (x : Str) : Value → Bool := fun v => match v with
  | .str y _ => y.cps.toList == x.cps.toList
  | _ => false
theorem cps_beq (y x : Str) : (y.cps.toList == x.cps.toList) = (y == x) := by
  rw [Bool.eq_iff_iff, beq_iff_eq, beq_iff_eq]
  constructor
  · intro h
    cases y
    cases x
    rw [Str.mk.injEq]
    exact Array.toList_inj.mp h
  · rintro rfl
    rfl
theorem isT_gives {x : Str} {t : Tok} : ∀ {us : List Value} {ys : List Str}, StrsAre us ys → ∀ y ∈ us, MeetsSeq.EqGives y (.str x t) (isT x y)
  | _, _, .nil => fun y hy => by cases hy
  | _, _, .cons z t' h => fun y hy => by
    rcases List.mem_cons.mp hy with e | e
    · rw [e]
      exact SeqRoads2.EqGives.str z x t' t
    · exact isT_gives h y e
theorem isT_count {x : Str} : ∀ {us : List Value} {ys : List Str}, StrsAre us ys → us.countP (isT x) = ys.count x
  | _, _, .nil => rfl
  | _, _, .cons z t h => by
    have ih := isT_count (x := x) h
    rw [List.countP_cons, List.count_cons, ih]
    show _ + (if (z.cps.toList == x.cps.toList) = true then 1 else 0) = _
    rw [cps_beq]
def rCntT (K : PySem.W.Frag) : V → List V → Hp → VK → Prop := fun x xs H Q => ∃ (p : Addr) (ys : List Str) (z : Str), x = .ref p ∧ xs = [.str z] ∧ SqL K H p (ys.map V.str) ∧ Q (.int ((ys.count z : Nat) : Int)) H
theorem mt_countT {X : Cx} : MtR X "list.count" (rCntT X.K) := by
  intro pins s σ H x xs v us Q I rx rxs h
  obtain ⟨p, ys, z, rfl, rfl, hs, q⟩ := h
  cases rx
  obtain ⟨u, rfl, ru⟩ := rxs.one
  obtain ⟨t, rfl⟩ := ru
  obtain ⟨its, rv, ⟨⟨cls, dd, data, sl⟩, n, ho, hc, hdn, hd⟩, hlen⟩ := I.list hs
  simp only at hc hd
  subst hc hd
  have are := Vals.strs rv
  have cnt := isT_count (x := z) are
  refine call_meets PySem.F.slot_list_count ⟨_, ho, rfl⟩ PySem.F.entry_list_count (PySem.F.args_list_count_2 _ _)
    (SeqAt.list_countAt p its.toArray n dd sl (.str z t) (isT z)) ⟨ho, fun y hy => (isT_gives are y (by simpa using hy)).at _ _, ?_⟩
  refine ⟨.int ((ys.count z : Nat) : Int), H, I.tok _, ⟨s.toks, ?_⟩, q⟩
  show Value.int ((its.toArray.toList.countP (isT z) : Nat) : Int) s.toks = Value.int ((ys.count z : Nat) : Int) s.toks
  rw [cnt]
end Wh

namespace Wh
open PySem PySem.Spec PyProof PyProof.Rows L2
/-! ### x is not y, truth values -/
theorem op_isnotB {X : Cx} : OpR X (compareOp .IsNot) (fun x y H Q => ∃ c d : Bool, x = .bl c ∧ y = .bl d ∧ Q (.bl (!decide (c = d))) H) := by
  intro pins s σ H x y v u Q I rx ry h
  obtain ⟨c, d, rfl, rfl, q⟩ := h
  cases (show v = Value.bool c from rx)
  cases (show u = Value.bool d from ry)
  refine wpAny_isNot_plain rfl (fin_bl I q ?_)
  cases c <;> cases d <;> rfl
/-! ### rows of pairs, in order -/
theorem prs_uniq : ∀ {l m : List Pr}, l.Pairwise PrLt → m.Pairwise PrLt → l.Perm m → l = m
  | [], _, _, _, p => p.nil_eq
  | x :: l, [], _, _, p => absurd p.length_eq (by simp)
  | x :: l, y :: m, hl, hm, p => by
    obtain ⟨l1, l2⟩ := List.pairwise_cons.mp hl
    obtain ⟨m1, m2⟩ := List.pairwise_cons.mp hm
    have e : x = y := by
      rcases List.mem_cons.mp (p.mem_iff.mp (List.mem_cons_self (a := x))) with e | hx
      · exact e
      · rcases List.mem_cons.mp (p.mem_iff.mpr (List.mem_cons_self (a := y))) with e | hy
        · exact e.symm
        · exact absurd (l1 y hy) (prLt_asym (m1 x hx))
    subst e
    rw [prs_uniq l2 m2 p.cons_inv]
theorem rowsP_eqv {α : Type} [DecidableEq α] {f : α → List V} (inj : ∀ a b, f a = f b → a = b) : ∀ {ps qs : List (Addr × α)}, (∀ p ∈ ps, (f p.2).all nb = true) → (∀ p ∈ qs, (f p.2).all nb = true) → PyData.eqvAll (rowD f ps) (rowD f qs) = decide (ps.map (·.2) = qs.map (·.2))
  | [], [], _, _ => by simp [rowD, PyData.eqvAll]
  | [], _ :: _, _, _ => by simp [rowD, PyData.eqvAll]
  | _ :: _, [], _, _ => by simp [rowD, PyData.eqvAll]
  | p :: ps, q :: qs, hp, hq => by
    have ih := rowsP_eqv inj (ps := ps) (qs := qs) (fun z hz => hp z (List.mem_cons_of_mem _ hz)) fun z hz => hq z (List.mem_cons_of_mem _ hz)
    show PyData.eqvAll (tD (f p.2) :: rowD f ps) (tD (f q.2) :: rowD f qs) = _
    rw [PyData.eqvAll, tD_eqv (hp p List.mem_cons_self) (hq q List.mem_cons_self), ih, List.map_cons, List.map_cons]
    by_cases e1 : p.2 = q.2
    · by_cases e2 : ps.map (·.2) = qs.map (·.2)
      · simp [e1, e2]
      · simp [e1, e2]
    · have e3 : ¬ f p.2 = f q.2 := fun z => e1 (inj _ _ z)
      simp [e1, e3]
end Wh

namespace Wh
open PySem L2
def rLenT (K : PySem.W.Frag) : List V → Hp → VK → Prop := fun xs H Q => ∃ (l : Addr) (ys : List V), xs = [V.ref l] ∧ SqT K H l ys ∧ Q (.int (ys.length : Int)) H
theorem call_lenT {X : Cx} (K : PySem.W.Frag) (k : X.K = K) : CallR X (.builtin "len") (rLenT K) := by
  subst k
  intro pins s σ H xs us Q I r h
  obtain ⟨l, ys, e, hl, q⟩ := h
  exact call_len_seq pins s σ H xs us Q I r ⟨l, ys, e, .inr hl, q⟩
theorem rowT_shaped {α : Type} {f : α → List V} {ps : List (Addr × α)} (hn : ∀ p ∈ ps, (f p.2).all nb = true) : SeqAt.shaped (.tuple (rowD f ps)) = true := by
  unfold SeqAt.shaped
  have h := rowD_shaped hn
  unfold SeqAt.shaped at h
  exact h
end Wh

namespace Wh
open PySem PySem.Spec PyProof PyProof.Rows L2
/-! ### zip(*t): as many arguments as rows -/
theorem typeCall_zip (vs : List Value) : checkTypeCall "zip" ⟨vs, []⟩ = pure () := by kernel_rfl
theorem newCall_zip : ∀ vs : List Value, vs.length ≤ 10 → checkBuiltinCall "zip.__new__" ⟨.type "zip" :: vs, []⟩ = pure ()
  | [], _ => by kernel_rfl
  | [x0], _ => by kernel_rfl
  | [x0, x1], _ => by kernel_rfl
  | [x0, x1, x2], _ => by kernel_rfl
  | [x0, x1, x2, x3], _ => by kernel_rfl
  | [x0, x1, x2, x3, x4], _ => by kernel_rfl
  | [x0, x1, x2, x3, x4, x5], _ => by kernel_rfl
  | [x0, x1, x2, x3, x4, x5, x6], _ => by kernel_rfl
  | [x0, x1, x2, x3, x4, x5, x6, x7], _ => by kernel_rfl
  | [x0, x1, x2, x3, x4, x5, x6, x7, x8], _ => by kernel_rfl
  | [x0, x1, x2, x3, x4, x5, x6, x7, x8, x9], _ => by kernel_rfl
  | x0 :: x1 :: x2 :: x3 :: x4 :: x5 :: x6 :: x7 :: x8 :: x9 :: x10 :: _, h => by simp at h
theorem args_init_zip (o : Value) : ∀ vs : List Value, vs.length ≤ 10 → argsOk "object.__init__" ⟨o :: vs, []⟩
  | [], _ => by
    unfold argsOk; rw [signature?_of (id := "object.__init__") (n := ['_', '_', 't', 'i', 'n', 'i', '_', '_']) (o := ['t', 'c', 'e', 'j', 'b', 'o']) (by kernel_rfl) PySem.F.owner_object]; kernel_rfl
  | [x0], _ => by
    unfold argsOk; rw [signature?_of (id := "object.__init__") (n := ['_', '_', 't', 'i', 'n', 'i', '_', '_']) (o := ['t', 'c', 'e', 'j', 'b', 'o']) (by kernel_rfl) PySem.F.owner_object]; kernel_rfl
  | [x0, x1], _ => by
    unfold argsOk; rw [signature?_of (id := "object.__init__") (n := ['_', '_', 't', 'i', 'n', 'i', '_', '_']) (o := ['t', 'c', 'e', 'j', 'b', 'o']) (by kernel_rfl) PySem.F.owner_object]; kernel_rfl
  | [x0, x1, x2], _ => by
    unfold argsOk; rw [signature?_of (id := "object.__init__") (n := ['_', '_', 't', 'i', 'n', 'i', '_', '_']) (o := ['t', 'c', 'e', 'j', 'b', 'o']) (by kernel_rfl) PySem.F.owner_object]; kernel_rfl
  | [x0, x1, x2, x3], _ => by
    unfold argsOk; rw [signature?_of (id := "object.__init__") (n := ['_', '_', 't', 'i', 'n', 'i', '_', '_']) (o := ['t', 'c', 'e', 'j', 'b', 'o']) (by kernel_rfl) PySem.F.owner_object]; kernel_rfl
  | [x0, x1, x2, x3, x4], _ => by
    unfold argsOk; rw [signature?_of (id := "object.__init__") (n := ['_', '_', 't', 'i', 'n', 'i', '_', '_']) (o := ['t', 'c', 'e', 'j', 'b', 'o']) (by kernel_rfl) PySem.F.owner_object]; kernel_rfl
  | [x0, x1, x2, x3, x4, x5], _ => by
    unfold argsOk; rw [signature?_of (id := "object.__init__") (n := ['_', '_', 't', 'i', 'n', 'i', '_', '_']) (o := ['t', 'c', 'e', 'j', 'b', 'o']) (by kernel_rfl) PySem.F.owner_object]; kernel_rfl
  | [x0, x1, x2, x3, x4, x5, x6], _ => by
    unfold argsOk; rw [signature?_of (id := "object.__init__") (n := ['_', '_', 't', 'i', 'n', 'i', '_', '_']) (o := ['t', 'c', 'e', 'j', 'b', 'o']) (by kernel_rfl) PySem.F.owner_object]; kernel_rfl
  | [x0, x1, x2, x3, x4, x5, x6, x7], _ => by
    unfold argsOk; rw [signature?_of (id := "object.__init__") (n := ['_', '_', 't', 'i', 'n', 'i', '_', '_']) (o := ['t', 'c', 'e', 'j', 'b', 'o']) (by kernel_rfl) PySem.F.owner_object]; kernel_rfl
  | [x0, x1, x2, x3, x4, x5, x6, x7, x8], _ => by
    unfold argsOk; rw [signature?_of (id := "object.__init__") (n := ['_', '_', 't', 'i', 'n', 'i', '_', '_']) (o := ['t', 'c', 'e', 'j', 'b', 'o']) (by kernel_rfl) PySem.F.owner_object]; kernel_rfl
  | [x0, x1, x2, x3, x4, x5, x6, x7, x8, x9], _ => by
    unfold argsOk; rw [signature?_of (id := "object.__init__") (n := ['_', '_', 't', 'i', 'n', 'i', '_', '_']) (o := ['t', 'c', 'e', 'j', 'b', 'o']) (by kernel_rfl) PySem.F.owner_object]; kernel_rfl
  | x0 :: x1 :: x2 :: x3 :: x4 :: x5 :: x6 :: x7 :: x8 :: x9 :: x10 :: _, h => by simp at h
open PySem.Builtin PySem.Builtin.SmallTypes
/-- a zip over tuples: what next finds -/
structure ZSt (h : Heap) (z TI TO : Addr) (f0 f1 : Value) (its ts : List Addr) (rows : List (Array Value)) (k : Nat) : Prop where
  hz : h.get? z = some { cls := .type "zip", dict := none, data := .fields #[f0, f1, .bool false, .ref TI, .ref TO], slots := #[] }
  hTI : h.get? TI = some { cls := .type "tuple", data := .seq (its.map Value.ref).toArray }
  hi : ∀ (j : Nat) (it t : Addr) (r : Array Value), its[j]? = some it → ts[j]? = some t → rows[j]? = some r → h.IsTupleIter it t k ∧ h.IsTuple t r
structure ZAp (z TI TO : Addr) (its ts : List Addr) (rows : List (Array Value)) : Prop where
  l1 : ts.length = its.length
  l2 : rows.length = its.length
  nd : its.Nodup
  zi : z ∉ its
  TIz : TI ≠ z
  TIi : TI ∉ its
  TOz : TO ≠ z
  TOi : TO ∉ its
  TOI : TO ≠ TI
  tz : ∀ t ∈ ts, t ≠ z ∧ t ∉ its ∧ t ≠ TO
  pos : 0 < its.length
  few : its.length ≤ 1000
def colV (rows : List (Array Value)) (k : Nat) : List Value := rows.map fun r => (r[k]?).getD .none
theorem drop_cons {α : Type} {l rest : List α} {x : α} {j : Nat} (h : x :: rest = l.drop j) : l[j]? = some x ∧ rest = l.drop (j + 1) := by
  have e := congrArg (fun m => m[0]?) h
  simp only [List.getElem?_cons_zero, List.getElem?_drop, Nat.add_zero] at e
  refine ⟨e.symm, ?_⟩
  have e2 := congrArg List.tail h
  simp only [List.tail_cons, List.tail_drop] at e2
  exact e2
theorem drop_nil {α : Type} {l : List α} {j : Nat} (h : [] = l.drop j) : l.length ≤ j := List.drop_eq_nil_iff.mp h.symm
section
variable {prog : Program} {w : World} {A : Around} {E : Value → Shared → Prop} {s : Shared}
/-- the iterators of all tuples, one behind the other -/
theorem iterAll_tuples (ts : List Addr) {Q : List Value → Shared → Prop} (ht : ∀ t ∈ ts, ∃ r, s.heap.IsTuple t r)
    (h : ∀ h', (∀ b o, s.heap.get? b = some o → h'.get? b = some o) → h'.objs.size = s.heap.objs.size + ts.length → (∀ j t, ts[j]? = some t → h'.IsTupleIter (s.heap.objs.size + j) t 0) → Q (((List.range ts.length).map fun j => s.heap.objs.size + j).map Value.ref) { s with heap := h' }) :
    wpAny (model prog w) A (iterAll (ts.map Value.ref)) Q E s := by
  unfold iterAll
  refine wpAny_bind (wpAny_forIn_list _ (fun rest (acc : Array Value) s' => ∃ j h, rest = (ts.map Value.ref).drop j ∧ j ≤ ts.length ∧ s' = { s with heap := h } ∧ acc = (((List.range j).map fun i => s.heap.objs.size + i).map Value.ref).toArray ∧
    (∀ b o, s.heap.get? b = some o → h.get? b = some o) ∧ h.objs.size = s.heap.objs.size + j ∧ ∀ i t, i < j → ts[i]? = some t → h.IsTupleIter (s.heap.objs.size + i) t 0) _ ?_ ?_ _ _ ⟨0, s.heap, rfl, Nat.zero_le _, rfl, rfl, fun _ _ e => e, rfl, fun i t hi => by omega⟩)
  · rintro x rest acc s' ⟨j, h1, hr, hj, rfl, rfl, hk, hsz, hi⟩
    obtain ⟨hx, hr2⟩ := drop_cons hr
    rw [List.getElem?_map] at hx
    obtain ⟨t, htj, rfl⟩ := Option.map_eq_some_iff.mp hx
    obtain ⟨r, ht0⟩ := ht t (List.mem_of_getElem? htj)
    have ht1 : h1.IsTuple t r := by
      obtain ⟨o, e, q⟩ := ht0
      exact ⟨o, hk _ _ e, q⟩
    refine wpAny_bind (wpAny_holding (wpAny_pyIter_tuple (s := { s with heap := h1 }) ht1 ?_))
    refine wpAny_pure ?_
    refine ⟨j + 1, _, hr2, (List.getElem?_eq_some_iff.mp htj).1, rfl, ?_, fun b o e => Heap.get?_push_of_some _ (hk _ _ e), ?_, fun i t' hi' ht' => ?_⟩
    · rw [List.range_succ]
      simp [hsz]
    · show (h1.push _).objs.size = _
      rw [Heap.size_push, hsz]
      omega
    · by_cases c : i = j
      · subst c
        rw [htj] at ht'
        obtain rfl := Option.some.inj ht'
        rw [← hsz]
        exact ⟨_, Heap.get?_push_size _ rfl, rfl, rfl⟩
      · obtain ⟨o, e, q⟩ := hi i t' (by omega) ht'
        exact ⟨o, Heap.get?_push_of_some _ e, q⟩
  · rintro acc s' ⟨j, h1, hr, hj, rfl, rfl, hk, hsz, hi⟩
    have := drop_nil hr
    rw [List.length_map] at this
    have e : j = ts.length := by omega
    subst e
    refine wpAny_pure ?_
    show Q (_ : Array Value).toList _
    rw [List.toList_toArray]
    exact h h1 hk hsz fun j t ht => hi j t (List.getElem?_eq_some_iff.mp ht).1 ht
theorem call_zipN {ts : List Addr} {rows : List (Array Value)} {Q : Value → Shared → Prop} (len : rows.length = ts.length) (pos : 0 < ts.length) (few : ts.length ≤ 10) (ht : ∀ (j : Nat) (t : Addr) (r : Array Value), ts[j]? = some t → rows[j]? = some r → s.heap.IsTuple t r)
    (h : ∀ h' z TI TO its, ZAp z TI TO its ts rows → ZSt h' z TI TO .none (.bool false) its ts rows 0 → h'.get? TO = some { cls := .type "tuple", data := .seq (List.replicate ts.length Value.none).toArray } → s.heap.objs.size ≤ z → s.heap.objs.size ≤ TO → (∀ i ∈ its, s.heap.objs.size ≤ i) → (∀ b o, s.heap.get? b = some o → h'.get? b = some o) → Q (.ref z) { s with heap := h' }) :
    wpAny (model prog w) A (call (.type "zip") (ts.map Value.ref)) Q E s := by
  have hasT : ∀ t ∈ ts, ∃ r, s.heap.IsTuple t r := fun t hm => by
    obtain ⟨j, hj, e⟩ := List.mem_iff_getElem.mp hm
    exact ⟨rows[j], ht j t _ (by rw [List.getElem?_eq_getElem hj, e]) (List.getElem?_eq_getElem (by omega))⟩
  have le : (ts.map Value.ref).length ≤ 10 := by rw [List.length_map]; exact few
  refine callType_new (S := fun _ R s' => s' = s ∧ ∀ h' z TI TO its, ZAp z TI TO its ts rows → ZSt h' z TI TO .none (.bool false) its ts rows 0 → h'.get? TO = some { cls := .type "tuple", data := .seq (List.replicate ts.length Value.none).toArray } → s.heap.objs.size ≤ z → s.heap.objs.size ≤ TO → (∀ i ∈ its, s.heap.objs.size ≤ i) → (∀ b o, s.heap.get? b = some o → h'.get? b = some o) → R (.ok (.ret (.ref z))) { s with heap := h' })
    F.called_zip (by decide) (typeCall_zip _) (newCall_zip _ le) (fun obj => args_init_zip obj _ le) F.entry_zip_new ?_ ⟨rfl, ?_⟩
  · refine Meets.of_wp fun prog w A R s' hs => ?_
    obtain ⟨rfl, hs⟩ := hs
    obtain ⟨hp, g, d, tk, os⟩ := s'
    have hsub := sub_zip
    have hT' : ∀ t ∈ ts, ∃ r, (Shared.mk hp g d tk os).heap.IsTuple t r := hasT
    have nc : newClass "zip" ⟨.type "zip" :: ts.map Value.ref, []⟩ = pure (Value.type "zip", ts.map Value.ref) := by
      unfold newClass
      simp only [hsub]
      rfl
    show wpAny _ _ (newClass "zip" ⟨.type "zip" :: ts.map Value.ref, []⟩ >>= _) _ _ _
    rw [nc]
    refine wpAny_bind (wpAny_pure ?_)
    show wpAny _ _ (iterAll (ts.map Value.ref) >>= _) _ _ _
    refine wpAny_bind (iterAll_tuples ts hT' fun h1 k1 z1 i1 => ?_)
    refine wpAny_bind (wpAny_newTuple ?_ (by simp; exact Nat.le_trans few (by decide)))
    refine wpAny_bind (wpAny_newTuple ?_ (by simp; exact Nat.le_trans few (by decide)))
    refine wpAny_bind ?_
    unfold newRecord
    refine wpAny_newObj_type ?_ (by simp only [sizeOk, ownedTupleFields, List.size_toArray, List.length_append, List.length_cons, List.length_nil, sizeLine_eq]; omega)
    refine wpAny_pure ⟨_, rfl, ?_⟩
    have k1 : ∀ b o, hp.get? b = some o → h1.get? b = some o := k1
    have z1 : h1.objs.size = hp.objs.size + ts.length := z1
    have i1 : ∀ (j : Nat) (t : Addr), ts[j]? = some t → h1.IsTupleIter (hp.objs.size + j) t 0 := i1
    let its := (List.range ts.length).map fun j => hp.objs.size + j
    let h2 := h1.push { cls := .type "tuple", data := .seq (its.map Value.ref).toArray }
    let h3 := h2.push { cls := .type "tuple", data := .seq (List.map (fun _ => Value.none) (its.map Value.ref)).toArray }
    have z2 : h2.objs.size = hp.objs.size + ts.length + 1 := by rw [Heap.size_push, z1]
    have z3 : h3.objs.size = hp.objs.size + ts.length + 2 := by rw [Heap.size_push, z2]
    let h4 := h3.push { cls := .type "zip", dict := none, data := .fields (ownedTupleFields ++ [Value.bool false, Value.ref h1.objs.size, Value.ref h2.objs.size]).toArray }
    have up4 : ∀ b o, h1.get? b = some o → h4.get? b = some o := fun b o e => Heap.get?_push_of_some _ (Heap.get?_push_of_some _ (Heap.get?_push_of_some _ e))
    have li : its.length = ts.length := by simp [its]
    have im : ∀ i, i ∈ its → hp.objs.size ≤ i ∧ i < hp.objs.size + ts.length := fun i hi => by
      obtain ⟨j, hj, rfl⟩ := List.mem_map.mp hi
      have := List.mem_range.mp hj
      omega
    have tl : ∀ t ∈ ts, t < hp.objs.size := fun t hm => by
      obtain ⟨r, o, e, _⟩ := hT' t hm
      exact Heap.lt_size e
    refine hs h4 h3.objs.size h1.objs.size h2.objs.size its ⟨li.symm, by rw [li, len], ?_, fun z => ?_, ?_, fun z => ?_, ?_, fun z => ?_, ?_, fun t hm => ?_, by omega, by omega⟩ ⟨?_, ?_, fun j it t r e1 e2 e3 => ?_⟩ ?_ ?_ ?_ (fun i hi => (im i hi).1) (fun b o e => up4 _ _ (k1 _ _ e))
    · refine List.Pairwise.map _ (fun a b h => ?_) (List.nodup_range (n := ts.length))
      show hp.objs.size + a ≠ hp.objs.size + b
      omega
    · have := im _ z
      omega
    · show h1.objs.size ≠ h3.objs.size
      omega
    · have := im _ z
      omega
    · show h2.objs.size ≠ h3.objs.size
      omega
    · have := im _ z
      omega
    · show h2.objs.size ≠ h1.objs.size
      omega
    · have lt : t < hp.objs.size := tl t hm
      exact ⟨Nat.ne_of_lt (Nat.lt_of_lt_of_le lt (by rw [z3]; omega)), fun z => absurd lt (Nat.not_lt.mpr (im _ z).1), Nat.ne_of_lt (Nat.lt_of_lt_of_le lt (by rw [z2]; omega))⟩
    · exact Heap.get?_push_size _ rfl
    · exact Heap.get?_push_of_some _ (Heap.get?_push_of_some _ (Heap.get?_push_size _ rfl))
    · have hj : j < ts.length := (List.getElem?_eq_some_iff.mp e2).1
      have e1' : it = hp.objs.size + j := by
        simp only [its, List.getElem?_map, List.getElem?_range hj, Option.map_some] at e1
        exact (Option.some.inj e1).symm
      subst e1'
      refine ⟨(i1 j t e2).at fun o e => up4 _ _ e, ?_⟩
      obtain ⟨o, e, q⟩ := ht j t r e2 e3
      exact ⟨o, up4 _ _ (k1 _ _ e), q⟩
    · have : (List.map (fun _ => Value.none) (its.map Value.ref)) = List.replicate ts.length Value.none := by
        rw [List.map_map, ← li]
        exact List.map_eq_replicate_iff.mpr fun x _ => rfl
      rw [← this]
      exact Heap.get?_push_of_some _ (Heap.get?_push_size _ rfl)
    · show hp.objs.size ≤ _
      omega
    · show hp.objs.size ≤ _
      omega
  · intro h' z TI TO its ap st hTO hz hTO2 hits keep
    exact ⟨⟨_, st.hz, rfl⟩, h h' z TI TO its ap st hTO hz hTO2 hits keep⟩
/-- next: nothing given out yet -/
theorem zipN_first {z TI TO : Addr} {f1 : Value} {its ts : List Addr} {rows : List (Array Value)} {k : Nat} {Q : Value → Shared → Prop} (D : ZAp z TI TO its ts rows) (Z : ZSt s.heap z TI TO .none f1 its ts rows k)
    (hTO : s.heap.get? TO = some { cls := .type "tuple", data := .seq (List.replicate its.length Value.none).toArray }) (hk : ∀ r ∈ rows, k < r.size)
    (hQ : ∀ h', ZSt h' z TI TO (rawInt s.heap.objs.size) (.bool false) its ts rows (k + 1) → h'.get? s.heap.objs.size = some { cls := .type "tuple", data := .seq (colV rows k).toArray } → s.heap.objs.size ≠ z →
      (∀ c o, c ≠ z → c ≠ TO → c ∉ its → s.heap.get? c = some o → h'.get? c = some o) → Q (.ref s.heap.objs.size) { s with heap := h' }) :
    wpAny (model prog w) A (Builtin.«zip.__next__» ⟨[.ref z], []⟩) (fun fin s' => ∃ v, fin = .done (.ret v) ∧ Q v s') E s := by
  show wpAny _ _ (field (.ref z) 2 >>= _) _ _ _
  refine wpAny_bind (wpAny_field Z.hz rfl (x := .bool false) rfl ?_)
  show wpAny _ _ (field (.ref z) 3 >>= _) _ _ _
  refine wpAny_bind (wpAny_field Z.hz rfl (x := .ref TI) rfl ?_)
  refine wpAny_bind (wpAny_seqItems Z.hTI rfl ?_)
  have ne : ((its.map Value.ref).toArray.isEmpty) = false := by
    have := D.pos
    cases its with
    | nil => simp at this
    | cons a b => rfl
  simp only [ne]
  show wpAny _ _ (ownedTupleIsFree (.ref z) >>= _) _ _ _
  refine wpAny_bind ?_
  unfold ownedTupleIsFree
  refine wpAny_bind (wpAny_field Z.hz rfl (x := .none) rfl (wpAny_pure ?_))
  simp only [if_true]
  refine wpAny_bind (wpAny_rule ?_)
  refine wpAny_bind (wpAny_field Z.hz rfl (x := .ref TO) rfl ?_)
  refine wpAny_bind (wpAny_setField_rec Z.hz (by simp) fun h₁ hz₁ hs₁ => ?_)
  refine wpAny_bind (wpAny_forIn_list _ (fun rest b s' => b.1 = none ∧ ∃ j h, rest = ((its.map Value.ref).zipIdx).drop j ∧ j ≤ its.length ∧ s' = { s with heap := h } ∧ h.objs.size = s.heap.objs.size ∧
      h.get? z = some { cls := .type "zip", dict := none, data := .fields #[.ellipsis, f1, .bool false, .ref TI, .ref TO], slots := #[] } ∧ h.get? TO = some { cls := .type "tuple", data := .seq ((colV rows k).take j ++ List.replicate (its.length - j) Value.none).toArray } ∧
      (∀ i it t r, its[i]? = some it → ts[i]? = some t → rows[i]? = some r → h.IsTupleIter it t (if i < j then k + 1 else k) ∧ h.IsTuple t r) ∧ (∀ c o, c ≠ z → c ≠ TO → c ∉ its → s.heap.get? c = some o → h.get? c = some o)) _ ?_ ?_ _ _ ⟨rfl, 0, h₁, rfl, Nat.zero_le _, rfl, hs₁.1, hz₁, ?_, ?_, fun c o c1 _ _ e => hs₁.extBut _ _ c1 e⟩)
  · rintro x rest b s' ⟨_, j, h, hr, hj, rfl, hsz, hz, hT, hi, keep⟩
    obtain ⟨hx, hr2⟩ := drop_cons hr
    rw [List.getElem?_zipIdx, List.getElem?_map] at hx
    obtain ⟨it, hit, rfl⟩ : ∃ it, its[j]? = some it ∧ x = (.ref it, j) := by
      cases q : its[j]? with
      | none =>
        rw [q] at hx
        cases hx
      | some it =>
        rw [q] at hx
        have := Option.some.inj hx
        exact ⟨it, rfl, by rw [← this, Nat.zero_add]⟩
    have jl : j < its.length := (List.getElem?_eq_some_iff.mp hit).1
    obtain ⟨t, gt⟩ : ∃ t, ts[j]? = some t := ⟨_, List.getElem?_eq_getElem (by rw [D.l1]; exact jl)⟩
    obtain ⟨r, gr⟩ : ∃ r, rows[j]? = some r := ⟨_, List.getElem?_eq_getElem (by rw [D.l2]; exact jl)⟩
    obtain ⟨hI, hTt⟩ := hi j it t r hit gt gr
    rw [if_neg (Nat.lt_irrefl j)] at hI
    have kr := hk r (List.mem_of_getElem? gr)
    have mit := List.mem_of_getElem? hit
    obtain ⟨tz1, tz2, tz3⟩ := D.tz t (List.mem_of_getElem? gt)
    have cj : (colV rows k)[j]? = some r[k] := by
      unfold colV
      rw [List.getElem?_map, gr, Option.map_some, Array.getElem?_eq_getElem kr]
      rfl
    refine wpAny_bind (wpAny_onRaise ?_)
    show wpAny _ _ (nextOf (.ref it) >>= _) _ _ _
    refine wpAny_bind (wpAny_nextOf_tuple_item (s := { s with heap := h }) hI hTt (Array.getElem?_eq_getElem kr) fun h₂ hI₂ hs₂ => wpAny_pure ?_)
    have hT₂ := hs₂.extBut TO _ (fun z => D.TOi (z ▸ mit)) hT
    refine wpAny_bind (wpAny_seqItems hT₂ rfl ?_)
    have cl : (colV rows k).length = its.length := by unfold colV; rw [List.length_map, D.l2]
    have sl : ((colV rows k).take j ++ List.replicate (its.length - j) Value.none).length = its.length := by
      rw [List.length_append, List.length_take, List.length_replicate, cl]
      omega
    have few := D.few
    refine wpAny_bind (wpAny_updateSeq hT₂ rfl ?_ (by rw [List.size_toArray, sl]; exact Nat.le_trans few (by decide)) (by rw [Array.size_setIfInBounds, List.size_toArray, sl]; exact Nat.le_trans few (by decide)))
    refine wpAny_bind (wpAny_letGo (wpAny_pure ⟨rfl, j + 1, _, hr2, jl, rfl, ?_, ?_, ?_, ?_, ?_⟩))
    · show (h₂.update _ _).objs.size = _
      rw [(Heap.SameBut.update ..).1, hs₂.1]
      exact hsz
    · refine (Heap.SameBut.update ..).extBut z _ D.TOz.symm (hs₂.extBut z _ (fun q => D.zi (q ▸ mit)) hz)
    · refine (Heap.get?_update_self _ hT₂ rfl).trans ?_
      have e : ((colV rows k).take j ++ List.replicate (its.length - j) Value.none).toArray.setIfInBounds j r[k] = ((colV rows k).take (j + 1) ++ List.replicate (its.length - (j + 1)) Value.none).toArray := by
        rw [List.setIfInBounds_toArray]
        congr 1
        rw [show its.length - j = (its.length - (j + 1)) + 1 by omega, List.replicate_succ, List.set_append_right _ _ (by rw [List.length_take]; omega), List.length_take, cl, Nat.min_eq_left hj, Nat.sub_self, List.set_cons_zero, List.take_succ, cj]
        simp
      unfold Obj.mapSeq
      have sl2 : ((colV rows k).take (j + 1) ++ List.replicate (its.length - (j + 1)) Value.none).length = its.length := by
        rw [List.length_append, List.length_take, List.length_replicate, cl]
        omega
      simp only [e, List.size_toArray, sl, sl2, beq_self_eq_true, if_true]
    · intro i' it' t' r' e1 e2 e3
      have up : ∀ c o, c ≠ TO → c ≠ it → h.get? c = some o → (h₂.update TO (Obj.mapSeq fun x => x.setIfInBounds j r[k])).get? c = some o := fun c o c1 c2 e => (Heap.SameBut.update ..).extBut c _ c1 (hs₂.extBut c _ c2 e)
      have mit' := List.mem_of_getElem? e1
      obtain ⟨tz1', tz2', tz3'⟩ := D.tz t' (List.mem_of_getElem? e2)
      have ht' := (hi i' it' t' r' e1 e2 e3).2.at fun o e => up _ o tz3' (fun z => tz2' (z ▸ mit)) e
      by_cases c : i' = j
      · subst c
        obtain rfl := Option.some.inj (hit.symm.trans e1)
        obtain rfl := Option.some.inj (gt.symm.trans e2)
        rw [if_pos (Nat.lt_succ_self _)]
        exact ⟨hI₂.at fun o e => (Heap.SameBut.update ..).extBut _ _ (fun z => D.TOi (z ▸ mit)) e, ht'⟩
      · have ne : it' ≠ it := fun z => c (by
          have h1 := (List.getElem?_eq_some_iff.mp e1)
          have h2 := (List.getElem?_eq_some_iff.mp hit)
          exact (List.getElem_inj D.nd).mp (by rw [h1.2, h2.2, z]))
        have hI' := (hi i' it' t' r' e1 e2 e3).1.at fun o e => up _ o (fun z => D.TOi (z ▸ mit')) ne e
        refine ⟨?_, ht'⟩
        by_cases d : i' < j
        · rw [if_pos d] at hI'
          rw [if_pos (Nat.lt_succ_of_lt d)]
          exact hI'
        · rw [if_neg d] at hI'
          rw [if_neg (by omega)]
          exact hI'
    · exact fun c o c1 c2 c3 e => (Heap.SameBut.update ..).extBut c _ c2 (hs₂.extBut c _ (fun z => c3 (z ▸ mit)) (keep c o c1 c2 c3 e))
  · rintro b s' ⟨hb, j, h, hr, hj, rfl, hsz, hz, hT, hi, keep⟩
    have := drop_nil hr
    rw [List.length_zipIdx, List.length_map] at this
    have ej : j = its.length := by omega
    subst ej
    have cl : (colV rows k).length = its.length := by unfold colV; rw [List.length_map, D.l2]
    rw [Nat.sub_self, List.replicate_zero, List.append_nil, List.take_of_length_le (by omega)] at hT
    obtain ⟨b1, b2⟩ := b
    obtain rfl : b1 = none := hb
    refine wpAny_bind (wpAny_seqItems hT rfl ?_)
    refine wpAny_bind (wpAny_newTuple ?_ (by rw [List.toList_toArray, cl]; exact Nat.le_trans D.few (by decide)))
    show wpAny _ _ (ownedTupleHandOut (.ref z) (.ref h.objs.size) >>= _) _ _ _
    refine wpAny_bind ?_
    unfold ownedTupleHandOut
    have hz₆ := Heap.get?_push_of_some { cls := .type "tuple", data := .seq (colV rows k).toArray.toList.toArray } hz
    refine wpAny_bind (wpAny_setField_rec hz₆ (by simp) fun h₇ hz₇ hs₇ => ?_)
    refine wpAny_setField_rec hz₇ (by simp) fun h₈ hz₈ hs₈ => ?_
    have up : ∀ c o, c ≠ z → h.get? c = some o → h₈.get? c = some o := fun c o c1 e => hs₈.extBut _ _ c1 (hs₇.extBut _ _ c1 (Heap.get?_push_of_some _ e))
    have nz : h.objs.size ≠ z := Nat.ne_of_gt (Heap.lt_size hz)
    have hT₈ : h₈.get? h.objs.size = some { cls := .type "tuple", data := .seq (colV rows k).toArray } := by
      have : (h.push { cls := .type "tuple", data := .seq (colV rows k).toArray.toList.toArray }).get? h.objs.size = some { cls := .type "tuple", data := .seq (colV rows k).toArray } := by
        rw [Array.toArray_toList]
        exact Heap.get?_push_size _ rfl
      exact hs₈.extBut _ _ nz (hs₇.extBut _ _ nz this)
    refine wpAny_pure ⟨_, rfl, ?_⟩
    show Q (.ref h.objs.size) _
    rw [hsz] at hz₈ hT₈ nz ⊢
    refine hQ h₈ ⟨hz₈, up _ _ D.TIz (keep _ _ D.TIz D.TOI.symm D.TIi Z.hTI), fun i it t r e1 e2 e3 => ?_⟩ hT₈ nz fun c o c1 c2 c3 e => up _ _ c1 (keep c o c1 c2 c3 e)
    obtain ⟨q1, q2⟩ := hi i it t r e1 e2 e3
    rw [if_pos (List.getElem?_eq_some_iff.mp e1).1] at q1
    have mit := List.mem_of_getElem? e1
    obtain ⟨tz1, tz2, tz3⟩ := D.tz t (List.mem_of_getElem? e2)
    exact ⟨q1.at fun o e => up _ o (fun q => D.zi (q ▸ mit)) e, q2.at fun o e => up _ o tz1 e⟩
  · rw [List.take_zero, List.nil_append, Nat.sub_zero]
    exact hs₁.extBut _ _ D.TOz hTO
  · intro i it t r e1 e2 e3
    obtain ⟨q1, q2⟩ := Z.hi i it t r e1 e2 e3
    have mit := List.mem_of_getElem? e1
    obtain ⟨tz1, tz2, tz3⟩ := D.tz t (List.mem_of_getElem? e2)
    rw [if_neg (Nat.not_lt_zero i)]
    exact ⟨q1.at fun o e => hs₁.extBut _ _ (fun q => D.zi (q ▸ mit)) e, q2.at fun o e => hs₁.extBut _ _ tz1 e⟩
/-- next: the tuple given out last is still there -/
theorem zipN_held {z TI TO T : Addr} {f : Bool} {oT : Obj} {its ts : List Addr} {rows : List (Array Value)} {k : Nat} {Q : Value → Shared → Prop} (D : ZAp z TI TO its ts rows) (Z : ZSt s.heap z TI TO (rawInt T) (.bool f) its ts rows k)
    (hT : s.heap.get? T = some oT) (hk : ∀ r ∈ rows, k < r.size)
    (hQ : ∀ h', ZSt h' z TI TO (rawInt T) (.bool true) its ts rows (k + 1) → h'.get? s.heap.objs.size = some { cls := .type "tuple", data := .seq (colV rows k).toArray } → s.heap.objs.size ≠ z →
      (∀ c o, c ≠ z → c ≠ TO → c ∉ its → s.heap.get? c = some o → h'.get? c = some o) → Q (.ref s.heap.objs.size) { s with heap := h' }) :
    wpAny (model prog w) A (Builtin.«zip.__next__» ⟨[.ref z], []⟩) (fun fin s' => ∃ v, fin = .done (.ret v) ∧ Q v s') E s := by
  show wpAny _ _ (field (.ref z) 2 >>= _) _ _ _
  refine wpAny_bind (wpAny_field Z.hz rfl (x := .bool false) rfl ?_)
  show wpAny _ _ (field (.ref z) 3 >>= _) _ _ _
  refine wpAny_bind (wpAny_field Z.hz rfl (x := .ref TI) rfl ?_)
  refine wpAny_bind (wpAny_seqItems Z.hTI rfl ?_)
  have ne : ((its.map Value.ref).toArray.isEmpty) = false := by
    have := D.pos
    cases its with
    | nil => simp at this
    | cons a b => rfl
  simp only [ne]
  show wpAny _ _ (ownedTupleIsFree (.ref z) >>= _) _ _ _
  refine wpAny_bind (wpAny_tupleHeld_zip Z.hz hT fun h₁ hz₁ hs₁ => ?_)
  simp only [Bool.false_eq_true, if_false]
  refine wpAny_bind ?_
  rw [← Array.forIn_toList, List.toList_toArray]
  refine wpAny_forIn_list _ (fun rest b s' => ∃ j h, rest = (its.map Value.ref).drop j ∧ j ≤ its.length ∧ b = (none, ((colV rows k).take j).toArray) ∧ s' = { s with heap := h } ∧ h.objs.size = s.heap.objs.size ∧
      h.get? z = some { cls := .type "zip", dict := none, data := .fields #[rawInt T, .bool true, .bool false, .ref TI, .ref TO], slots := #[] } ∧
      (∀ i it t r, its[i]? = some it → ts[i]? = some t → rows[i]? = some r → h.IsTupleIter it t (if i < j then k + 1 else k) ∧ h.IsTuple t r) ∧ (∀ c o, c ≠ z → c ∉ its → s.heap.get? c = some o → h.get? c = some o)) _ ?_ ?_ _ _ ⟨0, h₁, rfl, Nat.zero_le _, rfl, rfl, hs₁.1, hz₁, ?_, fun c o c1 _ e => hs₁.extBut _ _ c1 e⟩
  · rintro x rest b s' ⟨j, h, hr, hj, rfl, rfl, hsz, hz, hi, keep⟩
    obtain ⟨hx, hr2⟩ := drop_cons hr
    rw [List.getElem?_map] at hx
    obtain ⟨it, hit, rfl⟩ := Option.map_eq_some_iff.mp hx
    have jl : j < its.length := (List.getElem?_eq_some_iff.mp hit).1
    obtain ⟨t, gt⟩ : ∃ t, ts[j]? = some t := ⟨_, List.getElem?_eq_getElem (by rw [D.l1]; exact jl)⟩
    obtain ⟨r, gr⟩ : ∃ r, rows[j]? = some r := ⟨_, List.getElem?_eq_getElem (by rw [D.l2]; exact jl)⟩
    obtain ⟨hI, hTt⟩ := hi j it t r hit gt gr
    rw [if_neg (Nat.lt_irrefl j)] at hI
    have kr := hk r (List.mem_of_getElem? gr)
    have mit := List.mem_of_getElem? hit
    have cj : (colV rows k)[j]? = some r[k] := by
      unfold colV
      rw [List.getElem?_map, gr, Option.map_some, Array.getElem?_eq_getElem kr]
      rfl
    refine wpAny_bind (wpAny_holding ?_)
    show wpAny _ _ (nextOf (.ref it) >>= _) _ _ _
    refine wpAny_bind (wpAny_nextOf_tuple_item (s := { s with heap := h }) hI hTt (Array.getElem?_eq_getElem kr) fun h₂ hI₂ hs₂ => wpAny_pure ?_)
    refine wpAny_pure ⟨j + 1, h₂, hr2, jl, ?_, rfl, hs₂.1.trans hsz, hs₂.extBut z _ (fun q => D.zi (q ▸ mit)) hz, ?_, fun c o c1 c2 e => hs₂.extBut c _ (fun q => c2 (q ▸ mit)) (keep c o c1 c2 e)⟩
    · rw [List.take_succ, cj]
      simp
    · intro i' it' t' r' e1 e2 e3
      have mit' := List.mem_of_getElem? e1
      obtain ⟨tz1', tz2', tz3'⟩ := D.tz t' (List.mem_of_getElem? e2)
      have ht' := (hi i' it' t' r' e1 e2 e3).2.at fun o e => hs₂.extBut _ o (fun q => tz2' (q ▸ mit)) e
      by_cases c : i' = j
      · subst c
        obtain rfl := Option.some.inj (hit.symm.trans e1)
        obtain rfl := Option.some.inj (gt.symm.trans e2)
        rw [if_pos (Nat.lt_succ_self _)]
        exact ⟨hI₂, ht'⟩
      · have ne : it' ≠ it := fun q => c (by
          have h1 := (List.getElem?_eq_some_iff.mp e1)
          have h2 := (List.getElem?_eq_some_iff.mp hit)
          exact (List.getElem_inj D.nd).mp (by rw [h1.2, h2.2, q]))
        have hI' := (hi i' it' t' r' e1 e2 e3).1.at fun o e => hs₂.extBut _ o ne e
        refine ⟨?_, ht'⟩
        by_cases d : i' < j
        · rw [if_pos d] at hI'
          rw [if_pos (Nat.lt_succ_of_lt d)]
          exact hI'
        · rw [if_neg d] at hI'
          rw [if_neg (by omega)]
          exact hI'
  · rintro b s' ⟨j, h, hr, hj, rfl, rfl, hsz, hz, hi, keep⟩
    have := drop_nil hr
    rw [List.length_map] at this
    have ej : j = its.length := by omega
    subst ej
    have cl : (colV rows k).length = its.length := by unfold colV; rw [List.length_map, D.l2]
    rw [List.take_of_length_le (by omega)]
    show wpAny _ _ (newTuple (colV rows k).toArray.toList >>= _) _ _ _
    refine wpAny_bind (wpAny_newTuple ?_ (by rw [List.toList_toArray, cl]; exact Nat.le_trans D.few (by decide)))
    refine wpAny_pure ⟨_, rfl, ?_⟩
    show Q (.ref h.objs.size) _
    have nz : h.objs.size ≠ z := Nat.ne_of_gt (Heap.lt_size hz)
    have hT₈ : (h.push { cls := .type "tuple", data := .seq (colV rows k).toArray.toList.toArray }).get? h.objs.size = some { cls := .type "tuple", data := .seq (colV rows k).toArray } := by
      rw [Array.toArray_toList]
      exact Heap.get?_push_size _ rfl
    rw [hsz] at hT₈ nz ⊢
    refine hQ _ ⟨Heap.get?_push_of_some _ hz, Heap.get?_push_of_some _ (keep _ _ D.TIz D.TIi Z.hTI), fun i it t r e1 e2 e3 => ?_⟩ hT₈ nz fun c o c1 c2 c3 e => Heap.get?_push_of_some _ (keep c o c1 c3 e)
    obtain ⟨q1, q2⟩ := hi i it t r e1 e2 e3
    rw [if_pos (List.getElem?_eq_some_iff.mp e1).1] at q1
    exact ⟨q1.at fun o e => Heap.get?_push_of_some _ e, q2.at fun o e => Heap.get?_push_of_some _ e⟩
  · intro i it t r e1 e2 e3
    obtain ⟨q1, q2⟩ := Z.hi i it t r e1 e2 e3
    have mit := List.mem_of_getElem? e1
    obtain ⟨tz1, tz2, tz3⟩ := D.tz t (List.mem_of_getElem? e2)
    rw [if_neg (Nat.not_lt_zero i)]
    exact ⟨q1.at fun o e => hs₁.extBut _ _ (fun q => D.zi (q ▸ mit)) e, q2.at fun o e => hs₁.extBut _ _ tz1 e⟩
/-- next: the first tuple is at its end -/
theorem zipN_end {z TI TO T : Addr} {f : Bool} {oT : Obj} {its ts : List Addr} {rows : List (Array Value)} {k : Nat} {Q : Fin → Shared → Prop} (hh : A.handled = none) (D : ZAp z TI TO its ts rows) (Z : ZSt s.heap z TI TO (rawInt T) (.bool f) its ts rows k)
    (hT : s.heap.get? T = some oT) (hk : ∀ r ∈ rows, r.size = k)
    (hE : ∀ h' e, (∀ c o, c ≠ z → c ∉ its → s.heap.get? c = some o → h'.get? c = some o) → (∃ o, h'.get? e = some o ∧ o.cls = .type "StopIteration") → E (.ref e) { s with heap := h' }) :
    wpAny (model prog w) A (Builtin.«zip.__next__» ⟨[.ref z], []⟩) Q E s := by
  show wpAny _ _ (field (.ref z) 2 >>= _) _ _ _
  refine wpAny_bind (wpAny_field Z.hz rfl (x := .bool false) rfl ?_)
  show wpAny _ _ (field (.ref z) 3 >>= _) _ _ _
  refine wpAny_bind (wpAny_field Z.hz rfl (x := .ref TI) rfl ?_)
  refine wpAny_bind (wpAny_seqItems Z.hTI rfl ?_)
  have pos := D.pos
  obtain ⟨it, its', e0⟩ : ∃ it its', its = it :: its' := by
    cases its with
    | nil => simp at pos
    | cons a b => exact ⟨a, b, rfl⟩
  have hit : its[0]? = some it := by rw [e0]; rfl
  obtain ⟨t, gt⟩ : ∃ t, ts[0]? = some t := ⟨_, List.getElem?_eq_getElem (by rw [D.l1]; exact pos)⟩
  obtain ⟨r, gr⟩ : ∃ r, rows[0]? = some r := ⟨_, List.getElem?_eq_getElem (by rw [D.l2]; exact pos)⟩
  have ne : ((its.map Value.ref).toArray.isEmpty) = false := by rw [e0]; rfl
  simp only [ne]
  show wpAny _ _ (ownedTupleIsFree (.ref z) >>= _) _ _ _
  refine wpAny_bind (wpAny_tupleHeld_zip Z.hz hT fun h₁ hz₁ hs₁ => ?_)
  simp only [Bool.false_eq_true, if_false]
  refine wpAny_bind ?_
  rw [← Array.forIn_toList, List.toList_toArray]
  have mit := List.mem_of_getElem? hit
  obtain ⟨tz1, tz2, tz3⟩ := D.tz t (List.mem_of_getElem? gt)
  obtain ⟨hI, hTt⟩ := Z.hi 0 it t r hit gt gr
  have out : (r : Array Value)[k]? = none := Array.getElem?_eq_none (by rw [hk r (List.mem_of_getElem? gr)]; exact Nat.le_refl _)
  have e1 : its.map Value.ref = Value.ref it :: its'.map Value.ref := by rw [e0]; rfl
  rw [e1, List.forIn_cons]
  refine wpAny_bind (wpAny_bind (wpAny_holding ?_))
  show wpAny _ _ (nextOf (.ref it) >>= _) _ _ _
  refine wpAny_bind (wpAny_nextOf_tuple_end (s := { s with heap := h₁ }) hh (hI.at fun o e => hs₁.extBut _ _ (fun q => D.zi (q ▸ mit)) e) (hTt.at fun o e => hs₁.extBut _ _ tz1 e) out fun h₂ e hs₂ he => ?_)
  exact hE h₂ e (fun c o c1 c2 x => hs₂ _ _ (fun q => c2 (q ▸ mit)) (hs₁.extBut _ _ c1 x)) he
end
end Wh

namespace Wh
open PySem PySem.Spec PyProof PyProof.Rows L2
open PySem.Builtin PySem.Builtin.SmallTypes
/-! ### list(zip(*t)) -/
theorem zip_no_len : typeLookup (.type "zip") (Str.ofString "__len__") = pure none := am_miss_of_fast (by decide +kernel)
theorem zip_no_hint : typeLookup (.type "zip") (Str.ofString "__length_hint__") = pure none := am_miss_of_fast (by decide +kernel)
theorem ZSt.frame {h h' : Heap} {z TI TO : Addr} {f0 f1 : Value} {its ts : List Addr} {rows : List (Array Value)} {k : Nat} (Z : ZSt h z TI TO f0 f1 its ts rows k) (up : ∀ c o, c = z ∨ c = TI ∨ c ∈ its ∨ c ∈ ts → h.get? c = some o → h'.get? c = some o) : ZSt h' z TI TO f0 f1 its ts rows k :=
  ⟨up _ _ (.inl rfl) Z.hz, up _ _ (.inr (.inl rfl)) Z.hTI, fun j it t r e1 e2 e3 => by
    obtain ⟨q1, q2⟩ := Z.hi j it t r e1 e2 e3
    exact ⟨q1.at fun o e => up _ o (.inr (.inr (.inl (List.mem_of_getElem? e1)))) e, q2.at fun o e => up _ o (.inr (.inr (.inr (List.mem_of_getElem? e2)))) e⟩⟩
/-- i tuples are in the list S -/
structure ZL (b0 : Heap) (S z TO : Addr) (its : List Addr) (rows : List (Array Value)) (i : Nat) (acc : List Addr) (h : Heap) : Prop where
  len : acc.length = i
  nd : acc.Nodup
  new : ∀ T ∈ acc, b0.objs.size ≤ T ∧ T ≠ S ∧ T ≠ z ∧ T ≠ TO ∧ T ∉ its
  at_ : ∀ (j : Nat) (T : Addr), acc[j]? = some T → h.get? T = some { cls := .type "tuple", data := .seq (colV rows j).toArray }
  keep : ∀ b o, b ≠ S → b0.get? b = some o → h.get? b = some o
  lst : ∃ n, h.get? S = some { cls := .type "list", data := .seq (acc.map Value.ref).toArray n }
def ZNow (z TI TO : Addr) (its ts : List Addr) (rows : List (Array Value)) (i : Nat) (acc : List Addr) (h : Heap) : Prop :=
  (i = 0 ∧ ZSt h z TI TO .none (.bool false) its ts rows 0 ∧ h.get? TO = some { cls := .type "tuple", data := .seq (List.replicate its.length Value.none).toArray }) ∨
  (0 < i ∧ ∃ (j : Nat) (T : Addr) (f : Bool), acc[j]? = some T ∧ ZSt h z TI TO (rawInt T) (.bool f) its ts rows i)
section
variable {prog : Program} {w : World} {A : Around} {E : Value → Shared → Prop} {R : Result → Shared → Prop}
theorem zip_loop {b0 : Heap} {S z TI TO : Addr} {its ts : List Addr} {rows : List (Array Value)} {m : Nat} {res : Value} (hh : A.handled = none) (D : ZAp z TI TO its ts rows) (hm : ∀ r ∈ rows, r.size = m) (m0 : 0 < m) (m1000 : m ≤ 1000)
    (Sz : S ≠ z) (ST : S ≠ TI) (SO : S ≠ TO) (Si : S ∉ its) (St : S ∉ ts) (b0z : b0.objs.size ≤ z) (b0O : b0.objs.size ≤ TO) (b0i : ∀ i ∈ its, b0.objs.size ≤ i) :
    ∀ (k i : Nat) (s : Shared) (acc : List Addr), m - i = k → i ≤ m → ZL b0 S z TO its rows i acc s.heap → ZNow z TI TO its ts rows i acc s.heap → b0.objs.size ≤ s.heap.objs.size ∧ TO < s.heap.objs.size →
      (∀ h' acc', ZL b0 S z TO its rows m acc' h' → R (.ok (.ret res)) { s with heap := h' }) →
      codeAny (model prog w) A (.builtin "list.extend.loop" ⟨[.ref S, .ref z, res], []⟩) R s := by
  have old : ∀ {b : Addr} {o : Obj}, b0.get? b = some o → b ≠ z ∧ b ≠ TO ∧ b ∉ its := fun {b o} e => by
    have lt := Heap.lt_size e
    exact ⟨Nat.ne_of_lt (Nat.lt_of_lt_of_le lt b0z), Nat.ne_of_lt (Nat.lt_of_lt_of_le lt b0O), fun q => absurd lt (Nat.not_lt.mpr (b0i _ q))⟩
  intro k
  induction k with
  | zero =>
    intro i s acc hk hi L Nw _ hR
    have e : i = m := by omega
    subst e
    rcases Nw with ⟨e, _⟩ | ⟨_, jT, T, f, hT, Z⟩
    · omega
    have hTy : s.TypeIs (.ref z) "zip" := ⟨_, Z.hz, rfl⟩
    refine codeAny_builtin F.entry_extend_loop ?_
    rw [Around.under_plainId F.plain_extend_loop _]
    show wpAny _ A.in1 (pyNext (.ref z) >>= _) _ _ s
    refine wpAny_bind ?_
    unfold pyNext
    refine wpAny_bind (wpAny_attempt (wpAny_callSpecial?_slot (name := Str.ofString "__next__") hTy F.slot_zip_next
      (wpAny_call_entry F.slot_zip_next hTy F.entry_zip_next (zipN_end (A := _) hh D Z (L.at_ _ _ hT) hm fun h' e hk he => ?_) (F.args_zip_next_1 _))))
    obtain ⟨o, ho, hc⟩ := he
    refine wpAny_bind (wpAny_isInstance (T := "StopIteration") (b := true) ⟨o, ho, hc⟩ isSubtype_stop ?_)
    refine wpAny_pure (wpAny_pure ?_)
    refine hR h' acc ⟨L.len, L.nd, L.new, fun j T e => ?_, fun b o hb e => ?_, ?_⟩
    · obtain ⟨_, _, t3, _, t5⟩ := L.new T (List.mem_of_getElem? e)
      exact hk _ _ t3 t5 (L.at_ j T e)
    · obtain ⟨o1, _, o3⟩ := old e
      exact hk _ _ o1 o3 (L.keep b o hb e)
    · obtain ⟨n, e⟩ := L.lst
      exact ⟨n, hk _ _ Sz Si e⟩
  | succ k ih =>
    intro i s acc hk hi L Nw ⟨bs, bTO⟩ hR
    have hlt : i < m := by omega
    have hkr : ∀ r ∈ rows, i < r.size := fun r hr => by rw [hm r hr]; exact hlt
    have hTy : s.TypeIs (.ref z) "zip" := by
      rcases Nw with ⟨_, Z, _⟩ | ⟨_, jT, T, f, _, Z⟩
      · exact ⟨_, Z.hz, rfl⟩
      · exact ⟨_, Z.hz, rfl⟩
    refine codeAny_builtin F.entry_extend_loop ?_
    rw [Around.under_plainId F.plain_extend_loop _]
    show wpAny _ A.in1 (pyNext (.ref z) >>= _) _ _ s
    refine wpAny_bind ?_
    unfold pyNext
    -- behind next
    have go : ∀ (h' : Heap), (∃ (j : Nat) (T : Addr) (f : Bool), (acc ++ [s.heap.objs.size])[j]? = some T ∧ ZSt h' z TI TO (rawInt T) (.bool f) its ts rows (i + 1)) → h'.get? s.heap.objs.size = some { cls := .type "tuple", data := .seq (colV rows i).toArray } → s.heap.objs.size ≠ z →
        (∀ c o, c ≠ z → c ≠ TO → c ∉ its → s.heap.get? c = some o → h'.get? c = some o) →
        wpAny (model prog w) A.in1 (updateSeq S (·.push (Value.ref s.heap.objs.size)) >>= fun _ => again (.builtin "list.extend.loop" ⟨[.ref S, .ref z, res], []⟩))
          (fun fin s' => match fin with | .done f => R (.ok f) s' | .again c' => c'.quiet = true ∧ codeAny (model prog w) A c' R s') (fun e s' => R (.error e) s') { s with heap := h' } := by
      rintro h' ⟨jT, T, f, eT, Z'⟩ hT nz kp
      obtain ⟨n0, hS0⟩ := L.lst
      have hS : h'.get? S = some { cls := .type "list", data := .seq (acc.map Value.ref).toArray n0 } := kp _ _ Sz SO Si hS0
      have al : acc.length ≤ 1000 := by rw [L.len]; omega
      have Slt := Heap.lt_size hS0
      have TS : s.heap.objs.size ≠ S := Nat.ne_of_gt Slt
      have gi : ∀ i ∈ its, i < s.heap.objs.size := fun it hit => by
        obtain ⟨j, hj, e⟩ := List.mem_iff_getElem.mp hit
        have e1 : its[j]? = some it := by rw [List.getElem?_eq_getElem hj, e]
        obtain ⟨t, e2⟩ : ∃ t, ts[j]? = some t := ⟨_, List.getElem?_eq_getElem (by rw [D.l1]; exact hj)⟩
        obtain ⟨r, e3⟩ : ∃ r, rows[j]? = some r := ⟨_, List.getElem?_eq_getElem (by rw [D.l2]; exact hj)⟩
        rcases Nw with ⟨_, Z, _⟩ | ⟨_, jT, T, f, _, Z⟩
        · obtain ⟨o, e, _⟩ := (Z.hi j it t r e1 e2 e3).1
          exact Heap.lt_size e
        · obtain ⟨o, e, _⟩ := (Z.hi j it t r e1 e2 e3).1
          exact Heap.lt_size e
      refine wpAny_bind (wpAny_updateSeq (s := { s with heap := h' }) hS rfl ?_ (by rw [List.size_toArray, List.length_map]; exact Nat.le_trans al (by decide)) (by rw [Array.size_push, List.size_toArray, List.length_map]; exact Nat.le_trans (show _ ≤ 1001 by omega) (by decide)))
      refine wpAny_pure ⟨plainId_quiet F.plain_extend_loop _, ?_⟩
      have up : ∀ c o, c ≠ S → h'.get? c = some o → (h'.update S (Obj.mapSeq (·.push (Value.ref s.heap.objs.size)))).get? c = some o := fun c o c1 e => (Heap.SameBut.update ..).extBut c _ c1 e
      have hsz : (h'.update S (Obj.mapSeq (·.push (Value.ref s.heap.objs.size)))).objs.size = h'.objs.size := (Heap.SameBut.update ..).1
      have hT' : s.heap.objs.size < h'.objs.size := Heap.lt_size hT
      refine ih (i + 1) { s with heap := h'.update S (Obj.mapSeq (·.push (Value.ref s.heap.objs.size))) } (acc ++ [s.heap.objs.size]) (by omega) hlt ⟨?_, ?_, ?_, ?_, ?_, ?_⟩ (.inr ⟨Nat.succ_pos _, jT, T, f, eT, ?_⟩) ⟨?_, ?_⟩ fun h'' acc' L' => hR h'' acc' L'
      · rw [List.length_append, L.len]
        rfl
      · refine List.nodup_append.mpr ⟨L.nd, List.nodup_cons.mpr ⟨(fun h => by cases h), List.nodup_nil⟩, fun a ha b hb e => ?_⟩
        rw [List.mem_singleton.mp hb] at e
        obtain ⟨j, hj, e2⟩ := List.mem_iff_getElem.mp ha
        have := Heap.lt_size (L.at_ j a (by rw [List.getElem?_eq_getElem hj, e2]))
        exact Nat.ne_of_lt this e
      · intro T hTm
        rcases List.mem_append.mp hTm with q | q
        · exact L.new T q
        · rw [List.mem_singleton.mp q]
          exact ⟨bs, TS, nz, Nat.ne_of_gt bTO, fun q => Nat.lt_irrefl _ (gi _ q)⟩
      · intro j T e
        by_cases c : j < acc.length
        · rw [List.getElem?_append_left c] at e
          obtain ⟨_, t2, t3, t4, t5⟩ := L.new T (List.mem_of_getElem? e)
          exact up _ _ t2 (kp _ _ t3 t4 t5 (L.at_ j T e))
        · rw [List.getElem?_append_right (by omega)] at e
          have ej : j = acc.length := by
            have := (List.getElem?_eq_some_iff.mp e).1
            simp at this
            omega
          rw [ej, Nat.sub_self] at e
          obtain rfl := Option.some.inj e
          rw [ej, L.len]
          exact up _ _ TS hT
      · intro b o hb e
        obtain ⟨o1, o2, o3⟩ := old e
        exact up _ _ hb (kp _ _ o1 o2 o3 (L.keep b o hb e))
      · have e := Heap.get?_update_self (Obj.mapSeq (·.push (Value.ref s.heap.objs.size))) hS rfl
        unfold Obj.mapSeq at e
        simp only [List.push_toArray] at e
        rw [List.map_append]
        exact ⟨_, e⟩
      · refine Z'.frame fun c o hc e => up _ _ ?_ e
        rcases hc with rfl | rfl | hc | hc
        · exact Sz.symm
        · exact ST.symm
        · exact fun q => Si (q ▸ hc)
        · exact fun q => St (q ▸ hc)
      · show b0.objs.size ≤ (h'.update S _).objs.size
        rw [hsz]
        omega
      · show TO < (h'.update S _).objs.size
        rw [hsz]
        exact Nat.lt_trans bTO hT'
    rcases Nw with ⟨e0, Z, hTO⟩ | ⟨_, jT, T, f, hT, Z⟩
    · subst e0
      have e1 : acc = [] := List.length_eq_zero_iff.mp L.len
      exact wpAny_bind (wpAny_attempt (wpAny_callSpecial?_slot (name := Str.ofString "__next__") hTy F.slot_zip_next
        (wpAny_call_entry F.slot_zip_next hTy F.entry_zip_next (zipN_first (A := _) D Z hTO hkr fun h' Z' hT' nz kp => wpAny_pure (go h' ⟨0, _, _, by rw [e1]; rfl, Z'⟩ hT' nz kp)) (F.args_zip_next_1 _))))
    · exact wpAny_bind (wpAny_attempt (wpAny_callSpecial?_slot (name := Str.ofString "__next__") hTy F.slot_zip_next
        (wpAny_call_entry F.slot_zip_next hTy F.entry_zip_next (zipN_held (A := _) D Z (L.at_ _ _ hT) hkr fun h' Z' hT' nz kp => wpAny_pure (go h' ⟨jT, T, _, by rw [List.getElem?_append_left (List.getElem?_eq_some_iff.mp hT).1]; exact hT, Z'⟩ hT' nz kp)) (F.args_zip_next_1 _))))
theorem list_zip {s : Shared} {b0 : Heap} {z TI TO : Addr} {its ts : List Addr} {rows : List (Array Value)} {m : Nat} {Q : Value → Shared → Prop} (hh : A.handled = none) (D : ZAp z TI TO its ts rows) (hm : ∀ r ∈ rows, r.size = m) (m0 : 0 < m) (m1000 : m ≤ 1000)
    (b0z : b0.objs.size ≤ z) (b0O : b0.objs.size ≤ TO) (b0i : ∀ i ∈ its, b0.objs.size ≤ i) (Z : ZSt s.heap z TI TO .none (.bool false) its ts rows 0) (hTO : s.heap.get? TO = some { cls := .type "tuple", data := .seq (List.replicate its.length Value.none).toArray })
    (keep : ∀ b o, b0.get? b = some o → s.heap.get? b = some o) (hb : b0.objs.size ≤ s.heap.objs.size)
    (hQ : ∀ h' acc, ZL b0 s.heap.objs.size z TO its rows m acc h' → Q (.ref s.heap.objs.size) { s with heap := h' }) :
    wpAny (model prog w) A (call (.type "list") [.ref z]) Q E s := by
  refine callType_codes (Q₁ := fun obj s₁ => obj = .ref s.heap.objs.size ∧ s₁ = { s with heap := s.heap.push { cls := .type "list", data := .seq #[] } }) PySem.F.called_list (PySem.F.typeCall_list_1 _) PySem.F.entry_list_init
    (code_list_new _ ⟨rfl, rfl⟩) fun obj s₁ h₁ => ?_
  obtain ⟨rfl, rfl⟩ := h₁
  have hS : (s.heap.push { cls := .type "list", data := .seq #[] }).get? s.heap.objs.size = some { cls := .type "list", data := .seq #[] } := Heap.get?_push_size _ rfl
  refine ⟨⟨_, hS, rfl⟩, PySem.F.args_list_init_2 _ _, ?_⟩
  have Szl := Heap.lt_size Z.hz
  have Sz : s.heap.objs.size ≠ z := Nat.ne_of_gt Szl
  have ST : s.heap.objs.size ≠ TI := Nat.ne_of_gt (Heap.lt_size Z.hTI)
  have SO : s.heap.objs.size ≠ TO := Nat.ne_of_gt (Heap.lt_size hTO)
  have both : ∀ (j : Nat) (it t : Addr), its[j]? = some it → ts[j]? = some t → it < s.heap.objs.size ∧ t < s.heap.objs.size := fun j it t e1 e2 => by
    obtain ⟨r, e3⟩ : ∃ r, rows[j]? = some r := ⟨_, List.getElem?_eq_getElem (by rw [D.l2]; exact (List.getElem?_eq_some_iff.mp e1).1)⟩
    obtain ⟨⟨o, e, _⟩, ⟨o', e', _⟩⟩ := Z.hi j it t r e1 e2 e3
    exact ⟨Heap.lt_size e, Heap.lt_size e'⟩
  have Si : s.heap.objs.size ∉ its := fun hm => by
    obtain ⟨j, hj, e⟩ := List.mem_iff_getElem.mp hm
    obtain ⟨t, e2⟩ : ∃ t, ts[j]? = some t := ⟨_, List.getElem?_eq_getElem (by rw [D.l1]; exact hj)⟩
    exact Nat.lt_irrefl _ (both j _ t (by rw [List.getElem?_eq_getElem hj, e]) e2).1
  have St : s.heap.objs.size ∉ ts := fun hm => by
    obtain ⟨j, hj, e⟩ := List.mem_iff_getElem.mp hm
    obtain ⟨it, e2⟩ : ∃ it, its[j]? = some it := ⟨_, List.getElem?_eq_getElem (by rw [← D.l1]; exact hj)⟩
    exact Nat.lt_irrefl _ (both j it _ e2 (by rw [List.getElem?_eq_getElem hj, e])).2
  show wpAny _ _ (do let old ← Builtin.List.listItems (.ref s.heap.objs.size); Builtin.List.listUpdate (.ref s.heap.objs.size) (fun _ => #[]); PySem.letGo old.toList.reverse; Builtin.List.listExtendWith (.ref s.heap.objs.size) (.ref z) .none) _ _ _
  refine wpAny_bind ?_
  unfold Builtin.List.listItems
  refine wpAny_bind (wpAny_seqItems hS rfl (wpAny_pure ?_))
  show wpAny _ _ (updateSeq s.heap.objs.size (fun _ => #[]) >>= fun _ => PySem.letGo (#[] : Array Value).toList.reverse >>= fun _ => Builtin.List.listExtendWith (.ref s.heap.objs.size) (.ref z) .none) _ _ _
  refine wpAny_bind (wpAny_updateSeq hS rfl ?_)
  have hS₂ := Heap.get?_update_self (Obj.mapSeq (fun _ => (#[] : Array Value))) hS rfl
  refine wpAny_bind (wpAny_letGo ?_)
  have oth : ∀ b o, b ≠ s.heap.objs.size → s.heap.get? b = some o → ((s.heap.push { cls := .type "list", data := .seq #[] }).update s.heap.objs.size (Obj.mapSeq (fun _ => (#[] : Array Value)))).get? b = some o :=
    fun b o hb e => (Heap.get?_update_other _ _ (Ne.symm hb)).trans (Heap.get?_push_of_some _ e)
  generalize hH : (s.heap.push { cls := .type "list", data := .seq #[] }).update s.heap.objs.size (Obj.mapSeq (fun _ => (#[] : Array Value))) = h2 at hS₂ oth ⊢
  have sz2 : h2.objs.size = s.heap.objs.size + 1 := by rw [← hH, (Heap.SameBut.update ..).1, Heap.size_push]
  have Z2 : ZSt h2 z TI TO .none (.bool false) its ts rows 0 := Z.frame fun c o hc e => oth c o (fun q => by
    subst q
    rcases hc with q | q | q | q
    · exact Sz q
    · exact ST q
    · exact Si q
    · exact St q) e
  have hTy : ({ s with heap := h2 } : Shared).TypeIs (.ref z) "zip" := ⟨_, Z2.hz, rfl⟩
  have h1 : Builtin.List.listSameRef (.ref s.heap.objs.size) (.ref z) = false := by simp [Builtin.List.listSameRef, Sz]
  have h3 : (Value.type "zip" == Value.type "list") = false := by decide
  have h4 : (Value.type "zip" == Value.type "tuple") = false := by decide
  unfold Builtin.List.listExtendWith
  refine wpAny_bind (wpAny_typeOf hTy ?_)
  simp only [h1, h3, h4, Bool.or_false, Bool.false_eq_true, if_false]
  refine wpAny_bind (wpAny_pyIter_zip (s := { s with heap := h2 }) Z2.hz ?_)
  refine wpAny_bind (wpAny_holding ?_)
  unfold Builtin.List.listLengthHint
  refine wpAny_bind (wpAny_specialOf hTy zip_no_len ?_)
  show wpAny _ _ (specialOf (Value.ref z) (Str.ofString "__length_hint__") >>= _) _ _ _
  refine wpAny_bind (wpAny_specialOf hTy zip_no_hint ?_)
  refine wpAny_pure ?_
  show wpAny _ _ (rule "list.extend.makes-room" >>= fun _ => Builtin.List.listTouch (.ref s.heap.objs.size) >>= fun _ => again (.builtin "list.extend.loop" ⟨[.ref s.heap.objs.size, .ref z, .none], []⟩)) _ _ _
  refine wpAny_bind (wpAny_rule ?_)
  refine wpAny_bind ?_
  show wpAny _ _ (updateSeq s.heap.objs.size (·.push .none) >>= fun _ => updateSeq s.heap.objs.size (·.pop)) _ _ _
  refine wpAny_bind (wpAny_updateSeq (s := { s with heap := h2 }) hS₂ rfl ?_)
  have hS₃ := Heap.get?_update_self (Obj.mapSeq (·.push Value.none)) hS₂ rfl
  refine wpAny_updateSeq (hz := by seq_fits) hS₃ rfl ?_
  have hS₄ := Heap.get?_update_self (Obj.mapSeq (·.pop)) hS₃ rfl
  have oth4 : ∀ b o, b ≠ s.heap.objs.size → h2.get? b = some o → ((h2.update s.heap.objs.size (Obj.mapSeq (·.push Value.none))).update s.heap.objs.size (Obj.mapSeq (·.pop))).get? b = some o :=
    fun b o hb e => (Heap.get?_update_other _ _ (Ne.symm hb)).trans ((Heap.get?_update_other _ _ (Ne.symm hb)).trans e)
  generalize hH4 : (h2.update s.heap.objs.size (Obj.mapSeq (·.push Value.none))).update s.heap.objs.size (Obj.mapSeq (·.pop)) = h5 at hS₄ oth4 ⊢
  have sz5 : h5.objs.size = s.heap.objs.size + 1 := by rw [← hH4, (Heap.SameBut.update ..).1, (Heap.SameBut.update ..).1, sz2]
  have L0 : ZL b0 s.heap.objs.size z TO its rows 0 [] h5 := ⟨rfl, List.nodup_nil, (fun T h => by cases h), (fun j T h => by cases h), fun b o hb e => oth4 _ _ hb (oth _ _ hb (keep b o e)), ⟨_, hS₄⟩⟩
  refine wpAny_pure ⟨plainId_quiet F.plain_extend_loop _, zip_loop (A := A.in1) (b0 := b0) (show A.in1.handled = none from hh) D hm m0 m1000 Sz ST SO Si St b0z b0O b0i m 0 { s with heap := h5 } [] rfl (Nat.zero_le _) L0 (.inl ⟨rfl, Z2.frame fun c o hc e => oth4 c o (fun q => ?_) e, ?_⟩) ⟨?_, ?_⟩ fun h' acc' L => ⟨rfl, hQ h' acc' L⟩⟩
  · subst q
    rcases hc with q | q | q | q
    · exact Sz q
    · exact ST q
    · exact Si q
    · exact St q
  · exact oth4 _ _ SO.symm (oth _ _ SO.symm hTO)
  · show b0.objs.size ≤ h5.objs.size
    omega
  · show TO < h5.objs.size
    have := Heap.lt_size hTO
    rw [sz5]
    exact Nat.lt_succ_of_lt this
end
end Wh

namespace Wh
open PySem PySem.Spec PyProof PyProof.Rows L2 StX
/-! ### list(zip(*t)), t a tuple of tuples of one length -/
theorem callWith_typeS {M : Model} {A : Around} {E : Value → Shared → Prop} {s : Shared} {env : Env} {pos p : Pos} {T : String} {e : Expr} {Q : Value → Shared → Prop}
    (h : wpAny M A (eval e env) (fun v s₁ => PySem.W.StarOf M A E v (fun vs s₂ => wpAny M A (call (.type T) vs) Q E s₂) s₁) E s) (he : starEach [.Starred e p] env = [(true, eval e env)] := by rfl) :
    wpAny M A (callWith pos (.type T) [] (backTo pos (starEach [.Starred e p] env)) []) Q E s := by
  rw [he]
  refine PySem.W.ks_call (P := fun _ => True) rfl (fun h _ => ⟨.machine, .inr (.inl rfl), .now⟩) (PySem.W.ks_lone ?_)
  refine wpAny_mono h (fun v s₁ h₁ => ?_) fun _ _ x => x
  unfold PySem.W.StarOf at h₁ ⊢
  exact wpAny_mono h₁ (fun b s₂ h₂ => ⟨h₂.1, wpAny_mono h₂.2 (fun vs s₃ h₃ => ⟨trivial, h₃⟩) fun _ _ x => x⟩) fun _ _ x => x
def colX (rs : List (Addr × List V)) (k : Nat) : List V := rs.map fun p => (p.2[k]?).getD .non
def tLzs (K : PySem.W.Frag) (te : TE) : TE := fun σ H Q => te σ H fun x H1 => ∃ (t : Addr) (rs : List (Addr × List V)) (m : Nat), x = V.ref t ∧ SqT K H1 t (refs rs) ∧ (∀ p ∈ rs, H1 p.1 = some (.tup p.2) ∧ p.2.length = m) ∧ 0 < rs.length ∧ rs.length ≤ 10 ∧ 0 < m ∧ m ≤ 1000 ∧
  ∀ (D : Addr) (qs : List (Addr × List V)) (H2 : Hp), Same H1 H2 → H1 D = none → H2 D = some (.lst (refs qs)) → At id H2 qs → qs.map (·.2) = (List.range m).map (colX rs) → Q (.ref D) H2
theorem refs_vals {α : Type} : ∀ {ps : List (Addr × α)} {us : List Value}, Vals (refs ps) us → us = (ps.map (·.1)).map Value.ref
  | [], us, r => by
    cases r
    rfl
  | p :: ps, us, r => by
    cases r with
    | cons r1 r2 =>
      cases r1
      rw [refs_vals r2]
      rfl
theorem each_list {α β : Type} {P : α → β → Prop} : ∀ l : List α, (∀ p ∈ l, ∃ r, P p r) → ∃ rs : List β, rs.length = l.length ∧ ∀ (j : Nat) (p : α) (r : β), l[j]? = some p → rs[j]? = some r → P p r
  | [], _ => ⟨[], rfl, fun j p r h => by cases h⟩
  | x :: l, h => by
    obtain ⟨r, hr⟩ := h x List.mem_cons_self
    obtain ⟨rs, h1, h2⟩ := each_list l fun p hp => h p (List.mem_cons_of_mem _ hp)
    refine ⟨r :: rs, by rw [List.length_cons, List.length_cons, h1], fun j p q e1 e2 => ?_⟩
    match j with
    | 0 =>
      obtain rfl := Option.some.inj e1
      obtain rfl := Option.some.inj e2
      exact hr
    | j + 1 => exact h2 j p q e1 e2
theorem vals_getD : ∀ {xs : List V} {us : List Value} (k : Nat), Vals xs us → RelV ((xs[k]?).getD .non) ((us[k]?).getD .none)
  | [], us, k, r => by
    cases r
    exact rfl
  | x :: xs, us, k, r => by
    cases r with
    | cons r1 r2 =>
      match k with
      | 0 => exact r1
      | k + 1 => exact vals_getD k r2
theorem vals_cols : ∀ {rs : List (Addr × List V)} {rows : List (Array Value)} (k : Nat), rows.length = rs.length → (∀ (j : Nat) (p : Addr × List V) (r : Array Value), rs[j]? = some p → rows[j]? = some r → Vals p.2 r.toList) → Vals (colX rs k) (colV rows k)
  | [], [], k, _, _ => .nil
  | [], _ :: _, k, h, _ => by cases h
  | _ :: _, [], k, h, _ => by cases h
  | p :: rs, r :: rows, k, h, hr => by
    refine .cons ?_ (vals_cols k (Nat.succ.inj h) fun j p' r' e1 e2 => hr (j + 1) p' r' e1 e2)
    have := vals_getD k (hr 0 p r rfl rfl)
    rw [Array.getElem?_toList] at this
    exact this
theorem vals_addrs : ∀ {α : Type} {qs : List (Addr × α)}, Vals (refs qs) ((qs.map (·.1)).map Value.ref)
  | _, [] => .nil
  | _, q :: qs => .cons rfl vals_addrs
set_option maxHeartbeats 1000000 in
theorem pe_lzs {X : Cx} (K : PySem.W.Frag) (k : X.K = K) {a : Expr} {ta : TE} {p p2 p3 q pos : Pos} (calm : X.calm = true) (g1 : Gl X "list") (m1 : X.mg "list" = none) (g2 : Gl X "zip") (m2 : X.mg "zip" = none) (ha : PE X a ta)
    (one : starEach [.Call (.Name "zip" p2) [.Starred a p3] [] q] X.env = (false, eval (.Call (.Name "zip" p2) [.Starred a p3] [] q) X.env) :: starEach [] X.env := by rfl)
    (st : starEach [.Starred a p3] X.env = [(true, eval a X.env)] := by rfl) : PE X (.Call (.Name "list" p) [.Call (.Name "zip" p2) [.Starred a p3] [] q] [] pos) (tLzs K ta) := by
  subst k
  constructor
  intro pins s σ H Q I h
  refine Call_ (ld_blt I g1 m1 PyProof.Rows.boot_list (PyProof.Rows.callWith_type1 (PyProof.Rows.args_cons ?_ one) one rfl))
  refine Call_ (ld_blt I g2 m2 PyProof.Rows.boot_zip (callWith_typeS (thn (ha.run pins s σ H _ I h) ?_) st))
  rintro v s1 ⟨x, H1, J, rx, t, rs, m, rfl, ht, hrs, pos, few, m0, m1000, want⟩
  cases rx
  refine star_any J (.inl ht) fun us s2 J2 rv => ?_
  obtain rfl := refs_vals rv
  have hh : X.A.handled = none := J2.ok.hd calm
  obtain ⟨rows, hl, hrow⟩ := each_list (P := fun (p : Addr × List V) (r : Array Value) => Vals p.2 r.toList ∧ s2.heap.IsTuple p.1 r) rs fun p hp => by
    obtain ⟨its, r, pl, _⟩ := J2.tuple (SqT.of (hrs p hp).1)
    exact ⟨its.toArray, by rw [List.toList_toArray]; exact r, pl⟩
  have hm : ∀ r ∈ rows, r.size = m := fun r hr => by
    obtain ⟨j, hj, rfl⟩ := List.mem_iff_getElem.mp hr
    obtain ⟨p, e1⟩ : ∃ p, rs[j]? = some p := ⟨_, List.getElem?_eq_getElem (by omega)⟩
    have v := (hrow j _ _ e1 (List.getElem?_eq_getElem hj)).1.length
    rw [Array.length_toList] at v
    exact v.symm.trans (hrs _ (List.mem_of_getElem? e1)).2
  refine call_zipN (ts := rs.map (·.1)) (rows := rows) (by rw [List.length_map, hl]) (by rw [List.length_map]; exact pos) (by rw [List.length_map]; exact few) (fun j t r e1 e2 => ?_) fun h1 z TI TO its ap st hTO hz hTO2 hits kp => ?_
  · rw [List.getElem?_map] at e1
    obtain ⟨p, e3, rfl⟩ := Option.map_eq_some_iff.mp e1
    exact (hrow j p r e3 e2).2
  have il : its.length = (rs.map (·.1)).length := ap.l1.symm
  rw [← il] at hTO
  have sz1 : s2.heap.objs.size ≤ h1.objs.size := Nat.le_of_lt (Nat.lt_of_le_of_lt hz (Heap.lt_size st.hz))
  refine PyProof.Rows.args_nil (list_zip (s := { s2 with heap := h1 }) (b0 := s2.heap) hh ap hm m0 m1000 hz hTO2 hits st hTO kp sz1 fun h2 acc L => ?_)
  have ll : acc.length = m := L.len
  let qs : List (Addr × List V) := acc.mapIdx fun (k : Nat) (T : Addr) => (T, colX rs k)
  have q1 : qs.map (·.1) = acc := by
    apply List.ext_getElem
    · simp [qs]
    · intro i h1 h2
      simp [qs]
  have q2 : qs.map (·.2) = (List.range m).map (colX rs) := by
    apply List.ext_getElem
    · simp [qs, ll]
    · intro i h1 h2
      simp [qs]
  have qget : ∀ (k : Nat) (T : Addr), acc[k]? = some T → qs[k]? = some (T, colX rs k) := fun k T e => by
    simp [qs, e]
  obtain ⟨nS, eS⟩ := L.lst
  have Sb : s2.heap.objs.size ≤ h1.objs.size := sz1
  have keepAll : ∀ b o, s2.heap.get? b = some o → h2.get? b = some o := fun b o e => L.keep b o (Nat.ne_of_lt (Nat.lt_of_lt_of_le (Heap.lt_size e) sz1)) e
  have nS0 : H1 h1.objs.size = none := J2.hok.fresh sz1
  have I1 : Inv X pins σ (upd H1 h1.objs.size (.lst (refs qs))) { s2 with heap := h2, toks := s2.toks } := by
    refine J2.laid (t' := s2.toks) keepAll sz1 ⟨?_, acc.map Value.ref, nS, ?_, eS⟩
    · rw [refs_len]
      simp only [qs, List.length_mapIdx, ll]
      exact Nat.le_trans m1000 (by decide)
    · have := vals_addrs (qs := qs)
      rwa [q1] at this
  have colL : ∀ k, (colX rs k).length ≤ sizeLine := fun k => by
    unfold colX
    rw [List.length_map]
    exact Nat.le_trans few (by decide)
  obtain ⟨H2, I2, old, new⟩ := L2.DX.takeT (P := fun a vs => ∃ k : Nat, acc[k]? = some a ∧ vs = colX rs k) J2 acc _ I1 L.nd fun a ha => by
    obtain ⟨n1, n2, _⟩ := L.new a ha
    obtain ⟨k, hk, e⟩ := List.mem_iff_getElem.mp ha
    have ek : acc[k]? = some a := by rw [List.getElem?_eq_getElem hk, e]
    refine ⟨n1, (upd_ne n2).trans (J2.hok.fresh n1), colX rs k, ⟨k, ek, rfl⟩, fun H2 => ⟨colL k, colV rows k, vals_cols k hl fun j p r e1 e2 => (hrow j p r e1 e2).1, ?_⟩⟩
    exact ⟨_, L.at_ k a ek, rfl, _, rfl⟩
  refine ⟨.ref h1.objs.size, H2, I2, rfl, want h1.objs.size qs H2 (fun b o e => old b o ((upd_ne (ne_of_none e nS0)).trans e)) nS0 (old _ _ upd_same) (fun q hq => ?_) q2⟩
  obtain ⟨k, hk, e⟩ := List.mem_iff_getElem.mp hq
  have hk2 : k < acc.length := by simpa [qs] using hk
  have ek : acc[k]? = some acc[k] := List.getElem?_eq_getElem hk2
  have eq : q = (acc[k], colX rs k) := by
    have := qget k _ ek
    rw [List.getElem?_eq_getElem hk, e] at this
    exact Option.some.inj this
  subst eq
  obtain ⟨vs, ⟨k', e', rfl⟩, hv⟩ := new acc[k] (List.getElem_mem hk2)
  have kk : k' = k := by
    have h1 := List.getElem?_eq_some_iff.mp e'
    exact (List.getElem_inj L.nd).mp h1.2
  subst kk
  exact hv
end Wh

namespace Wh
open PySem L2
/-! ### the web with its marks exchanged: all ways lead back -/
def xch (t : Tie) : Tie := ⟨t.a, t.o, t.b, t.m⟩
def srtP (ts : List Tie) : List Tie := ts.mergeSort fun x y => prLe x.pr y.pr
/-- the ties of the way back, in the order of the pairs -/
def bkT (ts : List Tie) : List Tie := (srtP ts).map xch
theorem srtP_perm (ts : List Tie) : (srtP ts).Perm ts := List.mergeSort_perm ..
theorem prLe_lt {x y : Pr} (h : prLe x y = true) (ne : x ≠ y) : PrLt x y := by
  have h := prLe_iff.mp h
  unfold PrLt
  rcases h with h | ⟨h1, h2⟩
  · exact .inl h
  · refine .inr ⟨h1, ?_⟩
    rcases Nat.lt_or_eq_of_le h2 with z | z
    · exact z
    · exact absurd (Prod.ext h1 z) ne
theorem srtP_srt {n : Nat} {ts : List Tie} (w : WebOk n ts) : ((srtP ts).map Tie.pr).Pairwise PrLt := by
  have s : (srtP ts).Pairwise fun x y => prLe x.pr y.pr = true := List.pairwise_mergeSort (fun a b c => prLe_trans a.pr b.pr c.pr) (fun a b => prLe_total a.pr b.pr) ts
  have nd : ((srtP ts).map Tie.pr).Nodup := ((srtP_perm ts).map Tie.pr).nodup_iff.mpr w.pnd
  refine List.pairwise_map.mpr ?_
  have nd2 : (srtP ts).Pairwise fun x y => x.pr ≠ y.pr := List.pairwise_map.mp nd
  exact (s.and nd2).imp fun h => prLe_lt h.1 h.2
theorem mem_doorsAt {h m k : Nat} {ts : List Tie} : (m, k) ∈ doorsAt h ts ↔ ∃ t ∈ ts, (t.a = h ∧ t.m = m ∧ t.b = k) ∨ (t.b = h ∧ t.o = m ∧ t.a = k) := by
  unfold doorsAt endsD
  rw [List.mem_flatMap]
  constructor
  · rintro ⟨t, ht, hm⟩
    refine ⟨t, ht, ?_⟩
    rcases List.mem_append.mp hm with z | z
    · by_cases c : t.a = h
      · rw [if_pos c] at z
        have := List.mem_singleton.mp z
        injection this with e1 e2
        exact .inl ⟨c, e1.symm, e2.symm⟩
      · rw [if_neg c] at z
        cases z
    · by_cases c : t.b = h
      · rw [if_pos c] at z
        have := List.mem_singleton.mp z
        injection this with e1 e2
        exact .inr ⟨c, e1.symm, e2.symm⟩
      · rw [if_neg c] at z
        cases z
  · rintro ⟨t, ht, ⟨c, rfl, rfl⟩ | ⟨c, rfl, rfl⟩⟩
    · exact ⟨t, ht, List.mem_append.mpr (.inl (by rw [if_pos c]; exact List.mem_singleton.mpr rfl))⟩
    · exact ⟨t, ht, List.mem_append.mpr (.inr (by rw [if_pos c]; exact List.mem_singleton.mpr rfl))⟩
theorem mem_bk {ts : List Tie} {h e m : Nat} : (m, h) ∈ doorsAt e (bkT ts) ↔ (m, e) ∈ doorsAt h ts := by
  rw [mem_doorsAt, mem_doorsAt]
  unfold bkT
  constructor
  · rintro ⟨t, ht, z⟩
    obtain ⟨u, hu, rfl⟩ := List.mem_map.mp ht
    refine ⟨u, (srtP_perm ts).mem_iff.mp hu, ?_⟩
    rcases z with ⟨z1, z2, z3⟩ | ⟨z1, z2, z3⟩
    · exact .inr ⟨z3, z2, z1⟩
    · exact .inl ⟨z3, z2, z1⟩
  · rintro ⟨t, ht, z⟩
    refine ⟨xch t, List.mem_map_of_mem ((srtP_perm ts).mem_iff.mpr ht), ?_⟩
    rcases z with ⟨z1, z2, z3⟩ | ⟨z1, z2, z3⟩
    · exact .inr ⟨z3, z2, z1⟩
    · exact .inl ⟨z3, z2, z1⟩
theorem bk_asc {e : Nat} : ∀ {us : List Tie}, (∀ t ∈ us, t.a < t.b) → (us.map Tie.pr).Pairwise PrLt → (doorsAt e us).Pairwise fun x y => x.2 < y.2
  | [], _, _ => List.Pairwise.nil
  | t :: us, lt, s => by
    rw [List.map_cons, List.pairwise_cons] at s
    have ih := bk_asc (e := e) (fun t h => lt t (List.mem_cons_of_mem _ h)) s.2
    have l1 := lt t List.mem_cons_self
    show (endsD e t ++ doorsAt e us).Pairwise _
    refine List.pairwise_append.mpr ⟨?_, ih, ?_⟩
    · unfold endsD
      by_cases c1 : t.a = e
      · rw [if_pos c1, if_neg (by omega), List.append_nil]
        exact List.pairwise_singleton ..
      · rw [if_neg c1, List.nil_append]
        split
        · exact List.pairwise_singleton ..
        · exact List.Pairwise.nil
    · rintro ⟨m, k⟩ hx ⟨m', k'⟩ hy
      show k < k'
      have hx : (m, k) ∈ doorsAt e [t] := by
        unfold doorsAt
        rw [List.flatMap_singleton]
        exact hx
      obtain ⟨u, hu, z⟩ := mem_doorsAt.mp hx
      have eu := List.mem_singleton.mp hu
      subst eu
      obtain ⟨v, hv, z'⟩ := mem_doorsAt.mp hy
      have l2 := lt v (List.mem_cons_of_mem _ hv)
      have p := s.1 v.pr (List.mem_map_of_mem hv)
      unfold PrLt Tie.pr at p
      simp only at p
      rcases z with ⟨z1, _, z3⟩ | ⟨z1, _, z3⟩ <;> rcases z' with ⟨y1, _, y3⟩ | ⟨y1, _, y3⟩ <;> omega
theorem bkT_lt {n : Nat} {ts : List Tie} (w : WebOk n ts) : ∀ t ∈ bkT ts, t.a < t.b ∧ t.b < n := fun t ht => by
  obtain ⟨u, hu, rfl⟩ := List.mem_map.mp ht
  exact w.lt u ((srtP_perm ts).mem_iff.mp hu)
theorem bkT_pr (ts : List Tie) : (bkT ts).map Tie.pr = (srtP ts).map Tie.pr := by
  unfold bkT
  rw [List.map_map]
  rfl
theorem bk_asc2 {n : Nat} {ts : List Tie} (w : WebOk n ts) (e : Nat) : (doorsAt e (bkT ts)).Pairwise fun x y => x.2 < y.2 :=
  bk_asc (fun t h => (bkT_lt w t h).1) (by rw [bkT_pr]; exact srtP_srt w)
/-- a web again where no mark leads two houses to one -/
theorem bkT_ok {n : Nat} {ts : List Tie} (w : WebOk n ts) (u : ∀ e, e < n → ((doorsAt e (bkT ts)).map (·.1)).Nodup) : WebOk n (bkT ts) := by
  refine ⟨w.n2, w.n10, bkT_lt w, fun S s0 cl => w.hang S s0 fun t ht => ?_, ?_, fun t ht => ?_, fun h => ?_, ?_⟩
  · exact cl (xch t) (List.mem_map_of_mem ((srtP_perm ts).mem_iff.mpr ht))
  · rw [bkT_pr]
    exact ((srtP_perm ts).map Tie.pr).nodup_iff.mpr w.pnd
  · obtain ⟨v, hv, rfl⟩ := List.mem_map.mp ht
    obtain ⟨l1, l2⟩ := w.let_ v ((srtP_perm ts).mem_iff.mp hv)
    exact ⟨l2, l1⟩
  · by_cases c : h < n
    · rw [← doorsAt_fst]
      exact u h c
    · have : marksAt h (bkT ts) = [] := by
        cases q : marksAt h (bkT ts) with
        | nil => rfl
        | cons m l =>
          have hm : m ∈ (doorsAt h (bkT ts)).map (·.1) := by rw [doorsAt_fst, q]; exact List.mem_cons_self
          obtain ⟨⟨m', k⟩, hk, _⟩ := List.mem_map.mp hm
          obtain ⟨t, ht, z⟩ := mem_doorsAt.mp hk
          have := bkT_lt w t ht
          exact absurd (show h < n by rcases z with ⟨z, _⟩ | ⟨z, _⟩ <;> omega) c
      rw [this]
      exact List.nodup_nil
  · unfold bkT
    rw [List.length_map, (srtP_perm ts).length_eq]
    exact w.len
theorem door_mem_iff {n h m k : Nat} {ts : List Tie} (w : WebOk n ts) : door h m ts = some k ↔ (m, k) ∈ doorsAt h ts := ⟨door_mem, door_of (w.uniq h)⟩
theorem door_back {n : Nat} {ts : List Tie} (w : WebOk n ts) (w' : WebOk n (bkT ts)) {h m e : Nat} : door e m (bkT ts) = some h ↔ door h m ts = some e := by
  rw [door_mem_iff w', door_mem_iff w, mem_bk]
theorem step2_back {n : Nat} {ts : List Tie} (w : WebOk n ts) (w' : WebOk n (bkT ts)) {p q : Pr} {m : Nat} : step2 (bkT ts) q m = some p ↔ step2 ts p m = some q := by
  rw [step2_some, step2_some, door_back w w', door_back w w']
theorem walk2_back {n : Nat} {ts : List Tie} (w : WebOk n ts) (w' : WebOk n (bkT ts)) : ∀ (ms : List Nat) {p q : Pr}, walk2 ts p ms = some q → walk2 (bkT ts) q ms.reverse = some p
  | [], p, q, h => by
    obtain rfl := Option.some.inj h
    rfl
  | m :: ms, p, q, h => by
    have h : (step2 ts p m).bind (fun r => walk2 ts r ms) = some q := h
    obtain ⟨r, h1, h2⟩ := Option.bind_eq_some_iff.mp h
    rw [List.reverse_cons]
    exact walk2_snoc (walk2_back w w' ms h2) ((step2_back w w').mpr h1)
theorem walk2_back' {n : Nat} {ts : List Tie} (w : WebOk n ts) (w' : WebOk n (bkT ts)) : ∀ (ms : List Nat) {p q : Pr}, walk2 (bkT ts) p ms = some q → walk2 ts q ms.reverse = some p
  | [], p, q, h => by
    obtain rfl := Option.some.inj h
    rfl
  | m :: ms, p, q, h => by
    have h : (step2 (bkT ts) p m).bind (fun r => walk2 (bkT ts) r ms) = some q := h
    obtain ⟨r, h1, h2⟩ := Option.bind_eq_some_iff.mp h
    rw [List.reverse_cons]
    exact walk2_snoc (walk2_back' w w' ms h2) ((step2_back w w').mp h1)
def sw (p : Pr) : Pr := (p.2, p.1)
theorem sw_sw (p : Pr) : sw (sw p) = p := rfl
theorem sw_in {n : Nat} {p : Pr} : InN n (sw p) ↔ InN n p := ⟨fun h => ⟨h.2, h.1⟩, fun h => ⟨h.2, h.1⟩⟩
theorem link_back {n : Nat} {ts : List Tie} (w : WebOk n ts) (w' : WebOk n (bkT ts)) {p q : Pr} : LinkR (bkT ts) (sw p) (sw q) ↔ LinkR ts p q := by
  constructor
  · rintro ⟨u, ne, h⟩
    exact ⟨u.reverse, by simpa using ne, walk2_back' w w' u h⟩
  · rintro ⟨u, ne, h⟩
    exact ⟨u.reverse, by simpa using ne, walk2_back w w' u h⟩
theorem cl_back1 {n : Nat} {ts : List Tie} (w : WebOk n ts) (w' : WebOk n (bkT ts)) {p q : Pr} (h : Cl n (bkT ts) p q) : Cl n ts (sw p) (sw q) := by
  induction h with
  | refl p => exact .refl _
  | step h1 h2 l => exact .step (sw_in.mpr h1) (sw_in.mpr h2) ((link_back w w').mp l)
  | symm _ ih => exact .symm ih
  | trans _ _ i1 i2 => exact .trans i1 i2
theorem cl_back2 {n : Nat} {ts : List Tie} (w : WebOk n ts) (w' : WebOk n (bkT ts)) {p q : Pr} (h : Cl n ts p q) : Cl n (bkT ts) (sw p) (sw q) := by
  induction h with
  | refl p => exact .refl _
  | step h1 h2 l => exact .step (sw_in.mpr h1) (sw_in.mpr h2) ((link_back w w').mpr l)
  | symm _ ih => exact .symm ih
  | trans _ _ i1 i2 => exact .trans i1 i2
theorem cl_back {n : Nat} {ts : List Tie} (w : WebOk n ts) (w' : WebOk n (bkT ts)) {p q : Pr} : Cl n (bkT ts) (sw p) (sw q) ↔ Cl n ts p q := ⟨fun h => cl_back1 w w' h, cl_back2 w w'⟩
/-- bound behind -/
inductive Bh (n : Nat) (ts : List Tie) : Pr → Pr → Prop
  | cl {p q : Pr} : Cl n ts p q → Bh n ts p q
  | step {x y u v z w m : Nat} : Bh n ts (x, y) (u, v) → door y m ts = some z → door v m ts = some w → Bh n ts (x, z) (u, w)
  | symm {p q : Pr} : Bh n ts p q → Bh n ts q p
  | trans {p q r : Pr} : Bh n ts p q → Bh n ts q r → Bh n ts p r
theorem bh_back1 {n : Nat} {ts : List Tie} (w : WebOk n ts) (w' : WebOk n (bkT ts)) {p q : Pr} (h : Wd n (bkT ts) p q) : Bh n ts (sw p) (sw q) := by
  induction h with
  | cl c => exact .cl (cl_back1 w w' c)
  | step _ h1 h2 ih => exact .step ih ((door_back w w').mp h1) ((door_back w w').mp h2)
  | symm _ ih => exact .symm ih
  | trans _ _ i1 i2 => exact .trans i1 i2
theorem bh_back2 {n : Nat} {ts : List Tie} (w : WebOk n ts) (w' : WebOk n (bkT ts)) {p q : Pr} (h : Bh n ts p q) : Wd n (bkT ts) (sw p) (sw q) := by
  induction h with
  | cl c => exact .cl (cl_back2 w w' c)
  | step _ h1 h2 ih => exact .step ih ((door_back w w').mpr h1) ((door_back w w').mpr h2)
  | symm _ ih => exact .symm ih
  | trans _ _ i1 i2 => exact .trans i1 i2
theorem bh_back {n : Nat} {ts : List Tie} (w : WebOk n ts) (w' : WebOk n (bkT ts)) {p q : Pr} : Wd n (bkT ts) (sw p) (sw q) ↔ Bh n ts p q := ⟨fun h => bh_back1 w w' h, bh_back2 w w'⟩
def UnfairE (n : Nat) (R : Pr → Pr → Prop) : Prop := ∃ a b c, InN n (a, c) ∧ InN n (b, c) ∧ a ≠ b ∧ R (a, c) (b, c)
theorem unfairE_sw {n : Nat} {R R' : Pr → Pr → Prop} (h : ∀ p q, R' (sw p) (sw q) ↔ R p q) : UnfairR n R' ↔ UnfairE n R := by
  constructor
  · rintro ⟨a, b, c, h1, h2, ne, r⟩
    exact ⟨b, c, a, ⟨h1.2, h1.1⟩, ⟨h2.2, h2.1⟩, ne, (h (b, a) (c, a)).mp r⟩
  · rintro ⟨a, b, c, h1, h2, ne, r⟩
    exact ⟨c, a, b, ⟨h1.2, h1.1⟩, ⟨h2.2, h2.1⟩, ne, (h (a, c) (b, c)).mpr r⟩
theorem UnfairE.mono {n : Nat} {R R' : Pr → Pr → Prop} (u : UnfairE n R) (h : ∀ p q, InN n p → InN n q → R p q → R' p q) : UnfairE n R' := by
  obtain ⟨a, b, c, h1, h2, ne, r⟩ := u
  exact ⟨a, b, c, h1, h2, ne, h _ _ h1 h2 r⟩
/-- one mark leads two houses to one -/
def Meet (n : Nat) (ts : List Tie) : Prop := ∃ x y m e, x ≠ y ∧ door x m ts = some e ∧ door y m ts = some e
theorem Meet.unfair {n : Nat} {ts : List Tie} (w : WebOk n ts) (h : Meet n ts) : UnfairE n (Cl n ts) := by
  obtain ⟨x, y, m, e, ne, h1, h2⟩ := h
  have i1 : InN n (x, e) := ⟨door_here w h1, door_lt w h1⟩
  have i2 : InN n (y, e) := ⟨door_here w h2, door_lt w h2⟩
  refine ⟨x, y, e, i1, i2, ne, .step i1 i2 ⟨[m], by simp, ?_⟩⟩
  show (step2 ts (x, y) m).bind (fun r => walk2 ts r []) = _
  rw [(step2_some (q := (x, y)) (r := (e, e))).mpr ⟨h1, h2⟩]
  rfl
/-! the table turned -/
def tcol (T : List (List Nat)) (n : Nat) : List (List Nat) := (List.range n).map fun k => T.map fun r => (r[k]?).getD 0
theorem cell_tcol {n : Nat} {T : List (List Nat)} (len : T.length = n) (row : ∀ r ∈ T, r.length = n) {p : Pr} (hp : InN n p) : cell (tcol T n) p = cell T (sw p) := by
  obtain ⟨a, b⟩ := p
  have ha : a < n := hp.1
  have hb : b < T.length := by rw [len]; exact hp.2
  unfold cell tcol sw
  simp [ha, hb]
theorem Tab.turn {n : Nat} {R R' : Pr → Pr → Prop} {T : List (List Nat)} (t : Tab n R' T) (h : ∀ p q, R' (sw p) (sw q) ↔ R p q) : Tab n R (renum (tcol T n)) := by
  have len : (tcol T n).length = n := by unfold tcol; rw [List.length_map, List.length_range]
  have row : ∀ r ∈ tcol T n, r.length = n := fun r hr => by
    obtain ⟨k, _, rfl⟩ := List.mem_map.mp hr
    rw [List.length_map, t.len]
  refine (renum_tab len row).congr fun p q hp hq => ?_
  rw [cell_tcol t.len t.row hp, cell_tcol t.len t.row hq]
  exact (t.iff _ _ (sw_in.mpr hp) (sw_in.mpr hq)).trans (h p q)
end Wh

namespace Wh
open PySem L2
/-! ### the way back, house by house -/
def fB (ts : List Tie) (i j e : Nat) : List (Nat × Nat) := (doorsAt e (bkT ts)).filter fun d => decide (d.2 < i ∨ (d.2 = i ∧ d.1 ∈ (marksAt i ts).take j))
theorem fB_zero (ts : List Tie) (e : Nat) : fB ts 0 0 e = [] := by
  unfold fB
  rw [List.filter_eq_nil_iff]
  intro d hd
  simp
theorem fB_all {n : Nat} {ts : List Tie} (w : WebOk n ts) (e : Nat) : fB ts n 0 e = doorsAt e (bkT ts) := by
  unfold fB
  rw [List.filter_eq_self]
  rintro ⟨m, h⟩ hd
  have := door_here w ((door_mem_iff w).mpr (mem_bk.mp hd))
  simp only [decide_eq_true_iff]
  exact .inl this
theorem fB_next {ts : List Tie} {i e : Nat} : fB ts i (marksAt i ts).length e = fB ts (i + 1) 0 e := by
  unfold fB
  refine List.filter_congr ?_
  rintro ⟨m, h⟩ hd
  rw [List.take_length, List.take_zero]
  have e1 : (h < i ∨ (h = i ∧ m ∈ marksAt i ts)) ↔ (h < i + 1 ∨ (h = i + 1 ∧ m ∈ ([] : List Nat))) := by
    constructor
    · rintro (z | ⟨z, _⟩)
      · exact .inl (by omega)
      · exact .inl (by omega)
    · rintro (z | ⟨_, z⟩)
      · by_cases c : h = i
        · subst c
          refine .inr ⟨rfl, ?_⟩
          rw [← doorsAt_fst]
          exact List.mem_map_of_mem (f := (·.1)) (mem_bk.mp hd)
        · exact .inl (by omega)
      · cases z
  simp only [e1]
theorem fB_put {n : Nat} {ts : List Tie} (w : WebOk n ts) {i j m e : Nat} (hm : (marksAt i ts)[j]? = some m) (hd : (m, e) ∈ doorsAt i ts) : fB ts i (j + 1) e = fB ts i j e ++ [(m, i)] := by
  have tk : (marksAt i ts).take (j + 1) = (marksAt i ts).take j ++ [m] := by rw [List.take_succ, hm]; rfl
  have nin : m ∉ (marksAt i ts).take j := fun z => by
    obtain ⟨k, hk, ek⟩ := List.mem_iff_getElem.mp z
    rw [List.length_take] at hk
    have h1 : (marksAt i ts)[k]? = some m := by
      rw [List.getElem?_eq_getElem (by omega)]
      rw [List.getElem_take] at ek
      rw [ek]
    have := nd_ix (w.uniq i) h1 hm
    omega
  have asc := bk_asc2 w e
  unfold fB
  rw [tk]
  obtain ⟨l1, l2, el⟩ := List.append_of_mem (mem_bk.mpr hd)
  rw [el] at asc ⊢
  rw [List.pairwise_append] at asc
  obtain ⟨_, a2, a3⟩ := asc
  rw [List.pairwise_cons] at a2
  have f1 : ∀ (M : List Nat), l1.filter (fun d => decide (d.2 < i ∨ (d.2 = i ∧ d.1 ∈ M))) = l1 := fun M => by
    rw [List.filter_eq_self]
    intro d hd
    have := a3 d hd (m, i) List.mem_cons_self
    simp only [decide_eq_true_iff]
    exact .inl this
  have f2 : ∀ (M : List Nat), l2.filter (fun d => decide (d.2 < i ∨ (d.2 = i ∧ d.1 ∈ M))) = [] := fun M => by
    rw [List.filter_eq_nil_iff]
    intro d hd
    have : i < d.2 := a2.1 d hd
    simp only [decide_eq_true_iff]
    omega
  rw [List.filter_append, List.filter_append, List.filter_cons, List.filter_cons, f1, f1, f2, f2]
  rw [if_pos (by simp), if_neg (by simp [nin])]
  simp
theorem fB_other {ts : List Tie} {i j m e : Nat} (hm : (marksAt i ts)[j]? = some m) (hd : (m, e) ∉ doorsAt i ts) : fB ts i (j + 1) e = fB ts i j e := by
  have tk : (marksAt i ts).take (j + 1) = (marksAt i ts).take j ++ [m] := by rw [List.take_succ, hm]; rfl
  unfold fB
  refine List.filter_congr ?_
  rintro ⟨m', h⟩ hd'
  rw [tk]
  have e1 : (h < i ∨ (h = i ∧ m' ∈ (marksAt i ts).take j ++ [m])) ↔ (h < i ∨ (h = i ∧ m' ∈ (marksAt i ts).take j)) := by
    constructor
    · rintro (z | ⟨z1, z2⟩)
      · exact .inl z
      · rcases List.mem_append.mp z2 with z | z
        · exact .inr ⟨z1, z⟩
        · have := List.mem_singleton.mp z
          subst this z1
          exact absurd (mem_bk.mp hd') hd
    · rintro (z | ⟨z1, z2⟩)
      · exact .inl z
      · exact .inr ⟨z1, List.mem_append.mpr (.inl z2)⟩
  simp only [e1]
/-- a mark that is there already leads two houses to one -/
theorem fB_meet {n : Nat} {ts : List Tie} (w : WebOk n ts) {i j m e : Nat} (hm : (marksAt i ts)[j]? = some m) (hd : door i m ts = some e) (h : m ∈ (fB ts i j e).map (·.1)) : Meet n ts := by
  obtain ⟨⟨m', h'⟩, hf, rfl⟩ := List.mem_map.mp h
  unfold fB at hf
  rw [List.mem_filter] at hf
  obtain ⟨h1, h2⟩ := hf
  have h2 := of_decide_eq_true h2
  refine ⟨h', i, m', e, fun z => ?_, (door_mem_iff w).mpr (mem_bk.mp h1), hd⟩
  rcases h2 with h2 | ⟨_, h2⟩
  · simp only at h2
    omega
  · obtain ⟨k, hk, ek⟩ := List.mem_iff_getElem.mp h2
    rw [List.length_take] at hk
    have g1 : (marksAt i ts)[k]? = some m' := by
      rw [List.getElem?_eq_getElem (by omega)]
      rw [List.getElem_take] at ek
      rw [ek]
    have := nd_ix (w.uniq i) g1 hm
    omega
theorem valV_kD (m : Nat) : ∀ l : List (Nat × Nat), valV (l.map kD) (Sum.inr (sgn m) : Key) = ((l.find? fun d => decide (d.1 = m)).map fun d => V.int (d.2 : Int))
  | [] => rfl
  | d :: l => by
    have ih := valV_kD m l
    unfold valV at ih ⊢
    rw [List.map_cons, List.find?_cons, List.find?_cons]
    have e : decide ((kD d).1 = (Sum.inr (sgn m) : Key)) = decide (d.1 = m) := by
      unfold kD
      refine decide_eq_decide.mpr ⟨fun z => ?_, fun z => by rw [z]⟩
      injection z with z
      exact sgn_inj z
    rw [e]
    cases c : decide (d.1 = m) with
    | true => rfl
    | false => exact ih
theorem valV_kD_none {m : Nat} {l : List (Nat × Nat)} (h : m ∉ l.map (·.1)) : valV (l.map kD) (Sum.inr (sgn m) : Key) = none := by
  rw [valV_kD, List.find?_eq_none.mpr]
  · rfl
  · intro d hd
    simp only [decide_eq_true_iff]
    exact fun z => h (List.mem_map.mpr ⟨d, hd, z⟩)
theorem valV_kD_some {m : Nat} {l : List (Nat × Nat)} (h : m ∈ l.map (·.1)) : ∃ v, valV (l.map kD) (Sum.inr (sgn m) : Key) = some v := by
  obtain ⟨d, hd, e⟩ := List.mem_map.mp h
  rw [valV_kD]
  cases q : l.find? fun d => decide (d.1 = m) with
  | none =>
    have := List.find?_eq_none.mp q d hd
    simp [e] at this
  | some d' => exact ⟨_, rfl⟩
/-- rows of numbers among rows of values -/
theorem at_nats : ∀ {H : Hp} {qs : List (Addr × List V)} {cols : List (List Nat)}, qs.map (·.2) = cols.map (fun ns : List Nat => ns.map fun h : Nat => V.int (h : Int)) → At id H qs → ∃ us : List (Addr × List Nat), refs us = refs qs ∧ (∀ p ∈ us, H p.1 = some (.tup (p.2.map fun h : Nat => V.int (h : Int)))) ∧ us.map (·.2) = cols
  | _, [], [], _, _ => ⟨[], rfl, (fun p h => by cases h), rfl⟩
  | _, [], _ :: _, h, _ => by cases h
  | _, _ :: _, [], h, _ => by cases h
  | H, (a, xs) :: qs, c :: cols, h, hA => by
    rw [List.map_cons, List.map_cons] at h
    obtain ⟨h1, h2⟩ := List.cons.inj h
    have h1 : xs = c.map fun h : Nat => V.int (h : Int) := h1
    obtain ⟨us, u1, u2, u3⟩ := at_nats h2 fun p hp => hA p (List.mem_cons_of_mem _ hp)
    refine ⟨(a, c) :: us, ?_, ?_, by rw [List.map_cons, u3]⟩
    · unfold refs at u1 ⊢
      rw [List.map_cons, List.map_cons, u1]
    · intro p hp
      rcases List.mem_cons.mp hp with rfl | hp
      · rw [← h1]
        exact hA (a, xs) List.mem_cons_self
      · exact u2 p hp
end Wh

namespace Wh.Num
open PySem L2 Wh
/-! ### ties with marks by differences (own names: the laws with a purse have the same elsewhere) -/
theorem letter_at : ∀ i : Nat, i < 12 → ("abcdefghijkl" : Str).cps.toList[i]? = some (97 + i) ∧ (97 + i) ∈ letters := by
  intro i hi
  rw [letters_str]
  have : ∀ i : Fin 12, ([97, 98, 99, 100, 101, 102, 103, 104, 105, 106, 107, 108] : List Nat)[i.val]? = some (97 + i.val) ∧ (97 + i.val) ∈ letters := by decide
  exact this ⟨i, hi⟩
theorem abc_len : ("abcdefghijkl" : Str).length ≤ sizeLine := by
  have e : ("abcdefghijkl" : Str).length = 12 := by decide +kernel
  rw [e]
  decide
theorem marks_mem {h m : Nat} {ts : List Tie} (e : m ∈ marksAt h ts) : ∃ t ∈ ts, (t.a = h ∧ t.m = m) ∨ (t.b = h ∧ t.o = m) := by
  obtain ⟨t, ht, e⟩ := List.mem_flatMap.mp e
  refine ⟨t, ht, ?_⟩
  unfold endsAt at e
  rcases List.mem_append.mp e with z | z
  · by_cases q : t.a = h
    · rw [if_pos q] at z
      exact .inl ⟨q, (List.mem_singleton.mp z).symm⟩
    · rw [if_neg q] at z
      cases z
  · by_cases q : t.b = h
    · rw [if_pos q] at z
      exact .inr ⟨q, (List.mem_singleton.mp z).symm⟩
    · rw [if_neg q] at z
      cases z
def numM (n : Nat) (t : Tie) : Prop := t.m = 97 + (t.b - t.a - 1) ∧ t.o = 97 + (n - 1 - (t.b - t.a))
theorem num_new {n : Nat} {q : Pr} {ts : List Tie} (h1 : q.1 < q.2) (h2 : q.2 < n) (lt : ∀ t ∈ ts, t.a < t.b ∧ t.b < n) (nm : ∀ t ∈ ts, numM n t) (ne : ∀ t ∈ ts, t.pr ≠ q) :
    97 + (q.2 - q.1 - 1) ∉ marksAt q.1 ts ∧ 97 + (n - 1 - (q.2 - q.1)) ∉ marksAt q.2 ts := by
  refine ⟨fun e => ?_, fun e => ?_⟩
  · obtain ⟨t, ht, ⟨e1, e2⟩ | ⟨e1, e2⟩⟩ := marks_mem e
    · have ⟨l1, l2⟩ := lt t ht
      have := (nm t ht).1
      refine ne t ht (Prod.ext e1 ?_)
      show t.b = q.2
      omega
    · have ⟨l1, l2⟩ := lt t ht
      have := (nm t ht).2
      omega
  · obtain ⟨t, ht, ⟨e1, e2⟩ | ⟨e1, e2⟩⟩ := marks_mem e
    · have ⟨l1, l2⟩ := lt t ht
      have := (nm t ht).1
      omega
    · have ⟨l1, l2⟩ := lt t ht
      have := (nm t ht).2
      refine ne t ht (Prod.ext ?_ e1)
      show t.a = q.1
      omega
def numT (n : Nat) (t : Tie) : Tie := ⟨t.a, 97 + (t.b - t.a - 1), t.b, 97 + (n - 1 - (t.b - t.a))⟩
theorem numT_pr (n : Nat) (ts : List Tie) : (ts.map (numT n)).map Tie.pr = ts.map Tie.pr := by
  rw [List.map_map]
  rfl
theorem num_marks {n : Nat} : ∀ {ts : List Tie}, (∀ t ∈ ts, t.a < t.b ∧ t.b < n) → (ts.map Tie.pr).Nodup → ∀ h, (marksAt h (ts.map (numT n))).Nodup
  | [], _, _, _ => List.nodup_nil
  | t :: ts, lt, nd, h => by
    rw [List.map_cons] at nd
    obtain ⟨n1, n2⟩ := List.nodup_cons.mp nd
    have lt2 : ∀ u ∈ ts, u.a < u.b ∧ u.b < n := fun u hu => lt u (List.mem_cons_of_mem _ hu)
    have ih := num_marks lt2 n2 h
    obtain ⟨l1, l2⟩ := lt t List.mem_cons_self
    have nw := num_new (q := t.pr) (ts := ts.map (numT n)) l1 l2 (fun u hu => by obtain ⟨z, hz, rfl⟩ := List.mem_map.mp hu; exact lt2 z hz) (fun u hu => by obtain ⟨z, hz, rfl⟩ := List.mem_map.mp hu; exact ⟨rfl, rfl⟩) (fun u hu => by
      obtain ⟨z, hz, rfl⟩ := List.mem_map.mp hu
      exact fun e => n1 ((show z.pr = t.pr from e) ▸ List.mem_map_of_mem hz))
    show (endsAt h (numT n t) ++ marksAt h (ts.map (numT n))).Nodup
    have ne : (numT n t).a ≠ (numT n t).b := by show t.a ≠ t.b; omega
    by_cases ha : h = t.a
    · subst ha
      rw [show endsAt t.a (numT n t) = [(numT n t).m] from endsAt_a ne]
      exact List.nodup_cons.mpr ⟨nw.1, ih⟩
    · by_cases hb : h = t.b
      · subst hb
        rw [show endsAt t.b (numT n t) = [(numT n t).o] from endsAt_b ne]
        exact List.nodup_cons.mpr ⟨nw.2, ih⟩
      · rw [endsAt_no (t := numT n t) ha hb]
        exact ih
theorem num_web {n : Nat} {ts : List Tie} (w : WebOk n ts) : WebOk n (ts.map (numT n)) := by
  have n10 := w.n10
  refine ⟨w.n2, w.n10, fun t ht => ?_, fun S s0 cl => w.hang S s0 fun t ht => ?_, by rw [numT_pr]; exact w.pnd, fun t ht => ?_, num_marks w.lt w.pnd, by rw [List.length_map]; exact w.len⟩
  · obtain ⟨z, hz, rfl⟩ := List.mem_map.mp ht
    exact w.lt z hz
  · exact cl (numT n t) (List.mem_map_of_mem ht)
  · obtain ⟨z, hz, rfl⟩ := List.mem_map.mp ht
    obtain ⟨l1, l2⟩ := w.lt z hz
    exact ⟨(letter_at _ (by omega)).2, (letter_at _ (by omega)).2⟩
theorem num_told {n : Nat} {ts : List Tie} (t : Told n ts) : Told n (ts.map (numT n)) := by
  have w := num_web t.ok
  exact ⟨t.n2, t.n8, w.lt, fun h h1 h2 => let ⟨u, hu, e⟩ := t.hang h h1 h2; ⟨numT n u, List.mem_map_of_mem hu, e⟩, by rw [numT_pr]; exact t.srt, w.let_, w.uniq, by rw [List.length_map]; exact t.len⟩
/-! each tie its own letter -/
def oneM (i : Nat) : Nat := (([98, 99, 97, 100, 101, 102, 103, 104, 105, 106, 107, 108] : List Nat)[i]?).getD 0
theorem one_at : ∀ i : Nat, i < 12 → ("bcadefghijkl" : Str).cps.toList[i]? = some (oneM i) ∧ oneM i ∈ letters := by
  intro i hi
  have e : ("bcadefghijkl" : Str).cps = #[98, 99, 97, 100, 101, 102, 103, 104, 105, 106, 107, 108] := by decide +kernel
  rw [e]
  have : ∀ i : Fin 12, ([98, 99, 97, 100, 101, 102, 103, 104, 105, 106, 107, 108] : List Nat)[i.val]? = some (oneM i.val) ∧ oneM i.val ∈ letters := by decide
  exact this ⟨i, hi⟩
theorem one_inj : ∀ i j : Nat, i < 12 → j < 12 → oneM i = oneM j → i = j := by
  intro i j hi hj
  have : ∀ i j : Fin 12, oneM i.val = oneM j.val → i = j := by decide
  exact fun h => congrArg Fin.val (this ⟨i, hi⟩ ⟨j, hj⟩ h)
theorem one_len : ("bcadefghijkl" : Str).length ≤ sizeLine := by
  have e : ("bcadefghijkl" : Str).length = 12 := by decide +kernel
  rw [e]
  decide
def oneT (i : Nat) (t : Tie) : Tie := ⟨t.a, oneM i, t.b, oneM i⟩
theorem one_nd : ∀ {us : List Tie}, (∀ t ∈ us, t.a < t.b ∧ t.m = t.o) → us.Pairwise (fun x y => x.m ≠ y.m) → ∀ h, (marksAt h us).Nodup
  | [], _, _, _ => List.nodup_nil
  | t :: us, q, p, h => by
    rw [List.pairwise_cons] at p
    have ih := one_nd (fun u hu => q u (List.mem_cons_of_mem _ hu)) p.2 h
    obtain ⟨lt, mo⟩ := q t List.mem_cons_self
    show (endsAt h t ++ marksAt h us).Nodup
    have nin : t.m ∉ marksAt h us := fun z => by
      obtain ⟨u, hu, ⟨_, e⟩ | ⟨_, e⟩⟩ := marks_mem z
      · exact p.1 u hu e.symm
      · rw [← (q u (List.mem_cons_of_mem _ hu)).2] at e
        exact p.1 u hu e.symm
    have ne : t.a ≠ t.b := by omega
    by_cases ha : h = t.a
    · rw [ha, endsAt_a ne, ← ha]
      exact List.nodup_cons.mpr ⟨nin, ih⟩
    · by_cases hb : h = t.b
      · rw [hb, endsAt_b ne, ← hb, ← mo]
        exact List.nodup_cons.mpr ⟨nin, ih⟩
      · rw [endsAt_no ha hb]
        exact ih
theorem one_pr (ts : List Tie) : (ts.mapIdx oneT).map Tie.pr = ts.map Tie.pr := by
  apply List.ext_getElem
  · simp
  · intro i h1 h2
    simp [oneT, Tie.pr]
theorem one_told {n : Nat} {ts : List Tie} (t : Told n ts) : Told n (ts.mapIdx oneT) := by
  have len := t.len
  have mem : ∀ u ∈ ts.mapIdx oneT, ∃ i z, i < ts.length ∧ z ∈ ts ∧ u = oneT i z := fun u hu => by
    obtain ⟨i, hi, rfl⟩ := List.mem_iff_getElem.mp hu
    rw [List.length_mapIdx] at hi
    exact ⟨i, ts[i], hi, List.getElem_mem hi, by rw [List.getElem_mapIdx]⟩
  refine ⟨t.n2, t.n8, fun u hu => ?_, fun h h1 h2 => ?_, by rw [one_pr]; exact t.srt, fun u hu => ?_, one_nd (fun u hu => ?_) ?_, by rw [List.length_mapIdx]; exact len⟩
  · obtain ⟨i, z, _, hz, rfl⟩ := mem u hu
    exact t.lt z hz
  · obtain ⟨z, hz, e⟩ := t.hang h h1 h2
    obtain ⟨i, hi, rfl⟩ := List.mem_iff_getElem.mp hz
    exact ⟨oneT i ts[i], List.mem_iff_getElem.mpr ⟨i, by rw [List.length_mapIdx]; exact hi, by rw [List.getElem_mapIdx]⟩, e⟩
  · obtain ⟨i, z, hi, hz, rfl⟩ := mem u hu
    exact ⟨(one_at i (by omega)).2, (one_at i (by omega)).2⟩
  · obtain ⟨i, z, _, hz, rfl⟩ := mem u hu
    exact ⟨(t.lt z hz).1, rfl⟩
  · refine List.pairwise_iff_getElem.mpr fun i j hi hj ij => ?_
    rw [List.length_mapIdx] at hi hj
    rw [List.getElem_mapIdx, List.getElem_mapIdx]
    intro e
    have := one_inj i j (by omega) (by omega) e
    omega
/-! rings -/
def ringRow (i : Nat) : Tie := ⟨i, 97, i + 1, 98⟩
def ringL (n : Nat) : List Tie := ringRow 0 :: ⟨0, 98, n - 1, 97⟩ :: (List.range' 1 (n - 2)).map ringRow
theorem ring_perm : ∀ n : Nat, 3 ≤ n → n ≤ 8 → ((List.range (n - 1)).map ringRow ++ [(⟨0, 98, n - 1, 97⟩ : Tie)]).Perm (ringL n) := by
  intro n h1 h2
  have : ∀ n : Fin 9, 3 ≤ n.val → ((List.range (n.val - 1)).map ringRow ++ [(⟨0, 98, n.val - 1, 97⟩ : Tie)]).Perm (ringL n.val) := by decide +kernel
  exact this ⟨n, by omega⟩ h1
theorem ring_srt : ∀ n : Nat, 3 ≤ n → n ≤ 8 → (ringL n).Pairwise (fun x y => ¬ tLt y x) := by
  intro n h1 h2
  have : ∀ n : Fin 9, 3 ≤ n.val → (ringL n.val).Pairwise (fun x y => ¬ (y.a < x.a ∨ (y.a = x.a ∧ (y.m < x.m ∨ (y.m = x.m ∧ (y.b < x.b ∨ (y.b = x.b ∧ y.o < x.o))))))) := by decide +kernel
  exact this ⟨n, by omega⟩ h1
theorem ring_told {n : Nat} (h1 : 3 ≤ n) (h2 : n ≤ 8) : Told n (ringL n) := by
  have fin : ∀ n : Fin 9, 3 ≤ n.val → (∀ t ∈ ringL n.val, t.a < t.b ∧ t.b < n.val) ∧ (∀ h : Fin 9, 1 ≤ h.val → h.val < n.val → ∃ t ∈ ringL n.val, t.b = h.val) ∧ ((ringL n.val).map Tie.pr).Pairwise (fun x y => x.1 < y.1 ∨ (x.1 = y.1 ∧ x.2 < y.2)) ∧ (∀ t ∈ ringL n.val, t.m ∈ letters ∧ t.o ∈ letters) ∧ (∀ h : Fin 9, (marksAt h.val (ringL n.val)).Nodup) ∧ (ringL n.val).length ≤ 9 := by decide +kernel
  obtain ⟨f1, f2, f3, f4, f5, f6⟩ := fin ⟨n, by omega⟩ h1
  refine ⟨by omega, h2, f1, fun h a b => f2 (⟨h, by omega⟩ : Fin 9) a b, f3, f4, fun h => ?_, f6⟩
  by_cases c : h < 9
  · exact f5 ⟨h, c⟩
  · have : marksAt h (ringL n) = [] := by
      cases q : marksAt h (ringL n) with
      | nil => rfl
      | cons m l =>
        obtain ⟨t, ht, ⟨e, _⟩ | ⟨e, _⟩⟩ := marks_mem (show m ∈ marksAt h (ringL n) by rw [q]; exact List.mem_cons_self)
        · have := f1 t ht
          simp only at this
          omega
        · have := f1 t ht
          simp only at this
          omega
    rw [this]
    exact List.nodup_nil
end Wh.Num

namespace Wh
open PySem PySem.Spec PyProof PyProof.Rows L2
/-! ### set(xs) of more numbers, its members counted by any list that has them -/
theorem setR_few {w : World} {h : Heap} {a : Addr} {S : Int → Bool} {n : Nat} {l : List Int} (R : SetR w h a S n) (sub : ∀ k, S k = true → k ∈ l) : n ≤ l.length := by
  obtain ⟨o, es, ep, t, ho, hx, hd, g, nd, hm, hb, hf, hn, _⟩ := R
  have := nd_sub_len nd fun k hk => sub k ((hm k).mpr hk)
  rw [List.length_map, Array.length_toList, hn] at this
  exact this
def rSetOfB (K : PySem.W.Frag) (w : World) : List V → Hp → VK → Prop := fun vs H Q => ∃ (l : Addr) (xs : List Int), vs = [V.ref l] ∧ SqL K H l (xs.map V.int) ∧ xs.length < 1000 ∧ ∀ a c, H a = none → (∀ ks : List Int, (∀ x ∈ xs, x ∈ ks) → c ≤ ks.length) → Q (.ref a) (upd H a (SetO w a (fun j => decide (j ∈ xs)) c))
theorem cr_setOfB {X : Cx} (calm : X.calm = true) : CallR X (.type "set") (rSetOfB X.K X.w) := by
  intro pins s σ H vs us Q J rv want
  obtain ⟨l, xs, rfl, at_, few, q⟩ := want
  rw [Vals.ref1 rv]
  obtain ⟨its, vals, pl, _⟩ := J.list at_
  have free : H s.heap.objs.size = none := J.hok.fresh (Nat.le_refl _)
  refine set_ints (J.ok.hd calm) pl.isList (by simpa using ints_of_vals vals) (Nat.lt_of_le_of_lt (Nat.succ_le_of_lt few) (by decide)) fun h' tk c tx _ keep => ?_
  refine ⟨.ref s.heap.objs.size, upd H s.heap.objs.size (SetO X.w s.heap.objs.size (fun j => decide (j ∈ xs)) c), J.laid (t' := tk) keep (Nat.le_refl _) (setO_new tx), rfl, q _ _ free fun ks sub => ?_⟩
  exact setR_few tx fun k hk => sub k (of_decide_eq_true hk)
end Wh

namespace Wh
open PySem PySem.Spec PyProof PyProof.Rows L2
/-! ### repr of a list, a tuple or None -/
def rReprV (K : PySem.W.Frag) : List V → Hp → VK → Prop := fun xs H Q => ∃ (v : V) (d : PyData), xs = [v] ∧ (v = .non ∨ ∃ a, v = .ref a) ∧ Dp K H v d ∧ d.showable = true ∧ d.hasDict = false ∧ d.depth ≤ 60 ∧ d.shown.length ≤ sizeLine ∧ Q (.str d.shown) H
theorem call_repr_V {X : Cx} (idle : X.A.guards = some []) (hu : X.A.units + 64 < cLine) : CallR X (.builtin "repr") (rReprV X.K) := by
  intro pins s σ H xs us Q I r h
  obtain ⟨v, d, e, kind, hd, hs, nd, dep, hl, q⟩ := h
  rcases kind with rfl | ⟨a, rfl⟩
  · subst e
    cases hd
    cases r with
    | cons r1 rs =>
      cases rs
      cases r1
      refine PySem.P.repr_of_none ?_
      exact ⟨.str "None", H, I.tok _, ⟨_, rfl⟩, q⟩
  · exact call_repr_D idle hu pins s σ H xs us Q I r ⟨a, d, e, hd, hs, nd, dep, hl, q⟩
/-! ### numbers, shown -/
theorem nat_show : ∀ k : Fin 200, (PyData.int (k.val : Int)).showable = true ∧ (PyData.int (k.val : Int)).hasDict = false ∧ (PyData.int (k.val : Int)).shown.length ≤ 3 := by decide +kernel
theorem nats_shows : ∀ l : List Nat, (∀ k ∈ l, k < 200) → PyData.showableAll ((l.map fun h : Nat => V.int (h : Int)).map vD) = true ∧ PyData.hasDictAll ((l.map fun h : Nat => V.int (h : Int)).map vD) = false ∧
    ((PyData.shownAll ((l.map fun h : Nat => V.int (h : Int)).map vD)).map (·.length)).sum ≤ 3 * l.length ∧ (PyData.shownAll ((l.map fun h : Nat => V.int (h : Int)).map vD)).length = l.length
  | [], _ => ⟨rfl, rfl, Nat.le_refl _, rfl⟩
  | k :: l, h => by
    obtain ⟨h1, h2, h3, h4⟩ := nats_shows l fun u hu => h u (List.mem_cons_of_mem _ hu)
    obtain ⟨a, b, c⟩ := nat_show ⟨k, h k List.mem_cons_self⟩
    rw [List.map_cons, List.map_cons]
    refine ⟨?_, ?_, ?_, ?_⟩
    · rw [PyData.showableAll, h1]
      show ((PyData.int (k : Int)).showable && true) = true
      rw [a]
      rfl
    · rw [PyData.hasDictAll, h2]
      show ((PyData.int (k : Int)).hasDict || false) = false
      rw [b]
      rfl
    · rw [PyData.shownAll, List.map_cons, List.sum_cons, List.length_cons]
      have e : (vD (V.int (k : Int))).shown.length ≤ 3 := c
      omega
    · rw [PyData.shownAll, List.length_cons, List.length_cons, h4]
/-- a table as a datum -/
def tabD (T : List (List Nat)) : PyData := .tuple (T.map fun r => tD (r.map fun h : Nat => V.int (h : Int)))
theorem row_shows {r : List Nat} (h : ∀ k ∈ r, k < 200) (len : r.length ≤ 20) : (tD (r.map fun h : Nat => V.int (h : Int))).showable = true ∧ (tD (r.map fun h : Nat => V.int (h : Int))).hasDict = false ∧ (tD (r.map fun h : Nat => V.int (h : Int))).shown.length ≤ 200 := by
  obtain ⟨h1, h2, h3, h4⟩ := nats_shows r h
  unfold tD
  refine ⟨by rw [PyData.showable]; exact h1, by rw [PyData.hasDict]; exact h2, ?_⟩
  rw [PyData.shown]
  have := PySem.tupleText_len_le (PyData.shownAll ((r.map fun h : Nat => V.int (h : Int)).map vD))
  omega
theorem rows_shows : ∀ {T : List (List Nat)}, (∀ r ∈ T, (∀ k ∈ r, k < 200) ∧ r.length ≤ 20) → PyData.showableAll (T.map fun r => tD (r.map fun h : Nat => V.int (h : Int))) = true ∧ PyData.hasDictAll (T.map fun r => tD (r.map fun h : Nat => V.int (h : Int))) = false ∧
    ((PyData.shownAll (T.map fun r => tD (r.map fun h : Nat => V.int (h : Int)))).map (·.length)).sum ≤ 200 * T.length ∧ (PyData.shownAll (T.map fun r => tD (r.map fun h : Nat => V.int (h : Int)))).length = T.length
  | [], _ => ⟨rfl, rfl, Nat.le_refl _, rfl⟩
  | r :: T, h => by
    obtain ⟨h1, h2, h3, h4⟩ := rows_shows (T := T) fun u hu => h u (List.mem_cons_of_mem _ hu)
    obtain ⟨a, b⟩ := h r List.mem_cons_self
    obtain ⟨k1, k2, k3⟩ := row_shows a b
    rw [List.map_cons]
    refine ⟨?_, ?_, ?_, ?_⟩
    · rw [PyData.showableAll, h1, k1]
      rfl
    · rw [PyData.hasDictAll, h2, k2]
      rfl
    · rw [PyData.shownAll, List.map_cons, List.sum_cons, List.length_cons]
      omega
    · rw [PyData.shownAll, List.length_cons, List.length_cons, h4]
theorem tabD_shown {T : List (List Nat)} (h : ∀ r ∈ T, (∀ k ∈ r, k < 200) ∧ r.length ≤ 20) (few : T.length ≤ 20) : (tabD T).showable = true ∧ (tabD T).hasDict = false ∧ (tabD T).depth ≤ 50 ∧ (tabD T).shown.length ≤ 5000 := by
  obtain ⟨h1, h2, h3, h4⟩ := rows_shows h
  unfold tabD
  refine ⟨by rw [PyData.showable]; exact h1, by rw [PyData.hasDict]; exact h2, ?_, ?_⟩
  · have := rowD_depth (f := fun r : List Nat => r.map fun h : Nat => V.int (h : Int)) (T.map fun r => ((0 : Addr), r))
    rw [rowD_map (l := T) (by rw [List.map_map]; exact List.map_id _)] at this
    rw [PyData.depth]
    omega
  · rw [PyData.shown]
    have := PySem.tupleText_len_le (PyData.shownAll (T.map fun r => tD (r.map fun h : Nat => V.int (h : Int))))
    omega
theorem tabD_dp {K : PySem.W.Frag} {H : Hp} {t : Addr} {qs : List (Addr × List Nat)} (ht : H t = some (.tup (refs qs))) (hA : At (fun r : List Nat => r.map fun h : Nat => V.int (h : Int)) H qs) : Dp K H (.ref t) (tabD (qs.map (·.2))) := by
  unfold tabD
  rw [← rowD_map (f := fun r : List Nat => r.map fun h : Nat => V.int (h : Int)) (ps := qs) rfl]
  refine .tup (SqT.of ht) (rowD_dp K (fun p _ => ?_) hA)
  rw [List.all_map, List.all_eq_true]
  intro _ _
  rfl
end Wh

namespace Wh
open PySem PySem.Spec PyProof PyProof.Rows L2
/-! ### dicts whose keys are tuples of None, ints and texts: which keys there are, in their order -/
abbrev NKey := Option L2.Key
def nV : NKey → V
  | none => .non
  | some k => kV k
theorem nitems {P : Program} {w : World} : ∀ {ks : List NKey} {us : List Value}, Vals (ks.map nV) us → ItemsAre (noneKind P w) ks us
  | [], _, r => by
    rw [List.map_nil] at r
    cases r
    exact .nil
  | k :: ks, _, r => by
    rw [List.map_cons] at r
    cases r with
    | cons h t =>
      refine .cons ?_ (nitems t)
      cases k with
      | none =>
        obtain rfl := (show _ = Value.none from h)
        rfl
      | some k => exact kV_is (P := P) (w := w) h
theorem nkey_of {P : Program} {w : World} {H : Hp} {h : Heap} {a : Addr} {ks : List NKey} (ok : HOk P w H h) (e : H a = some (.tup (ks.map nV))) : (tupleKind (noneKind P w)).is h ks a := by
  obtain ⟨_, its, r, o, h1, h2, n, h3⟩ := (show ObjOk P w H h a (.tup (ks.map nV)) from ok a _ e)
  exact ⟨o, its.toArray, n, h1, h2, h3, by simpa using nitems r⟩
instance nkeyIn (k : List NKey) (l : List (List NKey)) : Decidable (k ∈ l) := @List.instDecidableMemOfLawfulBEq _ instBEqOfDecidableEq inferInstance k l
abbrev NK (P : Program) (w : World) := tupleKind (noneKind P w)
/-- the dict at a is o, with the keys ks -/
def NdAt (P : Program) (w : World) (a : Addr) (o : Obj) (ks : List (List NKey × Addr)) (h : Heap) : Prop :=
  h.get? a = some o ∧ (a == sysModules) = false ∧ ks.length ≤ sizeLine ∧ o.ExactDict ∧ (ks.map Prod.fst).Nodup ∧ ∃ (es : Array DictEntry) (ep : Nat) (xs : List (List NKey × Addr × Value)), o.data = .dict es ep ∧ es.toList = xs.map (entryOfKey (NK P w)) ∧ xs.map (fun x => (x.1, x.2.1)) = ks
def NdO (P : Program) (w : World) (a : Addr) (o : Obj) (ks : List (List NKey × Addr)) : HO := .ext (NdAt P w a o ks)
theorem nd_obj {P : Program} {w : World} {H : Hp} {h : Heap} {a : Addr} {o : Obj} {ks : List (List NKey × Addr)} (R : NdAt P w a o ks h) : ObjOk P w H h a (NdO P w a o ks) :=
  ⟨R, ⟨_, R.1⟩, fun h1 h2 p k => ⟨k _ p.1, p.2⟩⟩
/-- .. and its keys stand where they stood -/
structure NdIn (P : Program) (w : World) (H : Hp) (a : Addr) (o : Obj) (ks : List (List NKey × Addr)) : Prop where
  at_ : H a = some (NdO P w a o ks)
  key : ∀ q ∈ ks, H q.2 = some (.tup (q.1.map nV))
section
variable {X : Cx} {pins : List (Addr × Obj)} {σ : L2.St} {H : Hp} {s : Shared} {a b : Addr} {o : Obj} {ks : List (List NKey × Addr)} {k : List NKey}
theorem nd_get (I : L2.Inv X pins σ H s) (n : NdIn X.prog X.w H a o ks) : NdAt X.prog X.w a o ks s.heap ∧ ∃ xs, xs.map (fun x => (x.1, x.2.1)) = ks ∧ s.heap.DictOfH (NK X.prog X.w) a xs := by
  have R : NdAt X.prog X.w a o ks s.heap := (show ObjOk X.prog X.w H s.heap a (NdO X.prog X.w a o ks) from I.hok a _ n.at_).1
  obtain ⟨h1, _, _, h4, h5, es, ep, xs, h6, h7, h8⟩ := id R
  refine ⟨R, xs, h8, o, es, ep, h1, h4, h6, h7, fun x hx => ?_, ?_⟩
  · exact nkey_of I.hok (n.key (x.1, x.2.1) (h8 ▸ List.mem_map.mpr ⟨x, hx, rfl⟩))
  · rw [← h8, List.map_map] at h5
    exact h5
theorem nd_some {xs : List (List NKey × Addr × Value)} (e : xs.map (fun x => (x.1, x.2.1)) = ks) : (atKey xs k).isSome = decide (k ∈ ks.map Prod.fst) := by
  subst e
  unfold atKey
  rw [Option.isSome_map, Bool.eq_iff_iff, List.find?_isSome, decide_eq_true_iff]
  simp only [List.mem_map, List.map_map]
  constructor
  · rintro ⟨x, hx, z⟩
    exact ⟨x, hx, of_decide_eq_true z⟩
  · rintro ⟨x, hx, z⟩
    exact ⟨x, hx, decide_eq_true z⟩
end
section
variable {X : Cx}
/-- {} -/
def tDNewN (P : Program) (w : World) : TE := fun _ H Q => ∀ (p : Addr) (o : Obj), H p = none → Q (.ref p) (upd H p (NdO P w p o []))
theorem pe_dnewN {pos : Pos} : PE X (.Dict [] [] pos) (tDNewN X.prog X.w) := ⟨fun pins s σ H Q I h =>
  wpAny_Dict_empty ⟨.ref s.heap.objs.size, _, I.laid (a := s.heap.objs.size) (o := NdO X.prog X.w s.heap.objs.size { cls := .type "dict", data := .dict #[] } []) (t' := s.toks) (fun _ _ q => Heap.get?_push_of_some _ q) (Nat.le_refl _)
    (nd_obj ⟨Heap.get?_push_size _ rfl, beq_eq_false_iff_ne.mpr (Ne.symm (Nat.ne_of_lt I.big)), Nat.zero_le _, ⟨rfl, rfl, rfl⟩, List.nodup_nil, #[], 0, [], rfl, rfl, rfl⟩), rfl, h _ _ (I.hok.fresh (Nat.le_refl _))⟩⟩
/-- t not in d -/
def rNotInN (P : Program) (w : World) : R2 := fun x y H Q => ∃ (b a : Addr) (o : Obj) (ks : List (List NKey × Addr)) (k : List NKey), x = .ref b ∧ y = .ref a ∧ H b = some (.tup (k.map nV)) ∧ NdIn P w H a o ks ∧ Q (.bl (!decide (k ∈ ks.map Prod.fst))) H
theorem op_notInN (hu : X.A.units + 1 < cLine) : OpR X (compareOp .NotIn) (rNotInN X.prog X.w) := by
  intro pins s σ H x y v u Q I rx ry d
  obtain ⟨b, a, o, ks, k, rfl, rfl, hb, hn, q⟩ := d
  obtain rfl : v = Value.ref b := rx
  obtain rfl : u = Value.ref a := ry
  obtain ⟨R, xs, e, D⟩ := nd_get I hn
  refine wpAny_notIn_heap (tupleKind_room_in1 hu) (nkey_of I.hok hb) R.2.1 D ?_
  rw [nd_some e]
  exact ⟨.bl _, H, I.tok _, rfl, q⟩
/-- d[t] = x, t a new key -/
def sPutN (P : Program) (w : World) : TSet := fun x y v H Q => ∃ (b a : Addr) (o : Obj) (ks : List (List NKey × Addr)) (k : List NKey), x = .ref a ∧ y = .ref b ∧ H b = some (.tup (k.map nV)) ∧ NdIn P w H a o ks ∧ k ∉ ks.map Prod.fst ∧ ks.length < sizeLine ∧
  ∀ o', Q (upd H a (NdO P w a o' (ks ++ [(k, b)])))
theorem set_nd (hu : X.A.units + 1 < cLine) : PSet X (sPutN X.prog X.w) := by
  intro pins s σ H x y v ux uy uv Q I rx ry rv d
  obtain ⟨b, a, o, ks, k, rfl, rfl, hb, hn, new, room, q⟩ := d
  obtain rfl : ux = Value.ref a := rx
  obtain rfl : uy = Value.ref b := ry
  obtain ⟨R, xs, e, D⟩ := nd_get I hn
  have len : xs.length = ks.length := by rw [← e, List.length_map]
  have none_ : atKey xs k = none := by
    have := nd_some (k := k) e
    rw [decide_eq_false new] at this
    exact Option.isSome_eq_false_iff.mp this |> fun z => by simpa using z
  refine wpAny_setItem_heap (hsz := by omega) (tupleKind_room_in1 hu) (nkey_of I.hok hb) D fun h' D' sb => ?_
  rw [storedH_new none_] at D'
  obtain ⟨o', es, ep, h1, h2, h3, h4, _, h6⟩ := D'
  have e2 : (xs ++ [(k, b, uv)]).map (fun x => (x.1, x.2.1)) = ks ++ [(k, b)] := by rw [List.map_append, e]; rfl
  have R' : NdAt X.prog X.w a o' (ks ++ [(k, b)]) h' := ⟨h1, R.2.1, by rw [List.length_append]; show ks.length + 1 ≤ sizeLine; omega, h2, by rw [← e2, List.map_map]; exact h6, es, ep, _, h3, h4, e2⟩
  exact ⟨_, d_write I (by rw [hn.at_]; exact True.intro) sb ⟨o', h1⟩ (nd_obj R'), q o'⟩
end
end Wh

namespace Wh
open PySem PySem.Spec PyProof PyProof.Rows L2
/-! ### for t in d, the keys in their order; the dict must stay as it is -/
def Itn (P : Program) (w : World) (d : Addr) (o : Obj) (ks : List (List NKey × Addr)) : It :=
  ⟨fun i H => NdIn P w H d o ks ∧ i < ks.length, fun i H x H' => H' = H ∧ ∃ (k : List NKey) (q : Addr), ks[i]? = some (k, q) ∧ x = .ref q ∧ H q = some (.tup (k.map nV)), fun i H => NdIn P w H d o ks ∧ ks.length ≤ i⟩
theorem walk_nd {P : Program} {w : World} {d : Addr} {o : Obj} {ks : List (List NKey × Addr)} : Walk (Itn P w d o ks) ks.length (fun H => NdIn P w H d o ks)
    (fun i H x H' => H' = H ∧ ∃ (k : List NKey) (q : Addr), ks[i]? = some (k, q) ∧ x = .ref q ∧ H q = some (.tup (k.map nV))) :=
  ⟨fun _ _ hi q => ⟨q, hi⟩, fun _ q => ⟨q, Nat.le_refl _⟩, fun _ _ _ _ _ _ y => y⟩
section
variable {P : Program} {w : World} {K : PySem.W.Frag} {tg : Expr} {d : Addr} {o : Obj} {es : Array DictEntry} {ep : Nat} {ks : List (List NKey × Addr)}
theorem dat_one {es' : Array DictEntry} {ep' : Nat} (h : o.data = .dict es ep) (h' : o.data = .dict es' ep') : es = es' ∧ ep = ep' := by
  have e := h.symm.trans h'
  injection e with e1 e2
  exact ⟨e1, e2⟩
theorem turn_nd (it : Addr) (hod : o.data = .dict es ep) : Turn P w K tg (Itn P w d o ks) [it] it (fun i h => h.IsKeyIter it d i ks.length ep) where
  mem := List.mem_singleton.mpr rfl
  obj := fun i h st b hb => by
    obtain rfl : b = it := List.mem_singleton.mp hb
    obtain ⟨oi, e, c, dd⟩ := st
    refine ⟨oi, e, fun v z => ?_⟩
    rw [dd] at z
    cases z
  keep := fun i h h' st k => st.at fun oi e => k it (List.mem_singleton.mpr rfl) oi e
  item := by
    intro X hP hw hK calm i pins s σ H E I hf st hg
    subst hP
    subst hw
    subst hK
    obtain ⟨n, hi⟩ := hg
    obtain ⟨f0, f1, f2, f3, f4, f5⟩ := hf it (List.mem_singleton.mpr rfl)
    obtain ⟨R, _⟩ := nd_get I n
    obtain ⟨at_, _, _, _, _, es', ep', xs, dat, rows, proj⟩ := R
    obtain ⟨rfl, rfl⟩ := dat_one hod dat
    have len : es.size = ks.length := by rw [size_of_entries rows, ← proj, List.length_map]
    have hk : ks[i]? = some ks[i] := List.getElem?_eq_getElem hi
    generalize ks[i] = q at hk
    obtain ⟨k, b⟩ := q
    have hx : (xs[i]?).map (fun x => (x.1, x.2.1)) = some (k, b) := by rw [← List.getElem?_map, proj, hk]
    obtain ⟨⟨k', b', v⟩, ex, eq⟩ := Option.map_eq_some_iff.mp hx
    obtain ⟨rfl, rfl⟩ := Prod.mk.inj eq
    have en : es[i]? = some (entryOfKey (NK X.prog X.w) (k', b', v)) := by rw [entry_at rows i, ex]; rfl
    refine next_key_item st at_ hod len en fun h' st' sb => ?_
    have I1 : L2.Inv X pins σ H { s with heap := h' } := I.turned (t' := s.toks) (fun c u hc e => (sb.2 c hc).trans e) f0 f1 f3 f4 f5
    obtain ⟨oi, e, c, dd⟩ := id st'
    exact ⟨.ref b', rfl, go_of (s := { s with heap := h' }) e c dd (by decide) ⟨.ref b', H, I1, rfl, ⟨rfl, k', b', hk, rfl, n.key _ (List.mem_of_getElem? hk)⟩, st', fun c hc => (hf c hc).1⟩⟩
  done := by
    intro X hP hw hK calm i pins s σ H E I hf st hg
    subst hP
    subst hw
    subst hK
    obtain ⟨n, hi⟩ := hg
    obtain ⟨f0, f1, f2, f3, f4, f5⟩ := hf it (List.mem_singleton.mpr rfl)
    obtain ⟨R, _⟩ := nd_get I n
    obtain ⟨at_, _, _, _, _, es', ep', xs, dat, rows, proj⟩ := R
    obtain ⟨rfl, rfl⟩ := dat_one hod dat
    have len : es.size = ks.length := by rw [size_of_entries rows, ← proj, List.length_map]
    exact next_key_end (I.ok.hd calm) st at_ hod len hi fun h' eb => ⟨rfl, I.turned (t' := s.toks) (fun c u hc e => eb c u hc e) f0 f1 f3 f4 f5⟩
  self := fun A i s Q E st h => wpAny_pyIter_keyiter st h
def iKeysN (P : Program) (w : World) (td : TE) : TI := fun σ H R => td σ H fun x H1 => ∃ (d : Addr) (o : Obj) (ks : List (List NKey × Addr)), x = .ref d ∧ NdIn P w H1 d o ks ∧ R (Itn P w d o ks) H1
end
theorem pi_keysN {X : Cx} {tg e : Expr} {td : TE} (he : PE X e td) : PI X tg e (iKeysN X.prog X.w td) := by
  refine ⟨fun pins s σ H R I h => ?_⟩
  refine thn (he.run pins s σ H _ I h) fun u s1 ⟨x, H1, I1, rx, d, o, ks, ex, n, q⟩ => ?_
  subst ex
  obtain rfl : u = Value.ref d := rx
  obtain ⟨R', _⟩ := nd_get I1 n
  obtain ⟨at_, sys, _, cls, _, es, ep, xs, dat, rows, proj⟩ := R'
  have len : es.size = ks.length := by rw [size_of_entries rows, ← proj, List.length_map]
  refine iter_keys sys at_ cls dat (pi_one (tk := s1.toks) I1 _ (turn_nd _ dat) ⟨_, Heap.get?_push_size _ rfl, rfl, ?_⟩ q)
  rw [len]
  rfl
end Wh

set_option maxHeartbeats 3200000
namespace Wh
open PySem PySem.Spec PyProof PyProof.Rows L2
/-! ### dict(l), l a list of pairs whose keys are tuples, each key once -/
section
variable {prog : Program} {w : World} {κ : Type} [DecidableEq κ] {knd : KeyKind prog w κ}
/-- all but two things stay as they were -/
def KeepB (S I : Addr) (h h' : Heap) : Prop := ∀ b o, b ≠ S → b ≠ I → h.get? b = some o → h'.get? b = some o
theorem KeepB.key {S I : Addr} {h h' : Heap} (k : KeepB S I h h') {ks : List κ} {a : Addr} (aS : a ≠ S) (aI : a ≠ I) (x : IsTupleKey knd h ks a) : IsTupleKey knd h' ks a := by
  obtain ⟨o, its, n, e, r⟩ := x
  exact ⟨o, its, n, k a o aS aI e, r⟩
theorem KeepB.tup {S I : Addr} {h h' : Heap} (k : KeepB S I h h') {a : Addr} {its : Array Value} (aS : a ≠ S) (aI : a ≠ I) (x : IsTup h a its) : IsTup h' a its := by
  obtain ⟨o, e, r⟩ := x
  exact ⟨o, k a o aS aI e, r⟩
theorem dictH_at {h h' : Heap} {S : Addr} {xs : List (List κ × Addr × Value)} (d : h.DictOfH (tupleKind knd) S xs) (e : h'.get? S = h.get? S) (is : ∀ x ∈ xs, IsTupleKey knd h' x.1 x.2.1) : h'.DictOfH (tupleKind knd) S xs := by
  obtain ⟨o, es, ep, e1, e2, e3, e4, _, e6⟩ := d
  exact ⟨o, es, ep, e.trans e1, e2, e3, e4, is, e6⟩
theorem take_new {xs : List (List κ × Addr × Value)} (nd : (xs.map (·.1)).Nodup) {i : Nat} {q : List κ × Addr × Value} (e : xs[i]? = some q) : storedH (xs.take i) q.1 q.2.1 q.2.2 = xs.take (i + 1) := by
  have out : atKey (xs.take i) q.1 = none := by
    unfold atKey
    rw [Option.map_eq_none_iff, List.find?_eq_none]
    intro x hx z
    obtain ⟨j, hj⟩ := List.mem_iff_getElem?.mp hx
    rw [List.getElem?_take] at hj
    split at hj
    · rename_i lt
      have a1 : (xs.map (·.1))[j]? = some q.1 := by rw [List.getElem?_map, hj]; exact congrArg some (of_decide_eq_true z)
      have a2 : (xs.map (·.1))[i]? = some q.1 := by rw [List.getElem?_map, e]; rfl
      have hl : j < (xs.map (·.1)).length := (List.getElem?_eq_some_iff.mp a1).1
      have := (List.getElem?_inj hl nd).mp (a1.trans a2.symm)
      omega
    · cases hj
  rw [storedH_new out, List.take_succ, e]
  rfl
section
variable {A : Around} {R : Result → Shared → Prop} {S I l : Addr} {h0 : Heap} {items : Array Value} {res : Value} {xs : List (List κ × Addr × Value)}
/-- what is known of the pair at j -/
def PairAt (knd : KeyKind prog w κ) (S I : Addr) (h0 : Heap) (items : Array Value) (j : Nat) (q : List κ × Addr × Value) : Prop :=
  ∃ b : Addr, items[j]? = some (Value.ref b) ∧ b ≠ S ∧ b ≠ I ∧ q.2.1 ≠ S ∧ q.2.1 ≠ I ∧ IsTup h0 b #[Value.ref q.2.1, q.2.2] ∧ IsTupleKey knd h0 q.1 q.2.1
/-- the turns of the walk over the pairs -/
theorem pair_turns (hh : A.handled = none) (room : A.units + 1 < cLine) (lS : l ≠ S) (lI : l ≠ I) (SI : S ≠ I) (isl : h0.IsList l items) (len : items.size = xs.length) (small : xs.length ≤ sizeLine) (nd : (xs.map (·.1)).Nodup)
    (src : ∀ j q, xs[j]? = some q → PairAt knd S I h0 items j q) :
    ∀ (k i : Nat) (ix : Int) (t : Tok) (s : Shared), i + k = xs.length → KeepB S I h0 s.heap → s.heap.IsListIter I l i → s.heap.DictOfH (tupleKind knd) S (xs.take i) →
      (∀ h' tk, h'.DictOfH (tupleKind knd) S xs → KeepB S I h0 h' → R (.ok (.ret res)) { s with heap := h', toks := tk }) →
      codeAny (model prog w) A (.builtin "dict.update.loop" ⟨[.ref S, .ref I, .int ix t, res], []⟩) R s := by
  have listed : ∀ {h : Heap}, KeepB S I h0 h → h.IsList l items := fun {h} k => by
    obtain ⟨o, e, r⟩ := isl
    exact ⟨o, k l o lS lI e, r⟩
  intro k
  induction k with
  | zero =>
    intro i ix t s hi keep it d fin
    obtain rfl : i = xs.length := hi
    rw [List.take_length] at d
    refine codeAny_builtin ud_entry (Around.under_plainId ud_plain _ ▸ ?_)
    show wpAny _ (Around.in1 A) (PySem.pyNext (Value.ref I) >>= _) _ _ s
    refine wpAny_bind (wpAny_pyNext_list_end (A := Around.in1 A) hh it (listed keep) (Array.getElem?_eq_none (by omega)) fun h1 only => ?_)
    show wpAny _ (Around.in1 A) (Builtin.Dict.addKeywords S [] >>= _) _ _ _
    have keep1 : KeepB S I h0 h1 := fun b o bS bI e => only b o bI (keep b o bS bI e)
    refine wpAny_bind (wpAny_pure (wpAny_pure (fin h1 s.toks ?_ keep1)))
    obtain ⟨o, es, ep, e1, e2, e3, e4, _, e6⟩ := d
    refine ⟨o, es, ep, only S o SI e1, e2, e3, e4, fun x hx => ?_, e6⟩
    obtain ⟨j, hj⟩ := List.mem_iff_getElem?.mp hx
    obtain ⟨_, _, _, _, a1, a2, _, a3⟩ := src j x hj
    exact keep1.key a1 a2 a3
  | succ k ih =>
    intro i ix t s hi keep it d fin
    have li : i < xs.length := by omega
    have hq : xs[i]? = some xs[i] := List.getElem?_eq_getElem li
    generalize xs[i] = q at hq
    obtain ⟨b, eb, bS, bI, aS, aI, tup, key⟩ := src i q hq
    refine codeAny_builtin ud_entry (Around.under_plainId ud_plain _ ▸ ?_)
    show wpAny _ (Around.in1 A) (PySem.pyNext (Value.ref I) >>= _) _ _ s
    refine wpAny_bind (wpAny_pyNext_list_item (x := Value.ref b) it (listed keep) eb fun h1 it1 only => ?_)
    have keep1 : KeepB S I h0 h1 := fun c o cS cI e => (only.2 c cI).trans (keep c o cS cI e)
    have d1 : h1.DictOfH (tupleKind knd) S (xs.take i) := dictH_at d (only.2 S SI) fun x hx => by
      obtain ⟨j, hj⟩ := List.mem_iff_getElem?.mp (List.mem_of_mem_take hx)
      obtain ⟨_, _, _, _, a1, a2, _, a3⟩ := src j x hj
      exact keep1.key a1 a2 a3
    have tup1 := keep1.tup bS bI tup
    obtain ⟨o, ho, hc, n, hd⟩ := id tup1
    show wpAny _ (Around.in1 A) (holding [Value.ref b] _ >>= _) _ _ _
    refine wpAny_bind (wpAny_holding (wpAny_bind (wpAny_tryCatch ?_)))
    delta Builtin.Dict.pairItems
    refine wpAny_bind (wpAny_typeOf (T := "tuple") ⟨o, ho, hc⟩ ?_)
    rw [if_pos (by first | decide | rfl | simp)]
    refine wpAny_bind (wpAny_seqItems ho hd (wpAny_pure ?_))
    show wpAny _ (Around.in1 A) (holding [Value.ref q.2.1, q.2.2] (dictSet S (Value.ref q.2.1) q.2.2)) _ _ _
    refine wpAny_holding (wpAny_dictSet_heap (knd := tupleKind knd) (k := q.1) (tupleKind_room_in1 room) (keep1.key aS aI key) d1 (fun h2 d2 only2 => ?_) (by rw [List.length_take]; omega))
    rw [take_new nd hq] at d2
    have keep2 : KeepB S I h0 h2 := fun c o cS cI e => (only2.2 c cS).trans (keep1 c o cS cI e)
    obtain ⟨oi, e1, e2⟩ := it1
    exact wpAny_pure ⟨plainId_quiet ud_plain _, ih (i + 1) (ix + 1) 0 _ (by omega) keep2 ⟨oi, (only2.2 I (Ne.symm SI)).trans e1, e2⟩ d2 fun h' tk => fin h' tk⟩
end
section
variable {A : Around} {E : Value → Shared → Prop} {s : Shared} {l : Addr} {items : Array Value} {xs : List (List κ × Addr × Value)}
theorem in1_units (A : Around) : A.in1.units = A.units + 1 := rfl
/-- dict(l) -/
theorem call_dictH {Q : Value → Shared → Prop} (hh : A.handled = none) (room : A.units + 2 < cLine) {o : Obj} {n : Nat} (hl : s.heap.get? l = some o) (cl : o.cls = .type "list") (nd : o.dict = none) (dat : o.data = .seq items n)
    (len : items.size = xs.length) (small : xs.length ≤ sizeLine) (once : (xs.map (·.1)).Nodup)
    (src : ∀ (j : Nat) (q : List κ × Addr × Value), xs[j]? = some q → ∃ b : Addr, items[j]? = some (Value.ref b) ∧ IsTup s.heap b #[Value.ref q.2.1, q.2.2] ∧ IsTupleKey knd s.heap q.1 q.2.1)
    (fin : ∀ h' tk, h'.DictOfH (tupleKind knd) s.heap.objs.size xs → (∀ b u, s.heap.get? b = some u → h'.get? b = some u) → Q (.ref s.heap.objs.size) { s with heap := h', toks := tk }) :
    wpAny (model prog w) A (call (.type "dict") [.ref l]) Q E s := by
  refine callType_codes (Q₁ := fun ob s' => ob = .ref s.heap.objs.size ∧ s' = { s with heap := s.heap.push { cls := .type "dict", data := .dict #[] } }) PySem.F.kt_called_dict (PySem.F.kt_typeCall_dict_1 _) PySem.F.entry_dict_init (kt_code_dict_new _ (And.intro rfl rfl)) ?_
  rintro ob s' ⟨rfl, rfl⟩
  have laid := Heap.DictOf.new (knd := knd) s.heap
  have at_ : (s.heap.push { cls := .type "dict", data := .dict #[] }).get? s.heap.objs.size = some { cls := .type "dict", data := .dict #[] } := Heap.get?_push_size _ rfl
  have old : ∀ b u, s.heap.get? b = some u → (s.heap.push { cls := .type "dict", data := .dict #[] }).get? b = some u := fun _ _ e => Heap.get?_push_of_some _ e
  refine ⟨laid.typeIs, PySem.F.args_dict_init_2 _ _, ?_⟩
  delta Builtin.«dict.__init__»
  refine wpAny_bind ?_
  delta Builtin.Dict.selfAndRest
  refine wpAny_bind (wpAny_notOrdered_dict laid.typeIs ?_)
  show wpAny _ _ (pure (s.heap.objs.size, [Value.ref l])) _ _ _
  refine wpAny_pure (?_ : wpAny _ _ (Builtin.Dict.updateFrom "dict.__init__" s.heap.objs.size (.ref l) [] .none) _ _ _)
  delta Builtin.Dict.updateFrom
  refine wpAny_bind (wpAny_typeOf (T := "list") ⟨o, old _ _ hl, cl⟩ ?_)
  rw [if_pos (by first | decide | rfl | simp)]
  refine wpAny_bind (miss_list (old _ _ hl) cl dat nd hh fun h1 tk1 more => ?_)
  rw [if_pos (show (none : Option Value).isNone = true from rfl)]
  have lst1 : h1.IsList l items := ⟨o, more _ _ (old _ _ hl), cl, n, dat⟩
  have big : s.heap.objs.size < h1.objs.size := Heap.lt_size (more _ _ at_)
  refine wpAny_bind (wpAny_rule (wpAny_bind (wpAny_pyIter_list lst1 ?_)))
  let h2 := h1.push { cls := .type "list_iterator", data := .fields #[.ref l, .int 0 0] }
  have all2 : ∀ b u, s.heap.get? b = some u → h2.get? b = some u := fun b u e => Heap.get?_push_of_some _ (more _ _ (old _ _ e))
  have low : l < s.heap.objs.size := Heap.lt_size hl
  have walk := pair_turns (knd := knd) (prog := prog) (w := w) (A := A.in1) (R := wants (fun r s2 => r = .none ∧ Q (.ref s.heap.objs.size) s2) E) (S := s.heap.objs.size) (I := h1.objs.size) (l := l) (h0 := h2) (items := items) (res := Value.none) (xs := xs)
    hh (by rw [in1_units]; omega) (Nat.ne_of_lt low) (Nat.ne_of_lt (Nat.lt_trans low big)) (Nat.ne_of_lt big) ⟨o, all2 _ _ hl, cl, n, dat⟩ len small once
    (fun j q e => by
      obtain ⟨b, e1, e2, e3⟩ := src j q e
      have lb : b < s.heap.objs.size := e2.lt
      have lq : q.2.1 < s.heap.objs.size := let ⟨_, _, _, z, _⟩ := e3; Heap.lt_size z
      refine ⟨b, e1, Nat.ne_of_lt lb, Nat.ne_of_lt (Nat.lt_trans lb big), Nat.ne_of_lt lq, Nat.ne_of_lt (Nat.lt_trans lq big), e2.keeps fun c u z => all2 c u z, ?_⟩
      obtain ⟨u, its, m, z, r⟩ := e3
      exact ⟨u, its, m, all2 _ _ z, r⟩)
    xs.length 0 0 0 { s with heap := h2, toks := tk1 } (Nat.zero_add _) (fun _ _ _ _ e => e) ⟨_, Heap.get?_push_size _ rfl, rfl, rfl⟩
    ⟨_, #[], 0, Heap.get?_push_of_some _ (more _ _ at_), ⟨rfl, rfl, rfl⟩, rfl, rfl, (fun x hx => by cases hx), List.nodup_nil⟩
    (fun h' tk d keep => ⟨rfl, fin h' tk d fun b u e => keep b u (Nat.ne_of_lt (Heap.lt_size e)) (Nat.ne_of_lt (Nat.lt_trans (Heap.lt_size e) big)) (all2 b u e)⟩)
  first
    | exact wpAny_pure ⟨plainId_quiet ud_plain _, walk⟩
    | exact wpAny_bind (wpAny_pure (wpAny_pure ⟨plainId_quiet ud_plain _, walk⟩))
end
end
/-- dict(l) of pairs (tuple of ints and texts, value), each key once -/
def rDictT (K : PySem.W.Frag) : List V → Hp → VK → Prop := fun vs H Q => ∃ (l : Addr) (ps : List (Addr × Addr)) (kvs : List (List L2.Key × V)), vs = [V.ref l] ∧ SqL K H l (ps.map fun p => V.ref p.1) ∧ Paired (fun (p : Addr × Addr) (kv : List L2.Key × V) => SqT K H p.1 [V.ref p.2, kv.2] ∧ H p.2 = some (.tup (kv.1.map kV))) ps kvs ∧ (kvs.map (·.1)).Nodup ∧
  ∀ d, H d = none → Q (.ref d) (upd H d (.dT kvs))
section
variable {X : Cx}
theorem pairs_read {pins : List (Addr × Obj)} {σ : L2.St} {H : Hp} {s : Shared} (I : L2.Inv X pins σ H s) : ∀ {ps : List (Addr × Addr)} {kvs : List (List L2.Key × V)}, Paired (fun (p : Addr × Addr) (kv : List L2.Key × V) => SqT X.K H p.1 [V.ref p.2, kv.2] ∧ H p.2 = some (.tup (kv.1.map kV))) ps kvs →
    ∃ xs : List (List L2.Key × Addr × Value), KT H kvs xs ∧ xs.length = ps.length ∧ ∀ (j : Nat) (q : List L2.Key × Addr × Value), xs[j]? = some q → ∃ p : Addr × Addr, ps[j]? = some p ∧ IsTup s.heap p.1 #[Value.ref q.2.1, q.2.2] ∧ IsTupleKey (mixKind X.prog X.w) s.heap q.1 q.2.1
  | _, _, .nil => ⟨[], .nil, rfl, fun j q e => by simp at e⟩
  | _, _, .cons (a := p) (b := kv) h t => by
    obtain ⟨xs, r, len, at_⟩ := pairs_read I t
    obtain ⟨its, rv, tup, _⟩ := I.tuple h.1
    obtain ⟨u, y, ei, ru, ry⟩ := vals2 rv
    subst ei
    cases ru
    refine ⟨(kv.1, p.2, y) :: xs, .cons ⟨rfl, h.2, ry⟩ r, by rw [List.length_cons, List.length_cons, len], fun j q e => ?_⟩
    cases j with
    | zero =>
      obtain rfl : (kv.1, p.2, y) = q := Option.some.inj e
      exact ⟨p, rfl, tup, key_of I.hok h.2⟩
    | succ j =>
      obtain ⟨p', e1, e2⟩ := at_ j q (by simpa using e)
      exact ⟨p', by simpa using e1, e2⟩
theorem KT.keys {H : Hp} : ∀ {kvs : List (List L2.Key × V)} {xs : List (List L2.Key × Addr × Value)}, KT H kvs xs → xs.map (·.1) = kvs.map (·.1)
  | _, _, .nil => rfl
  | _, _, .cons h t => by rw [List.map_cons, List.map_cons, KT.keys t, h.1]
theorem cr_dictT (K : PySem.W.Frag) (k : X.K = K) (calm : X.calm = true) (room : X.A.units + 2 < cLine) : CallR X (.type "dict") (rDictT K) := by
  subst k
  intro pins s σ H vs us Q I rv want
  obtain ⟨l, ps, kvs, rfl, at_, pr, once, q⟩ := want
  rw [Vals.ref1 rv]
  obtain ⟨its, vals, pl, small⟩ := I.list at_
  have e0 : its = (ps.map (·.1)).map Value.ref := refs_at (ps := ps.map (·.1)) (by rw [List.map_map]; exact vals)
  subst e0
  obtain ⟨xs, kt, len, src⟩ := pairs_read I pr
  obtain ⟨o, n, ho, hc, hd, hdat⟩ := pl
  have lx : xs.length ≤ sizeLine := by simpa [len] using small
  refine call_dictH (knd := mixKind X.prog X.w) (xs := xs) (I.ok.hd calm) room ho hc hd hdat (by simp [len]) lx (by rw [KT.keys kt]; exact once) (fun j q' e => ?_) fun h' tk d keep => ?_
  · obtain ⟨p, e1, e2, e3⟩ := src j q' e
    exact ⟨p.1, by simp [e1], e2, e3⟩
  · have free := I.hok.fresh (Nat.le_refl s.heap.objs.size)
    obtain ⟨o', es, ep, h1, h2, h3, h4, _, h6⟩ := d
    exact ⟨.ref s.heap.objs.size, upd H s.heap.objs.size (.dT kvs), I.laid (t' := tk) keep (Nat.le_refl _) (show ObjOk X.prog X.w _ _ _ (.dT kvs) from ⟨by rw [Paired.length kt]; exact lx, beq_eq_false_iff_ne.mpr (Nat.ne_of_gt I.big), xs, kt.keeps fun b ys e => (upd_ne (ne_of_none e free)).trans e, o', es, ep, h1, h2, h3, h4, h6⟩), rfl, q _ free⟩
end
end Wh

namespace Wh
open PySem PySem.Spec PyProof PyProof.Rows L2
/-! ### len(set(l)): how many unlike numbers -/
theorem met_sub (f : Nat → Int) : ∀ n : Nat, (∀ x ∈ firstMet f n, ∃ i, i < n ∧ f i = x) ∧ (firstMet f n).Nodup
  | 0 => ⟨(fun x h => by cases h), List.nodup_nil⟩
  | n + 1 => by
    obtain ⟨h1, h2⟩ := met_sub f n
    rw [firstMet_succ]
    unfold step_dedup
    by_cases c : (firstMet f n).any (· == f n) = true
    · rw [if_pos c]
      refine ⟨fun x hx => ?_, h2⟩
      obtain ⟨i, hi, e⟩ := h1 x hx
      exact ⟨i, by omega, e⟩
    · rw [if_neg c]
      have nin : f n ∉ firstMet f n := fun z => c (List.any_eq_true.mpr ⟨f n, z, by simp⟩)
      refine ⟨fun x hx => ?_, ?_⟩
      · have hx : x ∈ firstMet f n ∨ x = f n := by
          simp only [List.mem_append, List.mem_cons, List.not_mem_nil, or_false] at hx
          first
            | exact hx
            | exact hx.symm
        rcases hx with hx | rfl
        · obtain ⟨i, hi, e⟩ := h1 x hx
          exact ⟨i, by omega, e⟩
        · exact ⟨n, by omega, rfl⟩
      · first
          | exact List.nodup_append.mpr ⟨h2, List.nodup_cons.mpr ⟨(fun h => by cases h), List.nodup_nil⟩, fun a ha b hb e => nin (by rw [List.mem_singleton.mp hb] at e; exact e ▸ ha)⟩
          | exact List.nodup_cons.mpr ⟨nin, h2⟩
def tLenSetC (K : PySem.W.Frag) (ta : TE) : TE := fun σ H Q => ta σ H fun x H1 => ∃ (l : Addr) (ns : List Int), x = V.ref l ∧ SqL K H1 l (ns.map V.int) ∧ ns.length < 64 ∧ ∀ k : Nat, (∀ ks : List Int, ks.Nodup → (∀ x, x ∈ ks ↔ x ∈ ns) → k = ks.length) → Q (.int (k : Int)) H1
theorem pe_lenSetC {X : Cx} (K : PySem.W.Frag) (k : X.K = K) {a : Expr} {ta : TE} {p p2 q pos : Pos} (calm : X.calm = true) (g1 : Gl X "len") (m1 : X.mg "len" = none) (g2 : Gl X "set") (m2 : X.mg "set" = none) (ha : PE X a ta)
    (one : starEach [a] X.env = (false, eval a X.env) :: starEach [] X.env := by rfl) : PE X (.Call (.Name "len" p) [.Call (.Name "set" p2) [a] [] q] [] pos) (tLenSetC K ta) := by
  subst k
  constructor
  intro pins s σ H Q I h
  refine Call_ (ld_blt I g1 m1 PySem.boot_len (PyProof.Rows.callWith_builtin1 (PyProof.Rows.args_cons ?_ rfl) rfl rfl))
  refine Call_ (ld_blt I g2 m2 PyProof.Rows.boot_set (PyProof.Rows.callWith_type1 (PyProof.Rows.args_cons (thn (ha.run pins s σ H _ I h) ?_) one) one rfl))
  rintro v s1 ⟨x, H1, J, rx, l, ns, rfl, hl, few, want⟩
  cases rx
  obtain ⟨its, r, pl, _⟩ := J.list hl
  have size : its.toArray.size = ns.length := by rw [List.size_toArray, ← r.length, List.length_map]
  refine PyProof.Rows.args_nil (call_set_list (J.ok.hd calm) pl.isList (ns := ns) (by simpa using r.ints) (by unfold scanBound; omega) ?_)
  intro h' tk S keep
  rw [size] at S
  have few2 := (met_in (fun i => ns.getD i 0) ns.length).2
  obtain ⟨o, es, ep, t, at_, cls, dat, _, _, _, fit, num⟩ := S
  have J2 : Inv X pins σ H1 { s1 with heap := h', toks := tk } := J.kept fun b o e => keep b o (Heap.lt_size e) e
  refine PyProof.Rows.args_nil (call_len_set at_ cls dat fit (by rw [num]; omega) ⟨.int ((firstMet (fun i => ns.getD i 0) ns.length).length : Nat), H1, J2.tok _, ⟨_, by rw [num]⟩, want _ fun ks nd mem => ?_⟩)
  obtain ⟨m1, m2⟩ := met_sub (fun i => ns.getD i 0) ns.length
  have m3 := (met_in (fun i => ns.getD i 0) ns.length).1
  have sub : ∀ x ∈ firstMet (fun i => ns.getD i 0) ns.length, x ∈ ks := fun x hx => by
    obtain ⟨i, hi, e⟩ := m1 x hx
    refine (mem x).mpr ?_
    rw [← e, List.getD_eq_getElem?_getD, List.getElem?_eq_getElem hi]
    exact List.getElem_mem hi
  have sup : ∀ x ∈ ks, x ∈ firstMet (fun i => ns.getD i 0) ns.length := fun x hx => by
    obtain ⟨i, hi, e⟩ := List.mem_iff_getElem.mp ((mem x).mp hx)
    have := m3 i hi
    rw [List.getD_eq_getElem?_getD, List.getElem?_eq_getElem hi] at this
    rw [← e]
    exact this
  have l1 := nd_sub_len m2 sub
  have l2 := nd_sub_len nd sup
  omega
/-! ### what can be shown of classes in a given web -/
/-- where one word leads two houses: as many rounds as there are pairs -/
def addS (ts : List Tie) (l : List Pr) (q : Pr) : List Pr := letters.foldl (fun l m => match step2 ts q m with
  | some r => if l.contains r then l else l ++ [r]
  | none => l) l
def reachN (ts : List Tie) (p0 : Pr) : Nat → Nat → List Pr → List Pr
  | 0, _, l => l
  | k + 1, i, l => match l[i]? with
    | some q => reachN ts p0 k (i + 1) (addS ts l q)
    | none => l
def reachL (n : Nat) (ts : List Tie) (p0 : Pr) : List Pr := reachN ts p0 (n * n) 0 (addS ts [] p0)
def closedL (ts : List Tie) (p0 : Pr) (l : List Pr) : Bool := (p0 :: l).all fun q => letters.all fun m => match step2 ts q m with
  | some r => l.contains r
  | none => true
def upCl (n : Nat) (ts : List Tie) (T : List (List Nat)) : Bool := (List.range n).all fun a => (List.range n).all fun b =>
  let l := reachL n ts (a, b)
  closedL ts (a, b) l && l.all fun r => cell T (a, r.1) == cell T (b, r.2)
theorem closed_walk {ts : List Tie} {p0 : Pr} {l : List Pr} (wl : ∀ q m r, step2 ts q m = some r → m ∈ letters) (h : closedL ts p0 l = true) : ∀ (ms : List Nat) (q r : Pr), (q = p0 ∨ q ∈ l) → ms ≠ [] → walk2 ts q ms = some r → r ∈ l
  | [], _, _, _, ne, _ => absurd rfl ne
  | m :: ms, q, r, hq, _, hw => by
    have hw : (step2 ts q m).bind (fun s => walk2 ts s ms) = some r := hw
    obtain ⟨s, h1, h2⟩ := Option.bind_eq_some_iff.mp hw
    have hs : s ∈ l := by
      unfold closedL at h
      have a := List.all_eq_true.mp h q (by rcases hq with rfl | hq; exact List.mem_cons_self; exact List.mem_cons_of_mem _ hq)
      have b := List.all_eq_true.mp a m (wl q m s h1)
      rw [h1] at b
      exact List.contains_iff_mem.mp b
    match ms, h2 with
    | [], h2 =>
      obtain rfl := Option.some.inj h2
      exact hs
    | m' :: ms, h2 => exact closed_walk wl h (m' :: ms) s r (.inr hs) (by simp) h2
theorem step_letter {n : Nat} {ts : List Tie} (w : WebOk n ts) : ∀ q m r, step2 ts q m = some r → m ∈ letters := fun q m r h => marks_let w q.1 m (step2_mark h).1
theorem upCl_cl {n : Nat} {ts : List Tie} {T : List (List Nat)} (w : WebOk n ts) (h : upCl n ts T = true) {p q : Pr} (c : Cl n ts p q) : cell T p = cell T q := by
  induction c with
  | refl => rfl
  | @step p q h1 h2 l =>
    obtain ⟨ms, ne, hw⟩ := l
    have a := List.all_eq_true.mp h p.1 (List.mem_range.mpr h1.1)
    have b := List.all_eq_true.mp a q.1 (List.mem_range.mpr h2.1)
    simp only [Bool.and_eq_true] at b
    have m := closed_walk (step_letter w) b.1 ms (p.1, q.1) (p.2, q.2) (.inl rfl) ne hw
    have e := List.all_eq_true.mp b.2 _ m
    exact beq_iff_eq.mp e
  | symm _ ih => exact ih.symm
  | trans _ _ i1 i2 => exact i1.trans i2
def upStep (n : Nat) (ts : List Tie) (T : List (List Nat)) : Bool := letters.all fun m => (List.range n).all fun z => match door z m ts with
  | none => true
  | some x => (List.range n).all fun w => match door w m ts with
    | none => true
    | some u => (List.range n).all fun y => (List.range n).all fun v => !(cell T (x, y) == cell T (u, v)) || cell T (z, y) == cell T (w, v)
theorem upWd {n : Nat} {ts : List Tie} {T : List (List Nat)} (w : WebOk n ts) (h : upCl n ts T = true) (h2 : upStep n ts T = true) {p q : Pr} (c : Wd n ts p q) : InN n p → cell T p = cell T q := by
  induction c with
  | cl c => exact fun _ => upCl_cl w h c
  | @step x y u v z w' m c d1 d2 ih =>
    intro hp
    have hq := ((Wd.step c d1 d2).inN w).mp hp
    have e := ih ⟨door_lt w d1, hp.2⟩
    have hm : m ∈ letters := by
      have := door_mem d1
      have : m ∈ marksAt z ts := by
        rw [← doorsAt_fst]
        exact List.mem_map_of_mem (f := (·.1)) this
      exact marks_let w z m this
    have a := List.all_eq_true.mp h2 m hm
    have b := List.all_eq_true.mp a z (List.mem_range.mpr hp.1)
    rw [d1] at b
    have c := List.all_eq_true.mp b w' (List.mem_range.mpr hq.1)
    rw [d2] at c
    have d := List.all_eq_true.mp c y (List.mem_range.mpr hp.2)
    have f := List.all_eq_true.mp d v (List.mem_range.mpr hq.2)
    rw [e] at f
    simp only [beq_self_eq_true, Bool.not_true, Bool.false_or, beq_iff_eq] at f
    exact f
  | symm c ih => exact fun hp => (ih ((c.inN w).mpr hp)).symm
  | trans c _ i1 i2 => exact fun hp => (i1 hp).trans (i2 ((c.inN w).mp hp))
def fairT (n : Nat) (T : List (List Nat)) : Bool := (List.range n).all fun a => (List.range n).all fun b => (List.range n).all fun c => b == c || !(cell T (a, b) == cell T (a, c))
theorem fair_of {n : Nat} {T : List (List Nat)} {R : Pr → Pr → Prop} (h : fairT n T = true) (up : ∀ p q, InN n p → R p q → cell T p = cell T q) : ¬ UnfairR n R := by
  rintro ⟨a, b, c, h1, h2, ne, r⟩
  have x := List.all_eq_true.mp h a (List.mem_range.mpr h1.1)
  have y := List.all_eq_true.mp x b (List.mem_range.mpr h1.2)
  have z := List.all_eq_true.mp y c (List.mem_range.mpr h2.2)
  have e := up _ _ h1 r
  simp only [Bool.or_eq_true, beq_iff_eq, Bool.not_eq_true'] at z
  rcases z with z | z
  · exact ne z
  · rw [beq_eq_false_iff_ne] at z
    exact z e
end Wh

namespace Wh
open PySem L2
/-! ### labels of pairs -/
/-- the pairs of houses, row by row -/
def PL (n : Nat) : List Pr := (List.range (n * n)).map fun k => (k / n, k % n)
def ixP (n : Nat) (p : Pr) : Nat := n * p.1 + p.2
theorem ixP_lt {n : Nat} {p : Pr} (h : InN n p) : ixP n p < n * n := by
  have h1 : p.1 + 1 ≤ n := h.1
  have h2 : p.2 < n := h.2
  have := Nat.mul_le_mul_left n h1
  unfold ixP
  rw [Nat.mul_add, Nat.mul_one] at this
  omega
theorem ixP_div {n : Nat} {p : Pr} (h : InN n p) : (ixP n p / n, ixP n p % n) = p := by
  have h2 : p.2 < n := h.2
  have n0 : 0 < n := by omega
  unfold ixP
  rw [Nat.mul_add_div n0, Nat.div_eq_of_lt h2, Nat.add_zero, Nat.mul_add_mod, Nat.mod_eq_of_lt h2]
theorem div_ixP {n k : Nat} (h : k < n * n) : InN n (k / n, k % n) ∧ ixP n (k / n, k % n) = k := by
  have n0 : 0 < n := by
    rcases Nat.eq_zero_or_pos n with e | e
    · rw [e] at h
      omega
    · exact e
  exact ⟨⟨(Nat.div_lt_iff_lt_mul n0).mpr h, Nat.mod_lt _ n0⟩, Nat.div_add_mod k n⟩
theorem PL_len (n : Nat) : (PL n).length = n * n := by unfold PL; rw [List.length_map, List.length_range]
theorem PL_get {n k : Nat} (h : k < n * n) : (PL n)[k]? = some (k / n, k % n) := by
  unfold PL
  rw [List.getElem?_map, List.getElem?_range h]
  rfl
theorem PL_at {n k : Nat} {p : Pr} (e : (PL n)[k]? = some p) : InN n p ∧ ixP n p = k := by
  have hk : k < n * n := by
    have := (List.getElem?_eq_some_iff.mp e).1
    rwa [PL_len] at this
  rw [PL_get hk] at e
  obtain rfl := Option.some.inj e
  exact div_ixP hk
theorem PL_in {n : Nat} {p : Pr} (h : InN n p) : (PL n)[ixP n p]? = some p := by rw [PL_get (ixP_lt h), ixP_div h]
theorem PL_mem {n : Nat} {p : Pr} : p ∈ PL n ↔ InN n p := by
  constructor
  · intro h
    obtain ⟨k, e⟩ := List.mem_iff_getElem?.mp h
    exact (PL_at e).1
  · intro h
    exact List.mem_of_getElem? (PL_in h)
theorem PL_nodup (n : Nat) : (PL n).Nodup := by
  unfold PL
  rw [List.nodup_iff_pairwise_ne, List.pairwise_map]
  refine (List.nodup_range (n := n * n)).imp_of_mem ?_
  intro a b ha hb ne e
  have h1 := (div_ixP (List.mem_range.mp ha)).2
  have h2 := (div_ixP (List.mem_range.mp hb)).2
  rw [e] at h1
  exact ne (h1.symm.trans h2)
def pk (p : Pr) : List L2.Key := [Sum.inl (p.1 : Int), Sum.inl (p.2 : Int)]
theorem pk_inj {p q : Pr} (h : pk p = pk q) : p = q := by
  obtain ⟨a, b⟩ := p
  obtain ⟨c, d⟩ := q
  unfold pk at h
  injection h with h1 h
  injection h with h2 _
  injection h1 with h1
  injection h2 with h2
  simp only at h1 h2
  exact Prod.ext (by simp only; omega) (by simp only; omega)
theorem pk_tup (p : Pr) : (pk p).map kV = [V.int (p.1 : Int), V.int (p.2 : Int)] := rfl
/-- the dict of labels -/
def lblK (n : Nat) (f : Pr → Nat) : List (List L2.Key × V) := (PL n).map fun p => (pk p, V.int (f p : Int))
theorem lblK_len (n : Nat) (f : Pr → Nat) : (lblK n f).length = n * n := by unfold lblK; rw [List.length_map, PL_len]
theorem lblK_get {n k : Nat} {f : Pr → Nat} {kv : List L2.Key × V} (e : (lblK n f)[k]? = some kv) : ∃ p, InN n p ∧ ixP n p = k ∧ kv = (pk p, V.int (f p : Int)) := by
  unfold lblK at e
  rw [List.getElem?_map] at e
  obtain ⟨p, hp, rfl⟩ := Option.map_eq_some_iff.mp e
  exact ⟨p, (PL_at hp).1, (PL_at hp).2, rfl⟩
theorem lblK_keys (n : Nat) (f : Pr → Nat) : ((lblK n f).map (·.1)).Nodup := by
  unfold lblK
  rw [List.map_map, List.nodup_iff_pairwise_ne, List.pairwise_map]
  exact (PL_nodup n).imp fun ne e => ne (pk_inj e)
theorem lblK_val {n : Nat} {f : Pr → Nat} {p : Pr} (h : InN n p) : valV (lblK n f) (pk p) = some (V.int (f p : Int)) := by
  have main : ∀ l : List Pr, p ∈ l → valV (l.map fun p => (pk p, V.int (f p : Int))) (pk p) = some (V.int (f p : Int)) := by
    intro l
    induction l with
    | nil => intro h; cases h
    | cons q l ih =>
      intro h
      rw [List.map_cons]
      by_cases e : pk q = pk p
      · rw [valV_pos e, pk_inj e]
      · rw [valV_neg e]
        rcases List.mem_cons.mp h with rfl | h
        · exact absurd rfl e
        · exact ih h
  exact main _ (PL_mem.mpr h)
/-- two labels made one -/
def mrg (f : Pr → Nat) (a b : Nat) : Pr → Nat := fun p => if f p = max a b then min a b else f p
theorem mrg_iff (f : Pr → Nat) (a b : Nat) (p q : Pr) : mrg f a b p = mrg f a b q ↔ f p = f q ∨ (f p = a ∧ f q = b) ∨ (f p = b ∧ f q = a) := by
  unfold mrg
  rcases Nat.le_total a b with h | h
  · rw [Nat.max_eq_right h, Nat.min_eq_left h]
    split <;> split <;> omega
  · rw [Nat.max_eq_left h, Nat.min_eq_right h]
    split <;> split <;> omega
/-- each label is the place of the least pair that bears it -/
def LabOk (n : Nat) (f : Pr → Nat) : Prop := ∀ p, InN n p → f p ≤ ixP n p ∧ ∃ q, InN n q ∧ ixP n q = f p ∧ f q = f p
theorem LabOk.init (n : Nat) : LabOk n (ixP n) := fun p hp => ⟨Nat.le_refl _, p, hp, rfl, rfl⟩
theorem LabOk.mrg {n : Nat} {f : Pr → Nat} (h : LabOk n f) {one two : Pr} (h1 : InN n one) (h2 : InN n two) : LabOk n (Wh.mrg f (f one) (f two)) := by
  have le : ∀ p, Wh.mrg f (f one) (f two) p ≤ f p := fun p => by
    unfold Wh.mrg
    split
    · rename_i e
      rw [e]
      exact Nat.le_trans (Nat.min_le_left _ _) (Nat.le_max_left _ _)
    · exact Nat.le_refl _
  have low : ∃ q, InN n q ∧ ixP n q = min (f one) (f two) ∧ f q = min (f one) (f two) := by
    rcases Nat.le_total (f one) (f two) with z | z
    · rw [Nat.min_eq_left z]
      obtain ⟨_, q, a, b, c⟩ := h one h1
      exact ⟨q, a, b, c⟩
    · rw [Nat.min_eq_right z]
      obtain ⟨_, q, a, b, c⟩ := h two h2
      exact ⟨q, a, b, c⟩
  intro p hp
  obtain ⟨a1, q, a2, a3, a4⟩ := h p hp
  refine ⟨Nat.le_trans (le p) a1, ?_⟩
  by_cases c : f p = max (f one) (f two)
  · obtain ⟨q, b1, b2, b3⟩ := low
    have e : Wh.mrg f (f one) (f two) p = min (f one) (f two) := by unfold Wh.mrg; rw [if_pos c]
    refine ⟨q, b1, b2.trans e.symm, ?_⟩
    rw [e]
    unfold Wh.mrg
    rw [b3]
    split <;> rfl
  · have e : Wh.mrg f (f one) (f two) p = f p := by unfold Wh.mrg; rw [if_neg c]
    refine ⟨q, a2, a3.trans e.symm, ?_⟩
    rw [e]
    unfold Wh.mrg
    rw [a4, if_neg c]
/-! ### the table of labels -/
def rowsF (n : Nat) (f : Pr → Nat) : List (List Nat) := (List.range n).map fun a => (List.range n).map fun b => f (a, b)
theorem firsts_inc : ∀ l : List Nat, (∀ (k v : Nat), l[k]? = some v → v ≤ k ∧ l[v]? = some v) → (firsts l).Pairwise (· < ·) ∧ ∀ x ∈ firsts l, x < l.length := by
  refine from_left (P := fun l : List Nat => (∀ (k v : Nat), l[k]? = some v → v ≤ k ∧ l[v]? = some v) → (firsts l).Pairwise (· < ·) ∧ ∀ x ∈ firsts l, x < l.length) ?_ ?_
  · intro _
    exact ⟨.nil, fun x hx => by cases hx⟩
  · intro l v ih h
    have hl : ∀ (k u : Nat), l[k]? = some u → u ≤ k ∧ l[u]? = some u := fun k u e => by
      have lt : k < l.length := (List.getElem?_eq_some_iff.mp e).1
      obtain ⟨a, b⟩ := h k u (by rw [List.getElem?_append_left lt]; exact e)
      exact ⟨a, by rwa [List.getElem?_append_left (by omega)] at b⟩
    obtain ⟨i1, i2⟩ := ih hl
    obtain ⟨a, b⟩ := h l.length v (by simp)
    rw [firsts_snoc, List.length_append, List.length_singleton]
    by_cases c : v < l.length
    · have m : v ∈ l := by
        rw [List.getElem?_append_left c] at b
        exact List.mem_of_getElem? b
      rw [if_pos (((firsts_mem l).1 v).mpr m)]
      exact ⟨i1, fun x hx => by have := i2 x hx; omega⟩
    · obtain rfl : v = l.length := by omega
      rw [if_neg fun z => by have := i2 _ z; omega]
      refine ⟨List.pairwise_append.mpr ⟨i1, List.pairwise_singleton _ _, fun x hx y hy => ?_⟩, fun x hx => ?_⟩
      · rw [List.mem_singleton.mp hy]
        exact i2 x hx
      · rcases List.mem_append.mp hx with z | z
        · have := i2 x z
          omega
        · rw [List.mem_singleton.mp z]
          omega
theorem rowsF_len (n : Nat) (f : Pr → Nat) : (rowsF n f).length = n := by unfold rowsF; rw [List.length_map, List.length_range]
theorem rowsF_row (n : Nat) (f : Pr → Nat) : ∀ r ∈ rowsF n f, r.length = n := fun r hr => by
  obtain ⟨a, _, rfl⟩ := List.mem_map.mp hr
  rw [List.length_map, List.length_range]
theorem rowsF_cell {n : Nat} {f : Pr → Nat} {p : Pr} (h : InN n p) : cell (rowsF n f) p = f p := by
  unfold cell rowsF
  rw [List.getElem?_map, List.getElem?_range h.1]
  simp only [Option.map_some, Option.getD_some]
  rw [List.getElem?_map, List.getElem?_range h.2]
  rfl
theorem rowsF_get {n : Nat} {f : Pr → Nat} {p : Pr} (h : InN n p) : (rowsF n f).flatten[ixP n p]? = some (f p) := by
  have e := flat_get (rowsF_row n f) (a := p.1) (b := p.2) (by rw [rowsF_len]; exact h.1) h.2
  rw [rowsF_cell (f := f) h] at e
  unfold ixP
  rw [Nat.mul_comm]
  exact e
theorem rowsF_at {n k v : Nat} {f : Pr → Nat} (e : (rowsF n f).flatten[k]? = some v) : ∃ p, InN n p ∧ ixP n p = k ∧ v = f p := by
  have hk : k < n * n := by
    have := (List.getElem?_eq_some_iff.mp e).1
    rw [flat_len (rowsF_row n f), rowsF_len] at this
    exact this
  obtain ⟨h1, h2⟩ := div_ixP hk
  refine ⟨_, h1, h2, ?_⟩
  have := rowsF_get (f := f) h1
  rw [h2, e] at this
  exact Option.some.inj this
/-- the labels that are borne, ascending -/
def headsF (n : Nat) (f : Pr → Nat) : List Nat := firsts (rowsF n f).flatten
theorem headsF_mem {n : Nat} {f : Pr → Nat} {v : Nat} : v ∈ headsF n f ↔ ∃ p, InN n p ∧ f p = v := by
  unfold headsF
  rw [(firsts_mem _).1]
  constructor
  · intro h
    obtain ⟨k, e⟩ := List.mem_iff_getElem?.mp h
    obtain ⟨p, a, _, b⟩ := rowsF_at e
    exact ⟨p, a, b.symm⟩
  · rintro ⟨p, hp, rfl⟩
    exact List.mem_of_getElem? (rowsF_get hp)
theorem headsF_asc {n : Nat} {f : Pr → Nat} (h : LabOk n f) : (headsF n f).Pairwise (· < ·) := by
  refine (firsts_inc _ fun k v e => ?_).1
  obtain ⟨p, hp, rfl, rfl⟩ := rowsF_at e
  obtain ⟨a1, q, a2, a3, a4⟩ := h p hp
  refine ⟨a1, ?_⟩
  rw [← a3, rowsF_get a2, a4, a3]
def tblF (n : Nat) (f : Pr → Nat) : List (List Nat) := (List.range n).map fun a => (List.range n).map fun b => (headsF n f).idxOf (f (a, b))
theorem tblF_tab (n : Nat) (f : Pr → Nat) : Tab n (fun p q => f p = f q) (tblF n f) := by
  have e : tblF n f = renum (rowsF n f) := by
    unfold tblF renum rowsF headsF
    rw [List.map_map]
    refine List.map_congr_left fun a _ => ?_
    show _ = List.map _ ((List.range n).map fun b => f (a, b))
    rw [List.map_map]
    rfl
  rw [e]
  exact (renum_tab (rowsF_len n f) (rowsF_row n f)).congr fun p q hp hq => by rw [rowsF_cell hp, rowsF_cell hq]
/-! ### labels of pairs that some pairs generate -/
inductive Gen (D : Pr → Pr → Prop) : Pr → Pr → Prop
  | refl (p : Pr) : Gen D p p
  | step {p q : Pr} : D p q → Gen D p q
  | symm {p q : Pr} : Gen D p q → Gen D q p
  | trans {p q r : Pr} : Gen D p q → Gen D q r → Gen D p r
theorem Gen.mono {D D' : Pr → Pr → Prop} {p q : Pr} (h : Gen D p q) (le : ∀ p q, D p q → Gen D' p q) : Gen D' p q := by
  induction h with
  | refl p => exact .refl p
  | step d => exact le _ _ d
  | symm _ ih => exact .symm ih
  | trans _ _ i1 i2 => exact .trans i1 i2
/-- labels that tell what some pairs generate -/
def Told2 (n : Nat) (f : Pr → Nat) (D : Pr → Pr → Prop) : Prop := ∀ p q, InN n p → InN n q → (f p = f q ↔ Gen D p q)
theorem gen_in {n : Nat} {D : Pr → Pr → Prop} (hD : ∀ p q, D p q → InN n p ∧ InN n q) {p q : Pr} (h : Gen D p q) : InN n p ↔ InN n q := by
  induction h with
  | refl p => exact Iff.rfl
  | step d => exact ⟨fun _ => (hD _ _ d).2, fun _ => (hD _ _ d).1⟩
  | symm _ ih => exact ih.symm
  | trans _ _ i1 i2 => exact i1.trans i2
theorem Told2.init (n : Nat) : Told2 n (ixP n) (fun _ _ => False) := fun p q hp hq => by
  constructor
  · intro e
    have h1 := ixP_div hp
    rw [e, ixP_div hq] at h1
    rw [h1]
    exact .refl _
  · intro h
    have : ∀ {p q : Pr}, Gen (fun _ _ => False) p q → p = q := fun {p q} h => by
      induction h with
      | refl p => rfl
      | step d => exact d.elim
      | symm _ ih => exact ih.symm
      | trans _ _ i1 i2 => exact i1.trans i2
    rw [this h]
theorem Told2.mrg {n : Nat} {f : Pr → Nat} {D D' : Pr → Pr → Prop} (h : Told2 n f D) (hD : ∀ p q, D p q → InN n p ∧ InN n q) {one two : Pr} (h1 : InN n one) (h2 : InN n two) (e : ∀ p q, D' p q ↔ D p q ∨ (p = one ∧ q = two)) : Told2 n (Wh.mrg f (f one) (f two)) D' := fun p q hp hq => by
  have hD' : ∀ p q, D' p q → InN n p ∧ InN n q := fun p q d => by
    rcases (e p q).mp d with d | ⟨rfl, rfl⟩
    · exact hD p q d
    · exact ⟨h1, h2⟩
  have up : ∀ {p q}, Gen D p q → Gen D' p q := fun {p q} g => g.mono fun p q d => .step ((e p q).mpr (.inl d))
  have new : Gen D' one two := .step ((e _ _).mpr (.inr ⟨rfl, rfl⟩))
  rw [mrg_iff]
  constructor
  · rintro (z | ⟨z1, z2⟩ | ⟨z1, z2⟩)
    · exact up ((h p q hp hq).mp z)
    · exact .trans (up ((h p one hp h1).mp z1)) (.trans new (.symm (up ((h q two hq h2).mp z2))))
    · exact .trans (up ((h p two hp h2).mp z1)) (.trans (.symm new) (.symm (up ((h q one hq h1).mp z2))))
  · intro g
    have main : ∀ {p q : Pr}, Gen D' p q → InN n p → Wh.mrg f (f one) (f two) p = Wh.mrg f (f one) (f two) q := fun {p q} g => by
      induction g with
      | refl p => exact fun _ => rfl
      | @step p q d =>
        intro hp
        rw [mrg_iff]
        rcases (e p q).mp d with d | ⟨rfl, rfl⟩
        · exact .inl ((h p q hp (hD p q d).2).mpr (.step d))
        · exact .inr (.inl ⟨rfl, rfl⟩)
      | symm g ih => exact fun hp => (ih ((gen_in hD' g).mpr hp)).symm
      | trans g _ i1 i2 => exact fun hp => (i1 hp).trans (i2 ((gen_in hD' g).mp hp))
    exact (mrg_iff f _ _ p q).mp (main g hp)
theorem Told2.same {n : Nat} {f : Pr → Nat} {D D' : Pr → Pr → Prop} (h : Told2 n f D) (e : ∀ p q, InN n p → InN n q → (Gen D p q ↔ Gen D' p q)) : Told2 n f D' := fun p q hp hq => (h p q hp hq).trans (e p q hp hq)
/-- pairs that a word leads, the lesser beginning ahead -/
def LinkD (n : Nat) (ts : List Tie) : Pr → Pr → Prop := fun p q => InN n p ∧ InN n q ∧ p.1 < q.1 ∧ LinkR ts p q
theorem link_swap {ts : List Tie} {p q : Pr} (h : LinkR ts p q) : LinkR ts q p := by
  obtain ⟨w, ne, e⟩ := h
  exact ⟨w, ne, walk2_swap e⟩
theorem link_same {ts : List Tie} {p q : Pr} (h : LinkR ts p q) (e : p.1 = q.1) : p = q := by
  obtain ⟨w, _, e2⟩ := h
  obtain ⟨h1, h2⟩ := walk2_some.mp e2
  simp only at h1 h2
  rw [e, h2] at h1
  exact Prod.ext e (Option.some.inj h1).symm
theorem gen_cl {n : Nat} {ts : List Tie} {p q : Pr} : Gen (LinkD n ts) p q ↔ Cl n ts p q := by
  constructor
  · intro h
    induction h with
    | refl p => exact .refl p
    | step d => exact .step d.1 d.2.1 d.2.2.2
    | symm _ ih => exact .symm ih
    | trans _ _ i1 i2 => exact .trans i1 i2
  · intro h
    induction h with
    | refl p => exact .refl p
    | @step p q hp hq l =>
      rcases Nat.lt_trichotomy p.1 q.1 with c | c | c
      · exact .step ⟨hp, hq, c, l⟩
      · rw [link_same l c]
        exact .refl _
      · exact .symm (.step ⟨hq, hp, c, link_swap l⟩)
    | symm _ ih => exact .symm ih
    | trans _ _ i1 i2 => exact .trans i1 i2
theorem in_nats (x : Nat) : ∀ rs : List Nat, inV (V.int (x : Int)) (rs.map fun h : Nat => V.int (h : Int)) = decide (x ∈ rs)
  | [] => rfl
  | r :: rs => by
    have ih := in_nats x rs
    unfold inV at ih ⊢
    rw [List.map_cons, List.any_cons, ih]
    have e : eqV (V.int (r : Int)) (V.int (x : Int)) = decide (x = r) := by
      by_cases h : x = r
      · subst h
        simp [eqV]
      · have : ¬ (r : Int) = (x : Int) := by omega
        simp [eqV, h, this]
    rw [e]
    by_cases h : x = r <;> simp [h]
end Wh

namespace Wh
open PySem L2
/-! ### what words do from all houses at once -/
abbrev Ends := List (Option Nat)
def nxE (ts : List Tie) (es : Ends) (m : Nat) : Ends := es.map fun e => e.bind fun h => door h m ts
def runE (ts : List Tie) (n : Nat) (ms : List Nat) : Ends := (List.range n).map fun h => walkN ts h ms
def dedE (n : Nat) : Ends := List.replicate n none
theorem run_len (ts : List Tie) (n : Nat) (ms : List Nat) : (runE ts n ms).length = n := by unfold runE; rw [List.length_map, List.length_range]
theorem run_at {ts : List Tie} {n h : Nat} {ms : List Nat} (hn : h < n) : (runE ts n ms)[h]? = some (walkN ts h ms) := by
  unfold runE
  rw [List.getElem?_map, List.getElem?_range hn]
  rfl
theorem run_snoc (ts : List Tie) (n : Nat) (ms : List Nat) (m : Nat) : runE ts n (ms ++ [m]) = nxE ts (runE ts n ms) m := by
  unfold runE nxE
  rw [List.map_map]
  refine List.map_congr_left fun h _ => ?_
  show walkN ts h (ms ++ [m]) = (walkN ts h ms).bind fun k => door k m ts
  rw [walkN_app]
  cases walkN ts h ms with
  | none => rfl
  | some p =>
    show (door p m ts).bind (fun k => walkN ts k []) = door p m ts
    cases door p m ts <;> rfl
theorem run_nil (ts : List Tie) (n : Nat) : runE ts n [] = (List.range n).map some := rfl
theorem dead_nxE (ts : List Tie) (n m : Nat) : nxE ts (dedE n) m = dedE n := by
  unfold nxE dedE
  rw [List.map_replicate]
  rfl
/-- all lists of n of None and the houses are few -/
def codeE : Ends → Nat
  | [] => 0
  | e :: es => (match e with | none => 0 | some h => h + 1) + 5 * codeE es
theorem codeE_lt : ∀ {es : Ends}, (∀ h, some h ∈ es → h < 4) → codeE es < 5 ^ es.length
  | [], _ => by decide
  | e :: es, b => by
    have ih := codeE_lt (es := es) fun h z => b h (List.mem_cons_of_mem _ z)
    rw [List.length_cons, Nat.pow_succ]
    unfold codeE
    cases e with
    | none => simp only; omega
    | some h =>
      have := b h List.mem_cons_self
      simp only
      omega
theorem codeE_inj : ∀ {es fs : Ends}, es.length = fs.length → (∀ h, some h ∈ es → h < 4) → (∀ h, some h ∈ fs → h < 4) → codeE es = codeE fs → es = fs
  | [], [], _, _, _, _ => rfl
  | [], _ :: _, l, _, _, _ => by cases l
  | _ :: _, [], l, _, _, _ => by cases l
  | e :: es, f :: fs, l, b1, b2, c => by
    have ih := codeE_inj (es := es) (fs := fs) (Nat.succ.inj l) (fun h z => b1 h (List.mem_cons_of_mem _ z)) (fun h z => b2 h (List.mem_cons_of_mem _ z))
    unfold codeE at c
    cases e with
    | none =>
      cases f with
      | none =>
        simp only at c
        rw [ih (by omega)]
      | some k =>
        have := b2 k List.mem_cons_self
        simp only at c
        omega
    | some h =>
      have h4 := b1 h List.mem_cons_self
      cases f with
      | none =>
        simp only at c
        omega
      | some k =>
        have k4 := b2 k List.mem_cons_self
        simp only at c
        have e1 : h = k := by omega
        subst e1
        rw [ih (by omega)]
theorem ends_few {n : Nat} (n4 : n ≤ 4) {L : List Ends} (nd : L.Nodup) (ok : ∀ es ∈ L, es.length = n ∧ ∀ h, some h ∈ es → h < n) : L.length ≤ 625 := by
  have lt : ∀ es ∈ L, ∀ h, some h ∈ es → h < 4 := fun es he h hh => Nat.lt_of_lt_of_le ((ok es he).2 h hh) n4
  have nd2 : (L.map codeE).Nodup := by
    unfold List.Nodup
    rw [List.pairwise_map]
    refine List.Pairwise.imp_of_mem (fun {a b} ha hb ne e => ne ?_) nd
    exact codeE_inj ((ok a ha).1.trans (ok b hb).1.symm) (lt a ha) (lt b hb) e
  have sub : ∀ c ∈ L.map codeE, c ∈ List.range 625 := fun c hc => by
    obtain ⟨es, he, rfl⟩ := List.mem_map.mp hc
    have := codeE_lt (lt es he)
    rw [(ok es he).1] at this
    exact List.mem_range.mpr (Nat.lt_of_lt_of_le this (Nat.pow_le_pow_right (by decide) n4))
  have := L2.nat_nodup_len _ _ nd2 sub
  rw [List.length_map, List.length_range] at this
  exact this
theorem walkN_lt {n : Nat} {ts : List Tie} (wk : WebOk n ts) : ∀ {ms : List Nat} {h k : Nat}, h < n → walkN ts h ms = some k → k < n
  | [], h, k, lt, e => by
    obtain rfl : h = k := Option.some.inj e
    exact lt
  | m :: ms, h, k, lt, e => by
    obtain ⟨p, e1, e2⟩ := Option.bind_eq_some_iff.mp (show (door h m ts).bind (fun k => walkN ts k ms) = some k from e)
    exact walkN_lt wk (door_lt wk e1) e2
/-! ### the queue -/
abbrev Row := List Nat × Ends
structure Que (ts : List Tie) (n : Nat) (L : List Row) : Prop where
  runs : ∀ x ∈ L, x.2 = runE ts n x.1 ∧ ∀ m ∈ x.1, m ∈ letters
  first : L[0]? = some ([], runE ts n [])
  nodup : (L.tail.map (·.2)).Nodup
  live : ∀ x ∈ L.tail, x.2 ≠ dedE n ∧ x.1 ≠ []
theorem Que.init (ts : List Tie) (n : Nat) : Que ts n [([], runE ts n [])] where
  runs := fun x hx => by
    obtain rfl := List.mem_singleton.mp hx
    exact ⟨rfl, fun m hm => by cases hm⟩
  first := rfl
  nodup := List.nodup_nil
  live := fun x hx => by cases hx
theorem Que.few {ts : List Tie} {n : Nat} {L : List Row} (B : Que ts n L) (wk : WebOk n ts) (n4 : n ≤ 4) : L.tail.length ≤ 625 := by
  have := ends_few n4 B.nodup fun es he => by
    obtain ⟨x, hx, rfl⟩ := List.mem_map.mp he
    obtain ⟨e, _⟩ := B.runs x (List.mem_of_mem_tail hx)
    rw [e]
    refine ⟨run_len .., fun h hh => ?_⟩
    obtain ⟨k, hk, e2⟩ := List.mem_map.mp hh
    exact walkN_lt wk (List.mem_range.mp hk) e2
  rwa [List.length_map] at this
/-- row j has been looked at with the mark m -/
def SeenM (ts : List Tie) (n : Nat) (L : List Row) (j m : Nat) : Prop := ∀ x, L[j]? = some x → nxE ts x.2 m = dedE n ∨ nxE ts x.2 m ∈ L.tail.map (·.2)
theorem tail_app {α : Type} {L : List α} {y : α} (h : L ≠ []) : (L ++ [y]).tail = L.tail ++ [y] := by
  cases L with
  | nil => exact absurd rfl h
  | cons a l => rfl
theorem Que.ne {ts : List Tie} {n : Nat} {L : List Row} (B : Que ts n L) : L ≠ [] := fun e => by
  have := B.first
  rw [e] at this
  cases this
theorem SeenM.app {ts : List Tie} {n : Nat} {L : List Row} {j m : Nat} {y : Row} (B : Que ts n L) (lt : j < L.length) (h : SeenM ts n L j m) : SeenM ts n (L ++ [y]) j m := fun x hx => by
  rw [List.getElem?_append_left lt] at hx
  rcases h x hx with z | z
  · exact .inl z
  · right
    rw [tail_app B.ne, List.map_append]
    exact List.mem_append_left _ z
theorem Que.add {ts : List Tie} {n : Nat} {L : List Row} (B : Que ts n L) {x : Row} {m : Nat} (hx : x ∈ L) (hm : m ∈ letters) (live : nxE ts x.2 m ≠ dedE n) (new : nxE ts x.2 m ∉ L.tail.map (·.2)) : Que ts n (L ++ [(x.1 ++ [m], nxE ts x.2 m)]) where
  runs := fun y hy => by
    rcases List.mem_append.mp hy with hy | hy
    · exact B.runs y hy
    · obtain rfl := List.mem_singleton.mp hy
      obtain ⟨e1, e2⟩ := B.runs x hx
      refine ⟨?_, fun k hk => ?_⟩
      · show nxE ts x.2 m = runE ts n (x.1 ++ [m])
        rw [run_snoc, e1]
      · rcases List.mem_append.mp hk with hk | hk
        · exact e2 k hk
        · rw [List.mem_singleton.mp hk]
          exact hm
  first := by
    rw [List.getElem?_append_left (List.length_pos_iff.mpr B.ne)]
    exact B.first
  nodup := by
    rw [tail_app B.ne, List.map_append, List.nodup_append]
    refine ⟨B.nodup, List.pairwise_singleton _ _, fun a ha b hb => ?_⟩
    rw [List.mem_singleton.mp hb]
    exact fun e => new ((show a = nxE ts x.2 m from e) ▸ ha)
  live := fun y hy => by
    rw [tail_app B.ne] at hy
    rcases List.mem_append.mp hy with hy | hy
    · exact B.live y hy
    · obtain rfl := List.mem_singleton.mp hy
      exact ⟨live, fun z => by simp at z⟩
/-- what all words do -/
structure MapsOk (ts : List Tie) (n : Nat) (K : List Ends) : Prop where
  some_ : ∀ es ∈ K, ∃ ms, ms ≠ [] ∧ es = runE ts n ms
  all : ∀ ms, ms ≠ [] → (∀ m ∈ ms, m ∈ letters) → runE ts n ms ≠ dedE n → runE ts n ms ∈ K
theorem dead_snoc {ts : List Tie} {n : Nat} {ms : List Nat} {m : Nat} (h : runE ts n ms = dedE n) : runE ts n (ms ++ [m]) = dedE n := by
  rw [run_snoc, h, dead_nxE]
theorem Que.done {ts : List Tie} {n : Nat} {L : List Row} (B : Que ts n L) (all : ∀ j m, j < L.length → m ∈ letters → SeenM ts n L j m) : MapsOk ts n (L.tail.map (·.2)) where
  some_ := fun es he => by
    obtain ⟨x, hx, rfl⟩ := List.mem_map.mp he
    exact ⟨x.1, (B.live x hx).2, (B.runs x (List.mem_of_mem_tail hx)).1⟩
  all := by
    have main : ∀ (k : Nat) (ms : List Nat), ms.length = k → ms ≠ [] → (∀ m ∈ ms, m ∈ letters) → runE ts n ms ≠ dedE n → runE ts n ms ∈ L.tail.map (·.2) := by
      intro k
      induction k with
      | zero => exact fun ms e ne => absurd (List.length_eq_zero_iff.mp e) ne
      | succ k ih =>
        intro ms e ne ok live
        obtain ⟨us, m, rfl⟩ : ∃ us m, ms = us ++ [m] := ⟨ms.dropLast, ms.getLast ne, (List.dropLast_concat_getLast ne).symm⟩
        have hm : m ∈ letters := ok m (List.mem_append_right _ (List.mem_singleton.mpr rfl))
        obtain ⟨j, x, hj, ex⟩ : ∃ (j : Nat) (x : Row), L[j]? = some x ∧ x.2 = runE ts n us := by
          by_cases c : us = []
          · subst c
            exact ⟨0, _, B.first, rfl⟩
          · have hu : runE ts n us ≠ dedE n := fun z => live (dead_snoc z)
            have := ih us (by rw [List.length_append] at e; exact Nat.succ.inj e) c (fun m h => ok m (List.mem_append_left _ h)) hu
            obtain ⟨x, hx, ex⟩ := List.mem_map.mp this
            obtain ⟨j, hj⟩ := List.mem_iff_getElem?.mp (List.mem_of_mem_tail hx)
            exact ⟨j, x, hj, ex⟩
        have := all j m (List.getElem?_eq_some_iff.mp hj).1 hm x hj
        rw [ex, ← run_snoc] at this
        exact this.resolve_left live
    exact fun ms ne ok live => main _ ms rfl ne ok live
end Wh

namespace Wh
open PySem PySem.Spec PyProof PyProof.Rows L2
/-! ### d == e, dicts of numbers with the same tuples as keys, in one order -/
def IntsIn {κ : Type} (xs : List (κ × Addr × Value)) (us : List Int) : Prop := xs.length = us.length ∧ ∀ (i : Nat) (x : κ × Addr × Value) (m : Int), xs[i]? = some x → us[i]? = some m → ∃ t, x.2.2 = .int m t
section
variable {prog : Program} {w : World} {κ : Type} [DecidableEq κ] {knd : HeapKind prog w κ} {A : Around} {E : Value → Shared → Prop} {s : Shared}
theorem drop_dec {us vs : List Int} (len : us.length = vs.length) {i : Nat} {m k : Int} (hu : us[i]? = some m) (hv : vs[i]? = some k) : decide (us.drop i = vs.drop i) = ((m == k) && decide (us.drop (i + 1) = vs.drop (i + 1))) := by
  have lu := (List.getElem?_eq_some_iff.mp hu)
  have lv := (List.getElem?_eq_some_iff.mp hv)
  obtain ⟨l1, e1⟩ := lu
  obtain ⟨l2, e2⟩ := lv
  rw [List.drop_eq_getElem_cons l1, List.drop_eq_getElem_cons l2, e1, e2]
  by_cases c : m = k
  · subst c
    simp
  · simp [c]
theorem pairs_same {nm : String} {a b : Addr} {xs ys : List (κ × Addr × Value)} {us vs : List Int} {Q : Bool → Shared → Prop} (sa : (a == sysModules) = false) (sb : (b == sysModules) = false) (da : s.heap.DictOfH knd a xs) (db : s.heap.DictOfH knd b ys)
    (keys : xs.map (·.1) = ys.map (·.1)) (iu : IntsIn xs us) (iv : IntsIn ys vs) (room : knd.room A) (q : Q (decide (us = vs)) s) : wpAny (model prog w) A (Builtin.Dict.samePairs nm a b) Q E s := by
  obtain ⟨oa, es, ep, a1, _, a3, a4, a5, a6⟩ := da
  obtain ⟨ob, fs, fp, b1, _, b3, b4, b5, b6⟩ := db
  have lxy : xs.length = ys.length := by
    have := congrArg List.length keys
    rwa [List.length_map, List.length_map] at this
  have lu : us.length = vs.length := by rw [← iu.1, ← iv.1]; exact lxy
  have le : es.size = xs.length := size_of_entries a4
  have lf : fs.size = ys.length := size_of_entries b4
  delta Builtin.Dict.samePairs Builtin.Dict.showsAll
  rw [if_neg (by rw [sa]; exact Bool.false_ne_true), if_neg (by rw [sb]; exact Bool.false_ne_true)]
  refine wpAny_bind (wpAny_pure (wpAny_bind (wpAny_pure (wpAny_bind (wpAny_dictEntries a1 a3 ?_)))))
  dsimp only
  refine wpAny_bind (wpAny_dictEntries b1 b3 ?_)
  rw [if_neg (by rw [le, lf, lxy]; simp)]
  refine wpAny_bind (wpAny_dictEpoch a1 a3 (wpAny_bind ?_))
  rw [Std.Legacy.Range.forIn_eq_forIn_range']
  simp only [Std.Legacy.Range.size, Nat.sub_zero, Nat.add_sub_cancel, Nat.div_one]
  refine wpAny_forIn_list _ (fun rest r s' => s' = s ∧ r = (none, ()) ∧ ∃ i, rest = List.range' i (es.size - i) ∧ i ≤ es.size ∧ Q (decide (us.drop i = vs.drop i)) s) _ ?_ ?_ _ _ ⟨rfl, rfl, 0, by simp, Nat.zero_le _, by simpa using q⟩
  · rintro k rest r s' ⟨rfl, rfl, i, er, le_, q⟩
    have lt : i < es.size := by
      rcases Nat.lt_or_ge i es.size with h | h
      · exact h
      · rw [Nat.sub_eq_zero_of_le h] at er
        simp at er
    have e0 : es.size - i = (es.size - (i + 1)) + 1 := by omega
    rw [e0, List.range'_succ] at er
    obtain ⟨rfl, er⟩ := List.cons.inj er
    have hx : xs[k]? = some (xs[k]'(by omega)) := List.getElem?_eq_getElem (by omega)
    generalize xs[k]'(by omega) = x at hx
    have hy : ys[k]? = some (ys[k]'(by omega)) := List.getElem?_eq_getElem (by omega)
    generalize ys[k]'(by omega) = y at hy
    have hm : us[k]? = some (us[k]'(by rw [← iu.1]; omega)) := List.getElem?_eq_getElem (by rw [← iu.1]; omega)
    generalize us[k]'(by rw [← iu.1]; omega) = m at hm
    have hn : vs[k]? = some (vs[k]'(by rw [← iv.1]; omega)) := List.getElem?_eq_getElem (by rw [← iv.1]; omega)
    generalize vs[k]'(by rw [← iv.1]; omega) = n at hn
    obtain ⟨t, ex⟩ := iu.2 k x m hx hm
    obtain ⟨u, ey⟩ := iv.2 k y n hy hn
    have kxy : x.1 = y.1 := by
      have h1 : (xs.map (·.1))[k]? = some x.1 := by rw [List.getElem?_map, hx]; rfl
      have h2 : (ys.map (·.1))[k]? = some y.1 := by rw [List.getElem?_map, hy]; rfl
      rw [keys, h2] at h1
      exact (Option.some.inj h1).symm
    rw [drop_dec lu hm hn] at q
    have ee : es[k]? = some (entryOfKey knd x) := by rw [entry_at a4 k, hx]; rfl
    have ef : fs[k]? = some (entryOfKey knd y) := by rw [entry_at b4 k, hy]; rfl
    refine wpAny_bind (wpAny_dictEntries a1 a3 ?_)
    rw [ee]
    show wpAny _ _ (holding [Value.ref x.2.1, x.2.2] _ >>= _) _ _ _
    refine wpAny_bind (wpAny_holding (wpAny_bind ?_))
    refine wpAny_dictFind_heap (knd := knd) (k := x.1) room (a5 x (List.mem_of_getElem? hx)) b1 b3 b4 b5 b6 (fun no => ?_) (fun j p hj => ?_)
    · exact absurd (show ys[k]? = some (x.1, y.2) by rw [hy, kxy]) (no k y.2)
    · have jk : j = k := by
        have h1 : (ys.map (·.1))[j]? = some x.1 := by rw [List.getElem?_map, hj]; rfl
        have h2 : (ys.map (·.1))[k]? = some x.1 := by rw [List.getElem?_map, hy, kxy]; rfl
        exact (List.getElem?_inj (List.getElem?_eq_some_iff.mp h1).1 b6).mp (h1.trans h2.symm)
      subst jk
      refine wpAny_bind (wpAny_dictEntries b1 b3 ?_)
      rw [ef]
      show wpAny _ _ (holding [y.2.2] (eqBool x.2.2 y.2.2)) _ _ _
      rw [ex, ey]
      refine wpAny_holding (wpAny_eqBool_int ?_)
      cases hb : (m == n) with
      | false =>
        rw [hb, Bool.false_and] at q
        rw [if_pos (by rfl)]
        exact wpAny_pure (wpAny_pure q)
      | true =>
        rw [hb, Bool.true_and] at q
        rw [if_neg (by decide)]
        refine wpAny_bind (wpAny_dictEpoch a1 a3 ?_)
        rw [if_neg (by simp)]
        exact wpAny_pure ⟨rfl, rfl, j + 1, er, lt, q⟩
  · rintro r s' ⟨rfl, rfl, i, er, le_, q⟩
    have ie : i = es.size := by
      rcases Nat.lt_or_ge i es.size with h | h
      · rw [show es.size - i = (es.size - (i + 1)) + 1 by omega, List.range'_succ] at er
        cases er
      · exact Nat.le_antisymm le_ h
    rw [ie, le, iu.1, List.drop_length, lu, List.drop_length] at q
    exact wpAny_pure q
theorem dicts_eq {a b : Addr} {xs ys : List (κ × Addr × Value)} {us vs : List Int} {Q : Value → Shared → Prop} (sa : (a == sysModules) = false) (sb : (b == sysModules) = false) (da : s.heap.DictOfH knd a xs) (db : s.heap.DictOfH knd b ys)
    (keys : xs.map (·.1) = ys.map (·.1)) (iu : IntsIn xs us) (iv : IntsIn ys vs) (hu : A.units < cLine) (room : knd.room A.in1) (q : Q (.bool (decide (us = vs))) s) : wpAny (model prog w) A (compareOp .Eq (.ref a) (.ref b)) Q E s := by
  have ta := da.typeIs
  have tb := db.typeIs
  refine wpAny_richCompare_same_room (op := .Eq) ta tb PySem.F.slot_dict_eq (wpAny_call_entry PySem.F.slot_dict_eq ta PySem.F.entry_dict_eq ?_ (PySem.F.args_dict_eq_2 _ _)) hu
  show wpAny _ _ (Builtin.Dict.dictSlotArgs "__eq__" ⟨[.ref a, .ref b], []⟩ >>= _) _ _ s
  delta Builtin.Dict.dictSlotArgs
  refine wpAny_bind (wpAny_bind (wpAny_notOrdered_dict ta ?_))
  show wpAny _ _ (pure (Value.ref a, Value.ref b)) _ _ s
  refine wpAny_pure (wpAny_bind (wpAny_isInstance (T := "dict") tb PySem.F.sub_dict_dict ?_))
  simp only [Bool.not_true, Bool.false_eq_true, if_false]
  refine wpAny_bind (wpAny_pure (wpAny_bind (wpAny_pure (wpAny_bind (pairs_same sa sb da db keys iu iv room ?_)))))
  exact wpAny_pure ⟨_, rfl, (fun z => nomatch z), by rw [beq_true]; exact q⟩
end
/-- kvs with the values us -/
def IntsK (kvs : List (List L2.Key × V)) (us : List Int) : Prop := kvs.map (·.2) = us.map V.int
theorem ints_in {H : Hp} : ∀ {kvs : List (List L2.Key × V)} {xs : List (List L2.Key × Addr × Value)} {us : List Int}, KT H kvs xs → IntsK kvs us → IntsIn xs us
  | _, _, [], .nil, _ => ⟨rfl, fun i x m e => by simp at e⟩
  | _, _, _ :: _, .nil, h => by cases h
  | _, _, [], .cons _ _, h => by cases h
  | kv :: _, _, u :: us, .cons h t, e => by
    obtain ⟨e1, e2⟩ := List.cons.inj e
    obtain ⟨l, r⟩ := ints_in t e2
    refine ⟨by rw [List.length_cons, List.length_cons, l], fun i x m hx hm => ?_⟩
    cases i with
    | zero =>
      obtain rfl := Option.some.inj hx
      obtain rfl := Option.some.inj hm
      have := h.2.2
      rw [show kv.2 = V.int u from e1] at this
      exact this
    | succ i => exact r i x m (by simpa using hx) (by simpa using hm)
theorem kt_keys {H : Hp} : ∀ {kvs : List (List L2.Key × V)} {xs : List (List L2.Key × Addr × Value)}, KT H kvs xs → xs.map (·.1) = kvs.map (·.1)
  | _, _, .nil => rfl
  | _, _, .cons h t => by rw [List.map_cons, List.map_cons, kt_keys t, h.1]
def rEqT : R2 := fun x y H Q => ∃ (a b : Addr) (ks ls : List (List L2.Key × V)) (us vs : List Int), x = .ref a ∧ y = .ref b ∧ H a = some (.dT ks) ∧ H b = some (.dT ls) ∧ ks.map (·.1) = ls.map (·.1) ∧ IntsK ks us ∧ IntsK ls vs ∧ Q (.bl (decide (us = vs))) H
theorem op_eqT {X : Cx} (hu : X.A.units + 1 < cLine) : OpR X (compareOp .Eq) rEqT := by
  intro pins s σ H x y v u Q I rx ry d
  obtain ⟨a, b, ks, ls, us, vs, rfl, rfl, ha, hb, keys, iu, iv, q⟩ := d
  obtain rfl : v = Value.ref a := rx
  obtain rfl : u = Value.ref b := ry
  obtain ⟨_, sa, xs, ka, da⟩ := dt_of I.hok ha
  obtain ⟨_, sb, ys, kb, db⟩ := dt_of I.hok hb
  refine dicts_eq sa sb da db (by rw [kt_keys ka, kt_keys kb, keys]) (ints_in ka iu) (ints_in kb iv) (by omega) (tupleKind_room_in1 hu) ?_
  exact ⟨.bl _, H, I, rfl, q⟩
end Wh

namespace Wh
open PySem L2
/-! ### the pairs that one word leads, and what they make one -/
def rowP (n : Nat) (es : Ends) : List Pr := (List.range n).filterMap fun h => ((es[h]?).join).map fun e => (h, e)
theorem rowP_run {ts : List Tie} {n : Nat} {ms : List Nat} {p : Pr} : p ∈ rowP n (runE ts n ms) ↔ p.1 < n ∧ walkN ts p.1 ms = some p.2 := by
  unfold rowP
  rw [List.mem_filterMap]
  constructor
  · rintro ⟨h, hh, e⟩
    have hn := List.mem_range.mp hh
    rw [run_at hn] at e
    obtain ⟨k, hk, rfl⟩ := Option.map_eq_some_iff.mp e
    exact ⟨hn, hk⟩
  · rintro ⟨hn, e⟩
    exact ⟨p.1, List.mem_range.mpr hn, by rw [run_at hn, e]; rfl⟩
def mrgsE (n : Nat) (es : Ends) : List (Pr × Pr) := match rowP n es with
  | [] => []
  | a :: r => r.map fun p => (a, p)
abbrev OneOf (l : List (Pr × Pr)) : Pr → Pr → Prop := fun p q => (p, q) ∈ l
theorem mrgsE_in {n : Nat} {es : Ends} {p q : Pr} (h : (p, q) ∈ mrgsE n es) : p ∈ rowP n es ∧ q ∈ rowP n es := by
  unfold mrgsE at h
  split at h
  · cases h
  · rename_i a r e
    obtain ⟨x, hx, z⟩ := List.mem_map.mp h
    injection z with z1 z2
    subst z1
    subst z2
    rw [e]
    exact ⟨List.mem_cons_self, List.mem_cons_of_mem _ hx⟩
theorem walk_let {n : Nat} {ts : List Tie} (w : WebOk n ts) : ∀ {ms : List Nat} {h k : Nat}, walkN ts h ms = some k → ∀ m ∈ ms, m ∈ letters
  | [], _, _, _, m, hm => by cases hm
  | m0 :: ms, h, k, e, m, hm => by
    obtain ⟨p, e1, e2⟩ := Option.bind_eq_some_iff.mp (show (door h m0 ts).bind (fun k => walkN ts k ms) = some k from e)
    rcases List.mem_cons.mp hm with rfl | hm
    · refine marks_let w h m ?_
      rw [← doorsAt_fst]
      exact List.mem_map.mpr ⟨(m, p), door_mem e1, rfl⟩
    · exact walk_let w e2 m hm
theorem gen_maps {n : Nat} {ts : List Tie} {KS : List Ends} (w : WebOk n ts) (ok : MapsOk ts n KS) {p q : Pr} : Gen (OneOf (KS.flatMap (mrgsE n))) p q ↔ Cl n ts p q := by
  constructor
  · intro h
    induction h with
    | refl p => exact .refl p
    | @step p q d =>
      obtain ⟨es, he, hm⟩ := List.mem_flatMap.mp d
      obtain ⟨ms, ne, rfl⟩ := ok.some_ es he
      obtain ⟨h1, h2⟩ := mrgsE_in hm
      obtain ⟨a1, a2⟩ := rowP_run.mp h1
      obtain ⟨b1, b2⟩ := rowP_run.mp h2
      exact .step ⟨a1, walkN_lt w a1 a2⟩ ⟨b1, walkN_lt w b1 b2⟩ ⟨ms, ne, walk2_some.mpr ⟨a2, b2⟩⟩
    | symm _ ih => exact .symm ih
    | trans _ _ i1 i2 => exact .trans i1 i2
  · intro h
    induction h with
    | refl p => exact .refl p
    | @step p q hp hq l =>
      obtain ⟨ms, ne, e⟩ := l
      obtain ⟨a, b⟩ := walk2_some.mp e
      simp only at a b
      have live : runE ts n ms ≠ dedE n := fun z => by
        have := run_at (ts := ts) (ms := ms) hp.1
        rw [z, a] at this
        unfold dedE at this
        rw [List.getElem?_replicate, if_pos hp.1] at this
        cases this
      have hk := ok.all ms ne (walk_let w a) live
      have hp' := rowP_run.mpr ⟨hp.1, a⟩
      have hq' := rowP_run.mpr ⟨hq.1, b⟩
      have main : ∀ {x : Pr}, x ∈ rowP n (runE ts n ms) → ∀ a r, rowP n (runE ts n ms) = a :: r → Gen (OneOf (KS.flatMap (mrgsE n))) a x := fun {x} hx a r e => by
        rw [e] at hx
        rcases List.mem_cons.mp hx with rfl | hx
        · exact .refl _
        · refine .step (List.mem_flatMap.mpr ⟨_, hk, ?_⟩)
          unfold mrgsE
          rw [e]
          exact List.mem_map.mpr ⟨x, hx, rfl⟩
      cases e : rowP n (runE ts n ms) with
      | nil =>
        rw [e] at hp'
        cases hp'
      | cons a0 r => exact .trans (.symm (main hp' a0 r e)) (main hq' a0 r e)
    | symm _ ih => exact .symm ih
    | trans _ _ i1 i2 => exact .trans i1 i2
/-! ### labels laid one by one -/
theorem lbl_put {n k : Nat} {p : Pr} (hp : InN n p) (e : ixP n p = k) : putK ((lblK n (ixP n)).take k) (pk p) (V.int (k : Int)) = (lblK n (ixP n)).take (k + 1) := by
  have nx : (lblK n (ixP n))[k]? = some (pk p, V.int (k : Int)) := by
    unfold lblK
    rw [List.getElem?_map, ← e, PL_in hp]
    rfl
  have none_ : valV ((lblK n (ixP n)).take k) (pk p) = none := by
    unfold valV
    rw [Option.map_eq_none_iff, List.find?_eq_none]
    intro x hx z
    obtain ⟨j, hj⟩ := List.mem_iff_getElem?.mp hx
    rw [List.getElem?_take] at hj
    split at hj
    · rename_i lt
      obtain ⟨q, hq, eq, rfl⟩ := lblK_get hj
      have := pk_inj (of_decide_eq_true z)
      subst this
      omega
    · cases hj
  rw [putK_new _ none_, List.take_succ, nx]
  rfl
theorem lbl_ints (n : Nat) (f : Pr → Nat) : IntsK (lblK n f) ((PL n).map fun p => (f p : Int)) := by
  unfold IntsK lblK
  rw [List.map_map, List.map_map]
  rfl
end Wh

namespace Wh
open PySem L2
def topS (i : Nat) : Stmt := PySem.Challenge.pw_whichhouse_k13_whole_back_codes.main.body.getD i (.Pass ⟨0, 0, 0, 0⟩)
/-! ### sip -/
def spSip : Sp := fun vs H Q _ => ∃ (c : Addr) (top : Int), vs = [.ref c, .int top] ∧ Cup H c ∧ 1 ≤ top ∧ top < 1000 ∧
  ∀ (r : Int) (H' : Hp), But c H H' → Cup H' c → 0 ≤ r → r < top → Q (.int r) H'
abbrev sSip : Stmt := topS 49
theorem scSip : FnScope ["cup", "top", "part"] ["cup", "top"] (defScope sSip) := ⟨rfl, rfl, rfl, by decide +kernel, rfl, by decide +kernel, by decide +kernel⟩
structure TSip (mg : Str → Option Value) : Prop where
  int : mg "int" = none
  divmod : mg "divmod" = none
  len : mg "len" = none
  abs : mg "abs" = none
section
variable {P : Program} {w : World} {K : PySem.W.Frag} {mg : Str → Option Value} {base : Heap}
theorem k0 (x y : Int) : atI [V.int x, V.int y] 0 = some (V.int x) := rfl
theorem k1 (x y : Int) : atI [V.int x, V.int y] 1 = some (V.int y) := rfl
theorem ok_sip {f : Addr} {fd : FuncData} (F : Fun K "_law_sip" "_law_sip" sSip f fd) (T : TSip mg) : FnOk P w K mg base CX0 1 f fd ["cup", "top"] spSip := by
  refine F.ok scSip (fun vs H Q E h => ?_) (fun cdv A outer s H vs Q E hr h => ?_)
  · obtain ⟨c, top, rfl, _⟩ := h
    rfl
  · obtain ⟨c, top, rfl, ⟨a, b, hc⟩, ht1, ht2, k⟩ := h
    refine ⟨_, pss_cons (ps_asg (pe_op op_mod (pe_callTy call_int1 (by rfl) T.int (by decide +kernel) (pa_cons (pe_op op_add (pe_op op_mul (pe_ix ix_list (pv 0) pe_int (fun _ _ => rfl)) pe_int) pe_int) pa_nil)) pe_int) (pg_sub (pv 0) pe_int set_list))
      (pss_cons (ps_if (pt_cmpR op_gt (pe_ix ix_list (pv 0) pe_int (fun _ _ => rfl)) pe_int (nomark _))
        (pss_cons (ps_asg (pe_callB call_divmod (by rfl) T.divmod (by decide +kernel) (pa_cons (pe_ix ix_list (pv 0) pe_int (fun _ _ => rfl)) (pa_cons (pv 1) pa_nil)))
            (pg_tup (by rfl) (pgs_cons (pg_sub (pv 0) pe_int set_list) (pgs_cons (pg_name (i := 2) scSip.nd rfl (.inl rfl)) pgs_nil))))
          (pss_one (ps_ret (pv 2)))) pss_nil)
      (pss_one (ps_ret (pe_op op_mod (pe_callTy call_int1 (by rfl) T.int (by decide +kernel) (pa_cons (pe_op op_fdiv (pe_ix ix_list (pv 0) pe_int (fun _ _ => rfl)) pe_int) pa_nil)) (pv 1))))), ?_⟩
    refine ⟨_, rfl, c, _, _, _, rfl, rfl, SqL.of hc, k0 a b, a, 48271, rfl, rfl, .inr ⟨by decide, by decide⟩, _, _, rfl, rfl, .inl ⟨_, rfl, _, _, rfl, rfl, (by show (0 : Int) < 2147483629; decide), ?_⟩⟩
    refine ⟨_, rfl, c, _, _, 0, rfl, rfl, hc, rfl, ?_⟩
    refine ⟨_, rfl, c, _, _, _, rfl, rfl, SqL.of upd_same, k1 _ b, _, _, rfl, rfl, _, rfl, ?_⟩
    refine ite2 (fun _ => ?_) (fun _ => ?_)
    · refine ⟨_, rfl, c, _, _, _, rfl, rfl, SqL.of upd_same, k1 _ b, _, rfl, b, top, rfl, ⟨by omega, by omega⟩, fun p np => ?_⟩
      refine ⟨p, _, rfl, SqT.of upd_same, rfl, _, _, rfl, _, rfl, c, _, _, 1, rfl, rfl, put_ne upd_same (ne_new np), rfl, _, _, rfl, rfl, ?_⟩
      refine ⟨_, rfl, k (b % top) _ (But.at (But.put (But.at (But.refl c H)) np)) ⟨_, _, upd_same⟩ (Int.emod_nonneg _ (by omega)) (Int.emod_lt_of_pos _ (by omega))⟩
    · refine ⟨_, rfl, c, _, _, _, rfl, rfl, SqL.of upd_same, k0 _ b, _, _, rfl, rfl, ⟨by decide, by decide⟩, .inl ⟨_, rfl, _, rfl, _, _, rfl, rfl, (by show (0 : Int) < top; omega), ?_⟩⟩
      exact k _ _ (But.at (But.refl c H)) ⟨_, _, upd_same⟩ (Int.emod_nonneg _ (by omega)) (Int.emod_lt_of_pos _ (by omega))
/-! ### pick -/
abbrev sPick : Stmt := topS 50
theorem scPick : FnScope ["cup", "things"] ["cup", "things"] (defScope sPick) := ⟨rfl, rfl, rfl, by decide +kernel, rfl, by decide +kernel, by decide +kernel⟩
def spPick : Sp := fun vs H Q _ => ∃ (c t : Addr) (xs : List V), vs = [.ref c, .ref t] ∧ Cup H c ∧ t ≠ c ∧ H t = some (.lst xs) ∧ 1 ≤ xs.length ∧ xs.length < 1000 ∧
  ∀ (i : Nat) (v : V) (H' : Hp), But c H H' → Cup H' c → xs[i]? = some v → Q v H'
theorem ok_pick {f fS : Addr} {fd fdS : FuncData} (F : Fun K "_law_pick" "_law_pick" sPick f fd) (T : TSip mg) (FS : Fun K "_law_sip" "_law_sip" sSip fS fdS) (bS : Binds K fdS ["cup", "top"] []) (mS : mg "_law_sip" = some (.ref fS)) :
    FnOk P w K mg base CX0 2 f fd ["cup", "things"] spPick := by
  have GS : FnOk P w K mg base CX0 1 fS fdS ["cup", "top"] spSip := ok_sip FS T
  refine F.ok scPick (fun vs H Q E h => ?_) (fun cdv A outer s H vs Q E hr h => ?_)
  · obtain ⟨c, t, xs, rfl, _⟩ := h
    rfl
  · obtain ⟨c, t, xs, rfl, hc, ntc, ht, h1, h2, k⟩ := h
    refine ⟨_, pss_one (ps_ret (pe_ix ix_list (pv 1) (pe_call GS hr (by rfl) mS FS.kp bS .nil pass0 (pa_cons (pv 0) (pa_cons (pe_callB call_len_seq (by rfl) T.len PySem.boot_len (pa_cons (pv 1) pa_nil)) pa_nil))) (fun _ _ => rfl))), ?_⟩
    refine ⟨_, rfl, _, rfl, _, rfl, _, _, rfl, .inl (SqL.of ht), c, _, rfl, hc, by omega, by omega, fun r H' hb hc' r0 r1 => ?_⟩
    obtain ⟨j, rfl⟩ := Int.eq_ofNat_of_zero_le r0
    have hj : j < xs.length := by omega
    exact ⟨t, xs, _, xs[j], rfl, rfl, SqL.of (hb _ _ ht ntc), atI_nat (List.getElem?_eq_getElem hj), k j _ H' hb hc' (List.getElem?_eq_getElem hj)⟩
/-! ### cup -/
abbrev sCup : Stmt := topS 48
theorem scCup : FnScope ["script", "spot", "cell", "one"] ["script", "spot"] (defScope sCup) := ⟨rfl, rfl, rfl, by decide +kernel, rfl, by decide +kernel, by decide +kernel⟩
def spCup (K : PySem.W.Frag) : Sp := fun vs H Q _ => ∃ (a : Addr) (ns : List Int) (spot : Nat), vs = [.ref a, .int (spot : Int)] ∧ SqL K H a (ns.map V.int) ∧ spot ≤ 1000 ∧
  ∀ (c : Addr) (H' : Hp), Same H H' → H c = none → Cup H' c → Q (.ref c) H'
theorem cut_le (ns : List Int) : ∃ ms : List Int, cutV (ns.map V.int) none (some 2) = ms.map V.int := by
  unfold cutV
  exact ⟨(ns.drop _).take _, by rw [List.map_take, List.map_drop]⟩
theorem ok_cup {f : Addr} {fd : FuncData} (F : Fun K "_law_cup" "_law_cup" sCup f fd) (T : TSip mg) : FnOk P w K mg base CX0 1 f fd ["script", "spot"] (spCup K) := by
  refine F.ok scCup (fun vs H Q E h => ?_) (fun cdv A outer s H vs Q E hr h => ?_)
  · obtain ⟨a, ns, spot, rfl, _⟩ := h
    rfl
  · obtain ⟨a, ns, spot, rfl, ha, hs, k⟩ := h
    refine ⟨_, C8.pss_cut (ps_set (i := 2) scCup.nd rfl (.inl rfl) (pe_ifExp (pt_cmpR op_lt (pv 1) (pe_callB call_len_seq (by rfl) T.len PySem.boot_len (pa_cons (pv 0) pa_nil)) (nomark _))
        (pe_ix ix_list (pv 0) (pv 1) (fun _ _ => rfl)) (pe_op op_add (pe_op op_mul pe_int (pv 1)) pe_int)))
      (pss_cons (ps_for PassesOwn.never rfl (pi_list (pe_mid (pe_ifExp (pt_cmpR op_ge (pv 1) (pe_callB call_len_seq (by rfl) T.len PySem.boot_len (pa_cons (pv 0) pa_nil)) (nomark _)) (pe_slice sl_list (pv 0) po_none (po_some pe_int)) (pe_lst pa_nil))))
          (pg_name (i := 3) scCup.nd rfl (.inl rfl))
        (pss_one (ps_set (i := 2) scCup.nd rfl (.inl rfl) (pe_op op_mod (pe_callTy call_int1 (by rfl) T.int (by decide +kernel) (pa_cons (pe_op op_add (pe_op op_mul (pv 2) pe_int) (pv 3)) pa_nil)) pe_int))))
      (pss_one (ps_ret (pe_lst (pa_cons (pe_op op_mod (pe_callTy call_int1 (by rfl) T.int (by decide +kernel) (pa_cons (pe_op op_add (pe_op op_add (pe_op op_mul (pv 2) pe_int) (pe_op op_mul pe_int (pv 1))) pe_int) pa_nil)) pe_int)
        (pa_cons (pe_ifExp (PW.pt (pw_or (pt_cmpR op_lt (pv 2) pe_int (nomark _)) (pw_or1 (pt_cmpR op_ge (pv 2) (pe_op op_pow pe_int pe_int) (nomark _))))) (pe_callB call_abs (by rfl) T.abs (by decide +kernel) (pa_cons (pv 2) pa_nil)) pe_int) pa_nil)))))), ?_⟩
    refine ⟨fun σ' H' => H' = H ∧ ∃ cell : Int, σ' = [some (.ref a), some (.int (spot : Int)), some (.int cell), none], ?_, ?_⟩
    · refine ⟨_, rfl, _, rfl, a, _, rfl, .inl ha, _, _, rfl, rfl, _, rfl, ?_⟩
      refine ite2 (fun hlt => ?_) (fun _ => ?_)
      · have hlt := of_decide_eq_true hlt
        rw [List.length_map] at hlt
        have hj : spot < ns.length := by omega
        exact ⟨_, rfl, _, rfl, a, _, _, .int ns[spot], rfl, rfl, ha, atI_nat (by rw [List.getElem?_map, List.getElem?_eq_getElem hj]; rfl), rfl, _, rfl⟩
      · exact ⟨_, rfl, _, _, rfl, rfl, .inl ⟨by decide, by decide⟩, _, _, rfl, rfl, rfl, _, rfl⟩
    · rintro σ' H' ⟨rfl, cell, rfl⟩
      refine ⟨fun v H1 => ∃ (p : Addr) (ms : List Int), v = .ref p ∧ Same H' H1 ∧ SqL K H1 p (ms.map V.int), ?_, ?_⟩
      · refine ⟨_, rfl, _, rfl, a, _, rfl, .inl ha, _, _, rfl, rfl, _, rfl, ?_⟩
        refine ite2 (fun _ => ?_) (fun _ => ?_)
        · obtain ⟨ms, e⟩ := cut_le ns
          exact ⟨_, rfl, _, rfl, a, _, rfl, ha, fun p np => ⟨p, ms, rfl, same_upd np, e ▸ SqL.of upd_same⟩⟩
        · exact ⟨Nat.zero_le _, fun p np => ⟨p, [], rfl, same_upd np, SqL.of upd_same⟩⟩
      · rintro _ H1 ⟨p, ms, rfl, s1, hp⟩
        refine ⟨p, rfl, ⟨_, hp⟩, for_list (K := K) (a := p) (xs := ms.map V.int) (fun i σ H2 => H2 = H1 ∧ ∃ (cell : Int) (o : Option V), σ = [some (.ref a), some (.int (spot : Int)), some (.int cell), o])
          ⟨rfl, cell, none, rfl⟩ (fun i σ H2 _ ⟨e, _⟩ => e ▸ hp) ?_ ?_⟩
        · rintro i x σ H2 hi ⟨rfl, cell, o, rfl⟩
          obtain ⟨z, rfl⟩ : ∃ z, x = V.int z := by
            rw [List.getElem?_map] at hi
            cases e : ms[i]? with
            | none => rw [e] at hi; cases hi
            | some z => rw [e] at hi; exact ⟨z, (Option.some.inj hi).symm⟩
          exact ⟨_, rfl, _, _, rfl, rfl, .inr ⟨by decide, by decide⟩, _, rfl, _, _, rfl, rfl, .inl ⟨_, rfl, _, _, rfl, rfl, (by show (0 : Int) < 1000000007; decide), rfl, _, _, rfl⟩⟩
        · rintro σ H2 ⟨rfl, cell, o, rfl⟩
          refine ⟨_, rfl, _, _, rfl, rfl, .inr ⟨by decide, by decide⟩, _, rfl, _, _, rfl, rfl, .inl ⟨by decide, by decide⟩, _, _, rfl, rfl, _, _, rfl, rfl, .inl ⟨_, rfl, _, _, rfl, rfl, (by show (0 : Int) < 2147483629; decide), ?_⟩⟩
          refine ⟨_, rfl, _, _, rfl, rfl, _, rfl, ?_⟩
          have fin : ∀ x y : Int, ∀ p, H2 p = none → Q (.ref p) (upd H2 p (.lst [.int x, .int y])) := fun x y p np => k p _ (s1.put np) (s1.free np) ⟨_, _, upd_same⟩
          refine ite2 (fun _ => ?_) (fun _ => ?_)
          · exact ⟨_, rfl, _, rfl, by show 2 ≤ sizeLine; decide, fun p np => fin _ _ p np⟩
          · refine ⟨_, rfl, _, _, rfl, rfl, ⟨by decide, by decide, by decide⟩, _, _, rfl, rfl, _, rfl, ?_⟩
            refine ite2 (fun _ => ?_) (fun _ => ?_)
            · exact ⟨_, rfl, _, rfl, by show 2 ≤ sizeLine; decide, fun p np => fin _ _ p np⟩
            · exact ⟨by show 2 ≤ sizeLine; decide, fun p np => fin _ _ p np⟩
end
end Wh

namespace Wh
open PySem L2
abbrev sHead : Stmt := topS 37
abbrev sUnite : Stmt := topS 38
theorem scHead : FnScope ["heads", "place"] ["heads", "place"] (defScope sHead) := ⟨rfl, rfl, rfl, by decide +kernel, rfl, by decide +kernel, by decide +kernel⟩
theorem scUnite : FnScope ["heads", "place", "other", "one", "two"] ["heads", "place", "other"] (defScope sUnite) := ⟨rfl, rfl, rfl, by decide +kernel, rfl, by decide +kernel, by decide +kernel⟩
def natsV (hs : List Nat) : List V := hs.map fun h : Nat => V.int (h : Int)
theorem natsV_at {hs : List Nat} {i : Nat} (h : i < hs.length) : atI (natsV hs) (i : Int) = some (.int (nxt hs i : Int)) := atI_nat (by
  unfold natsV nxt
  rw [List.getElem?_map, List.getElem?_eq_getElem h]
  rfl)
theorem natsV_set (hs : List Nat) (i v : Nat) : (natsV hs).set i (.int (v : Int)) = natsV (hs.set i v) := by
  unfold natsV
  rw [List.map_set]
theorem ixN_of {n i : Nat} (h : i < n) : ixN n (i : Int) = some i := by
  unfold ixN
  simp [h]
section
variable {P : Program} {w : World} {K : PySem.W.Frag} {mg : Str → Option Value} {base : Heap}
def spHead : Sp := fun vs H Q _ => ∃ (a : Addr) (hs : List Nat) (p : Nat), vs = [.ref a, .int (p : Int)] ∧ H a = some (.lst (natsV hs)) ∧ UF hs ∧ p < hs.length ∧
  ∀ (gs : List Nat) (H' : Hp), But a H H' → H' a = some (.lst (natsV gs)) → UF gs → gs.length = hs.length → (∀ i, root gs i = root hs i) → Q (.int (root hs p : Int)) H'
theorem ok_head {f : Addr} {fd : FuncData} (F : Fun K "head_of" "head_of" sHead f fd) : FnOk P w K mg base CX0 1 f fd ["heads", "place"] spHead := by
  refine F.ok scHead (fun vs H Q E h => ?_) (fun cdv A outer s H vs Q E hr h => ?_)
  · obtain ⟨a, hs, p, rfl, _⟩ := h
    rfl
  · obtain ⟨a, hs, p, rfl, ha, u, hp, k⟩ := h
    refine ⟨_, (C8.pss_cut (ps_while PassesOwn.never (pt_cmpR op_ne (pe_ix ix_list (pv 0) (pv 1) (fun _ _ => rfl)) (pv 1) (nomark _)) (pss_cons (ps_asg (pe_ix ix_list (pv 0) (pe_ix ix_list (pv 0) (pv 1) (fun _ _ => rfl)) (fun _ _ => rfl)) (pg_sub (pv 0) (pv 1) set_list)) (pss_one (ps_set (i := 1) scHead.nd rfl (.inl rfl) (pe_ix ix_list (pv 0) (pv 1) (fun _ _ => rfl)))))) (pss_one (ps_ret (pv 1)))), ?_⟩
    refine ⟨fun σ H' => But a H H' ∧ ∃ gs : List Nat, H' a = some (.lst (natsV gs)) ∧ UF gs ∧ gs.length = hs.length ∧ (∀ i, root gs i = root hs i) ∧ σ = [some (.ref a), some (.int (root hs p : Int))], ?_, ?_⟩
    · refine ⟨fun m σ H' => But a H H' ∧ ∃ (gs : List Nat) (q : Nat), H' a = some (.lst (natsV gs)) ∧ UF gs ∧ gs.length = hs.length ∧ (∀ i, root gs i = root hs i) ∧ q < hs.length ∧ root hs q = root hs p ∧ m = q ∧ σ = [some (.ref a), some (.int (q : Int))], ⟨p, But.refl a H, hs, p, ha, u, rfl, fun _ => rfl, hp, rfl, rfl, rfl⟩, ?_⟩
      rintro m σ H1 ⟨b1, gs, q, h1, u1, l1, r1, hq, rq, rfl, rfl⟩
      have hm' : m < gs.length := by omega
      have le := u1 m
      have le2 := u1 (nxt gs m)
      refine ⟨_, rfl, _, rfl, a, _, _, _, rfl, rfl, SqL.of h1, natsV_at hm', _, rfl, rfl, _, rfl, ?_⟩
      by_cases e : nxt gs m = m
      · rw [e, decide_eq_true rfl]
        refine iteF ⟨b1, gs, h1, u1, l1, r1, ?_⟩
        rw [← rq, ← r1 m, root_own e]
      · rw [decide_eq_false fun z => e (by injection z with z; omega)]
        refine iteT ⟨fun σ' H' => But a H H' ∧ ∃ (gs' : List Nat) (q' : Nat), H' a = some (.lst (natsV gs')) ∧ UF gs' ∧ gs'.length = hs.length ∧ (∀ i, root gs' i = root hs i) ∧ q' < m ∧ root hs q' = root hs p ∧ σ' = [some (.ref a), some (.int (q' : Int))], ?_, ?_⟩
        · rintro σ' H' ⟨b2, gs', q', h2, u2, l2, r2, lt, rq', rfl⟩
          exact ⟨q', lt, b2, gs', q', h2, u2, l2, r2, by omega, rq', rfl, rfl⟩
        · have hn : nxt gs m < gs.length := by omega
          refine ⟨_, rfl, _, rfl, _, rfl, a, _, _, _, rfl, rfl, SqL.of h1, natsV_at hm', a, _, _, _, rfl, rfl, SqL.of h1, natsV_at hn, _, rfl, _, rfl, a, _, _, m, rfl, rfl, h1, ixN_of (by unfold natsV; rw [List.length_map]; exact hm'), ?_⟩
          rw [natsV_set]
          have l3 : (gs.set m (nxt gs (nxt gs m))).length = gs.length := List.length_set
          have u3 := u1.set (v := nxt gs (nxt gs m)) hm' (by omega)
          have r3 := halve u1 hm'
          have e3 : nxt (gs.set m (nxt gs (nxt gs m))) m = nxt gs (nxt gs m) := by rw [nxt_set hm', if_pos rfl]
          refine ⟨_, rfl, _, rfl, a, _, _, _, rfl, rfl, SqL.of upd_same, natsV_at (by rw [l3]; exact hm'), ?_⟩
          refine ⟨But.at b1, _, nxt gs (nxt gs m), upd_same, u3, by rw [l3]; exact l1, fun i => (r3 i).trans (r1 i), by omega, ?_, by rw [e3]; rfl⟩
          rw [← rq, ← r1 (nxt gs (nxt gs m)), ← r1 m, root_next u1, root_next u1]
    rintro σ H1 ⟨b1, gs, h1, u1, l1, r1, rfl⟩
    exact ⟨_, rfl, k gs H1 b1 h1 u1 l1 r1⟩
/-- unite: two places become of one class -/
def spUnite : Sp := fun vs H Q _ => ∃ (a : Addr) (hs : List Nat) (p q : Nat), vs = [.ref a, .int (p : Int), .int (q : Int)] ∧ H a = some (.lst (natsV hs)) ∧ UF hs ∧ p < hs.length ∧ q < hs.length ∧
  ∀ (gs : List Nat) (H' : Hp), But a H H' → H' a = some (.lst (natsV gs)) → UF gs → gs.length = hs.length → (∀ i j, Linked gs i j ↔ Linked hs i j ∨ (Linked hs i p ∧ Linked hs q j) ∨ (Linked hs i q ∧ Linked hs p j)) → Q .non H'
theorem ok_unite {f fH : Addr} {fd fdH : FuncData} (F : Fun K "unite" "unite" sUnite f fd) (GH : FnOk P w K mg base CX0 1 fH fdH ["heads", "place"] spHead) (FH : Fun K "head_of" "head_of" sHead fH fdH) (bH : Binds K fdH ["heads", "place"] []) (mH : mg "head_of" = some (.ref fH)) (mmax : mg "max" = none) (mmin : mg "min" = none) :
    FnOk P w K mg base CX0 2 f fd ["heads", "place", "other"] spUnite := by
  refine F.ok scUnite (fun vs H Q E h => ?_) (fun cdv A outer s H vs Q E hr h => ?_)
  · obtain ⟨a, hs, p, q, rfl, _⟩ := h
    rfl
  · obtain ⟨a, hs, p, q, rfl, ha, u, hp, hq, k⟩ := h
    refine ⟨_, (C8.pss_cut (ps_par (i := 3) (j := 4) (by rfl) scUnite.nd rfl rfl (by decide) rfl rfl (pa_cons (pe_call GH hr (by rfl) mH FH.kp bH .nil pass0 (pa_cons (pv 0) (pa_cons (pv 1) pa_nil))) (pa_cons (pe_call GH hr (by rfl) mH FH.kp bH .nil pass0 (pa_cons (pv 0) (pa_cons (pv 2) pa_nil))) pa_nil)) (by rfl)) (pss_one (ps_asg (pe_callB (call_min2 rfl) (by rfl) mmin (by decide +kernel) (pa_cons (pv 3) (pa_cons (pv 4) pa_nil))) (pg_sub (pv 0) (pe_callB (call_max2 rfl) (by rfl) mmax (by decide +kernel) (pa_cons (pv 3) (pa_cons (pv 4) pa_nil))) set_list)))), ?_⟩
    refine ⟨fun σ H' => But a H H' ∧ ∃ gs : List Nat, H' a = some (.lst (natsV gs)) ∧ UF gs ∧ gs.length = hs.length ∧ (∀ i, root gs i = root hs i) ∧ σ = [some (.ref a), some (.int (p : Int)), some (.int (q : Int)), some (.int (root hs p : Int)), some (.int (root hs q : Int))], ?_, ?_⟩
    · refine ⟨_, rfl, _, rfl, a, hs, p, rfl, ha, u, hp, fun gs H1 b1 h1 u1 l1 r1 => ?_⟩
      refine ⟨_, rfl, _, rfl, a, gs, q, rfl, h1, u1, by omega, fun ks H2 b2 h2 u2 l2 r2 => ?_⟩
      exact ⟨_, _, rfl, b1.trans b2, ks, h2, u2, l2.trans l1, fun i => (r2 i).trans (r1 i), by rw [r1 q]; rfl⟩
    rintro σ H1 ⟨b1, gs, h1, u1, l1, r1, rfl⟩
    have ep : root hs p = root gs p := (r1 p).symm
    have eq : root hs q = root gs q := (r1 q).symm
    have lp : root gs p < gs.length := Nat.lt_of_le_of_lt (root_le u1 p) (by omega)
    have lq : root gs q < gs.length := Nat.lt_of_le_of_lt (root_le u1 q) (by omega)
    have fp := root_fix u1 p
    have fq := root_fix u1 q
    have done : ∀ (b c : Nat), b = max (root gs p) (root gs q) → c = min (root gs p) (root gs q) → ∀ H', H' = upd H1 a (.lst ((natsV gs).set b (.int (c : Int)))) → Q .non H' := by
      rintro b c rfl rfl H' rfl
      rw [natsV_set]
      have hb : max (root gs p) (root gs q) < gs.length := by omega
      have fb : nxt gs (max (root gs p) (root gs q)) = max (root gs p) (root gs q) := by
        rcases Nat.le_total (root gs p) (root gs q) with z | z
        · rw [Nat.max_eq_right z, fq]
        · rw [Nat.max_eq_left z, fp]
      have fa : nxt gs (min (root gs p) (root gs q)) = min (root gs p) (root gs q) := by
        rcases Nat.le_total (root gs p) (root gs q) with z | z
        · rw [Nat.min_eq_left z, fp]
        · rw [Nat.min_eq_right z, fq]
      obtain ⟨u2, r2⟩ := join_heads u1 hb (by omega) fa fb
      refine k _ _ (But.at b1) upd_same u2 (by rw [List.length_set]; exact l1) fun i j => ?_
      rw [linked_join r2 i j]
      unfold Linked
      simp only [r1]
    have mn : ∀ x y : Nat, (if (y : Int) < (x : Int) then (y : Int) else (x : Int)) = ((min x y : Nat) : Int) := fun x y => by split <;> omega
    have mx : ∀ x y : Nat, (if (y : Int) > (x : Int) then (y : Int) else (x : Int)) = ((max x y : Nat) : Int) := fun x y => by split <;> omega
    refine ⟨_, rfl, _, rfl, _, _, rfl, _, rfl, _, rfl, _, rfl, _, _, rfl, a, _, _, max (root gs p) (root gs q), rfl, rfl, h1, ?_, ?_⟩
    · rw [ep, eq, mx]
      exact ixN_of (by unfold natsV; rw [List.length_map]; omega)
    · rw [ep, eq, mn]
      exact done _ _ rfl rfl _ rfl
end
end Wh

namespace Wh
open PySem L2
abbrev sEnds : Stmt := topS 36
theorem scEnds : FnScope ["doors", "house", "other", "ends", "waiting", "here", "there", "mark", "end", "beside"] ["doors", "house", "other"] (defScope sEnds) := ⟨rfl, rfl, rfl, by decide +kernel, rfl, by decide +kernel, by decide +kernel⟩
theorem dr_door {H : Hp} {dl : Addr} {ds : List Addr} {n : Nat} {ts : List Tie} (d : Dr H dl ds n ts) {p : Nat} (hp : p < n) : ∃ a, atI (ds.map V.ref) (p : Int) = some (.ref a) ∧ H a = some (.dK (doorsK p ts)) := by
  have hi : p < ds.length := by rw [d.len]; exact hp
  have hg : ds[p]? = some ds[p] := List.getElem?_eq_getElem hi
  exact ⟨ds[p], atI_nat (by rw [List.getElem?_map, hg]; rfl), d.hd p _ hg⟩
section
variable {P : Program} {w : World} {K : PySem.W.Frag} {mg : Str → Option Value} {base : Heap}
def spEnds : Sp := fun vs H Q _ => ∃ (dl : Addr) (ds : List Addr) (n : Nat) (ts : List Tie) (p0 : Pr), vs = [.ref dl, .int (p0.1 : Int), .int (p0.2 : Int)] ∧ Dr H dl ds n ts ∧ WebOk n ts ∧ p0.1 < n ∧ p0.2 < n ∧ (∀ H', Same H H' → Clash ts p0 → Q .non H') ∧
  ∀ (d : Addr) (es : List Pr) (H' : Hp), Same H H' → H d = none → H' d = some (.dK (enD es)) → (es.map (·.1)).Nodup → (∀ q ∈ es, q.1 < n ∧ q.2 < n) → (∀ r, r ∈ es ↔ Rch ts p0 r) → Q (.ref d) H'
/-- the dict and the list that waits -/
structure Wq (da qa : Addr) (H' : Hp) (es st : List Pr) : Prop where
  hd : H' da = some (.dK (enD es))
  ex : ∃ qs : List (Addr × Pr), H' qa = some (.lst (refs qs)) ∧ At prV H' qs ∧ qs.map (·.2) = st
theorem Wq.keep {da qa : Addr} {H H' : Hp} {es st : List Pr} (b : Wq da qa H es st) (k : ∀ a o, H a = some o → (a = da ∨ ∀ kvs, o ≠ .dK kvs) → (∀ od u, o ≠ .frz od u) → H' a = some o) : Wq da qa H' es st := by
  obtain ⟨qs, h1, h2, h3⟩ := b.ex
  exact ⟨k _ _ b.hd (.inl rfl) (fun _ _ z => nomatch z), ⟨qs, k _ _ h1 (.inr fun _ z => nomatch z) (fun _ _ z => nomatch z), fun p hp => k _ _ (h2 p hp) (.inr fun _ z => nomatch z) (fun _ _ z => nomatch z), h3⟩⟩
set_option maxHeartbeats 4000000 in
theorem ok_ends {f : Addr} {fd : FuncData} (F : Fun K "ends_beside" "ends_beside" sEnds f fd) : FnOk P w K mg base CX0 1 f fd ["doors", "house", "other"] spEnds := by
  refine F.ok scEnds (fun vs H Q E h => ?_) (fun cdv A outer s H vs Q E hr h => ?_)
  · obtain ⟨dl, ds, n, ts, p0, rfl, _⟩ := h
    rfl
  · obtain ⟨dl, ds, n, ts, p0, rfl, dr, wk, lt1, lt2, kN, k⟩ := h
    have n10 := wk.n10
    have z2 : 2 ≤ sizeLine := by decide
    refine ⟨_, (C8.pss_cut (ps_set (i := 3) scEnds.nd rfl (.inl rfl) pe_dnewK) (C8.pss_cut (ps_set (i := 4) scEnds.nd rfl (.inl rfl) (pe_lst (pa_cons (pe_tup (pa_cons (pv 1) (pa_cons (pv 2) pa_nil))) pa_nil))) (C8.pss_cut (ps_while PassesOwn.never (pt_truth (pv 4) (by intro _; rfl)) (C8.pss_cut (ps_asg (pe_bm0 PySem.F.plainAttrs_list PySem.F.slot_list_pop PySem.F.type_list_pop mt_pop (pv 4)) (pg_tup (by rfl) (pgs_cons (pg_name (i := 5) scEnds.nd rfl (.inl rfl)) (pgs_cons (pg_name (i := 6) scEnds.nd rfl (.inl rfl)) pgs_nil)))) (pss_one (ps_lock (ps_for PassesOwn.never rfl (pi_keys (pe_ix ix_list (pv 0) (pv 5) (fun _ _ => rfl))) (pg_name (i := 7) scEnds.nd rfl (.inl rfl)) (pss_cons (ps_if (pt_cmp (pc_dnotin (hu_of hr) (pv 7) (pe_ix ix_list (pv 0) (pv 6) (fun _ _ => rfl)))) (pss_one ps_continue) pss_nil) (C8.pss_cut (ps_par (i := 8) (j := 9) (by rfl) scEnds.nd rfl rfl (by decide) rfl rfl (pa_cons (pe_dget (hu_of hr) (pe_ix ix_list (pv 0) (pv 5) (fun _ _ => rfl)) (pv 7) (fun _ _ => rfl)) (pa_cons (pe_dget (hu_of hr) (pe_ix ix_list (pv 0) (pv 6) (fun _ _ => rfl)) (pv 7) (fun _ _ => rfl)) pa_nil)) (by rfl)) (pss_one (ps_if (pt_cmp (pc_dnotin (hu_of hr) (pv 8) (pv 3))) (C8.pss_cut (ps_dput (hu_of hr) (pv 3) (pv 8) (pv 9) rfl) (pss_one (ps_expr (pe_bm PySem.F.plainAttrs_list PySem.F.slot_list_append PySem.F.type_list_append mt_append (pv 4) (pa_cons (pe_tup (pa_cons (pv 8) (pa_cons (pv 9) pa_nil))) pa_nil))))) (pss_one (ps_if (pt_cmpR op_ne (pe_dget (hu_of hr) (pv 3) (pv 8) (fun _ _ => rfl)) (pv 9) (nomark _)) (pss_one (ps_ret pe_non)) pss_nil))))))))))) (pss_one (ps_ret (pv 3)))))), ?_⟩
    refine ⟨fun σ H' => Same H H' ∧ ∃ da : Addr, H da = none ∧ H' da = some (.dK []) ∧ σ = [some (.ref dl), some (.int (p0.1 : Int)), some (.int (p0.2 : Int)), some (.ref da), none, none, none, none, none, none], fun da nda => ⟨same_upd nda, da, nda, upd_same, rfl⟩, ?_⟩
    rintro σ H1 ⟨s1, da, nda, hd1, rfl⟩
    refine ⟨fun σ H' => Same H H' ∧ ∃ qa : Addr, H qa = none ∧ da ≠ qa ∧ Wq da qa H' [] [p0] ∧ σ = [some (.ref dl), some (.int (p0.1 : Int)), some (.int (p0.2 : Int)), some (.ref da), some (.ref qa), none, none, none, none, none], ?_, ?_⟩
    · refine ⟨_, rfl, _, rfl, z2, fun q nq => ⟨(by show 1 ≤ sizeLine; decide), fun qa nqa => ?_⟩⟩
      have s2 := (s1.put nq (o := .tup [.int (p0.1 : Int), .int (p0.2 : Int)])).put nqa (o := .lst [.ref q])
      refine ⟨s2, qa, (s1.put nq (o := .tup [.int (p0.1 : Int), .int (p0.2 : Int)])).free nqa, ne_of_none (put_old hd1 nq) nqa, ⟨put_old (put_old hd1 nq) nqa, [(q, p0)], upd_same, ?_, rfl⟩, rfl⟩
      intro p hp
      rw [List.mem_singleton.mp hp]
      exact put_old upd_same nqa
    rintro σ H2 ⟨s2, qa, nqa, dq, wq2, rfl⟩
    refine ⟨fun σ H' => Same H H' ∧ ∃ (es : List Pr) (v5 v6 v7 v8 v9 : Option V), Wq da qa H' es [] ∧ Dfs n ts p0 es [] ∧ σ = [some (.ref dl), some (.int (p0.1 : Int)), some (.int (p0.2 : Int)), some (.ref da), some (.ref qa), v5, v6, v7, v8, v9], ?_, ?_⟩
    · refine ⟨fun m σ H' => Same H H' ∧ ∃ (es st : List Pr) (v5 v6 v7 v8 v9 : Option V), Wq da qa H' es st ∧ Dfs n ts p0 es st ∧ m = st.length + 2 * (n - es.length) ∧ m ≤ 2 * n + 1 ∧ σ = [some (.ref dl), some (.int (p0.1 : Int)), some (.int (p0.2 : Int)), some (.ref da), some (.ref qa), v5, v6, v7, v8, v9],
        ⟨_, s2, [], [p0], none, none, none, none, none, wq2, Dfs.init n ts p0, rfl, (by show 1 + 2 * (n - 0) ≤ 2 * n + 1; omega), rfl⟩, ?_⟩
      rintro m σ H3 ⟨s3, es, st, v5, v6, v7, v8, v9, wq, D, rfl, lm, rfl⟩
      obtain ⟨qs, hq3, hA3, hqs⟩ := wq.ex
      rcases List.eq_nil_or_concat qs with rfl | ⟨qs, ⟨q, h, t⟩, rfl⟩
      · refine ⟨_, rfl, false, .inl ⟨_, SqL.of hq3, rfl⟩, iteF ?_⟩
        have e : st = [] := hqs.symm
        subst e
        exact ⟨s3, es, _, _, _, _, _, wq, D, rfl⟩
      rw [List.concat_eq_append] at hq3 hA3 hqs
      rw [List.map_append] at hqs
      refine ⟨_, rfl, true, .inl ⟨_, SqL.of hq3, ?_⟩, iteT ?_⟩
      · unfold refs
        simp
      subst hqs
      rw [List.length_append] at lm
      have lm : (qs.map (·.2)).length + 1 + 2 * (n - es.length) ≤ 2 * n + 1 := lm
      have hq : H3 q = some (.tup (prV (h, t))) := hA3 (q, (h, t)) (List.mem_append_right _ (List.mem_singleton.mpr rfl))
      have DI : DfsIn n ts p0 es (qs.map (·.2)) (h, t) [] := D.pop
      have hht : h < n ∧ t < n := by
        rcases DI.cur with e | e
        · rw [← e] at lt1 lt2
          exact ⟨lt1, lt2⟩
        · exact DI.lt _ e
      have few := fst_few DI.nd DI.lt
      refine ⟨fun σ H' => ∃ m', m' < (qs.map (·.2)).length + 1 + 2 * (n - es.length) ∧ Same H H' ∧ ∃ (es st : List Pr) (v5 v6 v7 v8 v9 : Option V), Wq da qa H' es st ∧ Dfs n ts p0 es st ∧ m' = st.length + 2 * (n - es.length) ∧ m' ≤ 2 * n + 1 ∧ σ = [some (.ref dl), some (.int (p0.1 : Int)), some (.int (p0.2 : Int)), some (.ref da), some (.ref qa), v5, v6, v7, v8, v9], fun σ' H' z => by rw [List.length_append]; exact z, ?_⟩
      have hA4 : At prV H3 qs := fun p hp => hA3 p (List.mem_append_left _ hp)
      refine ⟨fun σ H' => Same H H' ∧ Wq da qa H' es (qs.map (·.2)) ∧ σ = [some (.ref dl), some (.int (p0.1 : Int)), some (.int (p0.2 : Int)), some (.ref da), some (.ref qa), some (.int (h : Int)), some (.int (t : Int)), v7, v8, v9], ?_, ?_⟩
      · refine ⟨_, rfl, .inl ⟨rfl, _, SqL.of hq3⟩, qa, _, .ref q, rfl, rfl, hq3, ?_, q, _, rfl, ?_, rfl, _, _, rfl, _, _, rfl, rfl, ?_, ?_, rfl⟩
        · unfold refs
          rw [List.map_append, List.length_append]
          simp
        · exact SqT.of (put_ne hq (ne_of hq hq3 (by intro z; cases z)))
        · exact fun b o e => put_ne (s3 b o e) (ne_of_none e nqa)
        · have e : (refs (qs ++ [(q, (h, t))])).dropLast = refs qs := by
            unfold refs
            rw [List.map_append]
            simp
          rw [e]
          exact ⟨put_ne wq.hd dq, qs, upd_same, hA4.mono (upd_tup hq3), rfl⟩
      rintro σ H4 ⟨s4, wq, rfl⟩
      obtain ⟨a0, ha0, hda0⟩ := dr_door (dr.same s4) hht.1
      obtain ⟨b0, hb0, hdb0⟩ := dr_door (dr.same s4) hht.2
      have old : ∀ {p : Nat} {a : Addr}, p < n → atI (ds.map V.ref) (p : Int) = some (.ref a) → H a = some (.dK (doorsK p ts)) := fun {p a} hp e => by
        obtain ⟨a1, e1, e2⟩ := dr_door dr hp
        have z := Option.some.inj (e.symm.trans e1)
        injection z with z
        rw [z]
        exact e2
      have ha0H := old hht.1 ha0
      have hdb := old hht.2 hb0
      have ne_d : da ≠ a0 := (ne_of_none ha0H nda).symm
      have ne_q : qa ≠ a0 := (ne_of_none ha0H nqa).symm
      refine ⟨a0, _, hda0, trivial, fun od => ⟨_, rfl, _, rfl, dl, _, _, _, rfl, rfl, SqL.of (put_ne (dr.same s4).hl ?_), ha0, a0, od, rfl, .inl ⟨_, upd_same, ?_⟩⟩⟩
      · exact ne_of (dr.same s4).hl hda0 (by intro z; cases z)
      have back : ∀ {H5 : Hp}, (∀ b o, H b = some o → b ≠ a0 → H5 b = some o) → Same H (upd H5 a0 (.dK (doorsK h ts))) := fun {H5} keep b o e1 => by
        by_cases z : b = a0
        · rw [z, upd_same]
          rw [z] at e1
          exact ha0H.symm.trans e1
        · exact put_ne (keep b o e1 z) z
      refine for_it (walk_keys (d := a0) (o := od) (kvs := doorsK h ts)) (fun j σ H' => (∀ b o, H b = some o → b ≠ a0 → H' b = some o) ∧ H' a0 = some (.frz od (.dK (doorsK h ts))) ∧ ∃ (fs st : List Pr) (v7 v8 v9 : Option V), Wq da qa H' fs st ∧ DfsIn n ts p0 fs st (h, t) ((marksAt h ts).take j) ∧ st.length + 2 * (n - fs.length) ≤ (qs.map (·.2)).length + 2 * (n - es.length) ∧ σ = [some (.ref dl), some (.int (p0.1 : Int)), some (.int (p0.2 : Int)), some (.ref da), some (.ref qa), some (.int (h : Int)), some (.int (t : Int)), v7, v8, v9])
        ⟨fun b o e1 e2 => put_ne (s4 b o e1) e2, upd_same, es, _, v7, v8, v9, ?_, ?_, Nat.le_refl _, rfl⟩ (fun j σ H' _ ⟨_, e, _⟩ => e) ?_ ?_
      · exact wq.keep fun a o e1 e2 _ => put_ne e1 fun z => by
          rcases e2 with e2 | e2
          · exact ne_d (e2.symm.trans z)
          · rw [z, hda0] at e1
            exact e2 _ (Option.some.inj e1).symm
      · rw [List.take_zero]
        exact DI
      · rintro j x σ H5 H6 hj ⟨keep, fz, fs, st, v7, v8, v9, wq, DI, le, rfl⟩ ⟨rfl, key, val, hkv, rfl⟩
        have hkey : ((doorsK h ts).map (·.1))[j]? = some key := by rw [List.getElem?_map, hkv]; rfl
        rw [doorsK_keys, List.getElem?_map] at hkey
        obtain ⟨m1, hm1, rfl⟩ := Option.map_eq_some_iff.mp hkey
        have hmm : m1 ∈ marksAt h ts := List.mem_of_getElem? hm1
        have tk : (marksAt h ts).take (j + 1) = (marksAt h ts).take j ++ [m1] := by rw [List.take_succ, hm1]; rfl
        have dl5 : H6 dl = some (.lst (ds.map V.ref)) := keep _ _ dr.hl (ne_of dr.hl ha0H (by intro z; cases z))
        have rdA : Rd H6 a0 (.dK (doorsK h ts)) := .inr ⟨od, fz⟩
        have rdB : Rd H6 b0 (.dK (doorsK t ts)) := by
          by_cases z : b0 = a0
          · have e2 : (HO.dK (doorsK t ts)) = .dK (doorsK h ts) := by
              rw [z] at hdb
              exact Option.some.inj (hdb.symm.trans ha0H)
            rw [z, e2]
            exact rdA
          · exact .inl (keep _ _ hdb z)
        refine ⟨_, rfl, _, rfl, _, rfl, dl, _, _, _, rfl, rfl, SqL.of dl5, hb0, b0, _, rfl, .inl ⟨_, Sum.inr (sgn m1), rdB, rfl, rfl⟩, _, rfl, ?_⟩
        rw [valV_door]
        cases hd2 : door t m1 ts with
        | none =>
          refine iteT ⟨keep, fz, fs, st, _, _, _, wq, ?_, le, rfl⟩
          rw [tk]
          exact DI.skip fun r hr => by
            have := (step2_some.mp hr).2
            rw [hd2] at this
            cases this
        | some b1 =>
          obtain ⟨a1, ha1⟩ : ∃ a1, door h m1 ts = some a1 := by
            rw [← doorsAt_fst] at hmm
            obtain ⟨⟨m2, a1⟩, z1, z2⟩ := List.mem_map.mp hmm
            have z2 : m2 = m1 := z2
            exact ⟨a1, door_of (wk.uniq h) (z2 ▸ z1)⟩
          have stp : step2 ts (h, t) m1 = some (a1, b1) := step2_some.mpr ⟨ha1, hd2⟩
          refine iteF ?_
          refine ⟨fun σ H' => H6 = H' ∧ σ = [some (.ref dl), some (.int (p0.1 : Int)), some (.int (p0.2 : Int)), some (.ref da), some (.ref qa), some (.int (h : Int)), some (.int (t : Int)), some (.str (sgn m1)), some (.int (a1 : Int)), some (.int (b1 : Int))], ?_, ?_⟩
          · have gA : valV (doorsK h ts) (Sum.inr (sgn m1) : Key) = some (.int (a1 : Int)) := by rw [valV_door, ha1]; rfl
            have gB : valV (doorsK t ts) (Sum.inr (sgn m1) : Key) = some (.int (b1 : Int)) := by rw [valV_door, hd2]; rfl
            refine ⟨_, rfl, _, rfl, dl, _, _, _, rfl, rfl, SqL.of dl5, ha0, _, rfl, a0, _, rfl, .inl ⟨_, Sum.inr (sgn m1), rdA, rfl, gA.symm⟩, ?_⟩
            exact ⟨_, rfl, _, rfl, dl, _, _, _, rfl, rfl, SqL.of dl5, hb0, _, rfl, b0, _, rfl, .inl ⟨_, Sum.inr (sgn m1), rdB, rfl, gB.symm⟩, _, _, rfl, rfl, rfl⟩
          rintro σ H7 ⟨rfl, rfl⟩
          refine ⟨_, rfl, _, rfl, da, _, rfl, .inl ⟨_, Sum.inl (a1 : Int), .inl wq.hd, rfl, rfl⟩, _, rfl, ?_⟩
          have fewI := fst_few DI.nd DI.lt
          by_cases hin : a1 ∈ fs.map (·.1)
          · obtain ⟨d, hmem, hval⟩ := enD_some hin
            rw [hval]
            refine iteF ⟨_, rfl, _, rfl, da, _, rfl, .inl ⟨_, Sum.inl (a1 : Int), .inl wq.hd, rfl, hval.symm⟩, _, rfl, rfl, _, rfl, ?_⟩
            by_cases e : d = b1
            · rw [e, decide_eq_true rfl]
              refine iteF ⟨keep, fz, fs, st, _, _, _, wq, ?_, le, rfl⟩
              rw [tk]
              exact DI.skip fun r hr => by
                obtain rfl := Option.some.inj (stp.symm.trans hr)
                rw [← e]
                exact hmem
            · rw [decide_eq_false fun z => e (by injection z with z; omega)]
              exact iteT ⟨fz, kN _ (back keep) (DI.clash stp hmem e)⟩
          · rw [enD_none hin]
            obtain ⟨qs2, hq7, hA7, hqs2⟩ := wq.ex
            have nlt : fs.length < n := by
              have D2 := DI.add wk stp hin
              have := fst_few D2.nd D2.lt
              rw [List.length_append] at this
              exact this
            refine iteT ⟨fun σ H' => (∀ b o, H b = some o → b ≠ a0 → H' b = some o) ∧ H' a0 = some (.frz od (.dK (doorsK h ts))) ∧ H' da = some (.dK (enD (fs ++ [(a1, b1)]))) ∧ H' qa = some (.lst (refs qs2)) ∧ At prV H' qs2 ∧ σ = [some (.ref dl), some (.int (p0.1 : Int)), some (.int (p0.2 : Int)), some (.ref da), some (.ref qa), some (.int (h : Int)), some (.int (t : Int)), some (.str (sgn m1)), some (.int (a1 : Int)), some (.int (b1 : Int))], ?_, ?_⟩
            · refine ⟨_, rfl, _, rfl, _, rfl, da, _, rfl, DPut.k (k := Sum.inl (a1 : Int)) wq.hd ?_, ?_⟩
              · unfold enD
                rw [List.length_map]
                exact small1000 (by omega)
              rw [putK_new _ (enD_none hin)]
              have nda2 : ∀ b o, H b = some o → b ≠ da := fun b o e => ne_of_none e nda
              refine ⟨fun b o e1 e2 => put_ne (keep b o e1 e2) (nda2 b o e1), put_ne fz (nda2 a0 _ ha0H), ?_, put_ne hq7 dq.symm, hA7.mono fun b xs e => put_ne e (ne_of e wq.hd (by intro z; cases z)), rfl⟩
              rw [upd_same, enD_snoc]
            rintro σ H8 ⟨keep8, fz8, hd8, hq8, hA8, rfl⟩
            refine ⟨_, rfl, .inl ⟨rfl, _, SqL.of hq8⟩, _, rfl, _, rfl, z2, fun q3 m3n => ⟨_, _, _, rfl, rfl, put_old hq8 m3n, (by
              rw [refs_len]
              have e := congrArg List.length hqs2
              rw [List.length_map] at e
              exact small1000 (by omega)), ?_⟩⟩
            have hq9 := put_old (u := HO.tup [.int (a1 : Int), .int (b1 : Int)]) hq8 m3n
            have nqa2 : ∀ b o, H b = some o → b ≠ qa := fun b o e => ne_of_none e nqa
            refine ⟨fun b o e1 e2 => put_ne (put_old (keep8 b o e1 e2) m3n) (nqa2 b o e1), put_ne (put_old fz8 m3n) (nqa2 a0 _ ha0H), fs ++ [(a1, b1)], st ++ [(a1, b1)], _, _, _, ⟨put_ne (put_old hd8 m3n) dq, qs2 ++ [(q3, (a1, b1))], ?_, ?_, ?_⟩, ?_, ?_, rfl⟩
            · rw [upd_same, refs_app]
              rfl
            · exact At.snoc ((hA8.same (same_upd m3n)).mono (upd_tup hq9)) (put_ne upd_same (ne_of_none hq8 m3n).symm)
            · rw [List.map_append, hqs2]
              rfl
            · rw [tk]
              exact DI.add wk stp hin
            · rw [List.length_append, List.length_append]
              show st.length + 1 + 2 * (n - (fs.length + 1)) ≤ _
              omega
      · rintro σ H5 ⟨keep, fz, fs, st, v7, v8, v9, wq, DI, le, rfl⟩
        rw [List.take_of_length_le (by rw [doorsK_len]; exact Nat.le_refl _)] at DI
        refine ⟨fz, _, ?_, back keep, fs, st, _, _, _, _, _, ?_, DI.done fun m2 hm2 => hm2, rfl, ?_, rfl⟩
        · omega
        · exact wq.keep fun a o e1 e2 e3 => put_ne e1 fun z => by
            rw [z, fz] at e1
            exact e3 _ _ (Option.some.inj e1).symm
        · omega
    rintro σ H3 ⟨s3, es, v5, v6, v7, v8, v9, wq, D, rfl⟩
    exact ⟨_, rfl, k da es H3 s3 nda wq.hd D.nd D.lt D.all⟩
end
end Wh

namespace Wh
open PySem L2
abbrev sParts : Stmt := topS 40
abbrev sRenum : Stmt := topS 39
theorem scParts : FnScope ["rows", "row"] ["rows"] (defScope sParts) := ⟨rfl, rfl, rfl, by decide +kernel, rfl, by decide +kernel, by decide +kernel⟩
theorem scRenum : FnScope ["rows", "numbers", "row", "value"] ["rows"] (defScope sRenum) := ⟨rfl, rfl, rfl, by decide +kernel, rfl, by decide +kernel, by decide +kernel⟩
/-- rows that are lists of numbers -/
def AtL (H : Hp) (rs : List (Addr × List Nat)) : Prop := ∀ p ∈ rs, H p.1 = some (.lst (natsV p.2))
theorem AtL.same {H H' : Hp} {rs : List (Addr × List Nat)} (h : AtL H rs) (s : Same H H') : AtL H' rs := fun p hp => s _ _ (h p hp)
theorem natsV_ints (ns : List Nat) : natsV ns = (ns.map fun h : Nat => (h : Int)).map V.int := by
  unfold natsV
  rw [List.map_map]
  rfl
theorem ints_nd {ns : List Nat} : (ns.map fun h : Nat => (h : Int)).Nodup ↔ ns.Nodup := by
  constructor
  · exact fun h => List.Pairwise.of_map _ (fun a b h e => h (by rw [e])) h
  · exact fun h => List.Pairwise.map _ (fun a b h e => h (by omega)) h
section
variable {P : Program} {w : World} {K : PySem.W.Frag} {mg : Str → Option Value} {base : Heap}
def spParts : Sp := fun vs H Q _ => ∃ (a : Addr) (rs : List (Addr × List Nat)), vs = [.ref a] ∧ H a = some (.lst (refs rs)) ∧ AtL H rs ∧ rs.length ≤ 10 ∧ (∀ p ∈ rs, p.2.length ≤ 10) ∧
  ∀ H', Same H H' → Q (.bl (rs.all fun p => decide p.2.Nodup)) H'
theorem ok_parts {f : Addr} {fd : FuncData} (F : Fun K "parts_ends" "parts_ends" sParts f fd) (mall : mg "all" = none) (mlen : mg "len" = none) (mset : mg "set" = none) : FnOk P w K mg base CX0 1 f fd ["rows"] spParts := by
  refine F.ok scParts (fun vs H Q E h => ?_) (fun cdv A outer s H vs Q E hr h => ?_)
  · obtain ⟨a, rs, rfl, _⟩ := h
    rfl
  · obtain ⟨a, rs, rfl, ha, hA, few, short, k⟩ := h
    refine ⟨_, (pss_one (ps_ret (pe_callB (cr_all rfl) (by rfl) mall (by decide +kernel) (pa_cons (pe_lc (own := [("row", 1)]) (g := gName 1) (tt := tYes) rfl scParts.nd (pi_list (pv 0)) (blkOk_by (N := ["rows", "row"]) (own := [("row", 1)]) (sc := defScope sParts) (by decide +kernel)) (fun _ _ _ _ _ => (pg_name (i := 1) scParts.nd rfl (.inl rfl))) (fun _ _ _ _ _ => pts_nil) (fun _ _ _ _ _ => (pe_cmpR op_eq (pe_lenSetNK K rfl rfl (by rfl) mlen (by rfl) mset (pv 1)) (pe_callB (call_lenL K rfl) (by rfl) mlen PySem.boot_len (pa_cons (pv 1) pa_nil)) (nomark _)))) pa_nil)))), ?_⟩
    refine ⟨_, rfl, a, rfl, ⟨_, SqL.of ha⟩, fun D nD => ?_⟩
    refine lc_list (K := K) (a := a) (xs := refs rs) (fun i H' => Same H H' ∧ H' D = some (.lst (((rs.take i).map fun p => decide p.2.Nodup).map V.bl))) ⟨same_upd nD, upd_same⟩ (fun i H' _ ⟨s, _⟩ => SqL.of (s _ _ ha)) ?_ ?_
    · rintro i x H1 hx ⟨s1, hD⟩
      obtain ⟨⟨q, ns⟩, hk, rfl⟩ := refs_get hx
      have hm := List.mem_of_getElem? hk
      have hq : H1 q = some (.lst (natsV ns)) := s1 _ _ (hA _ hm)
      have l10 : ns.length ≤ 10 := short _ hm
      refine ⟨rfl, _, rfl, q, ns.map fun h : Nat => (h : Int), rfl, (by rw [← natsV_ints]; exact SqL.of hq), (by rw [List.length_map]; omega), fun m hm1 hm2 => ?_⟩
      rw [List.length_map] at hm1 hm2
      refine ⟨_, rfl, q, _, rfl, SqL.of hq, rfl, _, hD, ?_, s1.own nD, ?_⟩
      · rw [List.length_map, List.length_map, List.length_take]
        exact small1000 (by omega)
      · have e : decide (V.int (m : Int) = V.int (((natsV ns).length : Nat) : Int)) = decide ns.Nodup := by
          have el : (natsV ns).length = ns.length := by unfold natsV; rw [List.length_map]
          rw [el]
          by_cases c : ns.Nodup
          · rw [decide_eq_true c, hm2.mpr (ints_nd.mpr c)]
            exact decide_eq_true rfl
          · rw [decide_eq_false c]
            exact decide_eq_false fun z => c (ints_nd.mp (hm2.mp (by injection z with z; omega)))
        rw [e, upd_same, List.take_succ, hk, List.map_append, List.map_append]
        rfl
    · rintro H1 ⟨s1, hD⟩
      rw [refs_len, List.take_length] at hD
      refine ⟨D, _, rfl, SqL.of hD, ?_⟩
      have e : (rs.map fun p => decide p.2.Nodup).all id = rs.all fun p => decide p.2.Nodup := by
        rw [List.all_map]
        rfl
      rw [e]
      exact k H1 s1
/-- renumbered: rows that are lists -/
def flat (rs : List (Addr × List Nat)) : List Nat := rs.flatMap (·.2)
def spRenum : Sp := fun vs H Q _ => ∃ (a : Addr) (rs : List (Addr × List Nat)), vs = [.ref a] ∧ H a = some (.lst (refs rs)) ∧ AtL H rs ∧ rs.length ≤ 10 ∧ (∀ p ∈ rs, p.2.length ≤ 10) ∧
  ∀ (t : Addr) (qs : List (Addr × List Nat)) (H' : Hp), Same H H' → H t = none → H' t = some (.tup (refs qs)) → At natsV H' qs → qs.map (·.2) = (rs.map (·.2)).map (fun row => row.map (firsts (flat rs)).idxOf) → Q (.ref t) H'
set_option maxHeartbeats 2000000 in
theorem ok_renum {f : Addr} {fd : FuncData} (F : Fun K "renumbered" "renumbered" sRenum f fd) (mtuple : mg "tuple" = none) (mlen : mg "len" = none) : FnOk P w K mg base CX0 1 f fd ["rows"] spRenum := by
  refine F.ok scRenum (fun vs H Q E h => ?_) (fun cdv A outer s H vs Q E hr h => ?_)
  · obtain ⟨a, rs, rfl, _⟩ := h
    rfl
  · obtain ⟨a, rs, rfl, ha, hA, few, short, k⟩ := h
    refine ⟨_, (C8.pss_cut (ps_set (i := 1) scRenum.nd rfl (.inr rfl) pe_dnewK) (C8.pss_cut (ps_for PassesOwn.never rfl (pi_list (pv 0)) (pg_name (i := 2) scRenum.nd rfl (.inl rfl)) (pss_one (ps_for PassesOwn.never rfl (pi_list (pv 2)) (pg_name (i := 3) scRenum.nd rfl (.inl rfl)) (pss_one (ps_expr (pe_dsetd (pv 1) (pv 3) (pe_callB call_lenD (by rfl) mlen PySem.boot_len (pa_cons (pv 1) pa_nil)) ⟨rfl, rfl, rfl, rfl⟩)))))) (pss_one (ps_ret (pe_callTy (call_tupOf K rfl) (by rfl) mtuple (by decide +kernel) (pa_cons (pe_lc (own := [("row", 2)]) (g := gName 2) (tt := tYes) rfl scRenum.nd (pi_list (pv 0)) (blkOk_by (N := ["rows", "numbers", "row", "value"]) (own := [("row", 2)]) (sc := defScope sRenum) (by decide +kernel)) (fun _ _ _ _ _ => (pg_name (i := 2) scRenum.nd rfl (.inl rfl))) (fun _ _ _ _ _ => pts_nil) (fun _ _ _ _ _ => (pe_callTy (call_tupOf K rfl) (by rfl) mtuple (by decide +kernel) (pa_cons (pe_lc (own := [("value", 3)]) (g := gName 3) (tt := tYes) rfl scRenum.nd (pi_listK K rfl (pv 2)) (blkOk_by (N := ["rows", "numbers", "row", "value"]) (own := [("value", 3)]) (by show blkC _ (L2.relS _ (defScope sRenum)) _ _ = true; decide +kernel)) (fun _ _ _ _ _ => (pg_name (i := 3) scRenum.nd rfl (.inl rfl))) (fun _ _ _ _ _ => pts_nil) (fun _ _ _ _ _ => (pe_dget (hu_of hr) (pv 1) (pv 3) (fun _ _ => rfl)))) pa_nil)))) pa_nil)))))), ?_⟩
    refine ⟨fun σ H' => Same H H' ∧ ∃ d : Addr, H d = none ∧ H' d = some (.dK []) ∧ σ = [some (.ref a), some (.ref d), none, none], fun d nd => ⟨same_upd nd, d, nd, upd_same, rfl⟩, ?_⟩
    rintro σ H1 ⟨s1, d, nd, hd, rfl⟩
    have flen : ∀ i, (flat (rs.take i)).length ≤ i * 10 := fun i => by
      induction i with
      | zero => simp [flat]
      | succ i ih =>
        rw [List.take_succ]
        cases e : rs[i]? with
        | none =>
          simp only [Option.toList_none, List.append_nil]
          omega
        | some p =>
          have := short p (List.mem_of_getElem? e)
          simp only [Option.toList_some]
          unfold flat at ih ⊢
          rw [List.flatMap_append, List.length_append, List.flatMap_singleton]
          omega
    refine ⟨fun σ H' => Same H H' ∧ H' d = some (.dK (numK (firsts (flat rs)))) ∧ ∃ v2 v3 : Option V, σ = [some (.ref a), some (.ref d), v2, v3], ?_, ?_⟩
    · refine ⟨_, rfl, a, rfl, ⟨_, SqL.of (s1 _ _ ha)⟩, for_list (K := K) (a := a) (xs := refs rs) (fun i σ H' => Same H H' ∧ H' d = some (.dK (numK (firsts (flat (rs.take i))))) ∧ ∃ v2 v3 : Option V, σ = [some (.ref a), some (.ref d), v2, v3]) ⟨s1, hd, none, none, rfl⟩ (fun i σ H' _ ⟨s, _⟩ => SqL.of (s _ _ ha)) ?_ ?_⟩
      · rintro i x σ H2 hx ⟨s2, hd2, v2, v3, rfl⟩
        obtain ⟨⟨q, ns⟩, hk, rfl⟩ := refs_get hx
        have hm := List.mem_of_getElem? hk
        have hqH : H q = some (.lst (natsV ns)) := hA _ hm
        have l10 : ns.length ≤ 10 := short _ hm
        have hi : i < 10 := by
          have := (List.getElem?_eq_some_iff.mp hk).1
          omega
        have tk : flat (rs.take (i + 1)) = flat (rs.take i) ++ ns := by
          unfold flat
          rw [List.take_succ, hk, List.flatMap_append]
          simp
        have fl := flen i
        refine ⟨_, rfl, q, rfl, ⟨_, SqL.of (s2 _ _ hqH)⟩, for_list (K := K) (a := q) (xs := natsV ns) (fun j σ H' => Same H H' ∧ H' d = some (.dK (numK (firsts (flat (rs.take i) ++ ns.take j)))) ∧ ∃ v3 : Option V, σ = [some (.ref a), some (.ref d), some (.ref q), v3]) ⟨s2, (by rw [List.take_zero, List.append_nil]; exact hd2), v3, rfl⟩ (fun i σ H' _ ⟨s, _⟩ => SqL.of (s _ _ hqH)) ?_ ?_⟩
        · rintro j x σ H3 hx ⟨s3, hd3, v3, rfl⟩
          unfold natsV at hx
          rw [List.getElem?_map] at hx
          obtain ⟨n, hn, rfl⟩ := Option.map_eq_some_iff.mp hx
          have hj := (List.getElem?_eq_some_iff.mp hn).1
          have tj : ns.take (j + 1) = ns.take j ++ [n] := by rw [List.take_succ, hn]; rfl
          have small := (firsts_mem (flat (rs.take i) ++ ns.take j)).2
          rw [List.length_append, List.length_take] at small
          refine ⟨_, rfl, d, rfl, .inl ⟨_, .inl hd3⟩, _, rfl, _, rfl, d, _, rfl, hd3, _, Sum.inl (n : Int), hd3, rfl, ?_, fun v hv => ?_, fun hv => ?_⟩
          · rw [numK_len]
            exact small1000 (by omega)
          · refine ⟨s3, ?_, _, rfl⟩
            rw [tj, ← List.append_assoc, firsts_snoc]
            by_cases c : n ∈ firsts (flat (rs.take i) ++ ns.take j)
            · rw [if_pos c]
              exact hd3
            · rw [numK_none c] at hv
              cases hv
          · refine ⟨s3.own nd, ?_, _, rfl⟩
            rw [tj, ← List.append_assoc, firsts_snoc]
            by_cases c : n ∈ firsts (flat (rs.take i) ++ ns.take j)
            · rw [numK_some c] at hv
              cases hv
            · rw [if_neg c, upd_same, putK_new _ hv, numK_snoc, numK_len]
        · rintro σ H3 ⟨s3, hd3, v3, rfl⟩
          have el : (natsV ns).length = ns.length := by unfold natsV; rw [List.length_map]
          rw [el, List.take_length, ← tk] at hd3
          exact ⟨s3, hd3, _, _, rfl⟩
      · rintro σ H2 ⟨s2, hd2, v2, v3, rfl⟩
        rw [refs_len, List.take_length] at hd2
        exact ⟨s2, hd2, v2, v3, rfl⟩
    rintro σ H2 ⟨s2, hd2, v2, v3, rfl⟩
    refine ⟨_, rfl, a, rfl, ⟨_, SqL.of (s2 _ _ ha)⟩, fun D nD => ?_⟩
    refine lc_list (K := K) (a := a) (xs := refs rs) (fun i H' => Same H2 H' ∧ ∃ qs : List (Addr × List Nat), H' D = some (.lst (refs qs)) ∧ At natsV H' qs ∧ qs.map (·.2) = ((rs.take i).map (·.2)).map (fun row => row.map (firsts (flat rs)).idxOf)) ⟨same_upd nD, [], upd_same, (fun p hp => by cases hp), rfl⟩ (fun i H' _ ⟨s, _⟩ => SqL.of (s _ _ (s2 _ _ ha))) ?_ ?_
    · rintro i x H3 hx ⟨s3, qs, hD, hQ, hq⟩
      obtain ⟨⟨q, ns⟩, hk, rfl⟩ := refs_get hx
      have hm := List.mem_of_getElem? hk
      have hqH := s2 _ _ (hA _ hm)
      have l10 : ns.length ≤ 10 := short _ hm
      have hq3 : H3 q = some (.lst (natsV ns)) := s3 _ _ hqH
      refine ⟨rfl, _, rfl, q, rfl, ⟨_, SqL.of hq3⟩, fun B nB => ?_⟩
      refine lc_list (K := K) (a := q) (xs := natsV ns) (fun j H' => Same H3 H' ∧ H' B = some (.lst (natsV ((ns.take j).map (firsts (flat rs)).idxOf)))) ⟨same_upd nB, upd_same⟩ (fun i H' _ ⟨s, _⟩ => SqL.of (s _ _ hq3)) ?_ ?_
      · rintro j y H4 hy ⟨s4, hB⟩
        unfold natsV at hy
        rw [List.getElem?_map] at hy
        obtain ⟨n, hn, rfl⟩ := Option.map_eq_some_iff.mp hy
        have hin : n ∈ firsts (flat rs) := ((firsts_mem (flat rs)).1 n).mpr (List.mem_flatMap.mpr ⟨_, hm, List.mem_of_getElem? hn⟩)
        refine ⟨rfl, _, rfl, _, rfl, d, _, rfl, .inl ⟨_, Sum.inl (n : Int), .inl (s4 _ _ (s3 _ _ hd2)), rfl, (numK_some hin).symm⟩, _, hB, ?_, s4.own nB, ?_⟩
        · unfold natsV
          rw [List.length_map, List.length_map, List.length_take]
          exact small1000 (by omega)
        · rw [upd_same, List.take_succ, hn, List.map_append]
          unfold natsV
          rw [List.map_append]
          rfl
      · rintro H4 ⟨s4, hB⟩
        have el : (natsV ns).length = ns.length := by unfold natsV; rw [List.length_map]
        rw [el, List.take_length] at hB
        refine ⟨B, _, rfl, SqL.of hB, fun t nt => ?_⟩
        have hD4 := put_old (u := HO.tup (natsV (ns.map (firsts (flat rs)).idxOf))) (s4 _ _ hD) nt
        have qlen : qs.length ≤ 10 := by
          have e := congrArg List.length hq
          rw [List.length_map, List.length_map, List.length_map, List.length_take] at e
          omega
        refine ⟨_, hD4, ?_, ((Same.trans s3 s4).put nt).own nD, qs ++ [(t, ns.map (firsts (flat rs)).idxOf)], ?_, ?_, ?_⟩
        · rw [refs_len]
          exact small1000 (by omega)
        · rw [upd_same, refs_app]
          rfl
        · exact At.snoc (((hQ.same s4).same (same_upd nt)).mono (upd_tup hD4)) (put_ne upd_same (ne_of_none (s4 _ _ hD) nt).symm)
        · rw [List.map_append, hq, List.take_succ, hk, List.map_append, List.map_append]
          rfl
    · rintro H3 ⟨s3, qs, hD, hQ, hq⟩
      rw [refs_len, List.take_length] at hq
      have s23 := Same.trans s2 s3
      exact ⟨D, _, rfl, SqL.of hD, fun t nt => k t qs _ (s23.put nt) (s23.free nt) upd_same (hQ.same (same_upd nt)) hq⟩
end
end Wh

namespace Wh
open PySem L2
abbrev sLinked : Stmt := topS 35
theorem scLinked : FnScope ["doors", "count", "heads", "house", "other", "ends", "end", "rows"] ["doors"] (defScope sLinked) := ⟨rfl, rfl, rfl, by decide +kernel, rfl, by decide +kernel, by decide +kernel⟩
section
variable {P : Program} {w : World} {K : PySem.W.Frag} {mg : Str → Option Value} {base : Heap}
def spLinked : Sp := fun vs H Q _ => ∃ (dl : Addr) (ds : List Addr) (n : Nat) (ts : List Tie), vs = [.ref dl] ∧ Dr H dl ds n ts ∧ WebOk n ts ∧ (∀ H', Same H H' → Unfair n ts → Q .non H') ∧
  ∀ (t : Addr) (qs : List (Addr × List Nat)) (H' : Hp), Same H H' → H t = none → H' t = some (.tup (refs qs)) → At natsV H' qs → TableOk n ts (qs.map (·.2)) → Q (.ref t) H'
theorem fst_one : ∀ {es : List Pr} {c d e : Nat}, (es.map (·.1)).Nodup → (c, d) ∈ es → (c, e) ∈ es → d = e
  | [], _, _, _, _, h, _ => by cases h
  | p :: es, c, d, e, nd, h1, h2 => by
    rw [List.map_cons, List.nodup_cons] at nd
    rcases List.mem_cons.mp h1 with z1 | z1
    · rcases List.mem_cons.mp h2 with z2 | z2
      · rw [← z1] at z2
        exact (congrArg Prod.snd z2).symm
      · exact absurd (List.mem_map.mpr ⟨(c, e), z2, by rw [← z1]⟩) nd.1
    · rcases List.mem_cons.mp h2 with z2 | z2
      · exact absurd (List.mem_map.mpr ⟨(c, d), z1, by rw [← z2]⟩) nd.1
      · exact fst_one nd.2 z1 z2
theorem rg_nats (N : Nat) : rgV 0 ((N : Nat) : Int) = natsV (List.range N) := by
  unfold rgV natsV
  rw [show (((N : Nat) : Int) - 0).toNat = N by omega]
  exact List.map_congr_left fun i _ => by rw [Int.zero_add]
set_option maxHeartbeats 4000000 in
theorem ok_linked {f fH fU fE fP fR : Addr} {fd fdH fdU fdE fdP fdR : FuncData} (F : Fun K "linked_table" "linked_table" sLinked f fd) (mlen : mg "len" = none) (mlist : mg "list" = none) (mrange : mg "range" = none)
    (GH : FnOk P w K mg base CX0 1 fH fdH ["heads", "place"] spHead) (FH : Fun K "head_of" "head_of" sHead fH fdH) (bH : Binds K fdH ["heads", "place"] []) (mH : mg "head_of" = some (.ref fH))
    (GU : FnOk P w K mg base CX0 2 fU fdU ["heads", "place", "other"] spUnite) (FU : Fun K "unite" "unite" sUnite fU fdU) (bU : Binds K fdU ["heads", "place", "other"] []) (mU : mg "unite" = some (.ref fU))
    (GE : FnOk P w K mg base CX0 1 fE fdE ["doors", "house", "other"] spEnds) (FE : Fun K "ends_beside" "ends_beside" sEnds fE fdE) (bE : Binds K fdE ["doors", "house", "other"] []) (mE : mg "ends_beside" = some (.ref fE))
    (GP : FnOk P w K mg base CX0 1 fP fdP ["rows"] spParts) (FP : Fun K "parts_ends" "parts_ends" sParts fP fdP) (bP : Binds K fdP ["rows"] []) (mP : mg "parts_ends" = some (.ref fP))
    (GR : FnOk P w K mg base CX0 1 fR fdR ["rows"] spRenum) (FR : Fun K "renumbered" "renumbered" sRenum fR fdR) (bR : Binds K fdR ["rows"] []) (mR : mg "renumbered" = some (.ref fR)) :
    FnOk P w K mg base CX0 3 f fd ["doors"] spLinked := by
  refine F.ok scLinked (fun vs H Q E h => ?_) (fun cdv A outer s H vs Q E hr h => ?_)
  · obtain ⟨dl, ds, n, ts, rfl, _⟩ := h
    rfl
  · obtain ⟨dl, ds, n, ts, rfl, dr, wk, kN, k⟩ := h
    have hr1 : Room 1 _ := hr.mono (by decide)
    have hr2 : Room 2 _ := hr
    have n10 := wk.n10
    have n2 := wk.n2
    have nn : n * n ≤ 10 * 10 := Nat.mul_le_mul n10 n10
    have cm : ∀ i j : Int, 0 ≤ j → j ≤ 10 → CMul i j := fun i j h1 h2 => .inr ⟨by omega, by omega⟩
    refine ⟨_, (C8.pss_cut (ps_set (i := 1) scLinked.nd rfl (.inr rfl) (pe_callB call_len_seq (by rfl) mlen PySem.boot_len (pa_cons (pv 0) pa_nil))) (C8.pss_cut (ps_set (i := 2) scLinked.nd rfl (.inr rfl) (pe_listRg rfl (by rfl) mlist (prg_1 (by rfl) mrange (pe_op op_mul (pv 1) (pv 1))))) (C8.pss_cut (ps_for PassesOwn.never rfl (pi_range1 (by rfl) mrange (pa_cons (pv 1) pa_nil)) (pg_name (i := 3) scLinked.nd rfl (.inl rfl)) (pss_one (ps_for PassesOwn.never rfl (pi_range1 (by rfl) mrange (pa_cons (pv 3) pa_nil)) (pg_name (i := 4) scLinked.nd rfl (.inl rfl)) (C8.pss_cut (ps_set (i := 5) scLinked.nd rfl (.inl rfl) (pe_call GE hr1 (by rfl) mE FE.kp bE .nil pass0 (pa_cons (pv 0) (pa_cons (pv 3) (pa_cons (pv 4) pa_nil))))) (pss_cons (ps_if (pt_cmpR op_isN (pv 5) pe_non (nomark _)) (pss_one (ps_ret pe_non)) pss_nil) (pss_one (ps_lock (ps_for PassesOwn.never rfl (pi_keys (pv 5)) (pg_name (i := 6) scLinked.nd rfl (.inl rfl)) (pss_one (ps_expr (pe_call GU hr2 (by rfl) mU FU.kp bU .nil pass0 (pa_cons (pv 2) (pa_cons (pe_op op_add (pe_op op_mul (pv 3) (pv 1)) (pv 6)) (pa_cons (pe_op op_add (pe_op op_mul (pv 4) (pv 1)) (pe_dget (hu_of hr) (pv 5) (pv 6) (fun _ _ => rfl))) pa_nil)))))))))))))) (C8.pss_cut (ps_setLc (i := 7) (own := [("house", 3)]) (g := gName 3) (tt := tYes) rfl scLinked.nd rfl rfl (sw_true rfl rfl rfl (by decide +kernel)) (pi_range1 (by rfl) mrange (pa_cons (pv 1) pa_nil)) (blkOk_by (N := ["doors", "count", "heads", "house", "other", "ends", "end", "rows"]) (own := [("house", 3)]) (sc := defScope sLinked) (by decide +kernel)) (fun _ _ _ _ _ => (pg_name (i := 3) scLinked.nd rfl (Or.inr rfl))) (fun _ _ _ _ _ => pts_nil) (fun _ _ _ _ _ => (pe_lc (own := [("end", 6)]) (g := gName 6) (tt := tYes) rfl scLinked.nd (pi_range1 (by rfl) mrange (pa_cons (pv 1) pa_nil)) (blkOk_by (N := ["doors", "count", "heads", "house", "other", "ends", "end", "rows"]) (own := [("end", 6)]) (by show blkC _ (L2.relS _ (defScope sLinked)) _ _ = true; decide +kernel)) (fun _ _ _ _ _ => (pg_name (i := 6) scLinked.nd rfl (.inl rfl))) (fun _ _ _ _ _ => pts_nil) (fun _ _ _ _ _ => (pe_call GH hr1 (by rfl) mH FH.kp bH .nil pass0 (pa_cons (pv 2) (pa_cons (pe_op op_add (pe_op op_mul (pv 3) (pv 1)) (pv 6)) pa_nil))))))) (pss_one (ps_ret (pe_ifExp (pt_val (pe_call GP hr1 (by rfl) mP FP.kp bP .nil pass0 (pa_cons (pv 7) pa_nil))) (pe_call GR hr1 (by rfl) mR FR.kp bR .nil pass0 (pa_cons (pv 7) pa_nil)) pe_non))))))), ?_⟩
    refine ⟨fun σ H' => H = H' ∧ σ = [some (.ref dl), some (.int (n : Int)), none, none, none, none, none, none], ?_, ?_⟩
    · refine ⟨_, rfl, dl, _, rfl, .inl (SqL.of dr.hl), rfl, ?_⟩
      rw [List.length_map, dr.len]
      rfl
    rintro σ H0 ⟨rfl, rfl⟩
    refine ⟨fun σ H' => Same H H' ∧ ∃ (a : Addr) (hs : List Nat), H a = none ∧ H' a = some (.lst (natsV hs)) ∧ Uni n ts hs (fun _ _ => False) ∧ σ = [some (.ref dl), some (.int (n : Int)), some (.ref a), none, none, none, none, none], ?_, ?_⟩
    · refine ⟨_, rfl, _, rfl, _, _, rfl, rfl, cm _ _ (by omega) (by omega), _, rfl, RgOk.of_le (by decide) ?_ (by decide) ?_, fun a na => ⟨same_upd na, a, List.range (n * n), na, ?_, Uni.init n ts, rfl⟩⟩
      · show (n : Int) * (n : Int) ≤ 16777216
        have : (n : Int) * (n : Int) = ((n * n : Nat) : Int) := rfl
        omega
      · show 0 ≤ (n : Int) * (n : Int)
        have : (n : Int) * (n : Int) = ((n * n : Nat) : Int) := rfl
        omega
      · rw [upd_same, ← rg_nats]
        rfl
    rintro σ H1 ⟨s1, a, hs0, na, ha0, U0, rfl⟩
    refine ⟨fun σ H' => Same H H' ∧ ∃ (hs : List Nat) (v3 v4 v5 v6 : Option V), H' a = some (.lst (natsV hs)) ∧ Uni n ts hs (fun x y => x < n ∧ y < x) ∧ σ = [some (.ref dl), some (.int (n : Int)), some (.ref a), v3, v4, v5, v6, none], ?_, ?_⟩
    · refine ⟨_, rfl, (n : Int), rfl, by omega, by omega, ?_⟩
      rw [show ((n : Int)).toNat = n from Int.toNat_natCast n]
      refine for_range (lo := 0) (n := n) (fun i σ H' => Same H H' ∧ ∃ (hs : List Nat) (v3 v4 v5 v6 : Option V), H' a = some (.lst (natsV hs)) ∧ Uni n ts hs (fun x y => x < i ∧ y < x) ∧ σ = [some (.ref dl), some (.int (n : Int)), some (.ref a), v3, v4, v5, v6, none])
        ⟨s1, hs0, none, none, none, none, ha0, U0.weak fun x y z => by omega, rfl⟩ ?_ (fun σ H' q => q)
      rintro i σ H2 hi ⟨s2, hs, v3, v4, v5, v6, ha, U, rfl⟩
      rw [show (0 : Int) + (i : Int) = (i : Int) from Int.zero_add _]
      refine ⟨_, rfl, (i : Int), rfl, by omega, by omega, ?_⟩
      rw [show ((i : Int)).toNat = i from Int.toNat_natCast i]
      refine for_range (lo := 0) (n := i) (fun j σ H' => Same H H' ∧ ∃ (hs : List Nat) (v4 v5 v6 : Option V), H' a = some (.lst (natsV hs)) ∧ Uni n ts hs (fun x y => (x < i ∧ y < x) ∨ (x = i ∧ y < j)) ∧ σ = [some (.ref dl), some (.int (n : Int)), some (.ref a), some (.int (i : Int)), v4, v5, v6, none])
        ⟨s2, hs, v4, v5, v6, ha, U.weak fun x y z => by omega, rfl⟩ ?_ ?_
      · rintro j σ H3 hj ⟨s3, hs, v4, v5, v6, ha, U, rfl⟩
        rw [show (0 : Int) + (j : Int) = (j : Int) from Int.zero_add _]
        have hjn : j < n := by omega
        refine ⟨fun σ H' => Same H H' ∧ H' a = some (.lst (natsV hs)) ∧ ((Clash ts (i, j) ∧ σ = [some (.ref dl), some (.int (n : Int)), some (.ref a), some (.int (i : Int)), some (.int (j : Int)), some .non, v6, none]) ∨ ∃ (d : Addr) (es : List Pr), H d = none ∧ H' d = some (.dK (enD es)) ∧ (∀ q ∈ es, q.1 < n ∧ q.2 < n) ∧ (∀ r, r ∈ es ↔ Rch ts (i, j) r) ∧ es.length ≤ n ∧ (es.map (·.1)).Nodup ∧ σ = [some (.ref dl), some (.int (n : Int)), some (.ref a), some (.int (i : Int)), some (.int (j : Int)), some (.ref d), v6, none]), ?_, ?_⟩
        · refine ⟨_, rfl, _, rfl, _, rfl, dl, ds, n, ts, (i, j), rfl, dr.same s3, wk, hi, hjn, fun H4 s4 c => ⟨Same.trans s3 s4, s4 _ _ ha, .inl ⟨c, rfl⟩⟩, fun d es H4 s4 nd hd ndk lt all => ⟨Same.trans s3 s4, s4 _ _ ha, .inr ⟨d, es, s3.free nd, hd, lt, all, fst_few ndk lt, ndk, rfl⟩⟩⟩
        rintro σ H4 ⟨s4, ha4, (⟨c, rfl⟩ | ⟨d, es, nd, hd, lt, all, few, ndk, rfl⟩)⟩
        · exact ⟨_, rfl, rfl, _, rfl, iteT (kN H4 s4 (clash_cl wk hi hjn c))⟩
        refine ⟨_, rfl, rfl, _, rfl, iteF ?_⟩
        have ad : a ≠ d := ne_of ha4 hd (by intro z; cases z)
        refine ⟨d, _, hd, trivial, fun od => ⟨_, rfl, d, od, rfl, .inl ⟨_, upd_same, ?_⟩⟩⟩
        refine for_it (walk_keys (d := d) (o := od) (kvs := enD es)) (fun k σ H' => Same H H' ∧ H' d = some (.frz od (.dK (enD es))) ∧ ∃ (hs : List Nat) (v6 : Option V), H' a = some (.lst (natsV hs)) ∧ Uni n ts hs (fun x y => (x < i ∧ y < x) ∨ (x = i ∧ y < j)) ∧ (∀ q ∈ es.take k, Linked hs (enc n (i, q.1)) (enc n (j, q.2))) ∧ σ = [some (.ref dl), some (.int (n : Int)), some (.ref a), some (.int (i : Int)), some (.int (j : Int)), some (.ref d), v6, none])
          ⟨s4.own nd, upd_same, hs, v6, put_ne ha4 ad, U, (fun q hq => by cases hq), rfl⟩ (fun k σ H' _ ⟨_, e, _⟩ => e) ?_ ?_
        · rintro k x σ H5 H6 hk ⟨s5, fz, hs, v6, ha5, U, lk, rfl⟩ ⟨rfl, key, val, hkv, rfl⟩
          unfold enD at hkv
          rw [List.getElem?_map] at hkv
          obtain ⟨q, hq, e⟩ := Option.map_eq_some_iff.mp hkv
          obtain ⟨rfl, rfl⟩ := Prod.mk.inj e
          have hm := List.mem_of_getElem? hq
          obtain ⟨q1, q2⟩ := lt q hm
          have tk : es.take (k + 1) = es.take k ++ [q] := by rw [List.take_succ, hq]; rfl
          obtain ⟨e2, hmem, hval⟩ := enD_some (List.mem_map_of_mem (f := (·.1)) hm)
          have rch := (all q).mp hm
          have e2q : e2 = q.2 := fst_one ndk hmem hm
          subst e2q
          have ip : InN n (i, q.1) := ⟨hi, q1⟩
          have iq : InN n (j, q.2) := ⟨hjn, q2⟩
          refine ⟨_, rfl, _, rfl, _, rfl, _, _, rfl, rfl, cm _ _ (by omega) (by omega), _, rfl, _, _, rfl, rfl, _, rfl, _, rfl, _, _, rfl, rfl, cm _ _ (by omega) (by omega), _, rfl, _, rfl, d, _, rfl, .inl ⟨_, Sum.inl (q.1 : Int), .inr ⟨od, fz⟩, rfl, hval.symm⟩, _, _, rfl, rfl, a, hs, enc n (i, q.1), enc n (j, q.2), rfl, ha5, U.uf, by rw [U.len]; exact enc_lt ip, by rw [U.len]; exact enc_lt iq, fun gs H7 b7 ha7 uf7 l7 j7 => ?_⟩
          obtain ⟨U7, now, more⟩ := U.unite ip iq rch uf7 l7 j7
          refine ⟨fun b o e => ?_, ?_, gs, _, ha7, U7, fun p hp => ?_, rfl⟩
          · exact b7 b o (s5 b o e) (ne_of_none e na)
          · exact b7 _ _ fz ad.symm
          · rw [tk] at hp
            rcases List.mem_append.mp hp with z | z
            · exact more _ _ (lk p z)
            · rw [List.mem_singleton.mp z]
              exact now
        · rintro σ H5 ⟨s5, fz, hs, v6, ha5, U, lk, rfl⟩
          have el : (enD es).length = es.length := by unfold enD; rw [List.length_map]
          rw [el, List.take_length] at lk
          refine ⟨fz, s5.own nd, hs, _, _, _, put_ne ha5 ad, ⟨U.uf, U.len, U.sound, fun x y z c e r => ?_⟩, rfl⟩
          by_cases w : x = i ∧ y = j
          · obtain ⟨rfl, rfl⟩ := w
            exact lk (c, e) ((all (c, e)).mpr r)
          · exact U.all x y (by omega) c e r
      · rintro σ H3 ⟨s3, hs, v4, v5, v6, ha, U, rfl⟩
        exact ⟨s3, hs, _, _, _, _, ha, U.weak fun x y z => by omega, rfl⟩
    rintro σ H2 ⟨s2, hs, v3, v4, v5, v6, ha, U, rfl⟩
    have ex := fun {p q : Pr} (hp : InN n p) (hq : InN n q) => U.exact_ wk (fun x y h1 h2 => ⟨h1, h2⟩) hp hq
    refine ⟨fun σ H' => Same H H' ∧ ∃ (r : Addr) (rs : List (Addr × List Nat)), H' r = some (.lst (refs rs)) ∧ AtL H' rs ∧ rs.map (·.2) = (List.range n).map (headRow n hs) ∧ σ = [some (.ref dl), some (.int (n : Int)), some (.ref a), v3, v4, v5, v6, some (.ref r)], ?_, ?_⟩
    · refine ⟨_, rfl, (n : Int), rfl, by omega, by omega, fun D nD => ?_⟩
      rw [show ((n : Int)).toNat = n from Int.toNat_natCast n]
      have aD : a ≠ D := ne_of_none ha nD
      refine lc_range (lo := 0) (n := n) (fun i H' => But a H2 H' ∧ (∃ gs : List Nat, H' a = some (.lst (natsV gs)) ∧ UF gs ∧ gs.length = n * n ∧ ∀ x, root gs x = root hs x) ∧ ∃ rs : List (Addr × List Nat), H' D = some (.lst (refs rs)) ∧ (∀ p ∈ rs, H' p.1 = some (.lst (natsV p.2)) ∧ p.1 ≠ a ∧ p.1 ≠ D) ∧ rs.map (·.2) = (List.range i).map (headRow n hs))
        ⟨(But.refl a H2).put nD, ⟨hs, put_old ha nD, U.uf, U.len, fun _ => rfl⟩, [], upd_same, (fun p hp => by cases hp), rfl⟩ ?_ ?_
      · rintro i H3 hi ⟨b3, ⟨gs, ha3, uf3, l3, r3⟩, rs, hD, hR, hrs⟩
        rw [show (0 : Int) + (i : Int) = (i : Int) from Int.zero_add _]
        have rlen : rs.length = i := by
          have e := congrArg List.length hrs
          rw [List.length_map, List.length_map, List.length_range] at e
          exact e
        refine ⟨rfl, _, rfl, (n : Int), rfl, by omega, by omega, fun B nB => ?_⟩
        rw [show ((n : Int)).toNat = n from Int.toNat_natCast n]
        have aB : a ≠ B := ne_of_none ha3 nB
        have DB : D ≠ B := ne_of_none hD nB
        refine lc_range (lo := 0) (n := n) (fun j H' => But a H3 H' ∧ (∃ gs : List Nat, H' a = some (.lst (natsV gs)) ∧ UF gs ∧ gs.length = n * n ∧ ∀ x, root gs x = root hs x) ∧ H' B = some (.lst (natsV ((List.range j).map fun b => root hs (enc n (i, b))))))
          ⟨(But.refl a H3).put nB, ⟨gs, put_old ha3 nB, uf3, l3, r3⟩, upd_same⟩ ?_ ?_
        · rintro j H4 hj ⟨b4, ⟨gs, ha4, uf4, l4, r4⟩, hB⟩
          rw [show (0 : Int) + (j : Int) = (j : Int) from Int.zero_add _]
          have ip : InN n (i, j) := ⟨hi, hj⟩
          refine ⟨rfl, _, rfl, _, rfl, _, rfl, _, _, rfl, rfl, cm _ _ (by omega) (by omega), _, rfl, _, _, rfl, rfl, a, gs, enc n (i, j), rfl, ha4, uf4, by rw [l4]; exact enc_lt ip, fun ks H5 b5 ha5 uf5 l5 r5 => ?_⟩
          have hB5 := b5 _ _ hB aB.symm
          refine ⟨_, hB5, ?_, (b4.trans b5).own nB, ⟨ks, put_ne ha5 aB, uf5, l5.trans l4, fun x => (r5 x).trans (r4 x)⟩, ?_⟩
          · unfold natsV
            rw [List.length_map, List.length_map, List.length_range]
            exact small1000 (by omega)
          · rw [upd_same, List.range_succ, List.map_append, r4]
            unfold natsV
            rw [List.map_append]
            rfl
        · rintro H4 ⟨b4, ⟨gs, ha4, uf4, l4, r4⟩, hB⟩
          have hD4 := b4 _ _ hD aD.symm
          refine ⟨_, hD4, ?_, (b3.trans b4).own nD, ⟨gs, put_ne ha4 aD, uf4, l4, r4⟩, rs ++ [(B, headRow n hs i)], ?_, ?_, ?_⟩
          · rw [refs_len, rlen]
            exact small1000 (by omega)
          · rw [upd_same, refs_app]
            rfl
          · intro p hp
            rcases List.mem_append.mp hp with z | z
            · obtain ⟨h1, h2, h3⟩ := hR p z
              exact ⟨put_ne (b4 _ _ h1 h2) h3, h2, h3⟩
            · rw [List.mem_singleton.mp z]
              exact ⟨put_ne hB DB.symm, aB.symm, DB.symm⟩
          · rw [List.map_append, hrs, List.range_succ, List.map_append]
            rfl
      · rintro H3 ⟨b3, _, rs, hD, hR, hrs⟩
        refine ⟨fun b o e => b3 b o (s2 b o e) (ne_of_none e na), D, rs, hD, fun p hp => (hR p hp).1, hrs, rfl⟩
    rintro σ H3 ⟨s3, r, rs, hr3, hR, hrs, rfl⟩
    have rlen : rs.length = n := by
      have e := congrArg List.length hrs
      rw [List.length_map, List.length_map, List.length_range] at e
      exact e
    have shape : ∀ p ∈ rs, p.2.length ≤ 10 := fun p hp => by
      have h : p.2 ∈ (List.range n).map (headRow n hs) := by
        rw [← hrs]
        exact List.mem_map_of_mem hp
      obtain ⟨x, _, e⟩ := List.mem_map.mp h
      rw [← e]
      unfold headRow
      rw [List.length_map, List.length_range]
      exact n10
    have exact_ : ∀ p q, InN n p → InN n q → (Linked hs (enc n p) (enc n q) ↔ Cl n ts p q) := fun p q hp hq => ex hp hq
    have fairI : (rs.all fun p => decide p.2.Nodup) = true ↔ ¬ Unfair n ts := by
      rw [← rows_fair exact_, List.all_eq_true]
      constructor
      · intro h x hx
        have hm : headRow n hs x ∈ rs.map (·.2) := by
          rw [hrs]
          exact List.mem_map_of_mem (List.mem_range.mpr hx)
        obtain ⟨p, hp, e⟩ := List.mem_map.mp hm
        rw [← e]
        exact of_decide_eq_true (h p hp)
      · intro h p hp
        have hm : p.2 ∈ (List.range n).map (headRow n hs) := by
          rw [← hrs]
          exact List.mem_map_of_mem hp
        obtain ⟨x, hx, e⟩ := List.mem_map.mp hm
        rw [← e]
        exact decide_eq_true (h x (List.mem_range.mp hx))
    refine ⟨_, rfl, r, rs, rfl, hr3, hR, by omega, shape, fun H4 s4 => ⟨_, rfl, ?_⟩⟩
    by_cases fair : Unfair n ts
    · rw [Bool.eq_false_iff.mpr fun z => fairI.mp z fair]
      exact iteF (kN H4 (Same.trans s3 s4) fair)
    · rw [fairI.mpr fair]
      have s34 := Same.trans s3 s4
      refine iteT ⟨_, rfl, r, rs, rfl, s4 _ _ hr3, hR.same s4, by omega, shape, fun t qs H5 s5 nt ht hQ hqs => k t qs H5 (Same.trans s34 s5) (s34.free nt) ht hQ ⟨⟨hs, exact_, ?_⟩, fun x b c h1 h2 cl => ?_⟩⟩
      · have ef : flat rs = (List.range n).flatMap (headRow n hs) := by
          have e1 : flat rs = (rs.map (·.2)).flatten := by
            unfold flat
            rw [List.flatMap_def]
          rw [e1, hrs, List.flatMap_def]
        rw [hqs, hrs, ef]
      · by_cases e : b = c
        · exact e
        · exact absurd ⟨x, b, c, h1, h2, e, cl⟩ fair
end
end Wh

namespace Wh
open PySem L2 RZ
section
variable {P : Program} {w : World} {K : PySem.W.Frag} {mg : Str → Option Value} {base : Heap}
/-- parts_ends of a tuple of tuples -/
def spPartsT : Sp := fun vs H Q _ => ∃ (a : Addr) (rs : List (Addr × List Nat)), vs = [.ref a] ∧ H a = some (.tup (refs rs)) ∧ At natsV H rs ∧ rs.length ≤ 10 ∧ (∀ p ∈ rs, p.2.length ≤ 10) ∧
  ∀ H', Same H H' → Q (.bl (rs.all fun p => decide p.2.Nodup)) H'
theorem ok_partsT {f : Addr} {fd : FuncData} (F : Fun K "parts_ends" "parts_ends" sParts f fd) (mall : mg "all" = none) (mlen : mg "len" = none) (mset : mg "set" = none) : FnOk P w K mg base CX0 1 f fd ["rows"] spPartsT := by
  refine F.ok scParts (fun vs H Q E h => ?_) (fun cdv A outer s H vs Q E hr h => ?_)
  · obtain ⟨a, rs, rfl, _⟩ := h
    rfl
  · obtain ⟨a, rs, rfl, ha, hA, few, short, k⟩ := h
    refine ⟨_, (pss_one (ps_ret (pe_callB (cr_all rfl) (by rfl) mall (by decide +kernel) (pa_cons (pe_lc (own := [("row", 1)]) (g := gName 1) (tt := tYes) rfl scParts.nd (pi_tup (pv 0)) (blkOk_by (N := ["rows", "row"]) (own := [("row", 1)]) (sc := defScope sParts) (by decide +kernel)) (fun _ _ _ _ _ => (pg_name (i := 1) scParts.nd rfl (.inl rfl))) (fun _ _ _ _ _ => pts_nil) (fun _ _ _ _ _ => (pe_cmpR op_eq (pe_lenSetT K rfl rfl (by rfl) mlen (by rfl) mset (pv 1)) (pe_callB (call_lenT K rfl) (by rfl) mlen PySem.boot_len (pa_cons (pv 1) pa_nil)) (nomark _)))) pa_nil)))), ?_⟩
    refine ⟨_, rfl, a, rfl, ⟨_, SqT.of ha⟩, fun D nD => ?_⟩
    refine lc_tup (K := K) (a := a) (xs := refs rs) (fun i H' => Same H H' ∧ H' D = some (.lst (((rs.take i).map fun p => decide p.2.Nodup).map V.bl))) ⟨same_upd nD, upd_same⟩ (fun i H' _ ⟨s, _⟩ => SqT.of (s _ _ ha)) ?_ ?_
    · rintro i x H1 hx ⟨s1, hD⟩
      obtain ⟨⟨q, ns⟩, hk, rfl⟩ := refs_get hx
      have hm := List.mem_of_getElem? hk
      have hq : H1 q = some (.tup (natsV ns)) := s1 _ _ (hA _ hm)
      have l10 : ns.length ≤ 10 := short _ hm
      refine ⟨rfl, _, rfl, q, ns.map fun h : Nat => (h : Int), rfl, (by rw [← natsV_ints]; exact SqT.of hq), (by rw [List.length_map]; omega), fun m hm1 hm2 => ?_⟩
      rw [List.length_map] at hm1 hm2
      refine ⟨_, rfl, q, _, rfl, SqT.of hq, rfl, _, hD, ?_, s1.own nD, ?_⟩
      · rw [List.length_map, List.length_map, List.length_take]
        exact small1000 (by omega)
      · have e : decide (V.int (m : Int) = V.int (((natsV ns).length : Nat) : Int)) = decide ns.Nodup := by
          have el : (natsV ns).length = ns.length := by unfold natsV; rw [List.length_map]
          rw [el]
          by_cases c : ns.Nodup
          · rw [decide_eq_true c, hm2.mpr (ints_nd.mpr c)]
            exact decide_eq_true rfl
          · rw [decide_eq_false c]
            exact decide_eq_false fun z => c (ints_nd.mp (hm2.mp (by injection z with z; omega)))
        rw [e, upd_same, List.take_succ, hk, List.map_append, List.map_append]
        rfl
    · rintro H1 ⟨s1, hD⟩
      rw [refs_len, List.take_length] at hD
      refine ⟨D, _, rfl, SqL.of hD, ?_⟩
      have e : (rs.map fun p => decide p.2.Nodup).all id = rs.all fun p => decide p.2.Nodup := by
        rw [List.all_map]
        rfl
      rw [e]
      exact k H1 s1
/-! ### widened -/
def spWiden : Sp := fun vs H Q _ => ∃ (dl t : Addr) (ds : List Addr) (n : Nat) (ts : List Tie) (rs : List (Addr × List Nat)), vs = [.ref dl, .ref t] ∧ Dr H dl ds n ts ∧ WebOk n ts ∧ H t = some (.tup (refs rs)) ∧ At natsV H rs ∧ Tab n (fun p q => cell (rs.map (·.2)) p = cell (rs.map (·.2)) q) (rs.map (·.2)) ∧
  ∀ (t' : Addr) (qs : List (Addr × List Nat)) (H' : Hp), Same H H' → H t' = none → H' t' = some (.tup (refs qs)) → At natsV H' qs → Tab n (Gp n ts (rs.map (·.2))) (qs.map (·.2)) → Q (.ref t') H'
/-! ### bound_table -/
theorem natsV_nb (ns : List Nat) : (natsV ns).all nb = true := by
  unfold natsV
  rw [List.all_map]
  exact List.all_eq_true.mpr fun _ _ => rfl
theorem natsV_inj (a b : List Nat) (h : natsV a = natsV b) : a = b := by
  unfold natsV at h
  exact map_inj (fun x y e => by injection e with e; omega) h
theorem eqT_read {K : PySem.W.Frag} {H : Hp} {t u : Addr} {ps qs : List (Addr × List Nat)} {Q : VK} (ht : H t = some (.tup (refs ps))) (hu : H u = some (.tup (refs qs))) (h1 : At natsV H ps) (h2 : At natsV H qs) (k : Q (.bl (decide (ps.map (·.2) = qs.map (·.2)))) H) : rEqD K (.ref t) (.ref u) H Q := by
  refine ⟨_, _, .tup (SqT.of ht) (rowD_dp K (fun _ _ => natsV_nb _) h1), .tup (SqT.of hu) (rowD_dp K (fun _ _ => natsV_nb _) h2), rowT_shaped (fun _ _ => natsV_nb _), rowT_shaped (fun _ _ => natsV_nb _), ?_⟩
  rw [PyData.eqv, rowsP_eqv natsV_inj (fun _ _ => natsV_nb _) (fun _ _ => natsV_nb _)]
  exact k
def spBound : Sp := fun vs H Q _ => ∃ (dl : Addr) (ds : List Addr) (n : Nat) (ts : List Tie), vs = [.ref dl] ∧ Dr H dl ds n ts ∧ WebOk n ts ∧ TabSp n (Wd n ts) (UnfairR n (Wd n ts)) H Q
end
end Wh

namespace Wh
open PySem L2
abbrev sDBack : Stmt := topS 42
abbrev sTurned : Stmt := topS 43
abbrev sLBack : Stmt := topS 41
theorem scDBack : FnScope ["doors", "back", "house", "mark", "end", "_"] ["doors"] (defScope sDBack) := ⟨rfl, rfl, rfl, by decide +kernel, rfl, by decide +kernel, by decide +kernel⟩
theorem scTurned : FnScope ["table"] ["table"] (defScope sTurned) := ⟨rfl, rfl, rfl, by decide +kernel, rfl, by decide +kernel, by decide +kernel⟩
theorem scLBack : FnScope ["doors", "back"] ["doors"] (defScope sLBack) := ⟨rfl, rfl, rfl, by decide +kernel, rfl, by decide +kernel, by decide +kernel⟩
section
variable {P : Program} {w : World} {K : PySem.W.Frag} {mg : Str → Option Value} {base : Heap}
def spRenumT : Sp := fun vs H Q _ => ∃ (a : Addr) (rs : List (Addr × List Nat)), vs = [.ref a] ∧ H a = some (.lst (refs rs)) ∧ At natsV H rs ∧ rs.length ≤ 10 ∧ (∀ p ∈ rs, p.2.length ≤ 10) ∧
  ∀ (t : Addr) (qs : List (Addr × List Nat)) (H' : Hp), Same H H' → H t = none → H' t = some (.tup (refs qs)) → At natsV H' qs → qs.map (·.2) = (rs.map (·.2)).map (fun row => row.map (firsts (flat rs)).idxOf) → Q (.ref t) H'
set_option maxHeartbeats 2000000 in
theorem ok_renumT {f : Addr} {fd : FuncData} (F : Fun K "renumbered" "renumbered" sRenum f fd) (mtuple : mg "tuple" = none) (mlen : mg "len" = none) : FnOk P w K mg base CX0 1 f fd ["rows"] spRenumT := by
  refine F.ok scRenum (fun vs H Q E h => ?_) (fun cdv A outer s H vs Q E hr h => ?_)
  · obtain ⟨a, rs, rfl, _⟩ := h
    rfl
  · obtain ⟨a, rs, rfl, ha, hA, few, short, k⟩ := h
    refine ⟨_, (C8.pss_cut (ps_set (i := 1) scRenum.nd rfl (.inr rfl) pe_dnewK) (C8.pss_cut (ps_for PassesOwn.never rfl (pi_list (pv 0)) (pg_name (i := 2) scRenum.nd rfl (.inl rfl)) (pss_one (ps_for PassesOwn.never rfl (pi_tup (pv 2)) (pg_name (i := 3) scRenum.nd rfl (.inl rfl)) (pss_one (ps_expr (pe_dsetd (pv 1) (pv 3) (pe_callB call_lenD (by rfl) mlen PySem.boot_len (pa_cons (pv 1) pa_nil)) ⟨rfl, rfl, rfl, rfl⟩)))))) (pss_one (ps_ret (pe_callTy (call_tupOf K rfl) (by rfl) mtuple (by decide +kernel) (pa_cons (pe_lc (own := [("row", 2)]) (g := gName 2) (tt := tYes) rfl scRenum.nd (pi_list (pv 0)) (blkOk_by (N := ["rows", "numbers", "row", "value"]) (own := [("row", 2)]) (sc := defScope sRenum) (by decide +kernel)) (fun _ _ _ _ _ => (pg_name (i := 2) scRenum.nd rfl (.inl rfl))) (fun _ _ _ _ _ => pts_nil) (fun _ _ _ _ _ => (pe_callTy (call_tupOf K rfl) (by rfl) mtuple (by decide +kernel) (pa_cons (pe_lc (own := [("value", 3)]) (g := gName 3) (tt := tYes) rfl scRenum.nd (pi_tupK K rfl (pv 2)) (blkOk_by (N := ["rows", "numbers", "row", "value"]) (own := [("value", 3)]) (by show blkC _ (L2.relS _ (defScope sRenum)) _ _ = true; decide +kernel)) (fun _ _ _ _ _ => (pg_name (i := 3) scRenum.nd rfl (.inl rfl))) (fun _ _ _ _ _ => pts_nil) (fun _ _ _ _ _ => (pe_dget (hu_of hr) (pv 1) (pv 3) (fun _ _ => rfl)))) pa_nil)))) pa_nil)))))), ?_⟩
    refine ⟨fun σ H' => Same H H' ∧ ∃ d : Addr, H d = none ∧ H' d = some (.dK []) ∧ σ = [some (.ref a), some (.ref d), none, none], fun d nd => ⟨same_upd nd, d, nd, upd_same, rfl⟩, ?_⟩
    rintro σ H1 ⟨s1, d, nd, hd, rfl⟩
    have flen : ∀ i, (flat (rs.take i)).length ≤ i * 10 := fun i => by
      induction i with
      | zero => simp [flat]
      | succ i ih =>
        rw [List.take_succ]
        cases e : rs[i]? with
        | none =>
          simp only [Option.toList_none, List.append_nil]
          omega
        | some p =>
          have := short p (List.mem_of_getElem? e)
          simp only [Option.toList_some]
          unfold flat at ih ⊢
          rw [List.flatMap_append, List.length_append, List.flatMap_singleton]
          omega
    refine ⟨fun σ H' => Same H H' ∧ H' d = some (.dK (numK (firsts (flat rs)))) ∧ ∃ v2 v3 : Option V, σ = [some (.ref a), some (.ref d), v2, v3], ?_, ?_⟩
    · refine ⟨_, rfl, a, rfl, ⟨_, SqL.of (s1 _ _ ha)⟩, for_list (K := K) (a := a) (xs := refs rs) (fun i σ H' => Same H H' ∧ H' d = some (.dK (numK (firsts (flat (rs.take i))))) ∧ ∃ v2 v3 : Option V, σ = [some (.ref a), some (.ref d), v2, v3]) ⟨s1, hd, none, none, rfl⟩ (fun i σ H' _ ⟨s, _⟩ => SqL.of (s _ _ ha)) ?_ ?_⟩
      · rintro i x σ H2 hx ⟨s2, hd2, v2, v3, rfl⟩
        obtain ⟨⟨q, ns⟩, hk, rfl⟩ := refs_get hx
        have hm := List.mem_of_getElem? hk
        have hqH : H q = some (.tup (natsV ns)) := hA _ hm
        have l10 : ns.length ≤ 10 := short _ hm
        have hi : i < 10 := by
          have := (List.getElem?_eq_some_iff.mp hk).1
          omega
        have tk : flat (rs.take (i + 1)) = flat (rs.take i) ++ ns := by
          unfold flat
          rw [List.take_succ, hk, List.flatMap_append]
          simp
        have fl := flen i
        refine ⟨_, rfl, q, rfl, ⟨_, SqT.of (s2 _ _ hqH)⟩, for_tup (K := K) (a := q) (xs := natsV ns) (fun j σ H' => Same H H' ∧ H' d = some (.dK (numK (firsts (flat (rs.take i) ++ ns.take j)))) ∧ ∃ v3 : Option V, σ = [some (.ref a), some (.ref d), some (.ref q), v3]) ⟨s2, (by rw [List.take_zero, List.append_nil]; exact hd2), v3, rfl⟩ (fun i σ H' _ ⟨s, _⟩ => SqT.of (s _ _ hqH)) ?_ ?_⟩
        · rintro j x σ H3 hx ⟨s3, hd3, v3, rfl⟩
          unfold natsV at hx
          rw [List.getElem?_map] at hx
          obtain ⟨n, hn, rfl⟩ := Option.map_eq_some_iff.mp hx
          have hj := (List.getElem?_eq_some_iff.mp hn).1
          have tj : ns.take (j + 1) = ns.take j ++ [n] := by rw [List.take_succ, hn]; rfl
          have small := (firsts_mem (flat (rs.take i) ++ ns.take j)).2
          rw [List.length_append, List.length_take] at small
          refine ⟨_, rfl, d, rfl, .inl ⟨_, .inl hd3⟩, _, rfl, _, rfl, d, _, rfl, hd3, _, Sum.inl (n : Int), hd3, rfl, ?_, fun v hv => ?_, fun hv => ?_⟩
          · rw [numK_len]
            exact small1000 (by omega)
          · refine ⟨s3, ?_, _, rfl⟩
            rw [tj, ← List.append_assoc, firsts_snoc]
            by_cases c : n ∈ firsts (flat (rs.take i) ++ ns.take j)
            · rw [if_pos c]
              exact hd3
            · rw [numK_none c] at hv
              cases hv
          · refine ⟨s3.own nd, ?_, _, rfl⟩
            rw [tj, ← List.append_assoc, firsts_snoc]
            by_cases c : n ∈ firsts (flat (rs.take i) ++ ns.take j)
            · rw [numK_some c] at hv
              cases hv
            · rw [if_neg c, upd_same, putK_new _ hv, numK_snoc, numK_len]
        · rintro σ H3 ⟨s3, hd3, v3, rfl⟩
          have el : (natsV ns).length = ns.length := by unfold natsV; rw [List.length_map]
          rw [el, List.take_length, ← tk] at hd3
          exact ⟨s3, hd3, _, _, rfl⟩
      · rintro σ H2 ⟨s2, hd2, v2, v3, rfl⟩
        rw [refs_len, List.take_length] at hd2
        exact ⟨s2, hd2, v2, v3, rfl⟩
    rintro σ H2 ⟨s2, hd2, v2, v3, rfl⟩
    refine ⟨_, rfl, a, rfl, ⟨_, SqL.of (s2 _ _ ha)⟩, fun D nD => ?_⟩
    refine lc_list (K := K) (a := a) (xs := refs rs) (fun i H' => Same H2 H' ∧ ∃ qs : List (Addr × List Nat), H' D = some (.lst (refs qs)) ∧ At natsV H' qs ∧ qs.map (·.2) = ((rs.take i).map (·.2)).map (fun row => row.map (firsts (flat rs)).idxOf)) ⟨same_upd nD, [], upd_same, (fun p hp => by cases hp), rfl⟩ (fun i H' _ ⟨s, _⟩ => SqL.of (s _ _ (s2 _ _ ha))) ?_ ?_
    · rintro i x H3 hx ⟨s3, qs, hD, hQ, hq⟩
      obtain ⟨⟨q, ns⟩, hk, rfl⟩ := refs_get hx
      have hm := List.mem_of_getElem? hk
      have hqH := s2 _ _ (hA _ hm)
      have l10 : ns.length ≤ 10 := short _ hm
      have hq3 : H3 q = some (.tup (natsV ns)) := s3 _ _ hqH
      refine ⟨rfl, _, rfl, q, rfl, ⟨_, SqT.of hq3⟩, fun B nB => ?_⟩
      refine lc_tup (K := K) (a := q) (xs := natsV ns) (fun j H' => Same H3 H' ∧ H' B = some (.lst (natsV ((ns.take j).map (firsts (flat rs)).idxOf)))) ⟨same_upd nB, upd_same⟩ (fun i H' _ ⟨s, _⟩ => SqT.of (s _ _ hq3)) ?_ ?_
      · rintro j y H4 hy ⟨s4, hB⟩
        unfold natsV at hy
        rw [List.getElem?_map] at hy
        obtain ⟨n, hn, rfl⟩ := Option.map_eq_some_iff.mp hy
        have hin : n ∈ firsts (flat rs) := ((firsts_mem (flat rs)).1 n).mpr (List.mem_flatMap.mpr ⟨_, hm, List.mem_of_getElem? hn⟩)
        refine ⟨rfl, _, rfl, _, rfl, d, _, rfl, .inl ⟨_, Sum.inl (n : Int), .inl (s4 _ _ (s3 _ _ hd2)), rfl, (numK_some hin).symm⟩, _, hB, ?_, s4.own nB, ?_⟩
        · unfold natsV
          rw [List.length_map, List.length_map, List.length_take]
          exact small1000 (by omega)
        · rw [upd_same, List.take_succ, hn, List.map_append]
          unfold natsV
          rw [List.map_append]
          rfl
      · rintro H4 ⟨s4, hB⟩
        have el : (natsV ns).length = ns.length := by unfold natsV; rw [List.length_map]
        rw [el, List.take_length] at hB
        refine ⟨B, _, rfl, SqL.of hB, fun t nt => ?_⟩
        have hD4 := put_old (u := HO.tup (natsV (ns.map (firsts (flat rs)).idxOf))) (s4 _ _ hD) nt
        have qlen : qs.length ≤ 10 := by
          have e := congrArg List.length hq
          rw [List.length_map, List.length_map, List.length_map, List.length_take] at e
          omega
        refine ⟨_, hD4, ?_, ((Same.trans s3 s4).put nt).own nD, qs ++ [(t, ns.map (firsts (flat rs)).idxOf)], ?_, ?_, ?_⟩
        · rw [refs_len]
          exact small1000 (by omega)
        · rw [upd_same, refs_app]
          rfl
        · exact At.snoc (((hQ.same s4).same (same_upd nt)).mono (upd_tup hD4)) (put_ne upd_same (ne_of_none (s4 _ _ hD) nt).symm)
        · rw [List.map_append, hq, List.take_succ, hk, List.map_append, List.map_append]
          rfl
    · rintro H3 ⟨s3, qs, hD, hQ, hq⟩
      rw [refs_len, List.take_length] at hq
      have s23 := Same.trans s2 s3
      exact ⟨D, _, rfl, SqL.of hD, fun t nt => k t qs _ (s23.put nt) (s23.free nt) upd_same (hQ.same (same_upd nt)) hq⟩
/-! ### doors_back -/
structure Bk (H : Hp) (bl : Addr) (bs : List Addr) (n : Nat) (F : Nat → List (Nat × Nat)) : Prop where
  hl : H bl = some (.lst (bs.map V.ref))
  len : bs.length = n
  nd : (bl :: bs).Nodup
  hd : ∀ (e : Nat) (a : Addr), bs[e]? = some a → H a = some (.dK ((F e).map kD))
theorem Bk.keep {H H' : Hp} {bl : Addr} {bs : List Addr} {n : Nat} {F : Nat → List (Nat × Nat)} (b : Bk H bl bs n F) (k : ∀ a o, H a = some o → (a = bl ∨ a ∈ bs) → H' a = some o) : Bk H' bl bs n F :=
  ⟨k _ _ b.hl (.inl rfl), b.len, b.nd, fun e a h => k _ _ (b.hd e a h) (.inr (List.mem_of_getElem? h))⟩
theorem Bk.put {H : Hp} {bl : Addr} {bs : List Addr} {n e : Nat} {a : Addr} {F F' : Nat → List (Nat × Nat)} {d : Nat × Nat} (b : Bk H bl bs n F) (ha : bs[e]? = some a) (h1 : F' e = F e ++ [d]) (h2 : ∀ e', e' ≠ e → F' e' = F e') : Bk (upd H a (.dK ((F e).map kD ++ [kD d]))) bl bs n F' := by
  have nd := List.nodup_cons.mp b.nd
  refine ⟨put_ne b.hl fun z => nd.1 (z ▸ List.mem_of_getElem? ha), b.len, b.nd, fun e' a' h => ?_⟩
  by_cases c : e' = e
  · subst c
    obtain rfl := Option.some.inj (ha.symm.trans h)
    rw [upd_same, h1, List.map_append]
    rfl
  · rw [h2 e' c]
    refine put_ne (b.hd e' a' h) fun z => c ?_
    subst z
    exact nd_ix nd.2 h ha
def spDBack : Sp := fun vs H Q _ => ∃ (dl : Addr) (ds : List Addr) (n : Nat) (ts : List Tie), vs = [.ref dl] ∧ Dr H dl ds n ts ∧ WebOk n ts ∧ (∀ H', Same H H' → Meet n ts → Q .non H') ∧
  ∀ (bl : Addr) (bs : List Addr) (H' : Hp), Same H H' → Dr H' bl bs n (bkT ts) → WebOk n (bkT ts) → Q (.ref bl) H'
set_option maxHeartbeats 2000000 in
theorem ok_dback {f : Addr} {fd : FuncData} (F : Fun K "doors_back" "doors_back" sDBack f fd) (mlen : mg "len" = none) (mrange : mg "range" = none) : FnOk P w K mg base CX0 1 f fd ["doors"] spDBack := by
  refine F.ok scDBack (fun vs H Q E h => ?_) (fun cdv A outer s H vs Q E hr h => ?_)
  · obtain ⟨dl, ds, n, ts, rfl, _⟩ := h
    rfl
  · obtain ⟨dl, ds, n, ts, rfl, dr, wk, kN, k⟩ := h
    have n10 := wk.n10
    refine ⟨_, (C8.pss_cut (ps_setLc (i := 1) (own := [("_", 5)]) (g := gName 5) (tt := tYes) rfl scDBack.nd rfl rfl (sw_true rfl rfl rfl (by decide +kernel)) (pi_list (pv 0)) (blkOk_by (N := ["doors", "back", "house", "mark", "end", "_"]) (own := [("_", 5)]) (sc := defScope sDBack) (by decide +kernel)) (fun _ _ _ _ _ => (pg_name (i := 5) scDBack.nd rfl (.inl rfl))) (fun _ _ _ _ _ => pts_nil) (fun _ _ _ _ _ => pe_dnewK)) (C8.pss_cut (ps_for PassesOwn.never rfl (pi_range1 (by rfl) mrange (pa_cons (pe_callB call_len_seq (by rfl) mlen PySem.boot_len (pa_cons (pv 0) pa_nil)) pa_nil)) (pg_name (i := 2) scDBack.nd rfl (.inl rfl)) (pss_one (ps_lock (ps_for PassesOwn.never rfl (pi_keys (pe_ix ix_list (pv 0) (pv 2) (fun _ _ => rfl))) (pg_name (i := 3) scDBack.nd rfl (.inl rfl)) (C8.pss_cut (ps_set (i := 4) scDBack.nd rfl (.inl rfl) (pe_dget (hu_of hr) (pe_ix ix_list (pv 0) (pv 2) (fun _ _ => rfl)) (pv 3) (fun _ _ => rfl))) (pss_cons (ps_if (pt_cmp (pc_din (hu_of hr) (pv 3) (pe_ix ix_list (pv 1) (pv 4) (fun _ _ => rfl)))) (pss_one (ps_ret pe_non)) pss_nil) (pss_one (ps_dput (hu_of hr) (pe_ix ix_list (pv 1) (pv 4) (fun _ _ => rfl)) (pv 3) (pv 2) rfl)))))))) (pss_one (ps_ret (pv 1))))), ?_⟩
    refine ⟨fun σ H' => Same H H' ∧ ∃ (bl : Addr) (bs : List Addr), H bl = none ∧ (∀ a ∈ bs, H a = none) ∧ Bk H' bl bs n (fB ts 0 0) ∧ σ = [some (.ref dl), some (.ref bl), none, none, none, none], ?_, ?_⟩
    · refine ⟨_, rfl, dl, rfl, ⟨_, SqL.of dr.hl⟩, fun D nD => ?_⟩
      refine lc_list (K := K) (a := dl) (xs := ds.map V.ref) (fun i H' => Same H H' ∧ ∃ us : List Addr, H' D = some (.lst (us.map V.ref)) ∧ us.length = i ∧ us.Nodup ∧ D ∉ us ∧ ∀ a ∈ us, H a = none ∧ H' a = some (.dK []))
        ⟨same_upd nD, [], upd_same, rfl, List.nodup_nil, (fun z => by cases z), (fun a z => by cases z)⟩ (fun i H' _ ⟨s, _⟩ => SqL.of (s _ _ dr.hl)) ?_ ?_
      · rintro i x H4 hx ⟨s4, us, hu4, ul, und, nuu, hus⟩
        have hi : i < n := by
          have := (List.getElem?_eq_some_iff.mp hx).1
          rw [List.length_map, dr.len] at this
          exact this
        refine ⟨rfl, fun q nq => ?_⟩
        have nuq : D ≠ q := ne_of_none hu4 nq
        refine ⟨us.map V.ref, put_ne hu4 nuq, (by rw [List.length_map, ul]; exact small1000 (by omega)), ((s4.put nq).own nD), us ++ [q], ?_, ?_, ?_, ?_, ?_⟩
        · rw [upd_same, List.map_append]
          rfl
        · rw [List.length_append, ul]
          rfl
        · exact nd_snoc und fun z => by
            rw [(hus q z).2] at nq
            cases nq
        · intro z
          rcases List.mem_append.mp z with z | z
          · exact nuu z
          · exact nuq (List.mem_singleton.mp z)
        · intro a z
          rcases List.mem_append.mp z with z | z
          · have nau : a ≠ D := fun e => nuu (e ▸ z)
            exact ⟨(hus a z).1, by rw [upd_ne nau]; exact put_old (hus a z).2 nq⟩
          · rw [List.mem_singleton.mp z]
            exact ⟨s4.free nq, put_ne upd_same nuq.symm⟩
      · rintro H4 ⟨s4, us, hu4, ul, und, nuu, hus⟩
        rw [List.length_map, dr.len] at ul
        refine ⟨s4, D, us, nD, fun a ha => (hus a ha).1, ⟨hu4, ul, List.nodup_cons.mpr ⟨nuu, und⟩, fun e a h => ?_⟩, rfl⟩
        rw [fB_zero]
        exact (hus a (List.mem_of_getElem? h)).2
    rintro σ H1 ⟨s1, bl, bs, nbl, nbs, B1, rfl⟩
    refine ⟨fun σ H' => Same H H' ∧ Bk H' bl bs n (fB ts n 0) ∧ (∀ e, ((fB ts n 0 e).map (·.1)).Nodup) ∧ ∃ v2 v3 v4 : Option V, σ = [some (.ref dl), some (.ref bl), v2, v3, v4, none], ?_, ?_⟩
    · refine ⟨_, rfl, dl, _, rfl, .inl (SqL.of (s1 _ _ dr.hl)), ?_⟩
      rw [List.length_map, dr.len]
      refine ⟨(n : Int), rfl, by omega, by omega, ?_⟩
      rw [show ((n : Int)).toNat = n from Int.toNat_natCast n]
      refine for_range (lo := 0) (n := n) (fun i σ H' => Same H H' ∧ Bk H' bl bs n (fB ts i 0) ∧ (∀ e, ((fB ts i 0 e).map (·.1)).Nodup) ∧ ∃ v2 v3 v4 : Option V, σ = [some (.ref dl), some (.ref bl), v2, v3, v4, none])
        ⟨s1, B1, (fun e => by rw [fB_zero]; exact List.nodup_nil), none, none, none, rfl⟩ ?_ (fun σ H' q => q)
      rintro i σ H2 hi ⟨s2, B2, nd2, v2, v3, v4, rfl⟩
      rw [show (0 : Int) + (i : Int) = (i : Int) from Int.zero_add _]
      obtain ⟨a0, ga0, hd0⟩ := dr_door dr hi
      have na0 : a0 ≠ bl ∧ a0 ∉ bs := ⟨ne_of_none hd0 nbl, fun z => by rw [nbs a0 z] at hd0; cases hd0⟩
      refine ⟨a0, _, s2 _ _ hd0, trivial, fun od => ⟨_, rfl, _, rfl, dl, _, _, _, rfl, rfl, SqL.of (put_ne (s2 _ _ dr.hl) (ne_of dr.hl hd0 (by intro z; cases z))), ga0, a0, od, rfl, .inl ⟨_, upd_same, ?_⟩⟩⟩
      have dk : (doorsK i ts).length = (marksAt i ts).length := by
        have := congrArg List.length (doorsK_keys i ts)
        rwa [List.length_map, List.length_map] at this
      refine for_it (walk_keys (d := a0) (o := od) (kvs := doorsK i ts)) (fun j σ H' => (∀ c o, H c = some o → c ≠ a0 → H' c = some o) ∧ H' a0 = some (.frz od (.dK (doorsK i ts))) ∧ Bk H' bl bs n (fB ts i j) ∧ (∀ e, ((fB ts i j e).map (·.1)).Nodup) ∧ ∃ v3 v4 : Option V, σ = [some (.ref dl), some (.ref bl), some (.int (i : Int)), v3, v4, none])
        ⟨fun c o e1 e2 => put_ne (s2 c o e1) e2, upd_same, B2.keep fun a o e1 e2 => put_ne e1 (fun z => by rcases e2 with e2 | e2; exact na0.1 (z ▸ e2); exact na0.2 (z ▸ e2)), nd2, v3, v4, rfl⟩ (fun j σ H' _ ⟨_, e, _⟩ => e) ?_ ?_
      · rintro j x σ H5 H6 hj ⟨keep, fz, B, nd, v3, v4, rfl⟩ ⟨rfl, key, val, hkv, rfl⟩
        unfold doorsK at hkv
        rw [List.getElem?_map] at hkv
        obtain ⟨⟨m, e⟩, hme, ekv⟩ := Option.map_eq_some_iff.mp hkv
        obtain ⟨rfl, rfl⟩ := Prod.mk.inj ekv
        have hmem : (m, e) ∈ doorsAt i ts := List.mem_of_getElem? hme
        have hdoor : door i m ts = some e := door_of (wk.uniq i) hmem
        have he : e < n := door_lt wk hdoor
        have hm1 : (marksAt i ts)[j]? = some m := by rw [← doorsAt_fst, List.getElem?_map, hme]; rfl
        have val : valV (doorsK i ts) (Sum.inr (sgn m) : Key) = some (.int (e : Int)) := by rw [valV_door, hdoor]; rfl
        have upl : H6 dl = some (.lst (ds.map V.ref)) := keep _ _ dr.hl (ne_of dr.hl hd0 (by intro z; cases z))
        obtain ⟨be, gbe⟩ : ∃ be, bs[e]? = some be := ⟨_, List.getElem?_eq_getElem (by rw [B.len]; exact he)⟩
        have atb : atI (bs.map V.ref) (e : Int) = some (.ref be) := atI_nat (by rw [List.getElem?_map, gbe]; rfl)
        have hbe := B.hd e be gbe
        refine ⟨fun σ' H' => H' = H6 ∧ σ' = [some (.ref dl), some (.ref bl), some (.int (i : Int)), some (.str (sgn m)), some (.int (e : Int)), none], ?_, ?_⟩
        · exact ⟨_, rfl, _, rfl, dl, _, _, _, rfl, rfl, SqL.of upl, ga0, _, rfl, a0, _, rfl, .inl ⟨_, Sum.inr (sgn m), .inr ⟨od, fz⟩, rfl, val.symm⟩, rfl, rfl⟩
        rintro σ' H7 ⟨rfl, rfl⟩
        refine ⟨_, rfl, _, rfl, _, rfl, bl, _, _, _, rfl, rfl, SqL.of B.hl, atb, be, _, rfl, DGet.k (k := Sum.inr (sgn m)) hbe, _, rfl, ?_⟩
        have back : Same H (upd H7 a0 (.dK (doorsK i ts))) := fun b o e1 => by
          by_cases z : b = a0
          · rw [z, upd_same]
            rw [z] at e1
            exact hd0.symm.trans e1
          · exact put_ne (keep b o e1 z) z
        by_cases c : m ∈ (fB ts i j e).map (·.1)
        · obtain ⟨v, hv⟩ := valV_kD_some c
          rw [hv]
          exact iteT ⟨fz, kN _ back (fB_meet wk hm1 hdoor c)⟩
        · rw [valV_kD_none c]
          refine iteF ⟨_, rfl, _, rfl, _, rfl, bl, _, _, _, rfl, rfl, SqL.of B.hl, atb, _, rfl, be, _, rfl, DPut.k (k := Sum.inr (sgn m)) hbe ?_, ?_⟩
          · rw [List.length_map]
            have : (fB ts i j e).length ≤ (doorsAt e (bkT ts)).length := List.length_filter_le ..
            have l2 : (doorsAt e (bkT ts)).length = (marksAt e (bkT ts)).length := by rw [← doorsAt_fst, List.length_map]
            have l3 := marksAt_len e (ts := bkT ts) (fun t ht => (bkT_lt wk t ht).1)
            have l4 : (bkT ts).length = ts.length := by unfold bkT; rw [List.length_map, (srtP_perm ts).length_eq]
            have := wk.len
            exact small1000 (by omega)
          · rw [putK_new _ (valV_kD_none c)]
            have put := fB_put wk hm1 hmem
            have oth : ∀ e', e' ≠ e → fB ts i (j + 1) e' = fB ts i j e' := fun e' ne => fB_other hm1 fun z => ne (by
              have := door_of (wk.uniq i) z
              exact Option.some.inj (this.symm.trans hdoor))
            have nbe : H be = none := nbs be (List.mem_of_getElem? gbe)
            refine ⟨fun c o e1 e2 => put_ne (keep c o e1 e2) (ne_of_none e1 nbe), put_ne fz (fun z => na0.2 (z ▸ List.mem_of_getElem? gbe)), B.put (d := (m, i)) gbe put oth, fun e' => ?_, _, _, rfl⟩
            by_cases z : e' = e
            · subst z
              rw [put, List.map_append]
              exact nd_snoc (nd e') c
            · rw [oth e' z]
              exact nd e'
      · rintro σ H5 ⟨keep, fz, B, nd, v3, v4, rfl⟩
        rw [dk] at B nd
        have e : fB ts i (marksAt i ts).length = fB ts (i + 1) 0 := funext fun e => fB_next
        rw [e] at B
        refine ⟨fz, fun b o e1 => ?_, B.keep fun a o e1 e2 => put_ne e1 (fun z => by rcases e2 with e2 | e2; exact na0.1 (z ▸ e2); exact na0.2 (z ▸ e2)), fun e' => by rw [← fB_next]; exact nd e', _, _, _, rfl⟩
        by_cases z : b = a0
        · rw [z, upd_same]
          rw [z] at e1
          exact hd0.symm.trans e1
        · exact put_ne (keep b o e1 z) z
    rintro σ H2 ⟨s2, B, nd, v2, v3, v4, rfl⟩
    have e : fB ts n 0 = fun e => doorsAt e (bkT ts) := funext fun e => fB_all wk e
    rw [e] at B nd
    exact ⟨_, rfl, k bl bs H2 s2 ⟨B.hl, B.len, B.nd, B.hd⟩ (bkT_ok wk fun e _ => nd e)⟩
/-! ### turned -/
def spTurned : Sp := fun vs H Q _ => (vs = [.non] ∧ Q .non H) ∨ ∃ (t : Addr) (rs : List (Addr × List Nat)) (n : Nat), vs = [.ref t] ∧ H t = some (.tup (refs rs)) ∧ At natsV H rs ∧ rs.length = n ∧ (∀ p ∈ rs, p.2.length = n) ∧ 2 ≤ n ∧ n ≤ 10 ∧
  ∀ (t' : Addr) (qs : List (Addr × List Nat)) (H' : Hp), Same H H' → H t' = none → H' t' = some (.tup (refs qs)) → At natsV H' qs → qs.map (·.2) = renum (tcol (rs.map (·.2)) n) → Q (.ref t') H'
theorem ok_turned {f fR : Addr} {fd fdR : FuncData} (F : Fun K "turned" "turned" sTurned f fd) (mlist : mg "list" = none) (mzip : mg "zip" = none)
    (GR : FnOk P w K mg base CX0 1 fR fdR ["rows"] spRenumT) (FR : Fun K "renumbered" "renumbered" sRenum fR fdR) (bR : Binds K fdR ["rows"] []) (mR : mg "renumbered" = some (.ref fR)) :
    FnOk P w K mg base CX0 2 f fd ["table"] spTurned := by
  refine F.ok scTurned (fun vs H Q E h => ?_) (fun cdv A outer s H vs Q E hr h => ?_)
  · rcases h with ⟨rfl, _⟩ | ⟨t, rs, n, rfl, _⟩
    · rfl
    · rfl
  · have hr1 : Room 1 _ := hr
    refine ⟨_, (pss_cons (ps_if (pt_cmpR op_isN (pv 0) pe_non (nomark _)) (pss_one (ps_ret pe_non)) pss_nil) (pss_one (ps_ret (pe_call GR hr1 (by rfl) mR FR.kp bR .nil pass0 (pa_cons (pe_lzs K rfl (by rfl) (by rfl) mlist (by rfl) mzip (pv 0)) pa_nil))))), ?_⟩
    rcases h with ⟨rfl, k⟩ | ⟨t, rs, n, rfl, ht, hA, len, row, n2, n10, k⟩
    · exact ⟨_, rfl, rfl, _, rfl, iteT k⟩
    refine ⟨_, rfl, rfl, _, rfl, iteF ?_⟩
    let rs2 : List (Addr × List V) := rs.map fun p => (p.1, natsV p.2)
    have er : refs rs2 = refs rs := by
      unfold refs
      simp [rs2]
    refine ⟨_, rfl, t, rs2, n, rfl, by rw [er]; exact SqT.of ht, fun p hp => ?_, by simp [rs2]; omega, by simp [rs2]; omega, by omega, by omega, fun D qs H2 s2 nD hD hQ hq => ?_⟩
    · obtain ⟨q, hq, rfl⟩ := List.mem_map.mp hp
      refine ⟨hA q hq, ?_⟩
      show (natsV q.2).length = n
      unfold natsV
      rw [List.length_map, row q hq]
    have cols : qs.map (·.2) = (tcol (rs.map (·.2)) n).map natsV := by
      rw [hq]
      unfold tcol
      rw [List.map_map]
      refine List.map_congr_left fun k hk => ?_
      have hk := List.mem_range.mp hk
      show colX rs2 k = natsV ((rs.map (·.2)).map fun r => (r[k]?).getD 0)
      unfold colX natsV
      simp only [rs2, List.map_map]
      refine List.map_congr_left fun p hp => ?_
      have := row p hp
      show ((natsV p.2)[k]?).getD .non = V.int (((p.2[k]?).getD 0 : Nat) : Int)
      unfold natsV
      rw [List.getElem?_map, List.getElem?_eq_getElem (by omega)]
      rfl
    obtain ⟨us, u1, u2, u3⟩ := at_nats cols hQ
    have ul : us.length = n := by
      have := congrArg List.length u3
      rw [List.length_map] at this
      rw [this]
      unfold tcol
      rw [List.length_map, List.length_range]
    have urow : ∀ p ∈ us, p.2.length = n := fun p hp => by
      have : p.2 ∈ tcol (rs.map (·.2)) n := u3 ▸ List.mem_map_of_mem (f := (·.2)) hp
      obtain ⟨k, _, e⟩ := List.mem_map.mp this
      rw [← e, List.length_map, List.length_map, len]
    refine ⟨D, us, rfl, by rw [u1]; exact hD, u2, by omega, fun p hp => by have := urow p hp; omega, fun t' ps H3 s3 nt ht' hP hp => ?_⟩
    refine k t' ps H3 (Same.trans s2 s3) (s2.free nt) ht' hP ?_
    rw [hp, ← u3]
    unfold renum flat
    rw [List.flatMap_def]
/-! ### linked_back, bound_behind -/
def spLBack : Sp := fun vs H Q _ => ∃ (dl : Addr) (ds : List Addr) (n : Nat) (ts : List Tie), vs = [.ref dl] ∧ Dr H dl ds n ts ∧ WebOk n ts ∧ TabSp n (Cl n ts) (UnfairE n (Cl n ts)) H Q
def spBBeh : Sp := fun vs H Q _ => ∃ (dl : Addr) (ds : List Addr) (n : Nat) (ts : List Tie), vs = [.ref dl] ∧ Dr H dl ds n ts ∧ WebOk n ts ∧ TabSp n (Bh n ts) (UnfairE n (Bh n ts)) H Q
theorem ok_lback {f fD fL fT : Addr} {fd fdD fdL fdT : FuncData} (F : Fun K "linked_back" "linked_back" sLBack f fd)
    (GD : FnOk P w K mg base CX0 1 fD fdD ["doors"] spDBack) (FD : Fun K "doors_back" "doors_back" sDBack fD fdD) (bD : Binds K fdD ["doors"] []) (mD : mg "doors_back" = some (.ref fD))
    (GL : FnOk P w K mg base CX0 3 fL fdL ["doors"] spLinked) (FL : Fun K "linked_table" "linked_table" sLinked fL fdL) (bL : Binds K fdL ["doors"] []) (mL : mg "linked_table" = some (.ref fL))
    (GT : FnOk P w K mg base CX0 2 fT fdT ["table"] spTurned) (FT : Fun K "turned" "turned" sTurned fT fdT) (bT : Binds K fdT ["table"] []) (mT : mg "turned" = some (.ref fT)) :
    FnOk P w K mg base CX0 4 f fd ["doors"] spLBack := by
  refine F.ok scLBack (fun vs H Q E h => ?_) (fun cdv A outer s H vs Q E hr h => ?_)
  · obtain ⟨dl, ds, n, ts, rfl, _⟩ := h
    rfl
  · obtain ⟨dl, ds, n, ts, rfl, dr, wk, kN, k⟩ := h
    have hr1 : Room 1 _ := hr.mono (by decide)
    have hr2 : Room 2 _ := hr.mono (by decide)
    have hr3 : Room 3 _ := hr
    have n2 := wk.n2
    have n10 := wk.n10
    refine ⟨_, (C8.pss_cut (ps_set (i := 1) scLBack.nd rfl (.inl rfl) (pe_call GD hr1 (by rfl) mD FD.kp bD .nil pass0 (pa_cons (pv 0) pa_nil))) (pss_one (ps_ret (pe_ifExp (pt_cmpR op_isN (pv 1) pe_non (nomark _)) pe_non (pe_call GT hr2 (by rfl) mT FT.kp bT .nil pass0 (pa_cons (pe_call GL hr3 (by rfl) mL FL.kp bL .nil pass0 (pa_cons (pv 1) pa_nil)) pa_nil)))))), ?_⟩
    refine ⟨fun σ H' => Same H H' ∧ ((Meet n ts ∧ σ = [some (.ref dl), some .non]) ∨ ∃ (bl : Addr) (bs : List Addr), Dr H' bl bs n (bkT ts) ∧ WebOk n (bkT ts) ∧ σ = [some (.ref dl), some (.ref bl)]), ?_, ?_⟩
    · exact ⟨_, rfl, dl, ds, n, ts, rfl, dr, wk, fun H' s' m => ⟨s', .inl ⟨m, rfl⟩⟩, fun bl bs H' s' d' w' => ⟨s', .inr ⟨bl, bs, d', w', rfl⟩⟩⟩
    rintro σ H1 ⟨s1, (⟨m, rfl⟩ | ⟨bl, bs, d', w', rfl⟩)⟩
    · exact ⟨_, rfl, rfl, _, rfl, iteT (kN _ s1 (m.unfair wk))⟩
    refine ⟨_, rfl, rfl, _, rfl, iteF ⟨_, rfl, bl, bs, n, bkT ts, rfl, d', w', fun H2 s2 u => .inl ⟨rfl, kN _ (Same.trans s1 s2) ((unfairE_sw fun p q => cl_back wk w').mp u)⟩, fun t qs H2 s2 nt ht hQ ok => .inr ⟨t, qs, n, rfl, ht, hQ, ?_, ?_, n2, n10, fun t' ps H3 s3 nt' ht' hP hp => ?_⟩⟩⟩
    · have := ok.tab.len
      rwa [List.length_map] at this
    · exact fun p hp => ok.tab.row _ (List.mem_map_of_mem (f := (·.2)) hp)
    have s13 := Same.trans s1 (Same.trans s2 s3)
    have tt : Tab n (Cl n ts) (ps.map (·.2)) := by
      rw [hp]
      exact ok.tab.turn fun p q => cl_back wk w'
    refine k t' ps H3 s13 (s1.free (s2.free nt')) ht' hP tt fun u => ?_
    obtain ⟨a, b, c, h1, h2, ne, r⟩ := (unfairE_sw (R' := Cl n (bkT ts)) fun p q => cl_back wk w').mpr u
    exact ne (ok.fair a b c h1 h2 r)
end
end Wh

namespace Wh
open PySem L2
abbrev sDrawn : Stmt := topS 51
theorem scDrawn : FnScope ["cup", "most", "many", "last", "pairs", "more", "pair", "used", "told", "first", "marks", "one", "two", "house", "mark"] ["cup", "most"] (defScope sDrawn) := ⟨rfl, rfl, rfl, by decide +kernel, rfl, by decide +kernel, by decide +kernel⟩
structure TDrawn (mg : Str → Option Value) : Prop extends TSip mg where
  range : mg "range" = none
  sorted : mg "sorted" = none
section
variable {P : Program} {w : World} {K : PySem.W.Frag} {mg : Str → Option Value} {base : Heap}
def spDrawn (K : PySem.W.Frag) : Sp := fun vs H Q _ => ∃ (c : Addr) (most : Nat), vs = [.ref c, .int (most : Int)] ∧ Cup H c ∧ 2 ≤ most ∧ most ≤ 8 ∧
  ∀ (tl : Addr) (ts : List (Addr × Tie)) (n : Nat) (H' : Hp), But c H H' → Cup H' c → H tl = none → H' tl = some (.lst (refs ts)) → At tieV H' ts → Told n (ts.map (·.2)) → n ≤ most → Q (.ref tl) H'
theorem ok_drawn {f fS fP : Addr} {fd fdS fdP : FuncData} (F : Fun K "_law_drawn" "_law_drawn" sDrawn f fd) (T : TDrawn mg) (FS : Fun K "_law_sip" "_law_sip" sSip fS fdS) (bS : Binds K fdS ["cup", "top"] []) (mS : mg "_law_sip" = some (.ref fS))
    (FP : Fun K "_law_pick" "_law_pick" sPick fP fdP) (bP : Binds K fdP ["cup", "things"] []) (mP : mg "_law_pick" = some (.ref fP)) :
    FnOk P w K mg base CX0 3 f fd ["cup", "most"] (spDrawn K) := by
  have GS : FnOk P w K mg base CX0 1 fS fdS ["cup", "top"] spSip := ok_sip FS T.toTSip
  have GP : FnOk P w K mg base CX0 2 fP fdP ["cup", "things"] spPick := ok_pick FP T.toTSip FS bS mS
  refine F.ok scDrawn (fun vs H Q E h => ?_) (fun cdv A outer s H vs Q E hr h => ?_)
  · obtain ⟨c, t, rfl, _⟩ := h
    rfl
  · obtain ⟨c, most, rfl, hc, h1, h2, hk⟩ := h
    have hr1 : Room 1 _ := hr.mono (by decide)
    have hu := hr.units
    have hu' := hr.u65
    refine ⟨_, (C8.pss_cut (ps_set (i := 2) scDrawn.nd rfl (.inl rfl) (pe_op op_add pe_int (pe_call GS hr1 (by rfl) mS FS.kp bS .nil pass0 (pa_cons (pv 0) (pa_cons (pe_op op_sub (pv 1) pe_int) pa_nil))))) (C8.pss_cut (ps_setLc (i := 4) (own := [("last", 3)]) (g := gName 3) (tt := tYes) rfl scDrawn.nd rfl rfl (sw_true rfl rfl rfl (by decide +kernel)) (pi_range2 (by rfl) T.range (pa_cons pe_int (pa_cons (pv 2) pa_nil))) (blkOk_by (N := ["cup", "most", "many", "last", "pairs", "more", "pair", "used", "told", "first", "marks", "one", "two", "house", "mark"]) (own := [("last", 3)]) (sc := defScope sDrawn) (by decide +kernel)) (fun _ _ _ _ _ => (pg_name (i := 3) scDrawn.nd rfl (.inl rfl))) (fun _ _ _ _ _ => pts_nil) (fun _ _ _ _ _ => (pe_tup (pa_cons (pe_call GS hr1 (by rfl) mS FS.kp bS .nil pass0 (pa_cons (pv 0) (pa_cons (pv 3) pa_nil))) (pa_cons (pv 3) pa_nil))))) (C8.pss_cut (ps_for PassesOwn.never rfl (pi_range1 (by rfl) T.range (pa_cons (pe_call GS hr1 (by rfl) mS FS.kp bS .nil pass0 (pa_cons (pv 0) (pa_cons pe_int pa_nil))) pa_nil)) (pg_name (i := 5) scDrawn.nd rfl (.inl rfl)) (C8.pss_cut (ps_set (i := 3) scDrawn.nd rfl (.inl rfl) (pe_op op_add pe_int (pe_call GS hr1 (by rfl) mS FS.kp bS .nil pass0 (pa_cons (pv 0) (pa_cons (pe_op op_sub (pv 2) pe_int) pa_nil))))) (C8.pss_cut (ps_set (i := 6) scDrawn.nd rfl (.inl rfl) (pe_tup (pa_cons (pe_call GS hr1 (by rfl) mS FS.kp bS .nil pass0 (pa_cons (pv 0) (pa_cons (pv 3) pa_nil))) (pa_cons (pv 3) pa_nil)))) (pss_one (ps_set (i := 4) scDrawn.nd rfl (.inl rfl) (pe_ifExp (pt_cmpR (op_inD hr.u65) (pv 6) (pv 4) (by rfl)) (pv 4) (pe_op op_cat (pv 4) (pe_lst (pa_cons (pv 6) pa_nil))))))))) (C8.pss_cut (ps_asg (pe_tup (pa_cons (pe_lc (own := [("house", 13)]) (g := gName 13) (tt := tYes) rfl scDrawn.nd (pi_range1 (by rfl) T.range (pa_cons (pv 2) pa_nil)) (blkOk_by (N := ["cup", "most", "many", "last", "pairs", "more", "pair", "used", "told", "first", "marks", "one", "two", "house", "mark"]) (own := [("house", 13)]) (sc := defScope sDrawn) (by decide +kernel)) (fun _ _ _ _ _ => (pg_name (i := 13) scDrawn.nd rfl (.inl rfl))) (fun _ _ _ _ _ => pts_nil) (fun _ _ _ _ _ => (pe_lst pa_nil))) (pa_cons (pe_lst pa_nil) pa_nil))) (pg_tup (by rfl) (pgs_cons (pg_name (i := 7) scDrawn.nd rfl (.inr rfl)) (pgs_cons (pg_name (i := 8) scDrawn.nd rfl (.inl rfl)) pgs_nil)))) (C8.pss_cut (ps_for PassesOwn.never rfl (pi_list (pe_mid (pe_callB (cr_sortD hr.units) (by rfl) T.sorted (by decide +kernel) (pa_cons (pv 4) pa_nil)))) (pg_tup (by rfl) (pgs_cons (pg_name (i := 9) scDrawn.nd rfl (.inl rfl)) (pgs_cons (pg_name (i := 3) scDrawn.nd rfl (.inl rfl)) pgs_nil))) (C8.pss_cut (ps_setLc (i := 10) (own := [("house", 13)]) (g := gName 13) (tt := tYes) rfl scDrawn.nd rfl rfl (sw_true rfl rfl rfl (by decide +kernel)) (pi_list (pe_lst (pa_cons (pv 9) (pa_cons (pv 3) pa_nil)))) (blkOk_by (N := ["cup", "most", "many", "last", "pairs", "more", "pair", "used", "told", "first", "marks", "one", "two", "house", "mark"]) (own := [("house", 13)]) (sc := defScope sDrawn) (by decide +kernel)) (fun _ _ _ _ _ => (pg_name (i := 13) scDrawn.nd rfl (Or.inr rfl))) (fun _ _ _ _ _ => pts_nil) (fun _ _ _ _ _ => (pe_slice (sl_listK K rfl) (pe_lc (own := [("mark", 14)]) (g := gName 14) rfl scDrawn.nd (pi_str pe_str) (blkOk_by (N := ["cup", "most", "many", "last", "pairs", "more", "pair", "used", "told", "first", "marks", "one", "two", "house", "mark"]) (own := [("mark", 14)]) (by show blkC _ (L2.relS _ (defScope sDrawn)) _ _ = true; decide +kernel)) (fun _ _ _ _ _ => (pg_name (i := 14) scDrawn.nd rfl (.inl rfl))) (fun _ _ _ _ _ => (pts_one (pt_cmpR (op_notInK K rfl) (pv 14) (pe_ix (ix_listK K rfl) (pv 7) (pv 13) (fun _ _ => rfl)) (by rfl)))) (fun _ _ _ _ _ => (pv 14))) po_none (po_some (pe_op op_add pe_int (pe_call GS hr1 (by rfl) mS FS.kp bS .nil pass0 (pa_cons (pv 0) (pa_cons pe_int pa_nil)))))))) (C8.pss_cut (ps_par (i := 11) (j := 12) (by rfl) scDrawn.nd rfl rfl (by decide) rfl rfl (pa_cons (pe_call GP hr (by rfl) mP FP.kp bP .nil pass0 (pa_cons (pv 0) (pa_cons (pe_ix ix_list (pv 10) pe_int (fun _ _ => rfl)) pa_nil))) (pa_cons (pe_call GP hr (by rfl) mP FP.kp bP .nil pass0 (pa_cons (pv 0) (pa_cons (pe_ix ix_list (pv 10) pe_int (fun _ _ => rfl)) pa_nil))) pa_nil)) (by rfl)) (pss_cons (ps_expr (pe_bm PySem.F.plainAttrs_list PySem.F.slot_list_append PySem.F.type_list_append mt_append (pe_ix ix_list (pv 7) (pv 9) (fun _ _ => rfl)) (pa_cons (pv 11) pa_nil))) (pss_cons (ps_expr (pe_bm PySem.F.plainAttrs_list PySem.F.slot_list_append PySem.F.type_list_append mt_append (pe_ix ix_list (pv 7) (pv 3) (fun _ _ => rfl)) (pa_cons (pv 12) pa_nil))) (pss_one (ps_expr (pe_bm PySem.F.plainAttrs_list PySem.F.slot_list_append PySem.F.type_list_append mt_append (pv 8) (pa_cons (pe_tup (pa_cons (pv 9) (pa_cons (pv 11) (pa_cons (pv 3) (pa_cons (pv 12) pa_nil))))) pa_nil))))))))) (pss_one (ps_ret (pv 8)))))))), ?_⟩
    refine ⟨fun σ H' => But c H H' ∧ Cup H' c ∧ ∃ n : Nat, 2 ≤ n ∧ n ≤ most ∧ σ = [some (.ref c), some (.int (most : Int)), some (.int (n : Int)), none, none, none, none, none, none, none, none, none, none, none, none], ?_, ?_⟩
    · refine ⟨_, rfl, _, rfl, _, _, rfl, rfl, c, (most : Int) - 1, rfl, hc, by omega, by omega, fun r H1 b1 c1 r0 r1 => ⟨2, r, rfl, rfl, b1, c1, ?_⟩⟩
      obtain ⟨j, rfl⟩ := Int.eq_ofNat_of_zero_le r0
      refine ⟨2 + j, by omega, by omega, ?_⟩
      have en : (2 : Int) + ((j : Nat) : Int) = ((2 + j : Nat) : Int) := by omega
      show [some (V.ref c), some (V.int (most : Int)), some (V.int ((2 : Int) + ((j : Nat) : Int))), none, none, none, none, none, none, none, none, none, none, none, none] = _
      rw [en]
    rintro σ H1 ⟨b1, c1, n, n2, n8, rfl⟩
    refine ⟨fun σ H' => But c H1 H' ∧ Cup H' c ∧ ∃ (l : Addr) (ps : List (Addr × Pr)), H' l = some (.lst (refs ps)) ∧ l ≠ c ∧ At prV H' ps ∧ PairsOk n (ps.map (·.2)) ∧ ps.length ≤ 7 ∧
      σ = [some (.ref c), some (.int (most : Int)), some (.int (n : Int)), none, some (.ref l), none, none, none, none, none, none, none, none, none, none], ?_, ?_⟩
    · refine ⟨_, rfl, 1, (n : Int), rfl, ⟨by omega, by omega, by omega, by omega⟩, fun D nD => ?_⟩
      have ncD : c ≠ D := c1.ne nD
      refine lc_range (lo := 1) (n := ((n : Int) - 1).toNat) (fun i H' => But c H1 H' ∧ Cup H' c ∧ ∃ ps : List (Addr × Pr), H' D = some (.lst (refs ps)) ∧ At prV H' ps ∧ (ps.map (·.2)).map (·.2) = List.range' 1 i ∧ ∀ p ∈ ps, p.2.1 < p.2.2)
        ⟨(But.refl c H1).put nD, c1.put nD, [], upd_same, (fun p hp => by cases hp), rfl, (fun p hp => by cases hp)⟩ ?_ ?_
      · rintro i H2 hi ⟨b2, c2, ps, hD, hA, hr, hlt⟩
        refine ⟨rfl, _, rfl, _, rfl, c, _, rfl, c2, by omega, by omega, fun x H3 b3 c3 x0 x1 => ⟨_, rfl, (by show 2 ≤ sizeLine; decide), fun p np => ?_⟩⟩
        obtain ⟨y, rfl⟩ := Int.eq_ofNat_of_zero_le x0
        have hD3 : H3 D = some (.lst (refs ps)) := b3 _ _ hD ncD.symm
        have nDp : D ≠ p := ne_of_none hD3 np
        have el : ps.length = i := by
          have e := congrArg List.length hr
          rw [List.length_map, List.length_map, List.length_range'] at e
          exact e
        refine ⟨refs ps, put_ne hD3 nDp, (by rw [refs_len, el]; exact small1000 (by omega)), ((b2.trans b3).put np).own nD, (c3.put np).of_lst ncD, ps ++ [(p, (y, 1 + i))], ?_, ?_, ?_, ?_⟩
        · rw [upd_same, refs_app]
          all_goals rfl
        · refine At.snoc (((hA.but c2 b3).same (same_upd np)).mono (upd_tup (put_ne hD3 nDp))) ?_
          refine put_ne (upd_same.trans ?_) nDp.symm
          show some (HO.tup [V.int (y : Int), V.int ((1 : Int) + (i : Int))]) = some (HO.tup [V.int (y : Int), V.int (((1 + i : Nat)) : Int)])
          rw [show ((1 : Int) + (i : Int)) = (((1 + i : Nat)) : Int) by omega]
        · rw [List.map_append, List.map_append, hr, List.range'_concat, Nat.one_mul]
          rfl
        · intro q hq
          rcases List.mem_append.mp hq with z | z
          · exact hlt q z
          · rw [List.mem_singleton.mp z]
            show y < 1 + i
            omega
      · rintro H2 ⟨b2, c2, ps, hD, hA, hr, hlt⟩
        have en : ((n : Int) - 1).toNat = n - 1 := by omega
        rw [en] at hr
        have el : ps.length = n - 1 := by
          have e := congrArg List.length hr
          rw [List.length_map, List.length_map, List.length_range'] at e
          exact e
        exact ⟨b2, c2, D, ps, hD, ncD.symm, hA, pairsOk_first hr (fun q hq => by obtain ⟨p, hp, rfl⟩ := List.mem_map.mp hq; exact hlt p hp), by omega, rfl⟩
    rintro σ H2 ⟨b2, c2, l, ps, hl, nlc, hA, ok, hlen, rfl⟩
    refine ⟨fun σ H' => But c H1 H' ∧ Cup H' c ∧ ∃ (l : Addr) (ps : List (Addr × Pr)) (v3 v5 v6 : Option V), H' l = some (.lst (refs ps)) ∧ l ≠ c ∧ At prV H' ps ∧ PairsOk n (ps.map (·.2)) ∧ ps.length ≤ 9 ∧
      σ = [some (.ref c), some (.int (most : Int)), some (.int (n : Int)), v3, some (.ref l), v5, v6, none, none, none, none, none, none, none, none], ?_, ?_⟩
    · refine ⟨_, rfl, c, 3, rfl, c2, by omega, by omega, fun r H3 b3 c3 r0 r1 => ⟨r, rfl, by omega, by omega, ?_⟩⟩
      refine for_range (lo := 0) (n := r.toNat) (fun i σ H' => But c H1 H' ∧ Cup H' c ∧ ∃ (l : Addr) (ps : List (Addr × Pr)) (v3 v5 v6 : Option V), H' l = some (.lst (refs ps)) ∧ l ≠ c ∧ At prV H' ps ∧ PairsOk n (ps.map (·.2)) ∧ ps.length ≤ 7 + i ∧
        σ = [some (.ref c), some (.int (most : Int)), some (.int (n : Int)), v3, some (.ref l), v5, v6, none, none, none, none, none, none, none, none])
        ⟨b2.trans b3, c3, l, ps, none, none, none, b3 _ _ hl nlc, nlc, hA.but c2 b3, ok, by omega, rfl⟩ ?_ ?_
      · rintro i σ H4 hi ⟨b4, c4, l, ps, v3, v5, v6, hl, nlc, hA, ok, hlen, rfl⟩
        refine ⟨fun σ H' => But c H4 H' ∧ Cup H' c ∧ ∃ (x : Nat) (v5 : Option V), 1 ≤ x ∧ x < n ∧ σ = [some (.ref c), some (.int (most : Int)), some (.int (n : Int)), some (.int (x : Int)), some (.ref l), v5, v6, none, none, none, none, none, none, none, none], ?_, ?_⟩
        · refine ⟨_, rfl, _, rfl, _, _, rfl, rfl, c, (n : Int) - 1, rfl, c4, by omega, by omega, fun r H5 b5 c5 r0 r1 => ⟨1, r, rfl, rfl, b5, c5, ?_⟩⟩
          obtain ⟨j, rfl⟩ := Int.eq_ofNat_of_zero_le r0
          refine ⟨1 + j, some (.int ((0 : Int) + (i : Int))), by omega, by omega, ?_⟩
          have en : (1 : Int) + ((j : Nat) : Int) = ((1 + j : Nat) : Int) := by omega
          show [some (V.ref c), some (V.int (most : Int)), some (V.int (n : Int)), some (V.int ((1 : Int) + ((j : Nat) : Int))), some (V.ref l), some (.int ((0 : Int) + (i : Int))), v6, none, none, none, none, none, none, none, none] = _
          rw [en]
        rintro σ H5 ⟨b5, c5, x, v5, x1, x2, rfl⟩
        refine ⟨fun σ H' => But c H4 H' ∧ Cup H' c ∧ ∃ (p : Addr) (y : Nat), H' p = some (.tup (prV (y, x))) ∧ y < x ∧ σ = [some (.ref c), some (.int (most : Int)), some (.int (n : Int)), some (.int (x : Int)), some (.ref l), v5, some (.ref p), none, none, none, none, none, none, none, none], ?_, ?_⟩
        · refine ⟨_, rfl, _, rfl, c, _, rfl, c5, by omega, by omega, fun r H6 b6 c6 r0 r1 => ⟨_, rfl, (by show 2 ≤ sizeLine; decide), fun p np => ⟨(b5.trans b6).put np, c6.put np, p, ?_⟩⟩⟩
          obtain ⟨y, rfl⟩ := Int.eq_ofNat_of_zero_le r0
          exact ⟨y, upd_same, by omega, rfl⟩
        rintro σ H6 ⟨b6, c6, p, y, hp, yx, rfl⟩
        have hl6 : H6 l = some (.lst (refs ps)) := b6 _ _ hl nlc
        have hA6 : At prV H6 ps := hA.but c4 b6
        refine ⟨_, rfl, _, rfl, tD (prV (y, x)), rowD prV ps, tD_dp K (prV_nb _) hp, .lst (SqL.of hl6) (rowD_dp K (fun _ _ => prV_nb _) hA6), tD_shaped (prV_nb _), rowD_shaped (fun _ _ => prV_nb _), _, rfl, ?_⟩
        have hiff := rowD_any_iff prV_inj (y, x) (prV_nb _) (ps := ps) (fun _ _ => prV_nb _)
        have bb : But c H1 H6 := b4.trans b6
        refine ite2 (fun _ => ?_) (fun hno => ?_)
        · exact ⟨_, rfl, bb, c6, l, ps, _, _, _, hl6, nlc, hA6, ok, by omega, rfl⟩
        · have hno : (y, x) ∉ ps.map (·.2) := fun z => hno (hiff.mpr z)
          refine ⟨_, rfl, _, rfl, by show 1 ≤ sizeLine; decide, fun q nq => ⟨l, q, refs ps, [.ref p], rfl, rfl, put_old hl6 nq, upd_same, (by rw [refs_len]; exact Nat.le_of_lt (small1000 (by show ps.length + 1 ≤ 1000; omega))), fun z nz => ?_⟩⟩
          refine ⟨(bb.put nq).put nz, (c6.put nq).put nz, z, ps ++ [(p, (y, x))], _, _, _, (upd_same.trans (by rw [refs_app]; rfl)), (((c6.put nq).ne nz).symm), ((At.snoc hA6 hp).same ((same_upd nq).put nz)), ?_, by rw [List.length_append]; show ps.length + 1 ≤ _; omega, rfl⟩
          rw [List.map_append]
          exact ok.snoc yx x2 hno
      · rintro σ H4 ⟨b4, c4, l, ps, v3, v5, v6, hl, nlc, hA, ok, hlen, rfl⟩
        exact ⟨b4, c4, l, ps, v3, v5, v6, hl, nlc, hA, ok, by omega, rfl⟩
    rintro σ H3 ⟨b3, c3, l, ps, v3, v5, v6, hl, nlc, hA, ok, hlen, rfl⟩
    refine ⟨fun σ H' => But c H3 H' ∧ ∃ (u tl : Addr) (us : List Addr), Wk H' c u tl us n [] ∧ H3 u = none ∧ H3 tl = none ∧ (∀ a ∈ us, H3 a = none) ∧
      σ = [some (.ref c), some (.int (most : Int)), some (.int (n : Int)), v3, some (.ref l), v5, v6, some (.ref u), some (.ref tl), none, none, none, none, none, none], ?_, ?_⟩
    · refine ⟨_, rfl, (n : Int), rfl, by omega, by omega, fun u nu => ?_⟩
      have ncu : c ≠ u := c3.ne nu
      rw [show ((n : Int)).toNat = n from Int.toNat_natCast n]
      refine lc_range (lo := 0) (n := n) (fun i H' => Same H3 H' ∧ ∃ us : List Addr, H' u = some (.lst (us.map V.ref)) ∧ us.length = i ∧ us.Nodup ∧ u ∉ us ∧ ∀ a ∈ us, H3 a = none ∧ H' a = some (.lst []))
        ⟨same_upd nu, [], upd_same, rfl, List.nodup_nil, (fun z => by cases z), (fun a z => by cases z)⟩ ?_ ?_
      · rintro i H4 hi ⟨s4, us, hu4, ul, und, nuu, hus⟩
        refine ⟨rfl, Nat.zero_le _, fun q nq => ?_⟩
        have nuq : u ≠ q := ne_of_none hu4 nq
        refine ⟨us.map V.ref, put_ne hu4 nuq, (by rw [List.length_map, ul]; exact small1000 (by omega)), ((s4.put nq).own nu), us ++ [q], ?_, ?_, ?_, ?_, ?_⟩
        · rw [upd_same, List.map_append]
          rfl
        · rw [List.length_append, ul]
          rfl
        · exact nd_snoc und fun z => by
            rw [(hus q z).2] at nq
            cases nq
        · intro z
          rcases List.mem_append.mp z with z | z
          · exact nuu z
          · exact nuq (List.mem_singleton.mp z)
        · intro a z
          rcases List.mem_append.mp z with z | z
          · have nau : a ≠ u := fun e => nuu (e ▸ z)
            exact ⟨(hus a z).1, by rw [upd_ne nau]; exact put_old (hus a z).2 nq⟩
          · rw [List.mem_singleton.mp z]
            exact ⟨s4.free nq, put_ne upd_same nuq.symm⟩
      · rintro H4 ⟨s4, us, hu4, ul, und, nuu, hus⟩
        refine ⟨Nat.zero_le _, fun tl ntl => ⟨by show 2 ≤ sizeLine; decide, fun q nq => ⟨q, _, rfl, SqT.of upd_same, rfl, _, _, rfl, _, _, rfl, rfl, ?_⟩⟩⟩
        have s5 : Same H4 (upd (upd H4 tl (.lst [])) q (.tup [.ref u, .ref tl])) := (same_upd ntl).put nq
        refine ⟨(s4.trans s5).but, u, tl, us, ⟨c3.same (s4.trans s5), s5 _ _ hu4, ul, ?_, (put_old upd_same nq), (fun p hp => by cases hp), fun h a hh => s5 _ _ (hus a (List.mem_of_getElem? hh)).2⟩, nu, s4.free ntl, fun a ha => (hus a ha).1, rfl⟩
        have cn : c ∉ us := fun z => by
          obtain ⟨x, y, e⟩ := c3
          rw [(hus c z).1] at e
          cases e
        have tn : tl ∉ us := fun z => by
          rw [(hus tl z).2] at ntl
          cases ntl
        have ut : u ≠ tl := ne_of_none hu4 ntl
        have ct : c ≠ tl := (c3.same s4).ne ntl
        exact List.nodup_cons.mpr ⟨by simp [ncu, ct, cn], List.nodup_cons.mpr ⟨by simp [ut, nuu], List.nodup_cons.mpr ⟨tn, und⟩⟩⟩
    rintro σ H4 ⟨b4, u, tl, us, wk, nu, ntl, nus, rfl⟩
    have hl4 : H4 l = some (.lst (refs ps)) := b4 _ _ hl nlc
    have hA4 : At prV H4 ps := hA.but c3 b4
    have bA : But c H H4 := (b1.trans b3).trans b4
    obtain ⟨srt, perm⟩ := sorted_prs ps ok.nd
    refine ⟨fun σ H' => But c H H' ∧ Cup H' c ∧ ∃ (tl : Addr) (ts : List (Addr × Tie)) (w1 w2 w3 w4 w5 w6 w7 w8 w9 w10 w11 : Option V), H' tl = some (.lst (refs ts)) ∧ At tieV H' ts ∧ Told n (ts.map (·.2)) ∧
      H tl = none ∧ σ = [some (.ref c), w1, w2, w3, w4, w5, w6, w7, some (.ref tl), w8, w9, w10, w11, none, none], ?_, ?_⟩
    · have hs : rSortD K [V.ref l] H4 (fun v H' => ∃ sp : Addr, v = .ref sp ∧ H4 sp = none ∧ H' = upd H4 sp (.lst (refs (ps.mergeSort fun p q => prLe p.2 q.2)))) :=
        sort_rows prV prLe (SqL.of hl4) hA4 (fun _ _ => prV_nb _) pr_alike (fun x => ⟨_, _, rfl⟩) prLe_data fun sp nsp => ⟨sp, rfl, nsp, rfl⟩
      refine ⟨fun v H' => ∃ sp : Addr, v = .ref sp ∧ H4 sp = none ∧ H' = upd H4 sp (.lst (refs (ps.mergeSort fun p q => prLe p.2 q.2))), ⟨_, rfl, hs⟩, ?_⟩
      rintro _ _ ⟨sp, rfl, nsp, rfl⟩
      generalize (ps.mergeSort fun p q => prLe p.2 q.2) = qs at srt perm
      have hA5 : At prV (upd H4 sp (.lst (refs qs))) qs := (At.same hA4 (same_upd nsp)).perm perm.symm
      have okq : PairsOk n (qs.map (·.2)) := ok.perm (perm.map _).symm
      have lenq : qs.length ≤ 9 := by
        rw [perm.length_eq]
        exact hlen
      have nown : sp ∉ c :: u :: tl :: us := by
        intro z
        rcases List.mem_cons.mp z with e | z
        · obtain ⟨x, y, e2⟩ := wk.cup
          rw [← e, nsp] at e2
          cases e2
        rcases List.mem_cons.mp z with e | z
        · have e2 := wk.hu
          rw [← e, nsp] at e2
          cases e2
        rcases List.mem_cons.mp z with e | z
        · have e2 := wk.ht
          rw [← e, nsp] at e2
          cases e2
        · obtain ⟨i, hi⟩ := List.getElem?_of_mem z
          have e2 := wk.hm i sp hi
          rw [nsp] at e2
          cases e2
      refine ⟨sp, rfl, ⟨_, SqL.of upd_same⟩, for_list (K := K) (a := sp) (xs := refs qs) (fun k σ H' => ∃ (ts : List (Addr × Tie)) (w1 w9 w10 w11 w12 : Option V), Wk H' c u tl us n ts ∧ But c H3 H' ∧ H' sp = some (.lst (refs qs)) ∧ At prV H' qs ∧
          (ts.map (·.2)).map Tie.pr = (qs.map (·.2)).take k ∧ (∀ t ∈ ts.map (·.2), t.m ∈ letters ∧ t.o ∈ letters) ∧ (∀ h, (marksAt h (ts.map (·.2))).Nodup) ∧
          σ = [some (.ref c), some (.int (most : Int)), some (.int (n : Int)), w1, some (.ref l), v5, v6, some (.ref u), some (.ref tl), w9, w10, w11, w12, none, none])
        ⟨[], v3, none, none, none, none, wk.upd_new nsp, b4.put nsp, upd_same, hA5, rfl, (fun t h => by cases h), (fun h => List.nodup_nil), rfl⟩ (fun k σ H' _ ⟨_, _, _, _, _, _, _, _, e, _⟩ => SqL.of e) ?_ ?_⟩
      · rintro k x σ H6 hx ⟨ts, w1, w9, w10, w11, w12, wk6, b6, hsp6, hA6, hpr, hlet, hun, rfl⟩
        obtain ⟨⟨p, q⟩, hkq, rfl⟩ := refs_get hx
        have hmq : (p, q) ∈ qs := List.mem_of_getElem? hkq
        have hp : H6 p = some (.tup (prV q)) := hA6 _ hmq
        obtain ⟨q12, qn⟩ := okq.lt q (List.mem_map_of_mem (f := (·.2)) hmq)
        have hk9 : k < 9 := by
          have := (List.getElem?_eq_some_iff.mp hkq).1
          omega
        have hl : ∀ t ∈ ts.map (·.2), t.a < t.b := fun t ht => by
          have m : t.pr ∈ (qs.map (·.2)).take k := by
            rw [← hpr]
            exact List.mem_map_of_mem ht
          exact (okq.lt _ (List.mem_of_mem_take m)).1
        have htl : (ts.map (·.2)).length ≤ k := by
          have e := congrArg List.length hpr
          rw [List.length_map, List.length_take] at e
          omega
        have lt12 : ∀ h, (marksAt h (ts.map (·.2))).length < 12 := fun h => by
          have := marksAt_len h hl
          omega
        have hi1 : q.1 < us.length := by
          rw [wk6.ul]
          omega
        have hi2 : q.2 < us.length := by
          rw [wk6.ul]
          omega
        refine ⟨p, _, rfl, SqT.of hp, rfl, _, _, rfl, _, _, rfl, rfl, ?_⟩
        refine ⟨fun σ H' => But c H6 H' ∧ Cup H' c ∧ ∃ (D a1 a2 : Addr) (x1 x2 : List Nat), H' D = some (.lst [.ref a1, .ref a2]) ∧ FreeAt H' c a1 x1 (marksAt q.1 (ts.map (·.2))) ∧ FreeAt H' c a2 x2 (marksAt q.2 (ts.map (·.2))) ∧ D ≠ c ∧
          σ = [some (.ref c), some (.int (most : Int)), some (.int (n : Int)), some (.int (q.2 : Int)), some (.ref l), v5, v6, some (.ref u), some (.ref tl), some (.int (q.1 : Int)), some (.ref D), w11, w12, none, none], ?_, ?_⟩
        · refine ⟨_, rfl, _, rfl, (by show 2 ≤ sizeLine; decide), fun L nL => ⟨L, rfl, ⟨_, SqL.of upd_same⟩, fun D nD => ?_⟩⟩
          have hL : (upd (upd H6 L (.lst [.int (q.1 : Int), .int (q.2 : Int)])) D (.lst [])) L = some (.lst [.int (q.1 : Int), .int (q.2 : Int)]) := put_old upd_same nD
          have nLc : L ≠ c := (wk6.cup.ne nL).symm
          have nDc : D ≠ c := ((wk6.cup.put nL).ne nD).symm
          have nD6 : H6 D = none := new_of nD
          refine lc_list (K := K) (a := L) (xs := [.int (q.1 : Int), .int (q.2 : Int)]) (fun i H' => But c H6 H' ∧ Cup H' c ∧ H' L = some (.lst [.int (q.1 : Int), .int (q.2 : Int)]) ∧ ∃ rs : List (Addr × List Nat), H' D = some (.lst (refs rs)) ∧ rs.length = i ∧
              ∀ (j : Nat) (r : Addr × List Nat), rs[j]? = some r → r.1 ≠ D ∧ FreeAt H' c r.1 r.2 (marksAt (if j = 0 then q.1 else q.2) (ts.map (·.2))))
            ⟨(But.refl c H6).put nL |>.put nD, (wk6.cup.put nL).put nD, hL, [], upd_same, rfl, fun j r e => by simp at e⟩ (fun i H' _ ⟨_, _, e, _⟩ => SqL.of e) ?_ ?_
          · rintro i x H7 hx ⟨b7, c7, hL7, rs, hD7, hrs, hfr⟩
            obtain ⟨hh, hhe, hhu, rfl⟩ : ∃ hh : Nat, hh = (if i = 0 then q.1 else q.2) ∧ hh < us.length ∧ x = .int (hh : Int) := by
              match i, hx with
              | 0, hx => exact ⟨q.1, rfl, hi1, (Option.some.inj hx).symm⟩
              | 1, hx => exact ⟨q.2, rfl, hi2, (Option.some.inj hx).symm⟩
              | i + 2, hx => exact absurd hx (by simp)
            have wk7 := wk6.but b7 c7
            refine ⟨rfl, "abcdefghijkl", rfl, fun D2 nD2 => ?_⟩
            have hm7 : H7 us[hh] = some (.lst ((marksAt hh (ts.map (·.2))).map sV)) := wk7.hm hh _ (List.getElem?_eq_getElem hhu)
            refine lc_it walk_str (fun j H' => Same H7 H' ∧ H' D2 = some (.lst (((letters.take j).filter (notIn (marksAt hh (ts.map (·.2))))).map sV))) ⟨same_upd nD2, upd_same⟩ (fun _ _ _ _ => trivial) ?_ ?_
            · rintro j x H8 _ hj ⟨s8, hD8⟩ ⟨rfl, z, hz, rfl⟩
              have hj12 : j < 12 := by
                have e : ("abcdefghijkl" : Str).cps.size = 12 := by rw [letters_str]; rfl
                omega
              have hzl : letters[j]? = some z := by
                rw [letters_str] at hz
                have e : (#[97, 98, 99, 100, 101, 102, 103, 104, 105, 106, 107, 108] : Array Nat)[j]? = letters[j]? := by
                  rw [← Array.getElem?_toList]
                  rfl
                rw [← e]
                exact hz
              refine ⟨rfl, _, rfl, _, rfl, _, rfl, u, us.map V.ref, _, .ref us[hh], rfl, rfl, SqL.of (s8 _ _ wk7.hu), atI_nat (by rw [List.getElem?_map, List.getElem?_eq_getElem hhu]; rfl), us[hh], _, rfl, .inl (SqL.of (s8 _ _ hm7)), rfl, flat_sV _, _, rfl, ?_⟩
              have ein : inV (.str ⟨#[z]⟩) ((marksAt hh (ts.map (·.2))).map sV) = (marksAt hh (ts.map (·.2))).contains z := inV_sV z _
              have etk : letters.take (j + 1) = letters.take j ++ [z] := by rw [List.take_succ, hzl]; rfl
              refine ite2 (fun hnot => ?_) (fun hnot => ?_)
              · refine ⟨_, rfl, _, hD8, ?_, s8.own nD2, ?_⟩
                · rw [List.length_map]
                  exact small1000 (Nat.le_trans (List.length_filter_le _ _) (by rw [List.length_take]; show min j 12 ≤ 1000; omega))
                · have hc : notIn (marksAt hh (ts.map (·.2))) z = true := by
                    unfold notIn
                    rw [← ein]
                    exact hnot
                  rw [upd_same, etk, filt_yes hc, List.map_append]
                  rfl
              · refine ⟨s8, ?_⟩
                have hc : notIn (marksAt hh (ts.map (·.2))) z = false := by
                  unfold notIn
                  rw [← ein]
                  exact Bool.eq_false_iff.mpr hnot
                rw [hD8, etk, filt_no hc]
            · rintro H8 ⟨s8, hD8⟩
              have e12 : ((letters.take ("abcdefghijkl" : Str).cps.size).filter (notIn (marksAt hh (ts.map (·.2))))) = free (marksAt hh (ts.map (·.2))) := by
                rw [letters_str]
                rfl
              rw [e12] at hD8
              have c8 := c7.same s8
              have nD2c : D2 ≠ c := (c7.ne nD2).symm
              have fpos := free_pos (lt12 hh)
              refine ⟨_, rfl, c, 2, rfl, c8, by omega, by omega, fun r H9 b9 c9 r0 r1 => ⟨2, r, rfl, rfl, _, rfl, D2, _, rfl, SqL.of (b9 _ _ hD8 nD2c), fun a na => ?_⟩⟩
              obtain ⟨j, rfl⟩ := Int.eq_ofNat_of_zero_le r0
              have ecut : cutV ((free (marksAt hh (ts.map (·.2)))).map sV) none (some ((fun i j => i + j) (2 : Int) ((j : Nat) : Int))) = ((free (marksAt hh (ts.map (·.2)))).take (2 + j)).map sV := by
                show cutV _ none (some ((2 : Int) + ((j : Nat) : Int))) = _
                rw [show ((2 : Int) + ((j : Nat) : Int)) = ((2 + j : Nat) : Int) by omega, cut_to, List.map_take]
              have b79 : But c H7 H9 := s8.but.trans b9
              have hD9 : H9 D = some (.lst (refs rs)) := b79 _ _ hD7 nDc
              have nDa : D ≠ a := ne_of_none hD9 na
              refine ⟨refs rs, put_ne hD9 nDa, (by rw [refs_len, hrs]; exact small1000 (by have := (List.getElem?_eq_some_iff.mp hx).1; simp at this; omega)), ((b7.trans b79).put na).own nD6, (c9.put na).of_lst nDc.symm, ?_, rs ++ [(a, (free (marksAt hh (ts.map (·.2)))).take (2 + j))], ?_, ?_, ?_⟩
              · exact put_ne (put_old (b79 _ _ hL7 nLc) na) (ne_new nD)
              · rw [upd_same, refs_app]
                rfl
              · rw [List.length_append, hrs]
                rfl
              · intro j2 r2 hr2
                by_cases e2 : j2 < rs.length
                · rw [List.getElem?_append_left e2] at hr2
                  obtain ⟨n1, f1⟩ := hfr j2 r2 hr2
                  have f2 := f1.but b79
                  exact ⟨n1, put_ne (put_old f2.at_ na) n1, f2.ne, f2.pos, f2.most, f2.mem⟩
                · have ej : j2 = i := by
                    have := (List.getElem?_eq_some_iff.mp hr2).1
                    rw [List.length_append] at this
                    have h1 : [(a, (free (marksAt hh (ts.map (·.2)))).take (2 + j))].length = 1 := rfl
                    omega
                  rw [List.getElem?_append_right (by omega), show j2 - rs.length = 0 by omega] at hr2
                  have er : (a, (free (marksAt hh (ts.map (·.2)))).take (2 + j)) = r2 := Option.some.inj hr2
                  subst er
                  refine ⟨nDa.symm, put_ne (upd_same.trans (by rw [ecut])) nDa.symm, (c9.ne na).symm, ?_, ?_, ?_⟩
                  · rw [List.length_take]
                    omega
                  · rw [List.length_take]
                    have : (free (marksAt hh (ts.map (·.2)))).length ≤ 12 := List.length_filter_le _ _
                    omega
                  · intro z hz
                    have h2 := free_mem (List.mem_of_mem_take hz)
                    rw [ej, ← hhe]
                    exact h2
          · rintro H7 ⟨b7, c7, hL7, rs, hD7, hrs, hfr⟩
            obtain ⟨r1, r2, rfl⟩ : ∃ r1 r2, rs = [r1, r2] := by
              match rs, hrs with
              | [r1, r2], _ => exact ⟨r1, r2, rfl⟩
            exact ⟨b7, c7, D, r1.1, r2.1, r1.2, r2.2, hD7, (hfr 0 r1 rfl).2, (hfr 1 r2 rfl).2, nDc, rfl⟩
        rintro σ H7 ⟨b7, c7, D, a1, a2, x1, x2, hD7, f1, f2, nDc, rfl⟩
        have wk7 := wk6.but b7 c7
        refine ⟨fun σ H' => But c H6 H' ∧ Cup H' c ∧ ∃ z1 z2 : Nat, z1 ∈ x1 ∧ z2 ∈ x2 ∧ σ = [some (.ref c), some (.int (most : Int)), some (.int (n : Int)), some (.int (q.2 : Int)), some (.ref l), v5, v6, some (.ref u), some (.ref tl), some (.int (q.1 : Int)), some (.ref D), some (sV z1), some (sV z2), none, none], ?_, ?_⟩
        · refine ⟨_, rfl, _, rfl, D, _, _, _, rfl, rfl, SqL.of hD7, rfl, c, a1, _, rfl, c7, f1.ne, f1.at_, (by rw [List.length_map]; exact f1.pos), (by rw [List.length_map]; have := f1.most; omega), fun i1 v1 H8 b8 c8 e1 => ?_⟩
          have f2' := f2.but b8
          refine ⟨_, rfl, _, rfl, D, _, _, _, rfl, rfl, SqL.of (b8 _ _ hD7 nDc), rfl, c, a2, _, rfl, c8, f2'.ne, f2'.at_, (by rw [List.length_map]; exact f2.pos), (by rw [List.length_map]; have := f2.most; omega), fun i2 v2 H9 b9 c9 e2 => ?_⟩
          rw [List.getElem?_map] at e1 e2
          obtain ⟨z1, hz1, rfl⟩ := Option.map_eq_some_iff.mp e1
          obtain ⟨z2, hz2, rfl⟩ := Option.map_eq_some_iff.mp e2
          exact ⟨_, _, rfl, (b7.trans b8).trans b9, c9, z1, z2, List.mem_of_getElem? hz1, List.mem_of_getElem? hz2, rfl⟩
        rintro σ H8 ⟨b8, c8, z1, z2, hz1, hz2, rfl⟩
        have wk8 := wk6.but b8 c8
        have g1 : us[q.1]? = some us[q.1] := List.getElem?_eq_getElem hi1
        have g2 : us[q.2]? = some us[q.2] := List.getElem?_eq_getElem hi2
        have m1 := wk8.hm _ _ g1
        have m2 := wk8.hm _ _ g2
        obtain ⟨und, cu, ct, ut⟩ := wk8.us_nd
        obtain ⟨d1, d2, d3⟩ := wk8.dist g1
        obtain ⟨e1, e2, e3⟩ := wk8.dist g2
        have n12 : us[q.1] ≠ us[q.2] := fun z => by
          have := nd_ix und g1 (by rw [z]; exact g2)
          omega
        have sz : ∀ h, ((marksAt h (ts.map (·.2))).map sV).length < sizeLine := fun h => by
          have := lt12 h
          rw [List.length_map]
          exact small1000 (by omega)
        have at1 : ∀ {j : Nat} (hj : j < us.length), atI (us.map V.ref) (j : Int) = some (.ref us[j]) := fun {j} hj => atI_nat (by rw [List.getElem?_map, List.getElem?_eq_getElem hj]; rfl)
        refine ⟨_, rfl, _, rfl, u, _, _, _, rfl, rfl, SqL.of wk8.hu, at1 hi1, .inl ⟨rfl, _, SqL.of m1⟩, _, rfl, _, _, _, rfl, rfl, m1, sz _, ?_⟩
        have hu9 := put_ne (u := HO.lst ((marksAt q.1 (ts.map (·.2))).map sV ++ [sV z1])) wk8.hu (fun z => d2 z.symm)
        have m29 := put_ne (u := HO.lst ((marksAt q.1 (ts.map (·.2))).map sV ++ [sV z1])) m2 (fun z => n12 z.symm)
        refine ⟨_, rfl, _, rfl, u, _, _, _, rfl, rfl, SqL.of hu9, at1 hi2, .inl ⟨rfl, _, SqL.of m29⟩, _, rfl, _, _, _, rfl, rfl, m29, sz _, ?_⟩
        have ht9 := put_ne (u := HO.lst ((marksAt q.2 (ts.map (·.2))).map sV ++ [sV z2])) (put_ne (u := HO.lst ((marksAt q.1 (ts.map (·.2))).map sV ++ [sV z1])) wk8.ht (fun z => d3 z.symm)) (fun z => e3 z.symm)
        refine ⟨_, rfl, .inl ⟨rfl, _, SqL.of ht9⟩, _, rfl, _, rfl, _, rfl, _, rfl, (by show 4 ≤ sizeLine; decide), fun p np => ?_⟩
        have ht10 := put_old (u := HO.tup [.int (q.1 : Int), sV z1, .int (q.2 : Int), sV z2]) ht9 np
        refine ⟨_, _, _, rfl, rfl, ht10, (by rw [refs_len]; rw [List.length_map] at htl; exact small1000 (by omega)), ?_⟩
        have wk9 := wk8.step ⟨q.1, z1, q.2, z2⟩ (by show q.1 ≠ q.2; omega) g1 g2 np
        have b9 : But c H3 _ := (((((b6.trans b8).own (nus _ (List.mem_of_getElem? g1))).own (nus _ (List.mem_of_getElem? g2))).put (o := .tup (tieV ⟨q.1, z1, q.2, z2⟩)) np).own (o := .lst (refs ts ++ [.ref p])) ntl)
        have nsp1 : sp ≠ us[q.1] := fun z => nown (by simp [z])
        have nsp2 : sp ≠ us[q.2] := fun z => nown (by simp [z])
        have nspt : sp ≠ tl := fun z => nown (by simp [z])
        have nspc : sp ≠ c := fun z => nown (by simp [z])
        have hsp9 := put_ne (u := HO.lst (refs ts ++ [.ref p])) (put_old (u := HO.tup [.int (q.1 : Int), sV z1, .int (q.2 : Int), sV z2]) (put_ne (u := HO.lst ((marksAt q.2 (ts.map (·.2))).map sV ++ [sV z2])) (put_ne (u := HO.lst ((marksAt q.1 (ts.map (·.2))).map sV ++ [sV z1])) (b8 _ _ hsp6 nspc) nsp1) nsp2) np) nspt
        have hA9 := (((((hA6.but wk6.cup b8).mono (upd_tup m1)).mono (upd_tup m29)).same (same_upd np)).mono (upd_tup (o := .lst (refs ts ++ [.ref p])) ht10))
        refine ⟨ts ++ [(p, (⟨q.1, z1, q.2, z2⟩ : Tie))], _, _, _, _, _, wk9, b9, hsp9, hA9, ?_, ?_, ?_, rfl⟩
        · rw [List.map_append, List.map_append, hpr, List.take_succ, List.getElem?_map, hkq]
          rfl
        · intro t ht
          rw [List.map_append] at ht
          rcases List.mem_append.mp ht with z | z
          · exact hlet t z
          · rw [List.mem_singleton.mp z]
            exact ⟨(f1.mem z1 hz1).1, (f2.mem z2 hz2).1⟩
        · intro h
          rw [List.map_append, show [(p, (⟨q.1, z1, q.2, z2⟩ : Tie))].map (·.2) = [⟨q.1, z1, q.2, z2⟩] from rfl, marksAt_snoc]
          have ne : (⟨q.1, z1, q.2, z2⟩ : Tie).a ≠ (⟨q.1, z1, q.2, z2⟩ : Tie).b := by show q.1 ≠ q.2; omega
          by_cases ha : h = q.1
          · have e := endsAt_a ne
            rw [ha]
            rw [show endsAt q.1 ⟨q.1, z1, q.2, z2⟩ = [z1] from e]
            exact nd_snoc (hun _) (f1.mem z1 hz1).2
          · by_cases hb : h = q.2
            · have e := endsAt_b ne
              rw [hb]
              rw [show endsAt q.2 ⟨q.1, z1, q.2, z2⟩ = [z2] from e]
              exact nd_snoc (hun _) (f2.mem z2 hz2).2
            · rw [endsAt_no (t := ⟨q.1, z1, q.2, z2⟩) ha hb, List.append_nil]
              exact hun h
      · rintro σ H6 ⟨ts, w1, w9, w10, w11, w12, wk6, b6, hsp6, hA6, hpr, hlet, hun, rfl⟩
        rw [refs_len, List.take_of_length_le (by rw [List.length_map]; exact Nat.le_refl _)] at hpr
        refine ⟨(b1.trans b3).trans b6, wk6.cup, tl, ts, _, _, _, _, _, _, _, _, _, _, _, wk6.ht, wk6.hA, ?_, ?_, rfl⟩
        · have hmem : ∀ t ∈ ts.map (·.2), t.pr ∈ qs.map (·.2) := fun t ht => by
            rw [← hpr]
            exact List.mem_map_of_mem ht
          refine ⟨n2, by omega, fun t ht => okq.lt _ (hmem t ht), fun h h1 h2 => ?_, by rw [hpr]; exact srt, hlet, hun, ?_⟩
          · obtain ⟨q, hq, e⟩ := okq.hang h h1 h2
            rw [← hpr] at hq
            obtain ⟨t, ht, rfl⟩ := List.mem_map.mp hq
            exact ⟨t, ht, e⟩
          · have e := congrArg List.length hpr
            rw [List.length_map, List.length_map] at e
            rw [List.length_map] at e
            rw [List.length_map, e]
            exact lenq
        · cases q : H tl with
          | none => rfl
          | some o =>
            by_cases e : tl = c
            · have nd := wk.nd
              simp [e] at nd
            · rw [(b1.trans b3) tl o q e] at ntl
              cases ntl
    rintro σ H5 ⟨b5, c5, tl, ts, w1, w2, w3, w4, w5, w6, w7, w8, w9, w10, w11, htl, hts, told, ntl, rfl⟩
    exact ⟨_, rfl, hk tl ts n H5 b5 c5 ntl htl hts told n8⟩
end
end Wh

namespace Wh
open PySem L2
abbrev sText : Stmt := topS 52
theorem scText : FnScope ["told", "tie", "part"] ["told"] (defScope sText) := ⟨rfl, rfl, rfl, by decide +kernel, rfl, by decide +kernel, by decide +kernel⟩
section
variable {P : Program} {w : World} {K : PySem.W.Frag} {mg : Str → Option Value} {base : Heap}
/-- the ties stand in a list at l; the text is told -/
def spText (K : PySem.W.Frag) : Sp := fun vs H Q _ => ∃ (l : Addr) (ps : List (Addr × Tie)), vs = [.ref l] ∧ H l = some (.lst (refs ps)) ∧ At tieV H ps ∧ (∀ p ∈ ps, p.2.a < 10 ∧ p.2.b < 10) ∧ ps.length ≤ 100 ∧
  ∀ H', Same H H' → Q (.str (webS (ps.map (·.2)))) H'
theorem ok_text {f : Addr} {fd : FuncData} (F : Fun K "_law_text" "_law_text" sText f fd) (mstr : mg "str" = none) : FnOk P w K mg base CX0 1 f fd ["told"] (spText K) := by
  refine F.ok scText (fun vs H Q E h => ?_) (fun cdv A outer s H vs Q E hr h => ?_)
  · obtain ⟨l, ps, rfl, _⟩ := h
    rfl
  · obtain ⟨l, ps, rfl, hl, hA, hab, hlen, k⟩ := h
    refine ⟨_, (pss_one (ps_ret (pe_joinK K rfl pe_str (pe_lc (own := [("tie", 1)]) (g := gName 1) (tt := tYes) rfl scText.nd (pi_list (pv 0)) (blkOk_by (N := ["told", "tie", "part"]) (own := [("tie", 1)]) (sc := defScope sText) (by decide +kernel)) (fun _ _ _ _ _ => (pg_name (i := 1) scText.nd rfl (.inl rfl))) (fun _ _ _ _ _ => pts_nil) (fun _ _ _ _ _ => (pe_joinK K rfl pe_str (pe_lc (own := [("part", 2)]) (g := gName 2) (tt := tYes) rfl scText.nd (pi_tupK K rfl (pv 1)) (blkOk_by (N := ["told", "tie", "part"]) (own := [("part", 2)]) (by show blkC _ (L2.relS _ (defScope sText)) _ _ = true; decide +kernel)) (fun _ _ _ _ _ => (pg_name (i := 2) scText.nd rfl (.inl rfl))) (fun _ _ _ _ _ => pts_nil) (fun _ _ _ _ _ => (pe_callTy (CallR.or call_str_int SkE.call_str_str) (by rfl) mstr (by decide +kernel) (pa_cons (pv 2) pa_nil)))))))))), ?_⟩
    refine ⟨⟨_, rfl⟩, _, rfl, l, rfl, ⟨_, SqL.of hl⟩, fun D nD => ?_⟩
    refine lc_list (K := K) (a := l) (xs := refs ps) (fun i H' => Same H H' ∧ H' D = some (.lst (((ps.take i).map fun p => lineS p.2).map V.str))) ⟨same_upd nD, upd_same⟩ (fun i H' _ ⟨s, _⟩ => SqL.of (s _ _ hl)) ?_ ?_
    · rintro i x H1 hx ⟨s1, hD⟩
      obtain ⟨⟨p, t⟩, hk, rfl⟩ := refs_get hx
      have hp : H1 p = some (.tup (tieV t)) := s1 _ _ (hA _ (List.mem_of_getElem? hk))
      obtain ⟨ta, tb⟩ := hab _ (List.mem_of_getElem? hk)
      refine ⟨rfl, ⟨_, rfl⟩, _, rfl, p, rfl, ⟨_, SqT.of hp⟩, fun D2 nD2 => ?_⟩
      refine lc_tup (K := K) (a := p) (xs := tieV t) (fun j H' => Same H1 H' ∧ H' D2 = some (.lst (((partsS t).take j).map V.str))) ⟨same_upd nD2, upd_same⟩ (fun j H' _ ⟨s, _⟩ => SqT.of (s _ _ hp)) ?_ ?_
      · rintro j x H2 hx ⟨s2, hD2⟩
        have hj4 : j < 4 := (List.getElem?_eq_some_iff.mp hx).1
        have acc : ∀ y : Str, (partsS t)[j]? = some y → ((upd H2 D2 (.lst (((partsS t).take j).map V.str ++ [.str y]))) D2 = some (.lst (((partsS t).take (j + 1)).map V.str))) := fun y hy => by
          rw [upd_same, List.take_succ, hy, List.map_append]
          rfl
        have sz : (((partsS t).take j).map V.str).length < sizeLine := by
          rw [List.length_map, List.length_take]
          exact small1000 (by omega)
        have ta' : t.a < 10 := ta
        have tb' : t.b < 10 := tb
        obtain rfl | rfl | rfl | rfl : j = 0 ∨ j = 1 ∨ j = 2 ∨ j = 3 := by omega
        · obtain rfl := Option.some.inj hx
          exact ⟨rfl, _, rfl, .inl ⟨_, rfl, num_log (by omega), _, hD2, sz, s2.own nD2, by rw [num_str _ ta']; exact acc _ rfl⟩⟩
        · obtain rfl := Option.some.inj hx
          exact ⟨rfl, _, rfl, .inr ⟨_, rfl, _, hD2, sz, s2.own nD2, acc _ rfl⟩⟩
        · obtain rfl := Option.some.inj hx
          exact ⟨rfl, _, rfl, .inl ⟨_, rfl, num_log (by omega), _, hD2, sz, s2.own nD2, by rw [num_str _ tb']; exact acc _ rfl⟩⟩
        · obtain rfl := Option.some.inj hx
          exact ⟨rfl, _, rfl, .inr ⟨_, rfl, _, hD2, sz, s2.own nD2, acc _ rfl⟩⟩
      · rintro H2 ⟨s2, hD2⟩
        have hD2' : H2 D2 = some (.lst ((partsS t).map V.str)) := hD2
        have nDD : D ≠ D2 := ne_of_none hD nD2
        have hDD : H2 D = some _ := s2 _ _ hD
        refine ⟨_, _, _, rfl, rfl, .inl (SqL.of hD2'), (by show (4 + 4 * 1 : Nat) ≤ 16777216; decide), _, hDD, ?_, ((Same.trans s1 s2).own nD), ?_⟩
        · rw [List.length_map, List.length_map, List.length_take]
          exact small1000 (by omega)
        · rw [upd_same, List.take_succ, hk, List.map_append, List.map_append, line_join]
          rfl
    · rintro H1 ⟨s1, hD⟩
      rw [refs_len, List.take_length] at hD
      have e : ps.map (fun p => lineS p.2) = (ps.map (·.2)).map lineS := by rw [List.map_map]; rfl
      rw [e] at hD
      refine ⟨_, _, _, rfl, rfl, .inl (SqL.of hD), ?_, ?_⟩
      · have e1 : ("\n" : Str).length = 1 := by decide +kernel
        rw [lines_sum, e1]
        simp only [List.length_map]
        omega
      · rw [text_join]
        exact k _ s1
end
end Wh

namespace Wh
open PySem L2
abbrev sCount : Stmt := topS 26
abbrev sDoors : Stmt := topS 30
abbrev sWays : Stmt := topS 53
theorem scCount : FnScope ["ties", "tie"] ["ties"] (defScope sCount) := ⟨rfl, rfl, rfl, by decide +kernel, rfl, by decide +kernel, by decide +kernel⟩
theorem scDoors : FnScope ["ties", "doors", "low", "mark", "high", "back", "_"] ["ties"] (defScope sDoors) := ⟨rfl, rfl, rfl, by decide +kernel, rfl, by decide +kernel, by decide +kernel⟩
theorem scWays : FnScope ["told", "found", "first", "mark", "last", "other", "tie", "house"] ["told"] (defScope sWays) := ⟨rfl, rfl, rfl, by decide +kernel, rfl, by decide +kernel, by decide +kernel⟩
/-- the greatest house -/
theorem max_top {n : Nat} {ps : List (Addr × Tie)} (w : WebOk n (ps.map (·.2))) {m : Int} (hm : m ∈ ps.map fun p => (p.2.b : Int)) (hle : ∀ y ∈ ps.map (fun p => (p.2.b : Int)), y ≤ m) : m + 1 = (n : Int) := by
  obtain ⟨p, hp, rfl⟩ := List.mem_map.mp hm
  obtain ⟨t, ht, e⟩ := w.top
  obtain ⟨q, hq, rfl⟩ := List.mem_map.mp ht
  have h1 := hle (q.2.b : Int) (List.mem_map.mpr ⟨q, hq, rfl⟩)
  have h2 := (w.lt p.2 (List.mem_map_of_mem hp)).2
  omega
section
variable {P : Program} {w : World} {K : PySem.W.Frag} {mg : Str → Option Value} {base : Heap}
def spCount (K : PySem.W.Frag) : Sp := fun vs H Q _ => ∃ (l : Addr) (ps : List (Addr × Tie)) (n : Nat), vs = [.ref l] ∧ H l = some (.lst (refs ps)) ∧ At tieV H ps ∧ WebOk n (ps.map (·.2)) ∧ ∀ H', Same H H' → Q (.int (n : Int)) H'
theorem ok_count {f : Addr} {fd : FuncData} (F : Fun K "count_houses" "count_houses" sCount f fd) (mmax : mg "max" = none) : FnOk P w K mg base CX0 1 f fd ["ties"] (spCount K) := by
  refine F.ok scCount (fun vs H Q E h => ?_) (fun cdv A outer s H vs Q E hr h => ?_)
  · obtain ⟨l, ps, n, rfl, _⟩ := h
    rfl
  · obtain ⟨l, ps, n, rfl, hl, hA, wk, k⟩ := h
    refine ⟨_, (pss_one (ps_ret (pe_op op_add (pe_callB (cr_max rfl) (by rfl) mmax (by decide +kernel) (pa_cons (pe_lc (own := [("tie", 1)]) (g := gName 1) (tt := tYes) rfl scCount.nd (pi_list (pv 0)) (blkOk_by (N := ["ties", "tie"]) (own := [("tie", 1)]) (sc := defScope sCount) (by decide +kernel)) (fun _ _ _ _ _ => (pg_name (i := 1) scCount.nd rfl (.inl rfl))) (fun _ _ _ _ _ => pts_nil) (fun _ _ _ _ _ => (pe_ix (ix_tupK K rfl) (pv 1) pe_int (fun _ _ => rfl)))) pa_nil)) pe_int))), ?_⟩
    refine ⟨_, rfl, l, rfl, ⟨_, SqL.of hl⟩, fun D nD => ?_⟩
    refine lc_list (K := K) (a := l) (xs := refs ps) (fun i H' => Same H H' ∧ H' D = some (.lst (((ps.map fun p => (p.2.b : Int)).take i).map V.int))) ⟨same_upd nD, upd_same⟩ (fun i H' _ ⟨s, _⟩ => SqL.of (s _ _ hl)) ?_ ?_
    · rintro i x H1 hx ⟨s1, hD⟩
      obtain ⟨⟨p, t⟩, hk, rfl⟩ := refs_get hx
      have hp : H1 p = some (.tup (tieV t)) := s1 _ _ (hA _ (List.mem_of_getElem? hk))
      refine ⟨rfl, _, rfl, p, _, _, _, rfl, rfl, SqT.of hp, rfl, _, hD, ?_, s1.own nD, ?_⟩
      · have := wk.len
        rw [List.length_map] at this
        rw [List.length_map, List.length_take, List.length_map]
        exact small1000 (by omega)
      · rw [upd_same, List.take_succ, List.getElem?_map, hk, List.map_append]
        rfl
    · rintro H1 ⟨s1, hD⟩
      rw [refs_len, List.take_of_length_le (by rw [List.length_map]; exact Nat.le_refl _)] at hD
      refine ⟨D, _, rfl, SqL.of hD, ?_, fun m hm hle => ?_⟩
      · have := wk.ne
        rw [List.length_map]
        exact List.length_pos_iff.mpr fun e => this (by rw [e]; rfl)
      · refine ⟨_, _, rfl, rfl, ?_⟩
        show Q (.int (m + 1)) H1
        rw [max_top wk hm hle]
        exact k H1 s1
def spDoors (K : PySem.W.Frag) : Sp := fun vs H Q _ => ∃ (l : Addr) (ps : List (Addr × Tie)) (n : Nat), vs = [.ref l] ∧ H l = some (.lst (refs ps)) ∧ At tieV H ps ∧ WebOk n (ps.map (·.2)) ∧
  ∀ (dl : Addr) (ds : List Addr) (H' : Hp), Same H H' → Dr H' dl ds n (ps.map (·.2)) → H dl = none → (∀ a ∈ ds, H a = none) → Q (.ref dl) H'
/-- the empty dicts -/
theorem rd_dicts {n : Nat} {H0 H1 : Hp} {σ : St} {vs : List Nat} {i : Nat} {D : Addr} {Qd : Hp → Prop} (s1 : Same H0 H1) (hn : n ≤ 10) (nD : H1 D = none)
    (k : ∀ (ds : List Addr) (H' : Hp), Same H0 H' → Dr H' D ds n [] → (∀ a ∈ ds, H0 a = none) → Qd H') (hw : ∀ v, wipe ((wipe σ vs).set i (some v)) vs = wipe σ vs) :
    ∃ W : Nat → Nat → Hp → Prop, (∃ m, W 0 m (upd H1 D (.lst []))) ∧ ∀ j m H, W j m H →
      ((Itr 0 n).stop j H ∧ Qd H) ∨ ((Itr 0 n).go j H ∧ ∃ Nx : Hp → Prop, (∀ H', Nx H' → ∃ m', m' < m ∧ W (j + 1) m' H') ∧ ∀ x H', (Itr 0 n).yld j H x H' → gName i x (wipe σ vs) H' fun σ2 H2 => wipe σ2 vs = wipe σ vs ∧ tYes σ2 H2 fun b H3 =>
        if b = true then tDNewK σ2 H3 fun y H4 => ∃ acc, H4 D = some (.lst acc) ∧ acc.length < sizeLine ∧ Nx (upd H4 D (.lst (acc ++ [y]))) else Nx H3) := by
  have nD0 : H0 D = none := s1.free nD
  refine lc_range (lo := 0) (n := n) (fun i H' => Same H0 H' ∧ ∃ us : List Addr, H' D = some (.lst (us.map V.ref)) ∧ us.length = i ∧ us.Nodup ∧ D ∉ us ∧ ∀ a ∈ us, H0 a = none ∧ H' a = some (.dK []))
    ⟨s1.put nD, [], upd_same, rfl, List.nodup_nil, (fun z => by cases z), (fun a z => by cases z)⟩ ?_ ?_
  · rintro i H4 hi ⟨s4, us, hu4, ul, und, nuu, hus⟩
    refine ⟨hw _, fun q nq => ?_⟩
    have nuq : D ≠ q := ne_of_none hu4 nq
    refine ⟨us.map V.ref, put_ne hu4 nuq, (by rw [List.length_map, ul]; exact small1000 (by omega)), ((s4.put nq).own nD0), us ++ [q], ?_, ?_, ?_, ?_, ?_⟩
    · rw [upd_same, List.map_append]
      rfl
    · rw [List.length_append, ul]
      rfl
    · exact nd_snoc und fun z => by
        rw [(hus q z).2] at nq
        cases nq
    · intro z
      rcases List.mem_append.mp z with z | z
      · exact nuu z
      · exact nuq (List.mem_singleton.mp z)
    · intro a z
      rcases List.mem_append.mp z with z | z
      · have nau : a ≠ D := fun e => nuu (e ▸ z)
        exact ⟨(hus a z).1, by rw [upd_ne nau]; exact put_old (hus a z).2 nq⟩
      · rw [List.mem_singleton.mp z]
        exact ⟨s4.free nq, put_ne upd_same nuq.symm⟩
  · rintro H4 ⟨s4, us, hu4, ul, und, nuu, hus⟩
    exact k us H4 s4 ⟨hu4, ul, List.nodup_cons.mpr ⟨nuu, und⟩, fun h a e => (hus a (List.mem_of_getElem? e)).2⟩ fun a ha => (hus a ha).1
theorem ok_doors {f fC : Addr} {fd fdC : FuncData} (F : Fun K "doors_of" "doors_of" sDoors f fd) (mmax : mg "max" = none) (mrange : mg "range" = none) (FC : Fun K "count_houses" "count_houses" sCount fC fdC) (bC : Binds K fdC ["ties"] []) (mC : mg "count_houses" = some (.ref fC)) :
    FnOk P w K mg base CX0 2 f fd ["ties"] (spDoors K) := by
  have GC : FnOk P w K mg base CX0 1 fC fdC ["ties"] (spCount K) := ok_count FC mmax
  refine F.ok scDoors (fun vs H Q E h => ?_) (fun cdv A outer s H vs Q E hr h => ?_)
  · obtain ⟨l, ps, n, rfl, _⟩ := h
    rfl
  · obtain ⟨l, ps, n, rfl, hl, hA, wk, k⟩ := h
    refine ⟨_, (C8.pss_cut (ps_setLc (i := 1) (own := [("_", 6)]) (g := gName 6) (tt := tYes) rfl scDoors.nd rfl rfl (sw_true rfl rfl rfl (by decide +kernel)) (pi_range1 (by rfl) mrange (pa_cons (pe_call GC hr (by rfl) mC FC.kp bC .nil pass0 (pa_cons (pv 0) pa_nil)) pa_nil)) (blkOk_by (N := ["ties", "doors", "low", "mark", "high", "back", "_"]) (own := [("_", 6)]) (sc := defScope sDoors) (by decide +kernel)) (fun _ _ _ _ _ => (pg_name (i := 6) scDoors.nd rfl (.inl rfl))) (fun _ _ _ _ _ => pts_nil) (fun _ _ _ _ _ => pe_dnewK)) (C8.pss_cut (ps_for PassesOwn.never rfl (pi_list (pv 0)) (pg_tup (by rfl) (pgs_cons (pg_name (i := 2) scDoors.nd rfl (.inl rfl)) (pgs_cons (pg_name (i := 3) scDoors.nd rfl (.inl rfl)) (pgs_cons (pg_name (i := 4) scDoors.nd rfl (.inl rfl)) (pgs_cons (pg_name (i := 5) scDoors.nd rfl (.inl rfl)) pgs_nil))))) (pss_cons (ps_dput (hu_of hr) (pe_ix ix_list (pv 1) (pv 2) (fun _ _ => rfl)) (pv 3) (pv 4) rfl) (pss_one (ps_dput (hu_of hr) (pe_ix ix_list (pv 1) (pv 4) (fun _ _ => rfl)) (pv 5) (pv 2) rfl)))) (pss_one (ps_ret (pv 1))))), ?_⟩
    refine ⟨fun σ H' => Same H H' ∧ ∃ (dl : Addr) (ds : List Addr), Dr H' dl ds n [] ∧ H dl = none ∧ (∀ a ∈ ds, H a = none) ∧ σ = [some (.ref l), some (.ref dl), none, none, none, none, none], ?_, ?_⟩
    · refine ⟨_, rfl, l, ps, n, rfl, hl, hA, wk, fun H1 s1 => ⟨(n : Int), rfl, by omega, by have := wk.n10; omega, fun D nD => ?_⟩⟩
      rw [show ((n : Int)).toNat = n from Int.toNat_natCast n]
      exact rd_dicts s1 wk.n10 nD (fun ds H' s2 d hn => ⟨s2, D, ds, d, s1.free nD, hn, rfl⟩) fun _ => rfl
    rintro σ H1 ⟨s1, dl, ds, dr, ndl, nds, rfl⟩
    refine ⟨fun σ H' => Same H H' ∧ Dr H' dl ds n (ps.map (·.2)) ∧ ∃ w2 w3 w4 w5 : Option V, σ = [some (.ref l), some (.ref dl), w2, w3, w4, w5, none], ?_, ?_⟩
    · refine ⟨_, rfl, l, rfl, ⟨_, SqL.of (s1 _ _ hl)⟩, for_list (K := K) (a := l) (xs := refs ps) (fun i σ H' => Same H H' ∧ Dr H' dl ds n ((ps.map (·.2)).take i) ∧ ∃ w2 w3 w4 w5 : Option V, σ = [some (.ref l), some (.ref dl), w2, w3, w4, w5, none])
        ⟨s1, dr, none, none, none, none, rfl⟩ (fun i σ H' _ ⟨s, _⟩ => SqL.of (s _ _ hl)) ?_ ?_⟩
      · rintro i x σ H2 hx ⟨s2, d2, w2, w3, w4, w5, rfl⟩
        obtain ⟨⟨p, t⟩, hk, rfl⟩ := refs_get hx
        have hp : H2 p = some (.tup (tieV t)) := s2 _ _ (hA _ (List.mem_of_getElem? hk))
        have hkt : (ps.map (·.2))[i]? = some t := by rw [List.getElem?_map, hk]; rfl
        obtain ⟨tab, tbn⟩ := wk.lt t (List.mem_of_getElem? hkt)
        have ne : t.a ≠ t.b := by omega
        have hi1 : t.a < ds.length := by rw [d2.len]; omega
        have hi2 : t.b < ds.length := by rw [d2.len]; omega
        have g1 : ds[t.a]? = some ds[t.a] := List.getElem?_eq_getElem hi1
        have g2 : ds[t.b]? = some ds[t.b] := List.getElem?_eq_getElem hi2
        have at1 : ∀ {j : Nat} (hj : j < ds.length), atI (ds.map V.ref) (j : Int) = some (.ref ds[j]) := fun {j} hj => atI_nat (by rw [List.getElem?_map, List.getElem?_eq_getElem hj]; rfl)
        obtain ⟨h3, und⟩ := List.nodup_cons.mp d2.nd
        have n12 : ds[t.a] ≠ ds[t.b] := fun z => ne (nd_ix und g1 (by rw [z]; exact g2))
        have sz : ∀ h, (doorsK h ((ps.map (·.2)).take i)).length < sizeLine := fun h => by
          rw [doorsK_len]
          exact small1000 (by have := marksAt_take_len h wk i; omega)
        refine ⟨p, _, rfl, SqT.of hp, rfl, _, _, rfl, _, _, rfl, _, _, rfl, _, _, rfl, rfl, ?_⟩
        refine ⟨_, rfl, _, rfl, _, rfl, dl, _, _, _, rfl, rfl, SqL.of d2.hl, at1 hi1, _, rfl, _, _, rfl, DPut.k (k := Sum.inr (sgn t.m)) (d2.hd _ _ g1) (sz _), ?_⟩
        rw [put_mark _ (mark_new_a wk.uniq hkt ne)]
        have hl2 := put_ne (u := HO.dK (doorsK t.a ((ps.map (·.2)).take i) ++ [(Sum.inr (sgn t.m), V.int (t.b : Int))])) d2.hl (fun z => h3 (z ▸ List.mem_of_getElem? g1))
        have hd2 := put_ne (u := HO.dK (doorsK t.a ((ps.map (·.2)).take i) ++ [(Sum.inr (sgn t.m), V.int (t.b : Int))])) (d2.hd _ _ g2) (fun z => n12 z.symm)
        refine ⟨_, rfl, _, rfl, _, rfl, dl, _, _, _, rfl, rfl, SqL.of hl2, at1 hi2, _, rfl, _, _, rfl, DPut.k (k := Sum.inr (sgn t.o)) hd2 (sz _), ?_⟩
        rw [put_mark _ (mark_new_b wk.uniq hkt ne)]
        refine ⟨((s2.own (nds _ (List.mem_of_getElem? g1))).own (nds _ (List.mem_of_getElem? g2))), ?_, _, _, _, _, rfl⟩
        rw [List.take_succ, hkt]
        exact d2.step t ne g1 g2
      · rintro σ H2 ⟨s2, d2, w2, w3, w4, w5, rfl⟩
        rw [refs_len, List.take_of_length_le (by rw [List.length_map]; exact Nat.le_refl _)] at d2
        exact ⟨s2, d2, _, _, _, _, rfl⟩
    rintro σ H2 ⟨s2, d2, w2, w3, w4, w5, rfl⟩
    exact ⟨_, rfl, k dl ds H2 s2 d2 ndl nds⟩
theorem ok_ways {f : Addr} {fd : FuncData} (F : Fun K "_law_ways" "_law_ways" sWays f fd) (mmax : mg "max" = none) (mrange : mg "range" = none) : FnOk P w K mg base CX0 1 f fd ["told"] (spDoors K) := by
  refine F.ok scWays (fun vs H Q E h => ?_) (fun cdv A outer s H vs Q E hr h => ?_)
  · obtain ⟨l, ps, n, rfl, _⟩ := h
    rfl
  · obtain ⟨l, ps, n, rfl, hl, hA, wk, k⟩ := h
    refine ⟨_, (C8.pss_cut (ps_setLc (i := 1) (own := [("house", 7)]) (g := gName 7) (tt := tYes) rfl scWays.nd rfl rfl (sw_true rfl rfl rfl (by decide +kernel)) (pi_range1 (by rfl) mrange (pa_cons (pe_op op_add pe_int (pe_callB (cr_max rfl) (by rfl) mmax (by decide +kernel) (pa_cons (pe_lc (own := [("tie", 6)]) (g := gName 6) (tt := tYes) rfl scWays.nd (pi_list (pv 0)) (blkOk_by (N := ["told", "found", "first", "mark", "last", "other", "tie", "house"]) (own := [("tie", 6)]) (sc := defScope sWays) (by decide +kernel)) (fun _ _ _ _ _ => (pg_name (i := 6) scWays.nd rfl (.inl rfl))) (fun _ _ _ _ _ => pts_nil) (fun _ _ _ _ _ => (pe_ix (ix_tupK K rfl) (pv 6) pe_int (fun _ _ => rfl)))) pa_nil))) pa_nil)) (blkOk_by (N := ["told", "found", "first", "mark", "last", "other", "tie", "house"]) (own := [("house", 7)]) (sc := defScope sWays) (by decide +kernel)) (fun _ _ _ _ _ => (pg_name (i := 7) scWays.nd rfl (.inl rfl))) (fun _ _ _ _ _ => pts_nil) (fun _ _ _ _ _ => pe_dnewK)) (C8.pss_cut (ps_for PassesOwn.never rfl (pi_list (pv 0)) (pg_tup (by rfl) (pgs_cons (pg_name (i := 2) scWays.nd rfl (.inl rfl)) (pgs_cons (pg_name (i := 3) scWays.nd rfl (.inl rfl)) (pgs_cons (pg_name (i := 4) scWays.nd rfl (.inl rfl)) (pgs_cons (pg_name (i := 5) scWays.nd rfl (.inl rfl)) pgs_nil))))) (pss_cons (ps_dput (hu_of hr) (pe_ix ix_list (pv 1) (pv 2) (fun _ _ => rfl)) (pv 3) (pv 4) rfl) (pss_one (ps_dput (hu_of hr) (pe_ix ix_list (pv 1) (pv 4) (fun _ _ => rfl)) (pv 5) (pv 2) rfl)))) (pss_one (ps_ret (pv 1))))), ?_⟩
    refine ⟨fun σ H' => Same H H' ∧ ∃ (dl : Addr) (ds : List Addr), Dr H' dl ds n [] ∧ H dl = none ∧ (∀ a ∈ ds, H a = none) ∧ σ = [some (.ref l), some (.ref dl), none, none, none, none, none, none], ?_, ?_⟩
    · refine ⟨_, rfl, l, rfl, ⟨_, SqL.of hl⟩, fun D nD => ?_⟩
      refine lc_list (K := K) (a := l) (xs := refs ps) (fun i H' => Same H H' ∧ H' D = some (.lst (((ps.map fun p => (p.2.b : Int)).take i).map V.int))) ⟨same_upd nD, upd_same⟩ (fun i H' _ ⟨s, _⟩ => SqL.of (s _ _ hl)) ?_ ?_
      · rintro i x H1 hx ⟨s1, hD⟩
        obtain ⟨⟨p, t⟩, hk, rfl⟩ := refs_get hx
        have hp : H1 p = some (.tup (tieV t)) := s1 _ _ (hA _ (List.mem_of_getElem? hk))
        refine ⟨rfl, _, rfl, p, _, _, _, rfl, rfl, SqT.of hp, rfl, _, hD, ?_, s1.own nD, ?_⟩
        · have := wk.len
          rw [List.length_map] at this
          rw [List.length_map, List.length_take, List.length_map]
          exact small1000 (by omega)
        · rw [upd_same, List.take_succ, List.getElem?_map, hk, List.map_append]
          rfl
      · rintro H1 ⟨s1, hD⟩
        rw [refs_len, List.take_of_length_le (by rw [List.length_map]; exact Nat.le_refl _)] at hD
        refine ⟨D, _, rfl, SqL.of hD, ?_, fun m hm hle => ?_⟩
        · have := wk.ne
          rw [List.length_map]
          exact List.length_pos_iff.mpr fun e => this (by rw [e]; rfl)
        · have em := max_top wk hm hle
          refine ⟨_, _, rfl, rfl, (1 + m), rfl, by omega, by have := wk.n10; omega, fun D nD => ?_⟩
          rw [show (1 + m).toNat = n by omega]
          exact rd_dicts s1 wk.n10 nD (fun ds H' s2 d hn => ⟨s2, D, ds, d, s1.free nD, hn, rfl⟩) fun _ => rfl
    rintro σ H1 ⟨s1, dl, ds, dr, ndl, nds, rfl⟩
    refine ⟨fun σ H' => Same H H' ∧ Dr H' dl ds n (ps.map (·.2)) ∧ ∃ w2 w3 w4 w5 : Option V, σ = [some (.ref l), some (.ref dl), w2, w3, w4, w5, none, none], ?_, ?_⟩
    · refine ⟨_, rfl, l, rfl, ⟨_, SqL.of (s1 _ _ hl)⟩, for_list (K := K) (a := l) (xs := refs ps) (fun i σ H' => Same H H' ∧ Dr H' dl ds n ((ps.map (·.2)).take i) ∧ ∃ w2 w3 w4 w5 : Option V, σ = [some (.ref l), some (.ref dl), w2, w3, w4, w5, none, none])
        ⟨s1, dr, none, none, none, none, rfl⟩ (fun i σ H' _ ⟨s, _⟩ => SqL.of (s _ _ hl)) ?_ ?_⟩
      · rintro i x σ H2 hx ⟨s2, d2, w2, w3, w4, w5, rfl⟩
        obtain ⟨⟨p, t⟩, hk, rfl⟩ := refs_get hx
        have hp : H2 p = some (.tup (tieV t)) := s2 _ _ (hA _ (List.mem_of_getElem? hk))
        have hkt : (ps.map (·.2))[i]? = some t := by rw [List.getElem?_map, hk]; rfl
        obtain ⟨tab, tbn⟩ := wk.lt t (List.mem_of_getElem? hkt)
        have ne : t.a ≠ t.b := by omega
        have hi1 : t.a < ds.length := by rw [d2.len]; omega
        have hi2 : t.b < ds.length := by rw [d2.len]; omega
        have g1 : ds[t.a]? = some ds[t.a] := List.getElem?_eq_getElem hi1
        have g2 : ds[t.b]? = some ds[t.b] := List.getElem?_eq_getElem hi2
        have at1 : ∀ {j : Nat} (hj : j < ds.length), atI (ds.map V.ref) (j : Int) = some (.ref ds[j]) := fun {j} hj => atI_nat (by rw [List.getElem?_map, List.getElem?_eq_getElem hj]; rfl)
        obtain ⟨h3, und⟩ := List.nodup_cons.mp d2.nd
        have n12 : ds[t.a] ≠ ds[t.b] := fun z => ne (nd_ix und g1 (by rw [z]; exact g2))
        have sz : ∀ h, (doorsK h ((ps.map (·.2)).take i)).length < sizeLine := fun h => by
          rw [doorsK_len]
          exact small1000 (by have := marksAt_take_len h wk i; omega)
        refine ⟨p, _, rfl, SqT.of hp, rfl, _, _, rfl, _, _, rfl, _, _, rfl, _, _, rfl, rfl, ?_⟩
        refine ⟨_, rfl, _, rfl, _, rfl, dl, _, _, _, rfl, rfl, SqL.of d2.hl, at1 hi1, _, rfl, _, _, rfl, DPut.k (k := Sum.inr (sgn t.m)) (d2.hd _ _ g1) (sz _), ?_⟩
        rw [put_mark _ (mark_new_a wk.uniq hkt ne)]
        have hl2 := put_ne (u := HO.dK (doorsK t.a ((ps.map (·.2)).take i) ++ [(Sum.inr (sgn t.m), V.int (t.b : Int))])) d2.hl (fun z => h3 (z ▸ List.mem_of_getElem? g1))
        have hd2 := put_ne (u := HO.dK (doorsK t.a ((ps.map (·.2)).take i) ++ [(Sum.inr (sgn t.m), V.int (t.b : Int))])) (d2.hd _ _ g2) (fun z => n12 z.symm)
        refine ⟨_, rfl, _, rfl, _, rfl, dl, _, _, _, rfl, rfl, SqL.of hl2, at1 hi2, _, rfl, _, _, rfl, DPut.k (k := Sum.inr (sgn t.o)) hd2 (sz _), ?_⟩
        rw [put_mark _ (mark_new_b wk.uniq hkt ne)]
        refine ⟨((s2.own (nds _ (List.mem_of_getElem? g1))).own (nds _ (List.mem_of_getElem? g2))), ?_, _, _, _, _, rfl⟩
        rw [List.take_succ, hkt]
        exact d2.step t ne g1 g2
      · rintro σ H2 ⟨s2, d2, w2, w3, w4, w5, rfl⟩
        rw [refs_len, List.take_of_length_le (by rw [List.length_map]; exact Nat.le_refl _)] at d2
        exact ⟨s2, d2, _, _, _, _, rfl⟩
    rintro σ H2 ⟨s2, d2, w2, w3, w4, w5, rfl⟩
    exact ⟨_, rfl, k dl ds H2 s2 d2 ndl nds⟩
end
end Wh
namespace Wh
open PySem L2
abbrev sInt : Stmt := topS 10
abbrev sHouse : Stmt := topS 13
abbrev sMark : Stmt := topS 14
abbrev sRHouse : Stmt := topS 22
abbrev sRNum : Stmt := topS 23
abbrev sBetw : Stmt := topS 20
abbrev sCountK : Stmt := topS 11
abbrev sIndex : Stmt := topS 12
abbrev sLine : Stmt := topS 19
abbrev sMay : Stmt := topS 21
theorem scInt : FnScope ["value"] ["value"] (defScope sInt) := ⟨rfl, rfl, rfl, by decide +kernel, rfl, by decide +kernel, by decide +kernel⟩
theorem scHouse : FnScope ["value", "houses"] ["value", "houses"] (defScope sHouse) := ⟨rfl, rfl, rfl, by decide +kernel, rfl, by decide +kernel, by decide +kernel⟩
theorem scMark : FnScope ["value"] ["value"] (defScope sMark) := ⟨rfl, rfl, rfl, by decide +kernel, rfl, by decide +kernel, by decide +kernel⟩
theorem scCountK : FnScope ["value"] ["value"] (defScope sCountK) := ⟨rfl, rfl, rfl, by decide +kernel, rfl, by decide +kernel, by decide +kernel⟩
theorem scIndex : FnScope ["value", "many"] ["value", "many"] (defScope sIndex) := ⟨rfl, rfl, rfl, by decide +kernel, rfl, by decide +kernel, by decide +kernel⟩
theorem scRNum : FnScope ["part", "most", "number"] ["part", "most"] (defScope sRNum) := ⟨rfl, rfl, rfl, by decide +kernel, rfl, by decide +kernel, by decide +kernel⟩
theorem scBetw : FnScope ["house", "mark", "other", "back"] ["house", "mark", "other", "back"] (defScope sBetw) := ⟨rfl, rfl, rfl, by decide +kernel, rfl, by decide +kernel, by decide +kernel⟩
theorem scRHouse : FnScope ["part"] ["part"] (defScope sRHouse) := ⟨rfl, rfl, rfl, by decide +kernel, rfl, by decide +kernel, by decide +kernel⟩
theorem scLine : FnScope ["line", "parts", "house", "other", "mark", "back"] ["line"] (defScope sLine) := ⟨rfl, rfl, rfl, by decide +kernel, rfl, by decide +kernel, by decide +kernel⟩
theorem scMay : FnScope ["part"] ["part"] (defScope sMay) := ⟨rfl, rfl, rfl, by decide +kernel, rfl, by decide +kernel, by decide +kernel⟩
section
variable {P : Program} {w : World} {K : PySem.W.Frag} {mg : Str → Option Value} {base : Heap}
/-! ### is_integer, is_house, is_mark -/
def spInt : Sp := fun vs H Q _ => ∃ z : Int, vs = [.int z] ∧ Q (.bl true) H
theorem ok_isint {f : Addr} {fd : FuncData} (F : Fun K "is_integer" "is_integer" sInt f fd) (misi : mg "isinstance" = none) (mint : mg "int" = none) (mbool : mg "bool" = none) : FnOk P w K mg base CX0 1 f fd ["value"] spInt := by
  refine F.ok scInt (fun vs H Q E h => ?_) (fun cdv A outer s H vs Q E hr h => ?_)
  · obtain ⟨z, rfl, _⟩ := h
    rfl
  · obtain ⟨z, rfl, k⟩ := h
    refine ⟨_, (pss_one (ps_ret (pe_and (pe_callB call_isi (by rfl) misi (by decide +kernel) (pa_cons (pv 0) (pa_cons (pe_bltn (by rfl) mint (by decide +kernel) (show RelV (.ty "int") _ from rfl)) pa_nil))) (pe_one (pe_not (pe_callB call_isi (by rfl) misi (by decide +kernel) (pa_cons (pv 0) (pa_cons (pe_bltn (by rfl) mbool (by decide +kernel) (show RelV (.ty "bool") _ from rfl)) pa_nil)))))))), ?_⟩
    refine ⟨_, rfl, _, _, _, _, true, rfl, .ty "int", .base (.int z), kit_ty (by decide +kernel), true, rfl, ?_⟩
    refine iteT ⟨_, rfl, _, _, _, _, false, rfl, .ty "bool", .base (.int z), kit_ty (by decide +kernel), false, rfl, k⟩
def spHouse : Sp := fun vs H Q _ => ∃ z n : Int, vs = [.int z, .int n] ∧ Q (.bl (decide (0 ≤ z ∧ z < n))) H
def spCountK : Sp := fun vs H Q _ => ∃ z : Int, vs = [.int z] ∧ Q (.bl (decide (0 ≤ z))) H
theorem ok_iscount {f fI : Addr} {fd fdI : FuncData} (F : Fun K "is_count" "is_count" sCountK f fd)
    (GI : FnOk P w K mg base CX0 1 fI fdI ["value"] spInt) (FI : Fun K "is_integer" "is_integer" sInt fI fdI) (bI : Binds K fdI ["value"] []) (mI : mg "is_integer" = some (.ref fI)) : FnOk P w K mg base CX0 2 f fd ["value"] spCountK := by
  refine F.ok scCountK (fun vs H Q E h => ?_) (fun cdv A outer s H vs Q E hr h => ?_)
  · obtain ⟨z, rfl, _⟩ := h
    rfl
  · obtain ⟨z, rfl, k⟩ := h
    refine ⟨_, (pss_one (ps_ret (pe_and (pe_call GI hr (by rfl) mI FI.kp bI .nil pass0 (pa_cons (pv 0) pa_nil)) (pe_one (pe_cmpR op_ge (pv 0) pe_int (nomark _)))))), ?_⟩
    refine ⟨_, rfl, z, rfl, true, rfl, ?_⟩
    refine iteT ⟨_, rfl, _, _, rfl, rfl, ?_⟩
    exact k
def spIndex : Sp := fun vs H Q _ => ∃ z n : Int, vs = [.int z, .int n] ∧ Q (.bl (decide (0 ≤ z ∧ z < n))) H
theorem ok_isindex {f fC : Addr} {fd fdC : FuncData} (F : Fun K "is_index" "is_index" sIndex f fd)
    (GC : FnOk P w K mg base CX0 2 fC fdC ["value"] spCountK) (FC : Fun K "is_count" "is_count" sCountK fC fdC) (bC : Binds K fdC ["value"] []) (mC : mg "is_count" = some (.ref fC)) : FnOk P w K mg base CX0 3 f fd ["value", "many"] spIndex := by
  refine F.ok scIndex (fun vs H Q E h => ?_) (fun cdv A outer s H vs Q E hr h => ?_)
  · obtain ⟨z, n, rfl, _⟩ := h
    rfl
  · obtain ⟨z, n, rfl, k⟩ := h
    refine ⟨_, (pss_one (ps_ret (pe_and (pe_call GC hr (by rfl) mC FC.kp bC .nil pass0 (pa_cons (pv 0) pa_nil)) (pe_one (pe_cmpR op_lt (pv 0) (pv 1) (nomark _)))))), ?_⟩
    refine ⟨_, rfl, z, rfl, _, rfl, ?_⟩
    refine ite2 (fun h0 => ?_) (fun h0 => ?_)
    · have h0 := of_decide_eq_true h0
      refine ⟨_, rfl, _, rfl, _, _, rfl, rfl, ?_⟩
      have e : decide (z < n) = decide (0 ≤ z ∧ z < n) := by
        by_cases q : z < n <;> simp [q, h0]
      show Q (.bl (decide (z < n))) H
      rw [e]
      exact k
    · have e : decide (0 ≤ z ∧ z < n) = false := decide_eq_false fun q => h0 (decide_eq_true q.1)
      rw [e] at k
      exact k
theorem ok_ishouse {f fI : Addr} {fd fdI : FuncData} (F : Fun K "is_house" "is_house" sHouse f fd)
    (GI : FnOk P w K mg base CX0 3 fI fdI ["value", "many"] spIndex) (FI : Fun K "is_index" "is_index" sIndex fI fdI) (bI : Binds K fdI ["value", "many"] []) (mI : mg "is_index" = some (.ref fI)) :
    FnOk P w K mg base CX0 4 f fd ["value", "houses"] spHouse := by
  refine F.ok scHouse (fun vs H Q E h => ?_) (fun cdv A outer s H vs Q E hr h => ?_)
  · obtain ⟨z, n, rfl, _⟩ := h
    rfl
  · obtain ⟨z, n, rfl, k⟩ := h
    refine ⟨_, (pss_one (ps_ret (pe_call GI hr (by rfl) mI FI.kp bI .nil pass0 (pa_cons (pv 0) (pa_cons (pv 1) pa_nil))))), ?_⟩
    exact ⟨_, rfl, _, rfl, z, n, rfl, k⟩
def spMark : Sp := fun vs H Q _ => ∃ c : Nat, vs = [.str (sgn c)] ∧ Q (.bl (decide (c ∈ letters))) H
theorem ok_ismark {f : Addr} {fd : FuncData} (F : Fun K "is_mark" "is_mark" sMark f fd) (misi : mg "isinstance" = none) (mstr : mg "str" = none) (mlen : mg "len" = none) {tM : Tok} (mM : mg "MARKS" = some (.str "abcdefghijkl" tM)) : FnOk P w K mg base CX0 1 f fd ["value"] spMark := by
  refine F.ok scMark (fun vs H Q E h => ?_) (fun cdv A outer s H vs Q E hr h => ?_)
  · obtain ⟨z, rfl, _⟩ := h
    rfl
  · obtain ⟨c, rfl, k⟩ := h
    refine ⟨_, (pss_one (ps_ret (pe_and (pe_callB call_isi (by rfl) misi (by decide +kernel) (pa_cons (pv 0) (pa_cons (pe_bltn (by rfl) mstr (by decide +kernel) (show RelV (.ty "str") _ from rfl)) pa_nil))) (pe_and (pe_cmpR op_eq (pe_callB call_len_str (by rfl) mlen PySem.boot_len (pa_cons (pv 0) pa_nil)) pe_int (nomark _)) (pe_one (pe_cmpR op_in_sign (pv 0) (pe_glob (v := .str "abcdefghijkl") rfl mM ⟨_, rfl⟩) (by rfl))))))), ?_⟩
    refine ⟨_, rfl, _, _, _, _, true, rfl, .ty "str", .base (.str _), kit_ty (by decide +kernel), true, rfl, ?_⟩
    refine iteT ⟨_, rfl, _, rfl, (by show 1 ≤ sizeLine; decide), rfl, _, rfl, ?_⟩
    refine iteT ⟨_, rfl, c, _, rfl, rfl, ?_⟩
    have e : decide (c ∈ ("abcdefghijkl" : Str).cps.toList) = decide (c ∈ letters) := by
      rw [letters_str]
      rfl
    rw [e]
    exact k
/-! ### may_be_mark: a letter, or one that is unread -/
def mayB (c : Nat) : Bool := decide (c ∈ letters) || decide (c = 63)
theorem unread_sgn : ("?" : Str) = sgn 63 := by decide +kernel
def spMay : Sp := fun vs H Q _ => ∃ c : Nat, vs = [.str (sgn c)] ∧ Q (.bl (mayB c)) H
theorem ok_may {f fM : Addr} {fd fdM : FuncData} (F : Fun K "may_be_mark" "may_be_mark" sMay f fd) {tU : Tok} (mU : mg "UNREAD" = some (.str "?" tU))
    (GM : FnOk P w K mg base CX0 1 fM fdM ["value"] spMark) (FM : Fun K "is_mark" "is_mark" sMark fM fdM) (bM : Binds K fdM ["value"] []) (mM : mg "is_mark" = some (.ref fM)) : FnOk P w K mg base CX0 2 f fd ["part"] spMay := by
  refine F.ok scMay (fun vs H Q E h => ?_) (fun cdv A outer s H vs Q E hr h => ?_)
  · obtain ⟨z, rfl, _⟩ := h
    rfl
  · obtain ⟨c, rfl, k⟩ := h
    refine ⟨_, (pss_one (ps_ret (pe_or (pe_call GM (hr.mono (by decide)) (by rfl) mM FM.kp bM .nil pass0 (pa_cons (pv 0) pa_nil)) (pe_one (pe_cmpR op_eq (pv 0) (pe_glob (v := .str "?") rfl mU ⟨_, rfl⟩) (nomark _)))))), ?_⟩
    refine ⟨_, rfl, c, rfl, _, rfl, ?_⟩
    by_cases h1 : c ∈ letters
    · have e : mayB c = true := by unfold mayB; rw [decide_eq_true h1]; rfl
      rw [e] at k
      rw [decide_eq_true h1]
      exact iteT k
    · rw [decide_eq_false h1]
      refine iteF ⟨_, rfl, rfl, ?_⟩
      have e : decide (V.str (sgn c) = V.str ("?" : Str)) = mayB c := by
        unfold mayB
        rw [decide_eq_false h1, Bool.false_or]
        by_cases h2 : c = 63
        · rw [decide_eq_true h2, h2]
          exact decide_eq_true (by rw [unread_sgn])
        · rw [decide_eq_false h2]
          refine decide_eq_false fun z => h2 (sgn_inj ?_)
          rw [← unread_sgn]
          exact V.str.inj z
      rw [e]
      exact k
/-! ### read_house, read_line -/
def spRHouse : Sp := fun vs H Q _ => ∃ a : Nat, a < 10 ∧ vs = [.str (sgn (48 + a))] ∧ Q (.int (a : Int)) H
def spRNum : Sp := fun vs H Q _ => ∃ a : Nat, a < 10 ∧ vs = [.str (sgn (48 + a)), .int 9] ∧ Q (.int (a : Int)) H
theorem ok_rnum {f : Addr} {fd : FuncData} (F : Fun K "read_number" "read_number" sRNum f fd) (mrange : mg "range" = none) (mstr : mg "str" = none) : FnOk P w K mg base CX0 1 f fd ["part", "most"] spRNum := by
  refine F.ok scRNum (fun vs H Q E h => ?_) (fun cdv A outer s H vs Q E hr h => ?_)
  · obtain ⟨a, ha, rfl, _⟩ := h
    rfl
  · obtain ⟨a, ha, rfl, k⟩ := h
    refine ⟨_, (pss_cons (ps_for PassesOwn.never rfl (pi_range1 (by rfl) mrange (pa_cons (pe_op op_add (pv 1) pe_int) pa_nil)) (pg_name (i := 2) scRNum.nd rfl (.inl rfl)) (pss_one (ps_if (pt_cmpR op_eq (pv 0) (pe_callTy call_str_int (by rfl) mstr (by decide +kernel) (pa_cons (pv 2) pa_nil)) (nomark _)) (pss_one (ps_ret (pv 2))) pss_nil))) (pss_one (ps_ret pe_non))), ?_⟩
    refine ⟨_, rfl, _, _, rfl, rfl, (10 : Int), rfl, by decide, by decide, for_range (lo := 0) (n := 10) (fun i σ H' => H' = H ∧ i ≤ a ∧ ∃ o : Option V, σ = [some (.str (sgn (48 + a))), some (.int 9), o]) ⟨rfl, Nat.zero_le _, none, rfl⟩ ?_ ?_⟩
    · rintro i σ H' hi ⟨rfl, hia, o, rfl⟩
      have e0 : (0 : Int) + (i : Int) = ((i : Nat) : Int) := Int.zero_add _
      rw [e0]
      refine ⟨_, rfl, _, rfl, _, rfl, num_log (by omega), rfl, _, rfl, ?_⟩
      rw [num_str i hi]
      refine ite2 (fun q => ?_) (fun q => ?_)
      · have q := of_decide_eq_true q
        have e : sgn (48 + a) = sgn (48 + i) := V.str.inj q
        have e2 := sgn_inj e
        refine ⟨_, rfl, ?_⟩
        have e3 : i = a := by omega
        rw [e3]
        exact k
      · have ne : a ≠ i := fun e => q (decide_eq_true (by rw [e]))
        exact ⟨rfl, by omega, _, rfl⟩
    · rintro σ H' ⟨rfl, hia, o, rfl⟩
      omega
theorem ok_rhouse {f fN : Addr} {fd fdN : FuncData} (F : Fun K "read_house" "read_house" sRHouse f fd) {tH : Tok} (mH : mg "MOST_HOUSES" = some (.int 10 tH))
    (GN : FnOk P w K mg base CX0 1 fN fdN ["part", "most"] spRNum) (FN : Fun K "read_number" "read_number" sRNum fN fdN) (bN : Binds K fdN ["part", "most"] []) (mN : mg "read_number" = some (.ref fN)) : FnOk P w K mg base CX0 2 f fd ["part"] spRHouse := by
  refine F.ok scRHouse (fun vs H Q E h => ?_) (fun cdv A outer s H vs Q E hr h => ?_)
  · obtain ⟨a, ha, rfl, _⟩ := h
    rfl
  · obtain ⟨a, ha, rfl, k⟩ := h
    refine ⟨_, (pss_one (ps_ret (pe_call GN hr (by rfl) mN FN.kp bN .nil pass0 (pa_cons (pv 0) (pa_cons (pe_op op_sub (pe_glob (v := .int 10) rfl mH ⟨_, rfl⟩) pe_int) pa_nil))))), ?_⟩
    exact ⟨_, rfl, _, _, rfl, rfl, a, ha, rfl, k⟩
/-- the tie of two houses in any order -/
def spBetw : Sp := fun vs H Q _ => ∃ t : Tie, vs = [.int (t.a : Int), sV t.m, .int (t.b : Int), sV t.o] ∧
  ∀ (p : Addr) (H' : Hp), Same H H' → H p = none → H' p = some (.tup (tieV (nrm t))) → Q (.ref p) H'
theorem ok_betw {f : Addr} {fd : FuncData} (F : Fun K "tie_between" "tie_between" sBetw f fd) : FnOk P w K mg base CX0 1 f fd ["house", "mark", "other", "back"] spBetw := by
  refine F.ok scBetw (fun vs H Q E h => ?_) (fun cdv A outer s H vs Q E hr h => ?_)
  · obtain ⟨t, rfl, _⟩ := h
    rfl
  · obtain ⟨t, rfl, k⟩ := h
    refine ⟨_, (pss_cons (ps_if (pt_cmpR op_lt (pv 0) (pv 2) (nomark _)) (pss_one (ps_ret (pe_tup (pa_cons (pv 0) (pa_cons (pv 1) (pa_cons (pv 2) (pa_cons (pv 3) pa_nil))))))) pss_nil) (pss_one (ps_ret (pe_tup (pa_cons (pv 2) (pa_cons (pv 3) (pa_cons (pv 0) (pa_cons (pv 1) pa_nil)))))))), ?_⟩
    refine ⟨_, rfl, _, rfl, _, _, rfl, rfl, _, rfl, ?_⟩
    by_cases c : t.a < t.b
    · rw [decide_eq_true (show (t.a : Int) < (t.b : Int) by omega)]
      rw [nrm_id c] at k
      exact iteT ⟨_, rfl, _, rfl, _, rfl, _, rfl, (by show 4 ≤ sizeLine; decide), fun q nq => k q _ (same_upd nq) nq upd_same⟩
    · rw [decide_eq_false (show ¬ (t.a : Int) < (t.b : Int) by omega)]
      have e : nrm t = ⟨t.b, t.o, t.a, t.m⟩ := if_neg c
      rw [e] at k
      exact iteF ⟨_, rfl, _, rfl, _, rfl, _, rfl, (by show 4 ≤ sizeLine; decide), fun q nq => k q _ (same_upd nq) nq upd_same⟩
def spLine (K : PySem.W.Frag) : Sp := fun vs H Q _ => ∃ t : Tie, vs = [.str (lineS t)] ∧ RawOk t ∧
  ∀ (p : Addr) (H' : Hp), Same H H' → H p = none → H' p = some (.tup (tieV (nrm t))) → Q (.ref p) H'
theorem ok_line {f fH fY fB : Addr} {fd fdH fdY fdB : FuncData} (F : Fun K "read_line" "read_line" sLine f fd) (mlen : mg "len" = none)
    (GH : FnOk P w K mg base CX0 2 fH fdH ["part"] spRHouse) (FH : Fun K "read_house" "read_house" sRHouse fH fdH) (bH : Binds K fdH ["part"] []) (mH : mg "read_house" = some (.ref fH))
    (GY : FnOk P w K mg base CX0 2 fY fdY ["part"] spMay) (FY : Fun K "may_be_mark" "may_be_mark" sMay fY fdY) (bY : Binds K fdY ["part"] []) (mY : mg "may_be_mark" = some (.ref fY))
    (GB : FnOk P w K mg base CX0 1 fB fdB ["house", "mark", "other", "back"] spBetw) (FB : Fun K "tie_between" "tie_between" sBetw fB fdB) (bB : Binds K fdB ["house", "mark", "other", "back"] []) (mB : mg "tie_between" = some (.ref fB)) :
    FnOk P w K mg base CX0 3 f fd ["line"] (spLine K) := by
  refine F.ok scLine (fun vs H Q E h => ?_) (fun cdv A outer s H vs Q E hr h => ?_)
  · obtain ⟨t, rfl, _⟩ := h
    rfl
  · obtain ⟨t, rfl, ⟨tab, ta, tb, tm, to⟩, k⟩ := h
    have hr1 : Room 1 _ := hr.mono (by decide)
    have hr2 : Room 2 _ := hr
    have may : ∀ c ∈ letters, mayB c = true := fun c hc => by unfold mayB; rw [decide_eq_true hc]; rfl
    refine ⟨_, (C8.pss_cut (ps_set (i := 1) scLine.nd rfl (.inl rfl) (pe_split (pv 0) pe_str)) (pss_cons (ps_if (pt_cmpR op_ne (pe_callB call_len_seq (by rfl) mlen PySem.boot_len (pa_cons (pv 1) pa_nil)) pe_int (nomark _)) (pss_one (ps_ret pe_non)) pss_nil) (C8.pss_cut (ps_par (i := 2) (j := 3) (by rfl) scLine.nd rfl rfl (by decide) rfl rfl (pa_cons (pe_call GH hr2 (by rfl) mH FH.kp bH .nil pass0 (pa_cons (pe_ix ix_list (pv 1) pe_int (fun _ _ => rfl)) pa_nil)) (pa_cons (pe_call GH hr2 (by rfl) mH FH.kp bH .nil pass0 (pa_cons (pe_ix ix_list (pv 1) pe_int (fun _ _ => rfl)) pa_nil)) pa_nil)) (by rfl)) (C8.pss_cut (ps_par (i := 4) (j := 5) (by rfl) scLine.nd rfl rfl (by decide) rfl rfl (pa_cons (pe_ix ix_list (pv 1) pe_int (fun _ _ => rfl)) (pa_cons (pe_ix ix_list (pv 1) pe_int (fun _ _ => rfl)) pa_nil)) (by rfl)) (pss_cons (ps_if (PW.pt (pw_or (pt_cmpR op_isN (pv 2) pe_non (nomark _)) (pw_or (pt_cmpR op_isN (pv 3) pe_non (nomark _)) (pw_or1 (pt_cmpR op_eq (pv 2) (pv 3) (nomark _)))))) (pss_one (ps_ret pe_non)) pss_nil) (pss_cons (ps_if (PW.pt (pw_or (pt_not (pt_val (pe_call GY hr2 (by rfl) mY FY.kp bY .nil pass0 (pa_cons (pv 4) pa_nil)))) (pw_or1 (pt_not (pt_val (pe_call GY hr2 (by rfl) mY FY.kp bY .nil pass0 (pa_cons (pv 5) pa_nil))))))) (pss_one (ps_ret pe_non)) pss_nil) (pss_one (ps_ret (pe_call GB hr1 (by rfl) mB FB.kp bB .nil pass0 (pa_cons (pv 2) (pa_cons (pv 4) (pa_cons (pv 3) (pa_cons (pv 5) pa_nil))))))))))))), ?_⟩
    refine ⟨fun σ H' => ∃ p : Addr, H p = none ∧ H' = upd H p (.lst ((partsS t).map V.str)) ∧ σ = [some (.str (lineS t)), some (.ref p), none, none, none, none], ?_, ?_⟩
    · refine ⟨_, rfl, ⟨_, rfl⟩, _, _, rfl, rfl, (by decide +kernel), (by rw [lineS_len]; show 9 ≤ sizeLine; decide), fun p np => ⟨p, np, ?_, rfl⟩⟩
      rw [line_split tm to]
    rintro σ H1 ⟨p, np, rfl, rfl⟩
    have hp : (upd H p (.lst ((partsS t).map V.str))) p = some (.lst ((partsS t).map V.str)) := upd_same
    generalize hH1 : upd H p (.lst ((partsS t).map V.str)) = H1 at hp
    have s1 : Same H H1 := hH1 ▸ same_upd np
    refine ⟨_, rfl, p, _, rfl, .inl (SqL.of hp), rfl, _, rfl, ?_⟩
    refine iteF ?_
    refine ⟨fun σ H' => H1 = H' ∧ σ = [some (.str (lineS t)), some (.ref p), some (.int (t.a : Int)), some (.int (t.b : Int)), none, none], ?_, ?_⟩
    · exact ⟨_, rfl, p, _, _, _, rfl, rfl, SqL.of hp, (rfl : atI ((partsS t).map V.str) 0 = some (.str (sgn (48 + t.a)))), t.a, by omega, rfl, _, rfl, p, _, _, _, rfl, rfl, SqL.of hp, (rfl : atI ((partsS t).map V.str) 2 = some (.str (sgn (48 + t.b)))), t.b, tb, rfl, _, _, rfl, rfl, rfl⟩
    rintro σ H' ⟨rfl, rfl⟩
    refine ⟨fun σ H' => H1 = H' ∧ σ = [some (.str (lineS t)), some (.ref p), some (.int (t.a : Int)), some (.int (t.b : Int)), some (sV t.m), some (sV t.o)], ?_, ?_⟩
    · exact ⟨_, rfl, p, _, _, _, rfl, rfl, SqL.of hp, (rfl : atI ((partsS t).map V.str) 1 = some (sV t.m)), _, rfl, p, _, _, _, rfl, rfl, SqL.of hp, (rfl : atI ((partsS t).map V.str) 3 = some (sV t.o)), _, _, rfl, rfl, rfl⟩
    rintro σ H' ⟨rfl, rfl⟩
    refine ⟨_, rfl, rfl, _, rfl, ?_⟩
    refine iteF ⟨_, rfl, rfl, _, rfl, ?_⟩
    refine iteF ⟨_, rfl, _, rfl, rfl, _, rfl, ?_⟩
    have nab : ¬ (V.int (t.a : Int) = V.int (t.b : Int)) := fun e => by
      have := V.int.inj e
      omega
    rw [decide_eq_false nab]
    refine iteF ?_
    refine ⟨_, rfl, t.m, rfl, _, rfl, ?_⟩
    rw [may _ tm]
    refine iteF ⟨_, rfl, t.o, rfl, _, rfl, ?_⟩
    rw [may _ to]
    refine iteF ?_
    exact ⟨_, rfl, _, rfl, _, rfl, _, rfl, t, rfl, fun p H' s' np hp => k p H' (Same.trans s1 s') (s1.free np) hp⟩
end
end Wh

namespace Wh
open PySem L2
abbrev sApart : Stmt := topS 24
abbrev sHang : Stmt := topS 25
theorem scApart : FnScope ["ties", "pairs", "ends", "low", "mark", "high", "back", "house", "letter"] ["ties"] (defScope sApart) := ⟨rfl, rfl, rfl, by decide +kernel, rfl, by decide +kernel, by decide +kernel⟩
theorem scHang : FnScope ["ties", "reached", "before", "tie"] ["ties"] (defScope sHang) := ⟨rfl, rfl, rfl, by decide +kernel, rfl, by decide +kernel, by decide +kernel⟩
section
variable {P : Program} {w : World} {K : PySem.W.Frag} {mg : Str → Option Value} {base : Heap}
def spApart (K : PySem.W.Frag) : Sp := fun vs H Q _ => ∃ (l : Addr) (ps : List (Addr × Tie)) (n : Nat), vs = [.ref l] ∧ H l = some (.lst (refs ps)) ∧ At tieV H ps ∧ WebOk n (ps.map (·.2)) ∧ ∀ H', Same H H' → Q (.bl true) H'
theorem upd_dT {H : Hp} {d : Addr} {kvs : List (List Key × V)} {o : HO} (hd : H d = some (.dT kvs)) {b : Addr} {xs : List V} (e : H b = some (.tup xs)) : upd H d o b = some (.tup xs) := put_ne e (ne_of e hd (by intro z; cases z))
theorem ok_apart {f : Addr} {fd : FuncData} (F : Fun K "are_apart" "are_apart" sApart f fd) {tU : Tok} (mU : mg "UNREAD" = some (.str "?" tU)) : FnOk P w K mg base CX0 1 f fd ["ties"] (spApart K) := by
  refine F.ok scApart (fun vs H Q E h => ?_) (fun cdv A outer s H vs Q E hr h => ?_)
  · obtain ⟨l, ps, n, rfl, _⟩ := h
    rfl
  · obtain ⟨l, ps, n, rfl, hl, hA, wk, k⟩ := h
    refine ⟨_, (C8.pss_cut (ps_set (i := 1) scApart.nd rfl (.inl rfl) pe_dnewT) (C8.pss_cut (ps_set (i := 2) scApart.nd rfl (.inl rfl) pe_dnewT) (pss_cons (ps_for PassesOwn.never rfl (pi_list (pv 0)) (pg_tup (by rfl) (pgs_cons (pg_name (i := 3) scApart.nd rfl (.inl rfl)) (pgs_cons (pg_name (i := 4) scApart.nd rfl (.inl rfl)) (pgs_cons (pg_name (i := 5) scApart.nd rfl (.inl rfl)) (pgs_cons (pg_name (i := 6) scApart.nd rfl (.inl rfl)) pgs_nil))))) (C8.pss_cut (ps_if (PW.pt (pw_or (pt_cmp (pc_din (hu_of hr) (pe_tup (pa_cons (pv 3) (pa_cons (pv 5) pa_nil))) (pv 1))) (pw_or (pt_cmp (pc_din (hu_of hr) (pe_tup (pa_cons (pv 3) (pa_cons (pv 4) pa_nil))) (pv 2))) (pw_or1 (pt_cmp (pc_din (hu_of hr) (pe_tup (pa_cons (pv 5) (pa_cons (pv 6) pa_nil))) (pv 2))))))) (pss_one (ps_ret pe_bl)) pss_nil) (C8.pss_cut (ps_dput (hu_of hr) (pv 1) (pe_tup (pa_cons (pv 3) (pa_cons (pv 5) pa_nil))) pe_bl rfl) (pss_one (ps_for PassesOwn.never rfl (pi_tup (pe_tup (pa_cons (pe_tup (pa_cons (pv 3) (pa_cons (pv 4) pa_nil))) (pa_cons (pe_tup (pa_cons (pv 5) (pa_cons (pv 6) pa_nil))) pa_nil)))) (pg_tup (by rfl) (pgs_cons (pg_name (i := 7) scApart.nd rfl (.inl rfl)) (pgs_cons (pg_name (i := 8) scApart.nd rfl (.inl rfl)) pgs_nil))) (pss_one (ps_if (pt_cmpR op_ne (pv 8) (pe_glob (v := .str "?") rfl mU ⟨_, rfl⟩) (nomark _)) (pss_one (ps_dput (hu_of hr) (pv 2) (pe_tup (pa_cons (pv 7) (pa_cons (pv 8) pa_nil))) pe_bl rfl)) pss_nil))))))) (pss_one (ps_ret pe_bl))))), ?_⟩
    refine ⟨fun σ H' => Same H H' ∧ ∃ d1 : Addr, H d1 = none ∧ H' d1 = some (.dT []) ∧ σ = [some (.ref l), some (.ref d1), none, none, none, none, none, none, none], ?_, ?_⟩
    · exact fun d1 n1 => ⟨same_upd n1, d1, n1, upd_same, rfl⟩
    rintro σ H1 ⟨s1, d1, n1, e1, rfl⟩
    refine ⟨fun σ H' => Same H H' ∧ ∃ d2 : Addr, H d2 = none ∧ d1 ≠ d2 ∧ H' d1 = some (.dT []) ∧ H' d2 = some (.dT []) ∧ σ = [some (.ref l), some (.ref d1), some (.ref d2), none, none, none, none, none, none], ?_, ?_⟩
    · exact fun d2 n2 => ⟨s1.put n2, d2, s1.free n2, ne_of_none e1 n2, put_old e1 n2, upd_same, rfl⟩
    rintro σ H2 ⟨s2, d2, n2, n12, e1, e2, rfl⟩
    refine ⟨_, rfl, l, rfl, ⟨_, SqL.of (s2 _ _ hl)⟩, for_list (K := K) (a := l) (xs := refs ps) (fun i σ H' => Same H H' ∧ H' d1 = some (.dT (prK ((ps.map (·.2)).take i))) ∧ H' d2 = some (.dT (endK ((ps.map (·.2)).take i))) ∧
        ∃ w3 w4 w5 w6 w7 w8 : Option V, σ = [some (.ref l), some (.ref d1), some (.ref d2), w3, w4, w5, w6, w7, w8])
      ⟨s2, e1, e2, none, none, none, none, none, none, rfl⟩ (fun i σ H' _ ⟨s, _⟩ => SqL.of (s _ _ hl)) ?_ ?_⟩
    · rintro i x σ H3 hx ⟨s3, e1, e2, w3, w4, w5, w6, w7, w8, rfl⟩
      obtain ⟨⟨p, t⟩, hk, rfl⟩ := refs_get hx
      have hp : H3 p = some (.tup (tieV t)) := s3 _ _ (hA _ (List.mem_of_getElem? hk))
      have hkt : (ps.map (·.2))[i]? = some t := by rw [List.getElem?_map, hk]; rfl
      obtain ⟨tab, tbn⟩ := wk.lt t (List.mem_of_getElem? hkt)
      have ne : t.a ≠ t.b := by omega
      have lenT : ((ps.map (·.2)).take i).length ≤ 100 := by
        have := wk.len
        rw [List.length_take]
        omega
      have v1 := prK_no (pr_new wk hkt)
      have v2 := endK_no (mark_new_a wk.uniq hkt ne)
      have v3 := endK_no (mark_new_b wk.uniq hkt ne)
      have v4 := endK_no2 wk hkt
      refine ⟨p, _, rfl, SqT.of hp, rfl, _, _, rfl, _, _, rfl, _, _, rfl, _, _, rfl, rfl, ?_⟩
      have sz1 : (prK ((ps.map (·.2)).take i)).length < sizeLine := by
        rw [prK_len]
        exact small1000 (by omega)
      have sz2 : (endK ((ps.map (·.2)).take i)).length < sizeLine := by
        rw [endK_len]
        exact small1000 (by omega)
      have sz3 : (endK ((ps.map (·.2)).take i) ++ [(kE t.a t.m, V.bl true)]).length < sizeLine := by
        rw [List.length_append, endK_len]
        exact small1000 (by show 2 * ((ps.map (·.2)).take i).length + 1 ≤ 1000; omega)
      refine ⟨fun σ H' => Same H H' ∧ H' d1 = some (.dT (prK ((ps.map (·.2)).take i))) ∧ H' d2 = some (.dT (endK ((ps.map (·.2)).take i))) ∧
        σ = [some (.ref l), some (.ref d1), some (.ref d2), some (.int (t.a : Int)), some (sV t.m), some (.int (t.b : Int)), some (sV t.o), w7, w8], ?_, ?_⟩
      · refine ⟨_, rfl, _, rfl, (by show 2 ≤ sizeLine; decide), fun q1 m1 => ?_⟩
        have u1 := put_old (u := HO.tup [.int (t.a : Int), .int (t.b : Int)]) e1 m1
        have u2 := put_old (u := HO.tup [.int (t.a : Int), .int (t.b : Int)]) e2 m1
        refine ⟨_, rfl, d1, _, rfl, DGet.t (k := kP t.pr) u1 upd_same, _, rfl, ?_⟩
        rw [v1]
        refine iteF ⟨_, rfl, _, rfl, (by show 2 ≤ sizeLine; decide), fun q2 m2 => ?_⟩
        have u3 := put_old (u := HO.tup [.int (t.a : Int), sV t.m]) u1 m2
        have u4 := put_old (u := HO.tup [.int (t.a : Int), sV t.m]) u2 m2
        refine ⟨_, rfl, d2, _, rfl, DGet.t (k := kE t.a t.m) u4 upd_same, _, rfl, ?_⟩
        rw [v2]
        refine iteF ⟨_, rfl, _, rfl, (by show 2 ≤ sizeLine; decide), fun q3 m3 => ?_⟩
        have u5 := put_old (u := HO.tup [.int (t.b : Int), sV t.o]) u3 m3
        have u6 := put_old (u := HO.tup [.int (t.b : Int), sV t.o]) u4 m3
        refine ⟨_, rfl, d2, _, rfl, DGet.t (k := kE t.b t.o) u6 upd_same, _, rfl, ?_⟩
        rw [v3]
        exact iteF ⟨((s3.put m1).put m2).put m3, u5, u6, rfl⟩
      rintro σ H6 ⟨s6, u5, u6, rfl⟩
      refine ⟨fun σ H' => Same H H' ∧ H' d1 = some (.dT (prK ((ps.map (·.2)).take i) ++ [(kP t.pr, .bl true)])) ∧ H' d2 = some (.dT (endK ((ps.map (·.2)).take i))) ∧
        σ = [some (.ref l), some (.ref d1), some (.ref d2), some (.int (t.a : Int)), some (sV t.m), some (.int (t.b : Int)), some (sV t.o), w7, w8], ?_, ?_⟩
      · refine ⟨_, rfl, _, rfl, _, rfl, (by show 2 ≤ sizeLine; decide), fun q4 m4 => ⟨d1, _, rfl, DPut.t (k := kP t.pr) (put_old u5 m4) upd_same sz1, ?_⟩⟩
        rw [putK_new _ v1]
        exact ⟨(s6.put m4).own n1, upd_same, put_ne (put_old u6 m4) n12.symm, rfl⟩
      rintro σ H8 ⟨s8, f1, f2, rfl⟩
      -- the two ends, one behind the other
      have nU : ∀ c ∈ letters, ¬ (V.str (sgn c) = V.str ("?" : Str)) := fun c hc e => by
        rw [unread_sgn] at e
        have := sgn_inj (V.str.inj e)
        have := letters_big _ hc
        omega
      obtain ⟨lm, lo⟩ := wk.let_ t (List.mem_of_getElem? hkt)
      refine ⟨_, rfl, _, rfl, (by show 2 ≤ sizeLine; decide), fun q5 m5 => ⟨_, rfl, _, rfl, (by show 2 ≤ sizeLine; decide), fun q6 m6 => ⟨(by show 2 ≤ sizeLine; decide), fun q7 m7 => ?_⟩⟩⟩
      have hq5 := put_old (put_old upd_same m6 : (upd (upd H8 q5 (.tup [.int (t.a : Int), sV t.m])) q6 (.tup [.int (t.b : Int), sV t.o])) q5 = some (.tup [.int (t.a : Int), sV t.m])) m7 (u := HO.tup [.ref q5, .ref q6])
      have hq6 := put_old (upd_same : (upd (upd H8 q5 (.tup [.int (t.a : Int), sV t.m])) q6 (.tup [.int (t.b : Int), sV t.o])) q6 = some (.tup [.int (t.b : Int), sV t.o])) m7 (u := HO.tup [.ref q5, .ref q6])
      have s9 := L2.Same.put (o := HO.tup [V.ref q5, V.ref q6]) ((s8.put m5).put m6) m7
      have g1 := put_old (put_old (put_old f1 m5) m6) m7 (u := HO.tup [.ref q5, .ref q6])
      have g2 := put_old (put_old (put_old f2 m5) m6) m7 (u := HO.tup [.ref q5, .ref q6])
      have hq7 : (upd (upd (upd H8 q5 (.tup [.int (t.a : Int), sV t.m])) q6 (.tup [.int (t.b : Int), sV t.o])) q7 (.tup [.ref q5, .ref q6])) q7 = some (.tup [.ref q5, .ref q6]) := upd_same
      revert hq5 hq6 s9 g1 g2 hq7
      generalize (upd (upd (upd H8 q5 (.tup [.int (t.a : Int), sV t.m])) q6 (.tup [.int (t.b : Int), sV t.o])) q7 (.tup [.ref q5, .ref q6])) = H9
      intro hq5 hq6 s9 g1 g2 hq7
      refine ⟨q7, rfl, ⟨_, SqT.of hq7⟩, for_tup (K := K) (a := q7) (xs := [.ref q5, .ref q6]) (fun j σ H' => (Same H H' ∧ H' d1 = some (.dT (prK ((ps.map (·.2)).take i) ++ [(kP t.pr, .bl true)])) ∧ H' q5 = some (.tup [.int (t.a : Int), sV t.m]) ∧ H' q6 = some (.tup [.int (t.b : Int), sV t.o]) ∧ H' q7 = some (.tup [.ref q5, .ref q6])) ∧
          H' d2 = some (.dT (endK ((ps.map (·.2)).take i) ++ ([(kE t.a t.m, V.bl true), (kE t.b t.o, .bl true)]).take j)) ∧
          ∃ w7 w8 : Option V, σ = [some (.ref l), some (.ref d1), some (.ref d2), some (.int (t.a : Int)), some (sV t.m), some (.int (t.b : Int)), some (sV t.o), w7, w8])
        ⟨⟨s9, g1, hq5, hq6, hq7⟩, (by rw [List.take_zero, List.append_nil]; exact g2), _, _, rfl⟩ (fun j σ H' _ ⟨⟨_, _, _, _, e⟩, _⟩ => SqT.of e) ?_ ?_⟩
      · rintro j x σ H10 hj ⟨⟨s10, g1, hq5, hq6, hq7⟩, g2, w7, w8, rfl⟩
        match j, hj, g2 with
        | 0, hj, g2 =>
          obtain rfl := Option.some.inj hj
          rw [List.take_zero, List.append_nil] at g2
          refine ⟨q5, _, rfl, SqT.of hq5, rfl, _, _, rfl, _, _, rfl, rfl, ?_⟩
          refine ⟨_, rfl, rfl, true, congrArg V.bl (show (!decide (V.str (sgn t.m) = V.str ("?" : Str))) = true by rw [decide_eq_false (nU _ lm)]; rfl), ?_⟩
          refine iteT ⟨_, rfl, _, rfl, _, rfl, (by show 2 ≤ sizeLine; decide), fun q8 m8 => ⟨d2, _, rfl, DPut.t (k := kE t.a t.m) (put_old g2 m8) upd_same sz2, ?_⟩⟩
          rw [putK_new _ v2]
          refine ⟨⟨(s10.put m8).own n2, put_ne (put_old g1 m8) n12, upd_dT (put_old g2 m8) (put_old hq5 m8), upd_dT (put_old g2 m8) (put_old hq6 m8), upd_dT (put_old g2 m8) (put_old hq7 m8)⟩, upd_same, _, _, rfl⟩
        | 1, hj, g2 =>
          obtain rfl := Option.some.inj hj
          refine ⟨q6, _, rfl, SqT.of hq6, rfl, _, _, rfl, _, _, rfl, rfl, ?_⟩
          refine ⟨_, rfl, rfl, true, congrArg V.bl (show (!decide (V.str (sgn t.o) = V.str ("?" : Str))) = true by rw [decide_eq_false (nU _ lo)]; rfl), ?_⟩
          refine iteT ⟨_, rfl, _, rfl, _, rfl, (by show 2 ≤ sizeLine; decide), fun q8 m8 => ⟨d2, _, rfl, DPut.t (k := kE t.b t.o) (put_old g2 m8) upd_same sz3, ?_⟩⟩
          rw [show ([(kE t.a t.m, V.bl true), (kE t.b t.o, .bl true)]).take 1 = [(kE t.a t.m, V.bl true)] from rfl, putK_new _ v4]
          refine ⟨⟨(s10.put m8).own n2, put_ne (put_old g1 m8) n12, upd_dT (put_old g2 m8) (put_old hq5 m8), upd_dT (put_old g2 m8) (put_old hq6 m8), upd_dT (put_old g2 m8) (put_old hq7 m8)⟩, ?_, _, _, rfl⟩
          rw [List.append_assoc]
          exact upd_same
        | j + 2, hj, _ => cases hj
      · rintro σ H10 ⟨⟨s10, g1, _, _, _⟩, g2, w7, w8, rfl⟩
        refine ⟨s10, ?_, ?_, _, _, _, _, _, _, rfl⟩
        · rw [List.take_succ, hkt]
          exact g1.trans (by rw [show (some t).toList = [t] from rfl, prK_snoc])
        · rw [List.take_succ, hkt]
          exact g2.trans (by rw [show (some t).toList = [t] from rfl, endK_snoc, List.append_assoc]; rfl)
    · rintro σ H3 ⟨s3, e1, e2, w3, w4, w5, w6, w7, w8, rfl⟩
      exact k H3 s3
theorem ok_hang {f fC : Addr} {fd fdC : FuncData} (F : Fun K "hang_together" "hang_together" sHang f fd) (mlen : mg "len" = none) (mmax : mg "max" = none) (FC : Fun K "count_houses" "count_houses" sCount fC fdC) (bC : Binds K fdC ["ties"] []) (mC : mg "count_houses" = some (.ref fC)) :
    FnOk P w K mg base CX0 2 f fd ["ties"] (spApart K) := by
  have GC : FnOk P w K mg base CX0 1 fC fdC ["ties"] (spCount K) := ok_count FC mmax
  refine F.ok scHang (fun vs H Q E h => ?_) (fun cdv A outer s H vs Q E hr h => ?_)
  · obtain ⟨l, ps, n, rfl, _⟩ := h
    rfl
  · obtain ⟨l, ps, n, rfl, hl, hA, wk, k⟩ := h
    have n2 := wk.n2
    have n10 := wk.n10
    refine ⟨_, (C8.pss_cut (ps_set (i := 1) scHang.nd rfl (.inl rfl) (pe_disp (pps_cons pe_int pe_bl pps_nil) (by rfl) (by rfl) (fun z => by cases z) (by decide))) (pss_cons (ps_set (i := 2) scHang.nd rfl (.inl rfl) pe_int) (C8.pss_cut (ps_while PassesOwn.never (pt_cmpR op_lt (pv 2) (pe_callB call_lenD (by rfl) mlen PySem.boot_len (pa_cons (pv 1) pa_nil)) (nomark _)) (pss_cons (ps_set (i := 2) scHang.nd rfl (.inl rfl) (pe_callB call_lenD (by rfl) mlen PySem.boot_len (pa_cons (pv 1) pa_nil))) (pss_one (ps_for PassesOwn.never rfl (pi_list (pv 0)) (pg_name (i := 3) scHang.nd rfl (.inl rfl)) (pss_one (ps_if (PW.pt (pw_or (pt_cmp (pc_din (hu_of hr) (pe_ix ix_tup (pv 3) pe_int (fun _ _ => rfl)) (pv 1))) (pw_or1 (pt_cmp (pc_din (hu_of hr) (pe_ix ix_tup (pv 3) pe_int (fun _ _ => rfl)) (pv 1)))))) (pss_cons (ps_dput (hu_of hr) (pv 1) (pe_ix ix_tup (pv 3) pe_int (fun _ _ => rfl)) pe_bl rfl) (pss_one (ps_dput (hu_of hr) (pv 1) (pe_ix ix_tup (pv 3) pe_int (fun _ _ => rfl)) pe_bl rfl))) pss_nil)))))) (pss_one (ps_ret (pe_cmpR op_eq (pe_callB call_lenD (by rfl) mlen PySem.boot_len (pa_cons (pv 1) pa_nil)) (pe_call GC hr (by rfl) mC FC.kp bC .nil pass0 (pa_cons (pv 0) pa_nil)) (nomark _))))))), ?_⟩
    refine ⟨fun σ H' => Same H H' ∧ ∃ d : Addr, H d = none ∧ H' d = some (.dK (reachK [0])) ∧ σ = [some (.ref l), some (.ref d), none, none], ?_, ?_⟩
    · refine fun d nd => ⟨upd_same, [(Sum.inl 0, .bl true)], rfl, by decide, ?_⟩
      exact ⟨(same_upd nd).own nd, d, nd, upd_same, rfl⟩
    rintro σ H1 ⟨s1, d, nd, e1, rfl⟩
    refine ⟨fun σ H' => Same H H' ∧ ∃ (hs : List Nat) (w2 w3 : Option V), H' d = some (.dK (reachK hs)) ∧ hs.length = n ∧ σ = [some (.ref l), some (.ref d), w2, w3], ?_, ?_⟩
    · refine ⟨fun m σ H' => Same H H' ∧ ∃ (hs : List Nat) (before : Nat) (w3 : Option V), H' d = some (.dK (reachK hs)) ∧ Reach n hs ∧ before ≤ hs.length ∧ m = n - before ∧ (before = hs.length → ∀ t ∈ ps.map (·.2), t.a ∈ hs ↔ t.b ∈ hs) ∧
          σ = [some (.ref l), some (.ref d), some (.int (before : Int)), w3],
        ⟨n, s1, [0], 0, none, e1, ⟨by simp, fun h hh => by rw [List.mem_singleton.mp hh]; omega, by simp⟩, by simp, rfl, (fun e => by simp at e), rfl⟩, ?_⟩
      rintro m σ H2 ⟨s2, hs, before, w3, e2, rc, hb, rfl, cl, rfl⟩
      refine ⟨_, rfl, _, rfl, d, _, rfl, e2, _, _, rfl, rfl, _, rfl, ?_⟩
      have el : (reachK hs).length = hs.length := List.length_map _
      have rlen := rc.len
      refine ite2 (fun hlt => ?_) (fun hlt => ?_)
      · have hlt := of_decide_eq_true hlt
        rw [el] at hlt
        refine ⟨fun σ H' => Same H H' ∧ ∃ (hs2 : List Nat) (w3 : Option V), H' d = some (.dK (reachK hs2)) ∧ Reach n hs2 ∧ hs.length ≤ hs2.length ∧ (hs.length = hs2.length → ∀ t ∈ ps.map (·.2), t.a ∈ hs2 ↔ t.b ∈ hs2) ∧
            σ = [some (.ref l), some (.ref d), some (.int (hs.length : Int)), w3], ?_, ?_⟩
        · rintro σ' H' ⟨s3, hs2, w3, e3, rc3, hb3, cl3, rfl⟩
          exact ⟨n - hs.length, by omega, s3, hs2, hs.length, w3, e3, rc3, hb3, rfl, cl3, rfl⟩
        · -- before = len(reached); for tie in ties
          refine ⟨_, rfl, d, _, rfl, e2, ?_⟩
          rw [el]
          refine ⟨_, rfl, l, rfl, ⟨_, SqL.of (s2 _ _ hl)⟩, for_list (K := K) (a := l) (xs := refs ps) (fun i σ H' => Same H H' ∧ ∃ (hs2 : List Nat) (w3 : Option V), H' d = some (.dK (reachK hs2)) ∧ Reach n hs2 ∧ hs.length ≤ hs2.length ∧
              (hs.length = hs2.length → ∀ t ∈ (ps.map (·.2)).take i, t.a ∈ hs2 ↔ t.b ∈ hs2) ∧ σ = [some (.ref l), some (.ref d), some (.int (hs.length : Int)), w3])
            ⟨s2, hs, w3, e2, rc, Nat.le_refl _, (fun _ t ht => by cases ht), rfl⟩ (fun i σ H' _ ⟨s, _⟩ => SqL.of (s _ _ hl)) ?_ ?_⟩
          · rintro i x σ H3 hx ⟨s3, hs2, w3, e3, rc3, hb3, cl3, rfl⟩
            obtain ⟨⟨p, t⟩, hk, rfl⟩ := refs_get hx
            have hp : H3 p = some (.tup (tieV t)) := s3 _ _ (hA _ (List.mem_of_getElem? hk))
            have hkt : (ps.map (·.2))[i]? = some t := by rw [List.getElem?_map, hk]; rfl
            obtain ⟨tab, tbn⟩ := wk.lt t (List.mem_of_getElem? hkt)
            obtain ⟨rp, lp, cp⟩ := rc3.pass (t := t) (by omega) tbn
            have fin : ∀ H', Same H H' → H' d = some (.dK (reachK (passT hs2 t))) → Same H H' ∧ ∃ (hs2 : List Nat) (w3 : Option V), H' d = some (.dK (reachK hs2)) ∧ Reach n hs2 ∧ hs.length ≤ hs2.length ∧
                (hs.length = hs2.length → ∀ t ∈ (ps.map (·.2)).take (i + 1), t.a ∈ hs2 ↔ t.b ∈ hs2) ∧ [some (V.ref l), some (.ref d), some (.int (hs.length : Int)), some (.ref p)] = [some (.ref l), some (.ref d), some (.int (hs.length : Int)), w3] := fun H' s' e' => by
              refine ⟨s', passT hs2 t, _, e', rp, by omega, fun e u hu => ?_, rfl⟩
              obtain ⟨c1, c2⟩ := cp (by omega)
              rw [c1] at e ⊢
              rw [List.take_succ, hkt] at hu
              rcases List.mem_append.mp hu with z | z
              · exact cl3 e u z
              · have : u = t := by simpa using z
                rw [this]
                exact c2
            have atA : atI (tieV t) 0 = some (.int (t.a : Int)) := rfl
            have atB : atI (tieV t) 2 = some (.int (t.b : Int)) := rfl
            have g1 : DGet H3 d (.int (t.a : Int)) _ := DGet.k (k := Sum.inl (t.a : Int)) e3
            have g2 : DGet H3 d (.int (t.b : Int)) _ := DGet.k (k := Sum.inl (t.b : Int)) e3
            have sz : ∀ hs : List Nat, Reach n hs → (reachK hs).length < sizeLine := fun hs r => by
              have h1 : (reachK hs).length = hs.length := List.length_map _
              have h2 := r.len
              rw [h1]
              exact small1000 (by omega)
            have both : t.a ∈ hs2 ∨ t.b ∈ hs2 → passT hs2 t = addH (addH hs2 t.a) t.b := fun h => if_pos h
            have none_ : ¬ (t.a ∈ hs2 ∨ t.b ∈ hs2) → passT hs2 t = hs2 := fun h => if_neg h
            have rc4 : Reach n (addH hs2 t.a) := ⟨addH_nd _ rc3.nd, fun x hx => (addH_mem.mp hx).elim (rc3.lt x) fun e => by rw [e]; omega, addH_mem.mpr (.inl rc3.zero)⟩
            refine ⟨_, rfl, p, _, _, _, rfl, rfl, SqT.of hp, atA, _, rfl, d, _, rfl, g1, _, rfl, ?_⟩
            rw [reach_val]
            refine ite2 (fun h => ?_) (fun h => ?_)
            · have h := of_decide_eq_true h
              refine iteT ?_
              refine ⟨_, rfl, _, rfl, p, _, _, _, rfl, rfl, SqT.of hp, atA, d, _, rfl, DPut.k (k := Sum.inl (t.a : Int)) e3 (sz _ rc3), ?_⟩
              rw [reach_put]
              refine ⟨_, rfl, _, rfl, p, _, _, _, rfl, rfl, SqT.of (put_ne hp (ne_of hp e3 (by intro z; cases z))), atB, d, _, rfl, DPut.k (k := Sum.inl (t.b : Int)) upd_same (sz _ rc4), ?_⟩
              rw [reach_put]
              exact fin _ ((s3.own nd).own nd) (upd_same.trans (by rw [both (.inl h)]))
            · have h := fun z => h (decide_eq_true z)
              refine ⟨_, rfl, p, _, _, _, rfl, rfl, SqT.of hp, atB, _, rfl, d, _, rfl, g2, _, rfl, ?_⟩
              rw [reach_val]
              refine ite2 (fun h2 => ?_) (fun h2 => ?_)
              · have h2 := of_decide_eq_true h2
                refine ⟨_, rfl, _, rfl, p, _, _, _, rfl, rfl, SqT.of hp, atA, d, _, rfl, DPut.k (k := Sum.inl (t.a : Int)) e3 (sz _ rc3), ?_⟩
                rw [reach_put]
                refine ⟨_, rfl, _, rfl, p, _, _, _, rfl, rfl, SqT.of (put_ne hp (ne_of hp e3 (by intro z; cases z))), atB, d, _, rfl, DPut.k (k := Sum.inl (t.b : Int)) upd_same (sz _ rc4), ?_⟩
                rw [reach_put]
                exact fin _ ((s3.own nd).own nd) (upd_same.trans (by rw [both (.inr h2)]))
              · have h2 := fun z => h2 (decide_eq_true z)
                exact fin _ s3 (by rw [none_ (fun z => z.elim h h2)]; exact e3)
          · rintro σ H3 ⟨s3, hs2, w3, e3, rc3, hb3, cl3, rfl⟩
            rw [refs_len, List.take_of_length_le (by rw [List.length_map]; exact Nat.le_refl _)] at cl3
            exact ⟨s3, hs2, w3, e3, rc3, hb3, cl3, rfl⟩
      · have hge : ¬ ((before : Int) < ((reachK hs).length : Int)) := fun z => hlt (decide_eq_true z)
        rw [el] at hge
        exact ⟨s2, hs, _, _, e2, reach_all wk rc (cl (by omega)), rfl⟩
    rintro σ H2 ⟨s2, hs, w2, w3, e2, hn, rfl⟩
    refine ⟨_, rfl, d, _, rfl, e2, _, rfl, l, ps, n, rfl, s2 _ _ hl, hA.same s2, wk, fun H3 s3 => ⟨rfl, ?_⟩⟩
    have el : (reachK hs).length = hs.length := List.length_map _
    rw [el, hn]
    rw [decide_eq_true rfl]
    exact k H3 (Same.trans s2 s3)
end
end Wh

namespace Wh
open PySem L2
abbrev sPlain : Stmt := topS 27
abbrev sTies : Stmt := topS 17
abbrev sTorn : Stmt := topS 18
theorem scPlain : FnScope ["ties", "rows", "low", "mark", "high", "back"] ["ties"] (defScope sPlain) := ⟨rfl, rfl, rfl, by decide +kernel, rfl, by decide +kernel, by decide +kernel⟩
theorem scTies : FnScope ["text"] ["text"] (defScope sTies) := ⟨rfl, rfl, rfl, by decide +kernel, rfl, by decide +kernel, by decide +kernel⟩
theorem scTorn : FnScope ["text", "ties", "line", "tie"] ["text"] (defScope sTorn) := ⟨rfl, rfl, rfl, by decide +kernel, rfl, by decide +kernel, by decide +kernel⟩
section
variable {P : Program} {w : World} {K : PySem.W.Frag} {mg : Str → Option Value} {base : Heap}
/-- the ties of a list in any order: the text of them in order -/
def spPlain (K : PySem.W.Frag) : Sp := fun vs H Q _ => ∃ (l : Addr) (ps : List (Addr × Tie)) (n : Nat), vs = [.ref l] ∧ H l = some (.lst (refs ps)) ∧ At tieV H ps ∧ WebOk n (ps.map (·.2)) ∧
  ∀ (ts : List Tie) (H' : Hp), Same H H' → ts.Perm (ps.map (·.2)) → (ts.map Tie.pr).Pairwise PrLt → Q (.str (webS ts)) H'
theorem ok_plain {f : Addr} {fd : FuncData} (F : Fun K "plain_text" "plain_text" sPlain f fd) (msorted : mg "sorted" = none) : FnOk P w K mg base CX0 1 f fd ["ties"] (spPlain K) := by
  refine F.ok scPlain (fun vs H Q E h => ?_) (fun cdv A outer s H vs Q E hr h => ?_)
  · obtain ⟨l, ps, n, rfl, _⟩ := h
    rfl
  · obtain ⟨l, ps, n, rfl, hl, hA, wk, k⟩ := h
    have len100 : ps.length ≤ 100 := by
      have := wk.len
      rw [List.length_map] at this
      exact this
    refine ⟨_, (C8.pss_cut (ps_set (i := 1) scPlain.nd rfl (.inl rfl) (pe_mid (pe_callB (cr_sortD hr.units) (by rfl) msorted (by decide +kernel) (pa_cons (pe_lc (own := [("low", 2), ("mark", 3), ("high", 4), ("back", 5)]) (tt := tYes) rfl scPlain.nd (pi_list (pv 0)) (blkOk_by (N := ["ties", "rows", "low", "mark", "high", "back"]) (own := [("low", 2), ("mark", 3), ("high", 4), ("back", 5)]) (sc := defScope sPlain) (by decide +kernel)) (fun _ _ _ _ _ => (pg_tupK K 4 rfl (by rfl) (pgs_cons (pg_name (i := 2) scPlain.nd rfl (.inl rfl)) (pgs_cons (pg_name (i := 3) scPlain.nd rfl (.inl rfl)) (pgs_cons (pg_name (i := 4) scPlain.nd rfl (.inl rfl)) (pgs_cons (pg_name (i := 5) scPlain.nd rfl (.inl rfl)) pgs_nil)))))) (fun _ _ _ _ _ => pts_nil) (fun _ _ _ _ _ => (pe_tup (pa_cons (pv 2) (pa_cons (pv 4) (pa_cons (pv 3) (pa_cons (pv 5) pa_nil))))))) pa_nil)))) (pss_one (ps_ret (pe_joinK K rfl pe_str (pe_lc (own := [("low", 2), ("high", 4), ("mark", 3), ("back", 5)]) (tt := tYes) rfl scPlain.nd (pi_list (pv 1)) (blkOk_by (N := ["ties", "rows", "low", "mark", "high", "back"]) (own := [("low", 2), ("high", 4), ("mark", 3), ("back", 5)]) (sc := defScope sPlain) (by decide +kernel)) (fun _ _ _ _ _ => (pg_tupK K 4 rfl (by rfl) (pgs_cons (pg_name (i := 2) scPlain.nd rfl (.inl rfl)) (pgs_cons (pg_name (i := 4) scPlain.nd rfl (.inl rfl)) (pgs_cons (pg_name (i := 3) scPlain.nd rfl (.inl rfl)) (pgs_cons (pg_name (i := 5) scPlain.nd rfl (.inl rfl)) pgs_nil)))))) (fun _ _ _ _ _ => pts_nil) (fun _ _ _ _ _ => (pe_fs (PJ.cons (pe_fmt (pv 2)) (PJ.cons pe_str (PJ.cons (pe_fmt (pv 3)) (PJ.cons pe_str (PJ.cons (pe_fmt (pv 4)) (PJ.cons pe_str (PJ.cons (pe_fmt (pv 5)) PJ.nil)))))))))))))), ?_⟩
    refine ⟨fun σ H' => Same H H' ∧ ∃ (r : Addr) (qs : List (Addr × Tie)), H' r = some (.lst (refs qs)) ∧ At rowV H' qs ∧ (qs.map (·.2)).Perm (ps.map (·.2)) ∧ qs.Pairwise (fun p q => (!PySem.W.dataLt (tD (rowV q.2)) (tD (rowV p.2))) = true) ∧
      σ = [some (.ref l), some (.ref r), none, none, none, none], ?_, ?_⟩
    · refine ⟨fun v H' => Same H H' ∧ ∃ (r : Addr) (qs : List (Addr × Tie)), v = .ref r ∧ H' r = some (.lst (refs qs)) ∧ At rowV H' qs ∧ (qs.map (·.2)).Perm (ps.map (·.2)) ∧ qs.Pairwise (fun p q => (!PySem.W.dataLt (tD (rowV q.2)) (tD (rowV p.2))) = true), ?_, ?_⟩
      · refine ⟨_, rfl, l, rfl, ⟨_, SqL.of hl⟩, fun D nD => ?_⟩
        refine lc_list (K := K) (a := l) (xs := refs ps) (fun i H' => Same H H' ∧ ∃ qs : List (Addr × Tie), H' D = some (.lst (refs qs)) ∧ At rowV H' qs ∧ qs.map (·.2) = (ps.map (·.2)).take i) ⟨same_upd nD, [], upd_same, (fun p hp => by cases hp), rfl⟩ (fun i H' _ ⟨s, _⟩ => SqL.of (s _ _ hl)) ?_ ?_
        · rintro i x H1 hx ⟨s1, qs, hD, hQ, hq⟩
          obtain ⟨⟨p, t⟩, hk, rfl⟩ := refs_get hx
          have hp : H1 p = some (.tup (tieV t)) := s1 _ _ (hA _ (List.mem_of_getElem? hk))
          have hkt : (ps.map (·.2))[i]? = some t := by rw [List.getElem?_map, hk]; rfl
          refine ⟨p, _, rfl, SqT.of hp, rfl, _, _, rfl, _, _, rfl, _, _, rfl, _, _, rfl, rfl, rfl, ?_⟩
          refine ⟨_, rfl, _, rfl, _, rfl, _, rfl, (by show 4 ≤ sizeLine; decide), fun q nq => ?_⟩
          have hDq := put_old (u := HO.tup (rowV t)) hD nq
          have eql : qs.length = ((ps.map (·.2)).take i).length := by
            rw [← hq, List.length_map]
          refine ⟨_, hDq, ?_, ((s1.put nq).own nD), qs ++ [(q, t)], ?_, ?_, ?_⟩
          · rw [refs_len, eql, List.length_take, List.length_map]
            exact small1000 (by omega)
          · rw [upd_same, refs_app]
            rfl
          · exact At.snoc ((hQ.same (same_upd nq)).mono (upd_tup hDq)) (put_ne upd_same (ne_of_none hD nq).symm)
          · rw [List.map_append, hq, List.take_succ, hkt]
            rfl
        · rintro H1 ⟨s1, qs, hD, hQ, hq⟩
          rw [refs_len, List.take_of_length_le (by rw [List.length_map]; exact Nat.le_refl _)] at hq
          have hnb : ∀ p ∈ qs, (rowV p.2).all nb = true := fun p hp => by
            have m : p.2 ∈ ps.map (·.2) := by
              rw [← hq]
              exact List.mem_map_of_mem hp
            exact rowV_nb (wk.let_ _ m).1 (wk.let_ _ m).2
          have hs : rSortD K [.ref D] H1 (fun v H' => Same H H' ∧ ∃ (r : Addr) (qs : List (Addr × Tie)), v = .ref r ∧ H' r = some (.lst (refs qs)) ∧ At rowV H' qs ∧ (qs.map (·.2)).Perm (ps.map (·.2)) ∧ qs.Pairwise (fun p q => (!PySem.W.dataLt (tD (rowV q.2)) (tD (rowV p.2))) = true)) :=
            sort_rows2 rowV (SqL.of hD) hQ hnb row_alike (fun x => ⟨_, _, rfl⟩) fun z rs hp hw nz => ⟨s1.put nz, z, rs, rfl, upd_same, (hQ.same (same_upd nz)).perm hp.symm, by rw [← hq]; exact hp.map _, hw⟩
          exact hs
      · rintro _ H1 ⟨s1, r, qs, rfl, h1, h2, h3, h4⟩
        exact ⟨s1, r, qs, h1, h2, h3, h4, rfl⟩
    rintro σ H1 ⟨s1, r, qs, hr1, hQ, hperm, hpw, rfl⟩
    have srt := rows_srt ((hperm.map Tie.pr).nodup_iff.mpr wk.pnd) hpw
    have qlen : qs.length ≤ 100 := by
      have := hperm.length_eq
      rw [List.length_map, List.length_map] at this
      omega
    refine ⟨⟨_, rfl⟩, _, rfl, r, rfl, ⟨_, SqL.of hr1⟩, fun D nD => ?_⟩
    refine lc_list (K := K) (a := r) (xs := refs qs) (fun i H' => Same H1 H' ∧ H' D = some (.lst ((((qs.map (·.2)).take i).map lineS).map V.str))) ⟨same_upd nD, upd_same⟩ (fun i H' _ ⟨s, _⟩ => SqL.of (s _ _ hr1)) ?_ ?_
    · rintro i x H2 hx ⟨s2, hD⟩
      obtain ⟨⟨p, t⟩, hk, rfl⟩ := refs_get hx
      have hp : H2 p = some (.tup (rowV t)) := s2 _ _ (hQ _ (List.mem_of_getElem? hk))
      have hkt : (qs.map (·.2))[i]? = some t := by rw [List.getElem?_map, hk]; rfl
      have mt : t ∈ ps.map (·.2) := hperm.mem_iff.mp (List.mem_of_getElem? hkt)
      obtain ⟨tab, tbn⟩ := wk.lt t mt
      have n10 := wk.n10
      refine ⟨p, _, rfl, SqT.of hp, rfl, _, _, rfl, _, _, rfl, _, _, rfl, _, _, rfl, rfl, rfl, ?_⟩
      have ta : t.a < 10 := by omega
      have tb : t.b < 10 := by omega
      refine ⟨_, rfl, .inr ⟨_, rfl, num_log (by omega), ?_⟩⟩
      rw [num_str _ ta]
      refine ⟨_, rfl, small_str (by simp only [str_app, sgn_len, sp_len, emp_len]; omega), ?_⟩
      refine ⟨_, rfl, small_str (by simp only [str_app, sgn_len, sp_len, emp_len]; omega), ?_⟩
      refine ⟨_, rfl, .inl ⟨_, rfl, (by show 1 ≤ sizeLine; decide), _, rfl, small_str (by simp only [str_app, sgn_len, sp_len, emp_len]; omega), ?_⟩⟩
      refine ⟨_, rfl, small_str (by simp only [str_app, sgn_len, sp_len, emp_len]; omega), ?_⟩
      refine ⟨_, rfl, .inr ⟨_, rfl, num_log (by omega), ?_⟩⟩
      rw [num_str _ tb]
      refine ⟨_, rfl, small_str (by simp only [str_app, sgn_len, sp_len, emp_len]; omega), ?_⟩
      refine ⟨_, rfl, small_str (by simp only [str_app, sgn_len, sp_len, emp_len]; omega), ?_⟩
      refine ⟨_, rfl, .inl ⟨_, rfl, (by show 1 ≤ sizeLine; decide), _, rfl, small_str (by simp only [str_app, sgn_len, sp_len, emp_len]; omega), ?_⟩⟩
      refine ⟨_, hD, ?_, s2.own nD, ?_⟩
      · rw [List.length_map, List.length_map, List.length_take, List.length_map]
        exact small1000 (by omega)
      · rw [upd_same, List.take_succ, hkt, List.map_append, List.map_append, line_app]
        rfl
    · rintro H2 ⟨s2, hD⟩
      rw [refs_len, List.take_of_length_le (by rw [List.length_map]; exact Nat.le_refl _)] at hD
      refine ⟨_, _, _, rfl, rfl, .inl (SqL.of hD), ?_, ?_⟩
      · have e1 : ("\n" : Str).length = 1 := by decide +kernel
        rw [lines_sum, e1]
        simp only [List.length_map]
        omega
      · rw [text_join]
        exact k _ _ (Same.trans s1 s2) hperm srt
/-! ### read_torn, read_ties -/
def spTies (K : PySem.W.Frag) : Sp := fun vs H Q _ => ∃ (ts : List Tie) (n : Nat), vs = [.str (webS ts)] ∧ WebOk n (ts.map nrm) ∧
  ∀ (l : Addr) (ps : List (Addr × Tie)) (H' : Hp), Same H H' → H l = none → H' l = some (.lst (refs ps)) → At tieV H' ps → (ps.map (·.2)).Perm (ts.map nrm) → (ps.map (·.2)).Pairwise (fun x y => ¬ tLt y x) → Q (.ref l) H'
theorem ok_torn {f fL fA fHg : Addr} {fd fdL fdA fdHg : FuncData} (F : Fun K "read_torn" "read_torn" sTorn f fd) (msorted : mg "sorted" = none)
    (GL : FnOk P w K mg base CX0 3 fL fdL ["line"] (spLine K)) (FL : Fun K "read_line" "read_line" sLine fL fdL) (bL : Binds K fdL ["line"] []) (mL : mg "read_line" = some (.ref fL))
    (GA : FnOk P w K mg base CX0 1 fA fdA ["ties"] (spApart K)) (FA : Fun K "are_apart" "are_apart" sApart fA fdA) (bA : Binds K fdA ["ties"] []) (mA : mg "are_apart" = some (.ref fA))
    (GH : FnOk P w K mg base CX0 2 fHg fdHg ["ties"] (spApart K)) (FH : Fun K "hang_together" "hang_together" sHang fHg fdHg) (bH : Binds K fdHg ["ties"] []) (mHg : mg "hang_together" = some (.ref fHg)) :
    FnOk P w K mg base CX0 4 f fd ["text"] (spTies K) := by
  refine F.ok scTorn (fun vs H Q E h => ?_) (fun cdv A outer s H vs Q E hr h => ?_)
  · obtain ⟨ts, n, rfl, _⟩ := h
    rfl
  · obtain ⟨ts, n, rfl, wk, k⟩ := h
    have hr1 : Room 1 _ := hr.mono (by decide)
    have hr2 : Room 2 _ := hr.mono (by decide)
    have hr3 : Room 3 _ := hr
    have len100 := wk.len
    rw [List.length_map] at len100
    have raw := raw_of wk
    have tsne : ts ≠ [] := fun e => wk.ne (by rw [e]; rfl)
    have n10 := wk.n10
    refine ⟨_, (C8.pss_cut (ps_set (i := 1) scTorn.nd rfl (.inl rfl) (pe_lst pa_nil)) (C8.pss_cut (ps_for PassesOwn.never rfl (pi_list (pe_split (pv 0) pe_str)) (pg_name (i := 2) scTorn.nd rfl (.inl rfl)) (C8.pss_cut (ps_set (i := 3) scTorn.nd rfl (.inl rfl) (pe_call GL hr3 (by rfl) mL FL.kp bL .nil pass0 (pa_cons (pv 2) pa_nil))) (pss_cons (ps_if (pt_cmpR op_isN (pv 3) pe_non (nomark _)) (pss_one (ps_ret pe_non)) pss_nil) (pss_one (ps_expr (pe_bm PySem.F.plainAttrs_list PySem.F.slot_list_append PySem.F.type_list_append mt_append (pv 1) (pa_cons (pv 3) pa_nil))))))) (pss_cons (ps_if (PW.pt (pw_or (pt_not (pt_val (pe_call GA hr1 (by rfl) mA FA.kp bA .nil pass0 (pa_cons (pv 1) pa_nil)))) (pw_or1 (pt_not (pt_val (pe_call GH hr2 (by rfl) mHg FH.kp bH .nil pass0 (pa_cons (pv 1) pa_nil))))))) (pss_one (ps_ret pe_non)) pss_nil) (pss_one (ps_ret (pe_callB (cr_sortD hr.units) (by rfl) msorted (by decide +kernel) (pa_cons (pv 1) pa_nil))))))), ?_⟩
    refine ⟨fun σ H' => Same H H' ∧ ∃ l : Addr, H l = none ∧ H' l = some (.lst []) ∧ σ = [some (.str (webS ts)), some (.ref l), none, none], ?_, ?_⟩
    · exact ⟨Nat.zero_le _, fun l nl => ⟨same_upd nl, l, nl, upd_same, rfl⟩⟩
    rintro σ H1 ⟨s1, l, nl, hl, rfl⟩
    refine ⟨fun σ H' => Same H H' ∧ ∃ (ps : List (Addr × Tie)) (w2 w3 : Option V), H' l = some (.lst (refs ps)) ∧ At tieV H' ps ∧ ps.map (·.2) = ts.map nrm ∧ σ = [some (.str (webS ts)), some (.ref l), w2, w3], ?_, ?_⟩
    · have spl : Txt.split (webS ts) ("\n" : Str) = ts.map lineS := text_split tsne fun t ht => no_nl (raw t ht).a10 (raw t ht).b10 (raw t ht).lm (raw t ht).lo
      refine ⟨_, rfl, ⟨_, rfl⟩, _, _, rfl, rfl, (by decide +kernel), ?_, fun c nc => ?_⟩
      · have := webS_len ts
        have h1 := small1000 (n := 8 * ts.length + 2) (by omega)
        omega
      · have nlc : l ≠ c := ne_of_none hl nc
        refine ⟨c, rfl, ⟨_, SqL.of upd_same⟩, for_list (K := K) (a := c) (xs := (ts.map lineS).map V.str) (fun i σ H' => Same H H' ∧ H' c = some (.lst ((ts.map lineS).map V.str)) ∧ ∃ (ps : List (Addr × Tie)) (w2 w3 : Option V), H' l = some (.lst (refs ps)) ∧ At tieV H' ps ∧
            ps.map (·.2) = (ts.take i).map nrm ∧ σ = [some (.str (webS ts)), some (.ref l), w2, w3])
          ⟨s1.put nc, (upd_same.trans (by rw [spl])), [], none, none, put_old hl nc, (fun p hp => by cases hp), rfl, rfl⟩ (fun i σ H' _ ⟨_, e, _⟩ => SqL.of e) ?_ ?_⟩
        · rintro i x σ H2 hx ⟨s2, hc2, ps, w2, w3, hl2, hA2, hps, rfl⟩
          rw [List.getElem?_map, List.getElem?_map] at hx
          obtain ⟨y, hy, rfl⟩ := Option.map_eq_some_iff.mp hx
          obtain ⟨t, ht, rfl⟩ := Option.map_eq_some_iff.mp hy
          have mt := List.mem_of_getElem? ht
          refine ⟨fun σ H' => Same H2 H' ∧ ∃ p : Addr, H2 p = none ∧ H' p = some (.tup (tieV (nrm t))) ∧ σ = [some (.str (webS ts)), some (.ref l), some (.str (lineS t)), some (.ref p)], ?_, ?_⟩
          · exact ⟨_, rfl, t, rfl, raw t mt, fun p H' s' np hp => ⟨s', p, np, hp, rfl⟩⟩
          rintro σ H3 ⟨s3, p, np, hp, rfl⟩
          refine ⟨_, rfl, rfl, _, rfl, ?_⟩
          refine iteF ?_
          have hl3 := s3 _ _ hl2
          have lenp : ps.length ≤ 100 := by
            have e := congrArg List.length hps
            rw [List.length_map, List.length_map, List.length_take] at e
            omega
          refine ⟨_, rfl, .inl ⟨rfl, _, SqL.of hl3⟩, _, rfl, _, _, _, rfl, rfl, hl3, (by rw [refs_len]; exact small1000 (by omega)), ?_⟩
          refine ⟨(Same.trans s2 s3).own nl, put_ne (s3 _ _ hc2) nlc.symm, ps ++ [(p, nrm t)], _, _, (upd_same.trans (by rw [refs_app]; rfl)), ?_, ?_, rfl⟩
          · exact At.snoc ((hA2.same s3).mono (upd_tup hl3)) (put_ne hp (ne_of hp hl3 (by intro z; cases z)))
          · rw [List.map_append, hps, List.take_succ, ht, List.map_append]
            rfl
        · rintro σ H2 ⟨s2, hc2, ps, w2, w3, hl2, hA2, hps, rfl⟩
          rw [List.take_of_length_le (by simp)] at hps
          exact ⟨s2, ps, _, _, hl2, hA2, hps, rfl⟩
    rintro σ H2 ⟨s2, ps, w2, w3, hl2, hA2, hps, rfl⟩
    have wk2 : WebOk n (ps.map (·.2)) := hps.symm ▸ wk
    refine ⟨_, rfl, l, ps, n, rfl, hl2, hA2, wk2, fun H3 s3 => ⟨_, rfl, ?_⟩⟩
    refine iteF ⟨_, rfl, l, ps, n, rfl, s3 _ _ hl2, hA2.same s3, wk2, fun H4 s4 => ⟨_, rfl, ?_⟩⟩
    refine iteF ?_
    have s34 := Same.trans s3 s4
    refine ⟨_, rfl, ?_⟩
    have hnb : ∀ p ∈ ps, (tieV p.2).all nb = true := fun p hp => tieV_nb (wk2.let_ _ (List.mem_map_of_mem hp)).1 (wk2.let_ _ (List.mem_map_of_mem hp)).2
    have hs : rSortD K [.ref l] H4 Q := sort_rows2 tieV (SqL.of (s34 _ _ hl2)) (hA2.same s34) hnb tie_alike (fun x => ⟨_, _, rfl⟩) fun z qs hp hw nz =>
      k z qs _ ((Same.trans s2 s34).put nz) ((Same.trans s2 s34).free nz) upd_same (((hA2.same s34).same (same_upd nz)).perm hp.symm) (by rw [← hps]; exact hp.map _) (ties_srt hw)
    exact hs
theorem ok_ties {f fT : Addr} {fd fdT : FuncData} (F : Fun K "read_ties" "read_ties" sTies f fd) (misi : mg "isinstance" = none) (mstr : mg "str" = none) {tU : Tok} (mU : mg "UNREAD" = some (.str "?" tU))
    (GT : FnOk P w K mg base CX0 4 fT fdT ["text"] (spTies K)) (FT : Fun K "read_torn" "read_torn" sTorn fT fdT) (bT : Binds K fdT ["text"] []) (mT : mg "read_torn" = some (.ref fT)) :
    FnOk P w K mg base CX0 5 f fd ["text"] (spTies K) := by
  refine F.ok scTies (fun vs H Q E h => ?_) (fun cdv A outer s H vs Q E hr h => ?_)
  · obtain ⟨ts, n, rfl, _⟩ := h
    rfl
  · obtain ⟨ts, n, rfl, wk, k⟩ := h
    have raw := raw_of wk
    refine ⟨_, (pss_cons (ps_if (PW.pt (pw_or (pt_not (pt_val (pe_callB call_isi (by rfl) misi (by decide +kernel) (pa_cons (pv 0) (pa_cons (pe_bltn (by rfl) mstr (by decide +kernel) (show RelV (.ty "str") _ from rfl)) pa_nil))))) (pw_or1 (pt_cmpR op_in_sign (pe_glob (v := .str "?") rfl mU ⟨_, rfl⟩) (pv 0) (by rfl))))) (pss_one (ps_ret pe_non)) pss_nil) (pss_one (ps_ret (pe_call GT hr (by rfl) mT FT.kp bT .nil pass0 (pa_cons (pv 0) pa_nil))))), ?_⟩
    refine ⟨_, rfl, _, _, _, _, true, rfl, .ty "str", .base (.str _), kit_ty (by decide +kernel), true, rfl, ?_⟩
    refine iteF ⟨_, rfl, 63, webS ts, congrArg V.str unread_sgn, rfl, _, rfl, ?_⟩
    rw [decide_eq_false (no_unread fun t ht => ⟨(raw t ht).a10, (raw t ht).b10, (raw t ht).lm, (raw t ht).lo⟩)]
    exact iteF ⟨_, rfl, ts, n, rfl, wk, k⟩
end
end Wh

namespace Wh
open PySem L2
def clsB : Stmt → List Stmt
  | .ClassDef _ _ _ body _ _ _ _ _ _ _ => body
  | _ => []
def metS (i j : Nat) : Stmt := (clsB (topS i)).getD j (.Pass ⟨0, 0, 0, 0⟩)
abbrev sInit : Stmt := metS 29 0
abbrev sWPlain : Stmt := metS 29 2
abbrev sWHouses : Stmt := metS 29 3
abbrev sWAt : Stmt := metS 29 6
abbrev sWCheck : Stmt := metS 29 9
theorem scInit : FnScope ["self", "text", "ties"] ["self", "text"] (defScope sInit) := ⟨rfl, rfl, rfl, by decide +kernel, rfl, by decide +kernel, by decide +kernel⟩
theorem scWPlain : FnScope ["self"] ["self"] (defScope sWPlain) := ⟨rfl, rfl, rfl, by decide +kernel, rfl, by decide +kernel, by decide +kernel⟩
theorem scWHouses : FnScope ["self"] ["self"] (defScope sWHouses) := ⟨rfl, rfl, rfl, by decide +kernel, rfl, by decide +kernel, by decide +kernel⟩
theorem scWAt : FnScope ["self", "house"] ["self", "house"] (defScope sWAt) := ⟨rfl, rfl, rfl, by decide +kernel, rfl, by decide +kernel, by decide +kernel⟩
theorem scWCheck : FnScope ["self", "house"] ["self", "house"] (defScope sWCheck) := ⟨rfl, rfl, rfl, by decide +kernel, rfl, by decide +kernel, by decide +kernel⟩
section
variable {P : Program} {w : World} {K : PySem.W.Frag} {mg : Str → Option Value} {base : Heap} {C : Addr}
/-! ### Web.__init__ -/
def spInit (C : Addr) : Sp := fun vs H Q _ => ∃ (x dx : Addr) (rs ts : List Tie) (n : Nat), vs = [.ref x, .str (webS rs)] ∧ H x = some (.ins C dx []) ∧ (rs.map nrm).Perm ts ∧ WebOk n ts ∧ (ts.map Tie.pr).Pairwise PrLt ∧
  ∀ H', But x H H' → WebAt C H' x n ts → TextAt C H' x (webS rs) → Q .non H'
theorem ok_init {f fT fP fD : Addr} {fd fdT fdP fdD : FuncData} (F : Fun K "__init__" "Web.__init__" sInit f fd) (cW : WebC K C) (mtuple : mg "tuple" = none)
    (GT : FnOk P w K mg base CX0 5 fT fdT ["text"] (spTies K)) (FT : Fun K "read_ties" "read_ties" sTies fT fdT) (bT : Binds K fdT ["text"] []) (mT : mg "read_ties" = some (.ref fT))
    (GP : FnOk P w K mg base CX0 1 fP fdP ["ties"] (spPlain K)) (FP : Fun K "plain_text" "plain_text" sPlain fP fdP) (bP : Binds K fdP ["ties"] []) (mP : mg "plain_text" = some (.ref fP))
    (GD : FnOk P w K mg base CX0 2 fD fdD ["ties"] (spDoors K)) (FD : Fun K "doors_of" "doors_of" sDoors fD fdD) (bD : Binds K fdD ["ties"] []) (mD : mg "doors_of" = some (.ref fD)) :
    FnOk P w K mg base CX0 6 f fd ["self", "text"] (spInit C) := by
  refine F.ok scInit (fun vs H Q E h => ?_) (fun cdv A outer s H vs Q E hr h => ?_)
  · obtain ⟨x, dx, rs, ts, n, rfl, _⟩ := h
    rfl
  · obtain ⟨x, dx, rs, ts, n, rfl, hx, prs, wk, srt, k⟩ := h
    have hr1 : Room 1 _ := hr.mono (by decide)
    have hr2 : Room 2 _ := hr.mono (by decide)
    have hr5 : Room 5 _ := hr
    refine ⟨_, (C8.pss_cut (ps_set (i := 2) scInit.nd rfl (.inl rfl) (pe_call GT hr5 (by rfl) mT FT.kp bT .nil pass0 (pa_cons (pv 1) pa_nil))) (pss_cons (ps_if (pt_cmpR op_isN (pv 2) pe_non (nomark _)) pss_never pss_nil) (C8.pss_cut (ps_fld (pv 0) (pv 1) rfl) (C8.pss_cut (ps_fld (pv 0) (pe_call GP hr1 (by rfl) mP FP.kp bP .nil pass0 (pa_cons (pv 2) pa_nil)) rfl) (C8.pss_cut (ps_fld (pv 0) (pe_callTy call_tuple_of (by rfl) mtuple (by decide +kernel) (pa_cons (pv 2) pa_nil)) rfl) (pss_one (ps_fld (pv 0) (pe_call GD hr2 (by rfl) mD FD.kp bD .nil pass0 (pa_cons (pv 2) pa_nil)) rfl))))))), ?_⟩
    refine ⟨fun σ H' => Same H H' ∧ ∃ (l : Addr) (ps : List (Addr × Tie)), H' l = some (.lst (refs ps)) ∧ At tieV H' ps ∧ (ps.map (·.2)).Perm ts ∧ (ps.map (·.2)).Pairwise (fun x y => ¬ tLt y x) ∧ σ = [some (.ref x), some (.str (webS rs)), some (.ref l)], ?_, ?_⟩
    · exact ⟨_, rfl, rs, n, rfl, wk.perm prs.symm, fun l ps H' s' _ hl hA hp hs => ⟨s', l, ps, hl, hA, hp.trans prs, hs, rfl⟩⟩
    rintro σ H1 ⟨s1, l, ps, hl, hA, hperm, hsrt, rfl⟩
    have wkp : WebOk n (ps.map (·.2)) := wk.perm hperm.symm
    have hx1 := s1 _ _ hx
    have lx : l ≠ x := ne_of hl hx1 (by intro z; cases z)
    refine ⟨_, rfl, rfl, _, rfl, ?_⟩
    refine iteF ?_
    refine ⟨fun σ H' => But x H1 H' ∧ H' x = some (.ins C dx [(("_text" : Str), .str (webS rs))]) ∧ σ = [some (.ref x), some (.str (webS rs)), some (.ref l)], ?_, ?_⟩
    · exact ⟨_, rfl, _, rfl, x, C, dx, [], rfl, hx1, cW.c, cW.n1, (by decide), But.at (But.refl x H1), upd_same, rfl⟩
    rintro σ H2 ⟨b2, hx2, rfl⟩
    have hl2 := b2 _ _ hl lx
    have hA2 := hA.butI hx1 b2
    refine ⟨fun σ H' => But x H1 H' ∧ H' x = some (.ins C dx [(("_text" : Str), .str (webS rs)), ("_plain", .str (webS ts))]) ∧ σ = [some (.ref x), some (.str (webS rs)), some (.ref l)], ?_, ?_⟩
    · refine ⟨_, rfl, l, ps, n, rfl, hl2, hA2, wkp, fun ts' H' s' hp' srt' => ?_⟩
      have e : ts' = ts := srt_uniq srt' srt (hp'.trans hperm)
      subst e
      exact ⟨_, rfl, x, C, dx, _, rfl, s' _ _ hx2, cW.c, cW.n2, (by show 1 < 1000; decide), But.at (But.trans b2 s'.but), upd_same.trans (by rw [putF_1]), rfl⟩
    rintro σ H3 ⟨b3, hx3, rfl⟩
    have hl3 := b3 _ _ hl lx
    have hA3 := hA.butI hx1 b3
    refine ⟨fun σ H' => But x H1 H' ∧ ∃ l2 : Addr, H' x = some (.ins C dx [(("_text" : Str), .str (webS rs)), ("_plain", .str (webS ts)), ("_ties", .ref l2)]) ∧ H' l2 = some (.tup (refs ps)) ∧ σ = [some (.ref x), some (.str (webS rs)), some (.ref l)], ?_, ?_⟩
    · refine ⟨_, rfl, l, _, rfl, .inl ⟨SqL.of hl3, fun l2 n2 => ?_⟩⟩
      have x2 : l2 ≠ x := (ne_of_none hx3 n2).symm
      exact ⟨_, rfl, x, C, dx, _, rfl, put_old hx3 n2, cW.c, cW.n3, (by show 2 < 1000; decide), But.at (b3.put n2), l2, upd_same.trans (by rw [putF_2]), put_ne upd_same x2, rfl⟩
    rintro σ H4 ⟨b4, l2, hx4, hl24, rfl⟩
    have hl4 := b4 _ _ hl lx
    have hA4 := hA.butI hx1 b4
    have l2x : l2 ≠ x := ne_of hl24 hx4 (by intro z; cases z)
    refine ⟨_, rfl, l, ps, n, rfl, hl4, hA4, wkp, fun dl ds H' s' dr ndl nds => ?_⟩
    have hx5 := s' _ _ hx4
    refine ⟨_, rfl, x, C, dx, _, rfl, hx5, cW.c, cW.n4, (by show 3 < 1000; decide), k _ (But.at (But.trans (But.trans s1.but b4) s'.but)) ⟨⟨dx, webS rs, l2, ps, dl, ds, upd_same.trans (by rw [putF_3]; rfl), put_ne (s' _ _ hl24) l2x, ?_, hperm, ?_, hsrt⟩, wk, srt⟩ ⟨dx, webS ts, l2, dl, upd_same.trans (by rw [putF_3]; rfl)⟩⟩
    · exact (hA4.same s').mono fun b xs e => put_ne e (ne_of e hx5 (by intro z; cases z))
    · refine ⟨put_ne dr.hl (ne_of dr.hl hx5 (by intro z; cases z)), dr.len, dr.nd, fun h a e => put_ne (dr.hd h a e) (ne_of (dr.hd h a e) hx5 (by intro z; cases z))⟩
/-! ### plain, houses, _check_house, at -/
def spWPlain (C : Addr) : Sp := fun vs H Q _ => ∃ (x : Addr) (n : Nat) (ts : List Tie), vs = [.ref x] ∧ WebAt C H x n ts ∧ Q (.str (webS ts)) H
theorem ok_wplain {f : Addr} {fd : FuncData} (F : Fun K "plain" "Web.plain" sWPlain f fd) (cW : WebC K C) : FnOk P w K mg base CX0 1 f fd ["self"] (spWPlain C) := by
  refine F.ok scWPlain (fun vs H Q E h => ?_) (fun cdv A outer s H vs Q E hr h => ?_)
  · obtain ⟨x, n, ts, rfl, _⟩ := h
    rfl
  · obtain ⟨x, n, ts, rfl, wb, k⟩ := h
    obtain ⟨dx, txt, l, ps, dl, ds, h1, h2, h3, h4, h5, h6⟩ := wb.ex
    refine ⟨_, (pss_one (ps_ret (pe_fld (pv 0) rfl))), ?_⟩
    exact ⟨_, rfl, x, C, dx, _, _, rfl, h1, cW.c, cW.n2, ff_plain _ _ _ _, k⟩
def spWHouses (C : Addr) : Sp := fun vs H Q _ => ∃ (x : Addr) (n : Nat) (ts : List Tie), vs = [.ref x] ∧ WebAt C H x n ts ∧ Q (.int (n : Int)) H
theorem ok_whouses {f : Addr} {fd : FuncData} (F : Fun K "houses" "Web.houses" sWHouses f fd) (cW : WebC K C) (mlen : mg "len" = none) : FnOk P w K mg base CX0 1 f fd ["self"] (spWHouses C) := by
  refine F.ok scWHouses (fun vs H Q E h => ?_) (fun cdv A outer s H vs Q E hr h => ?_)
  · obtain ⟨x, n, ts, rfl, _⟩ := h
    rfl
  · obtain ⟨x, n, ts, rfl, wb, k⟩ := h
    obtain ⟨dx, txt, l, ps, dl, ds, h1, h2, h3, h4, h5, h6⟩ := wb.ex
    refine ⟨_, (pss_one (ps_ret (pe_callB call_len_seq (by rfl) mlen PySem.boot_len (pa_cons (pe_fld (pv 0) rfl) pa_nil)))), ?_⟩
    refine ⟨_, rfl, x, C, dx, _, _, rfl, h1, cW.c, cW.n4, ff_doors _ _ _ _, dl, _, rfl, .inl (SqL.of h5.hl), ?_⟩
    rw [List.length_map, h5.len]
    exact k
def spWCheck (C : Addr) : Sp := fun vs H Q _ => ∃ (x : Addr) (n : Nat) (ts : List Tie) (h : Nat), vs = [.ref x, .int (h : Int)] ∧ WebAt C H x n ts ∧ h < n ∧ Q .non H
theorem ok_wcheck {f fH : Addr} {fd fdH : FuncData} (F : Fun K "_check_house" "Web._check_house" sWCheck f fd) (cW : WebC K C) (mlen : mg "len" = none) (GH : FnOk P w K mg base CX0 4 fH fdH ["value", "houses"] spHouse) (FH : Fun K "is_house" "is_house" sHouse fH fdH) (bH : Binds K fdH ["value", "houses"] []) (mH : mg "is_house" = some (.ref fH)) :
    FnOk P w K mg base CX0 5 f fd ["self", "house"] (spWCheck C) := by
  refine F.ok scWCheck (fun vs H Q E h => ?_) (fun cdv A outer s H vs Q E hr h => ?_)
  · obtain ⟨x, n, ts, h, rfl, _⟩ := h
    rfl
  · obtain ⟨x, n, ts, h, rfl, wb, hn, k⟩ := h
    obtain ⟨dx, txt, l, ps, dl, ds, h1, h2, h3, h4, h5, h6⟩ := wb.ex
    have hr4 : Room 4 _ := hr
    refine ⟨_, (pss_one (ps_if (pt_not (pt_val (pe_call GH hr4 (by rfl) mH FH.kp bH .nil pass0 (pa_cons (pv 1) (pa_cons (pe_callB call_len_seq (by rfl) mlen PySem.boot_len (pa_cons (pe_fld (pv 0) rfl) pa_nil)) pa_nil))))) pss_never pss_nil)), ?_⟩
    refine ⟨_, rfl, _, rfl, x, C, dx, _, _, rfl, h1, cW.c, cW.n4, ff_doors _ _ _ _, dl, _, rfl, .inl (SqL.of h5.hl), _, _, rfl, ?_⟩
    rw [List.length_map, h5.len, decide_eq_true (show (0 : Int) ≤ (h : Int) ∧ (h : Int) < (n : Int) by omega)]
    exact ⟨_, rfl, iteF k⟩
def spWAt (C : Addr) : Sp := fun vs H Q _ => ∃ (x : Addr) (n : Nat) (ts : List Tie) (h : Nat), vs = [.ref x, .int (h : Int)] ∧ WebAt C H x n ts ∧ h < n ∧ ∀ (ms : List Nat) (H' : Hp), ms.Perm (marksAt h ts) → ms.Pairwise (· ≤ ·) → Same H H' → Q (.str (sS ms)) H'
theorem ok_wat {f fC : Addr} {fd fdC : FuncData} (F : Fun K "at" "Web.at" sWAt f fd) (cW : WebC K C) (msorted : mg "sorted" = none) (GC : FnOk P w K mg base CX0 5 fC fdC ["self", "house"] (spWCheck C)) (bC : Binds K fdC ["self", "house"] []) (mC : Meth K C "_check_house" fC) :
    FnOk P w K mg base CX0 6 f fd ["self", "house"] (spWAt C) := by
  refine F.ok scWAt (fun vs H Q E h => ?_) (fun cdv A outer s H vs Q E hr h => ?_)
  · obtain ⟨x, n, ts, h, rfl, _⟩ := h
    rfl
  · obtain ⟨x, n, ts, h, rfl, wb, hn, k⟩ := h
    obtain ⟨dx, txt, l, ps, dl, ds, h1, h2, h3, h4, h5, h6⟩ := wb.ex
    have hr5 : Room 5 _ := hr
    refine ⟨_, (C8.pss_cut (ps_expr (pe_meth (pv 0) cW.c mC GC hr5 bC .nil pass0 (pa_cons (pv 1) pa_nil))) (pss_one (ps_ret (pe_joinK K rfl pe_str (pe_callB (call_sortedD rfl) (by rfl) msorted (by decide +kernel) (pa_cons (pe_ix ix_list (pe_fld (pv 0) rfl) (pv 1) (fun _ _ => rfl)) pa_nil)))))), ?_⟩
    refine ⟨fun σ H' => H = H' ∧ σ = [some (.ref x), some (.int (h : Int))], ?_, ?_⟩
    · exact ⟨_, rfl, x, dx, _, rfl, h1, ff_no _ _ _ _ (by decide +kernel), _, rfl, x, n, ts, h, rfl, wb, hn, rfl, rfl⟩
    rintro σ H' ⟨rfl, rfl⟩
    have hi : h < ds.length := by rw [h5.len]; exact hn
    have hg : ds[h]? = some ds[h] := List.getElem?_eq_getElem hi
    have pm := marksAt_perm h4 h
    refine ⟨⟨_, rfl⟩, _, rfl, x, C, dx, _, _, rfl, h1, cW.c, cW.n4, ff_doors _ _ _ _, _, rfl, dl, _, _, _, rfl, rfl, SqL.of h5.hl, atI_nat (by rw [List.getElem?_map, hg]; rfl), ds[h], _, (marksAt h (ps.map (·.2))).map sgn, rfl, Rd.of (h5.hd h _ hg), ?_, ?_, ?_⟩
    · rw [doorsK_keys, List.map_map]
      rfl
    · rw [List.length_map]
      have := marks12 (wb.wk.perm h4.symm) h
      omega
    · intro ys p hys hso np
      obtain ⟨ns, rfl, hns⟩ := sgn_perm hys
      have lens := hns.length_eq
      refine ⟨_, _, _, rfl, rfl, .inl (SqL.of upd_same), ?_, ?_⟩
      · have := marks12 (wb.wk.perm h4.symm) h
        have e0 : ("" : Str).length = 0 := by decide +kernel
        rw [sgn_sum, e0]
        omega
      · rw [join_sgn]
        exact k ns _ (hns.trans pm) (letters_srt ns hso) (same_upd np)
end
end Wh

namespace Wh
open PySem L2
abbrev sWMarks : Stmt := metS 29 4
theorem scWMarks : FnScope ["self", "door", "mark"] ["self"] (defScope sWMarks) := ⟨rfl, rfl, rfl, by decide +kernel, rfl, by decide +kernel, by decide +kernel⟩
section
variable {P : Program} {w : World} {K : PySem.W.Frag} {mg : Str → Option Value} {base : Heap} {C : Addr}
/-- the doors' dicts with what they hold -/
def dL (ds : List Addr) (ts : List Tie) : List (Addr × HO) := ds.mapIdx fun h a => (a, .dK (doorsK h ts))
theorem dL_fst (ds : List Addr) (ts : List Tie) : (dL ds ts).map (·.1) = ds := by
  unfold dL
  refine List.ext_getElem? fun i => ?_
  rw [List.getElem?_map, List.getElem?_mapIdx, Option.map_map]
  cases ds[i]? <;> rfl
theorem dL_mem {ds : List Addr} {ts : List Tie} {p : Addr × HO} : p ∈ dL ds ts ↔ ∃ h a, ds[h]? = some a ∧ p = (a, .dK (doorsK h ts)) := by
  unfold dL
  rw [List.mem_iff_getElem?]
  constructor
  · rintro ⟨h, e⟩
    rw [List.getElem?_mapIdx] at e
    obtain ⟨a, ha, rfl⟩ := Option.map_eq_some_iff.mp e
    exact ⟨h, a, ha, rfl⟩
  · rintro ⟨h, a, ha, rfl⟩
    exact ⟨h, by rw [List.getElem?_mapIdx, ha]; rfl⟩
/-- the texts in l are the marks of the first i houses, and of house i the first j -/
structure MkSet (n : Nat) (ts : List Tie) (l : List Str) (i j : Nat) : Prop where
  nd : l.Nodup
  mem : ∀ t, t ∈ l ↔ (∃ h m, h < i ∧ m ∈ marksAt h ts ∧ t = sgn m) ∨ ∃ m, m ∈ (marksAt i ts).take j ∧ t = sgn m
theorem MkSet.len {n i j : Nat} {ts : List Tie} {l : List Str} (w : WebOk n ts) (M : MkSet n ts l i j) : l.length ≤ 12 := by
  have h : ∀ t ∈ l, t ∈ letters.map sgn := fun t ht => by
    rcases (M.mem t).mp ht with ⟨h, m, _, hm, rfl⟩ | ⟨m, hm, rfl⟩
    · exact List.mem_map_of_mem (marks_let w h m hm)
    · exact List.mem_map_of_mem (marks_let w i m (List.mem_of_mem_take hm))
  exact nd_sub_len M.nd h
theorem sgn_all : ∀ {ys : List Str}, (∀ t ∈ ys, ∃ m, t = sgn m) → ∃ ms : List Nat, ys = ms.map sgn
  | [], _ => ⟨[], rfl⟩
  | y :: ys, h => by
    obtain ⟨m, rfl⟩ := h y List.mem_cons_self
    obtain ⟨ms, rfl⟩ := sgn_all (ys := ys) fun t ht => h t (List.mem_cons_of_mem _ ht)
    exact ⟨m :: ms, rfl⟩
def spWMarks (C : Addr) : Sp := fun vs H Q _ => ∃ (x : Addr) (n : Nat) (ts : List Tie), vs = [.ref x] ∧ WebAt C H x n ts ∧
  ∀ (ms : List Nat) (H' : Hp), Same H H' → ms.Nodup → ms.Pairwise (· ≤ ·) → (∀ m, m ∈ ms ↔ ∃ h, h < n ∧ m ∈ marksAt h ts) → Q (.str (sS ms)) H'
theorem ok_wmarks {f : Addr} {fd : FuncData} (F : Fun K "marks" "Web.marks" sWMarks f fd) (cW : WebC K C) (msorted : mg "sorted" = none) : FnOk P w K mg base CX0 1 f fd ["self"] (spWMarks C) := by
  refine F.ok scWMarks (fun vs H Q E h => ?_) (fun cdv A outer s H vs Q E hr h => ?_)
  · obtain ⟨x, n, ts, rfl, _⟩ := h
    rfl
  · obtain ⟨x, n, ts, rfl, wb, k⟩ := h
    obtain ⟨dx, txt, l, ps, dl, ds, h1, h2, h3, h4, h5, h6⟩ := wb.ex
    have wkp : WebOk n (ps.map (·.2)) := wb.wk.perm h4.symm
    refine ⟨_, (pss_one (ps_ret (pe_joinK K rfl pe_str (pe_callB (cr_sortedL rfl) (by rfl) msorted (by decide +kernel) (pa_cons (pe_locks (pe_sc2 (own := [("door", 1), ("mark", 2)]) (us := [2]) rfl scWMarks.nd (pi_list (pe_fld (pv 0) rfl)) (blkOk_by (N := ["self", "door", "mark"]) (own := [("door", 1), ("mark", 2)]) (sc := defScope sWMarks) (by decide +kernel)) (by decide) (fun _ _ _ _ _ => (pg_name (i := 1) scWMarks.nd rfl (.inl rfl))) (fun _ _ _ _ _ => (pi_keys (pv 1))) (fun _ _ _ _ _ => (pg_name (i := 2) scWMarks.nd rfl (.inl rfl))) (fun _ _ _ _ _ => (pv 2)))) pa_nil))))), ?_⟩
    have ndL : ((dL ds (ps.map (·.2))).map (·.1)).Nodup := by rw [dL_fst]; exact (List.nodup_cons.mp h5.nd).2
    have atL : ∀ p ∈ dL ds (ps.map (·.2)), H p.1 = some p.2 ∧ Mut (some p.2) := fun p hp => by
      obtain ⟨h, a, ha, rfl⟩ := dL_mem.mp hp
      exact ⟨h5.hd h a ha, trivial⟩
    have noX : x ∉ (dL ds (ps.map (·.2))).map (·.1) := fun z => by
      rw [dL_fst, List.mem_iff_getElem?] at z
      obtain ⟨h, ha⟩ := z
      exact absurd ((h5.hd h x ha).symm.trans h1) (by intro z; cases z)
    have noD : dl ∉ (dL ds (ps.map (·.2))).map (·.1) := by rw [dL_fst]; exact (List.nodup_cons.mp h5.nd).1
    have lkX : ∀ od, lkH od (dL ds (ps.map (·.2))) H x = some (.ins C dx (webF txt (webS ts) l dl)) := fun od => (lk_out noX).trans h1
    have lkD : ∀ od, lkH od (dL ds (ps.map (·.2))) H dl = some (.lst (ds.map V.ref)) := fun od => (lk_out noD).trans h5.hl
    refine ⟨⟨_, rfl⟩, dL ds (ps.map (·.2)), ndL, atL, fun od => ⟨_, rfl, x, C, dx, _, _, rfl, lkX od, cW.c, cW.n4, ff_doors _ _ _ _, dl, rfl, ⟨_, SqL.of (lkD od)⟩, fun D nD => ?_⟩⟩
    obtain ⟨nD1, nD2⟩ := lk_free ndL nD
    refine walk_by (walk_list (K := K) (a := dl) (xs := ds.map V.ref)) (fun i H' => Same (lkH od (dL ds (ps.map (·.2))) H) H' ∧ ∃ l : List Str, H' D = some (SetL P w D l) ∧ MkSet n (ps.map (·.2)) l i 0) ⟨same_upd nD, [], upd_same, List.nodup_nil, fun t => ?_⟩ (fun i H' _ ⟨s, _⟩ => SqL.of (s _ _ (lkD od))) ?_ ?_
    · constructor
      · intro z
        cases z
      · rintro (⟨h, m, z, _⟩ | ⟨m, z, _⟩)
        · cases z
        · rw [List.take_zero] at z
          cases z
    · rintro i v H1 H2 hi ⟨s1, lt, hD, M⟩ ⟨rfl, hv⟩
      rw [List.length_map] at hi
      have hin : i < n := by rw [← h5.len]; exact hi
      have hg : ds[i]? = some ds[i] := List.getElem?_eq_getElem hi
      rw [List.getElem?_map, hg] at hv
      obtain rfl := Option.some.inj hv
      have hp : (ds[i], HO.dK (doorsK i (ps.map (·.2)))) ∈ dL ds (ps.map (·.2)) := dL_mem.mpr ⟨i, ds[i], hg, rfl⟩
      have frz : lkH od (dL ds (ps.map (·.2))) H ds[i] = some (.frz (od ds[i]) (.dK (doorsK i (ps.map (·.2))))) := lk_in ndL hp
      refine ⟨rfl, _, rfl, ds[i], od ds[i], rfl, .inl ⟨_, s1 _ _ frz, ?_⟩⟩
      refine walk_by (walk_keys (d := ds[i]) (o := od ds[i]) (kvs := doorsK i (ps.map (·.2)))) (fun j H' => Same (lkH od (dL ds (ps.map (·.2))) H) H' ∧ ∃ l : List Str, H' D = some (SetL P w D l) ∧ MkSet n (ps.map (·.2)) l i j) ⟨s1, lt, hD, M⟩ (fun j H' _ ⟨s, _⟩ => s _ _ frz) ?_ ?_
      · rintro j v H3 H4 hj ⟨s3, lt3, hD3, M3⟩ ⟨rfl, k, v', hkv, rfl⟩
        have hkey : ((doorsK i (ps.map (·.2))).map (·.1))[j]? = some k := by rw [List.getElem?_map, hkv]; rfl
        rw [doorsK_keys, List.getElem?_map] at hkey
        obtain ⟨m, hm, rfl⟩ := Option.map_eq_some_iff.mp hkey
        have l12 := M3.len wkp
        refine ⟨rfl, _, rfl, sgn m, lt3, rfl, hD3, Nat.lt_of_le_of_lt (Nat.succ_le_succ l12) (by decide), s3.own nD, addL (sgn m) lt3, upd_same, addL_nd M3.nd, fun t => ?_⟩
        rw [addL_mem, M3.mem t, List.take_succ, hm]
        constructor
        · rintro (rfl | z | ⟨m2, z, rfl⟩)
          · exact .inr ⟨m, List.mem_append_right _ (List.mem_singleton.mpr rfl), rfl⟩
          · exact .inl z
          · exact .inr ⟨m2, List.mem_append_left _ z, rfl⟩
        · rintro (z | ⟨m2, z, rfl⟩)
          · exact .inr (.inl z)
          · rcases List.mem_append.mp z with z | z
            · exact .inr (.inr ⟨m2, z, rfl⟩)
            · have z : m2 = m := by simpa using z
              exact .inl (by rw [z])
      · rintro H3 ⟨s3, lt3, hD3, M3⟩
        refine ⟨s3, lt3, hD3, M3.nd, fun t => ?_⟩
        rw [M3.mem t, List.take_of_length_le (by rw [doorsK_len]; exact Nat.le_refl _), List.take_zero]
        constructor
        · rintro (⟨h, m, z1, z2, rfl⟩ | ⟨m, z, rfl⟩)
          · exact .inl ⟨h, m, by omega, z2, rfl⟩
          · exact .inl ⟨i, m, by omega, z, rfl⟩
        · rintro (⟨h, m, z1, z2, rfl⟩ | ⟨m, z, rfl⟩)
          · by_cases e : h = i
            · exact .inr ⟨m, e ▸ z2, rfl⟩
            · exact .inl ⟨h, m, by omega, z2, rfl⟩
          · cases z
    · rintro H1 ⟨s1, lt, hD, M⟩
      refine ⟨fun p hp => s1 _ _ (lk_in ndL hp), ?_⟩
      have s2 : Same H (ulH (dL ds (ps.map (·.2))) H1) := ul_same ndL (fun p hp => (atL p hp).1) s1
      have hD2 : ulH (dL ds (ps.map (·.2))) H1 D = some (SetL P w D lt) := (ul_out nD1).trans hD
      rw [List.length_map] at M
      have l12 := M.len wkp
      refine ⟨D, lt, rfl, hD2, Nat.lt_of_le_of_lt l12 (by decide), fun ys p hys hso np => ?_⟩
      have hm : ∀ t ∈ ys, ∃ m, t = sgn m := fun t ht => by
        rcases (M.mem t).mp (hys.mem_iff.mp ht) with ⟨_, m, _, _, e⟩ | ⟨m, _, e⟩ <;> exact ⟨m, e⟩
      obtain ⟨ms, rfl⟩ := sgn_all hm
      have memM : ∀ m, m ∈ ms ↔ ∃ h, h < n ∧ m ∈ marksAt h ts := fun m => by
        have e1 : m ∈ ms ↔ sgn m ∈ ms.map sgn := ⟨fun z => List.mem_map_of_mem z, fun z => by
          obtain ⟨m2, h2, e2⟩ := List.mem_map.mp z
          exact sgn_inj e2 ▸ h2⟩
        rw [e1, hys.mem_iff, M.mem, List.take_zero, h5.len]
        constructor
        · rintro (⟨h, m2, z1, z2, e⟩ | ⟨_, z, _⟩)
          · exact ⟨h, z1, (marksAt_perm h4 h).mem_iff.mp (sgn_inj e ▸ z2)⟩
          · cases z
        · rintro ⟨h, z1, z2⟩
          exact .inl ⟨h, m, z1, (marksAt_perm h4 h).mem_iff.mpr z2, rfl⟩
      have ndM : ms.Nodup := List.Pairwise.of_map sgn (fun a b h e => h (congrArg sgn e)) (hys.nodup_iff.mpr M.nd)
      refine ⟨_, _, _, rfl, rfl, .inl (SqL.of upd_same), ?_, ?_⟩
      · have e0 : ("" : Str).length = 0 := by decide +kernel
        have := hys.length_eq
        rw [List.length_map] at this
        rw [sgn_sum, e0]
        omega
      · rw [join_sgn]
        exact k ms _ (s2.put np) ndM (letters_srt ms hso) memM
end
end Wh

namespace Wh
open PySem L2
abbrev sGo : Stmt := metS 29 7
abbrev sWalk : Stmt := topS 54
theorem scGo : FnScope ["self", "house", "word", "place", "mark"] ["self", "house", "word"] (defScope sGo) := ⟨rfl, rfl, rfl, by decide +kernel, rfl, by decide +kernel, by decide +kernel⟩
theorem scWalk : FnScope ["ways_here", "start", "letters", "letter"] ["ways_here", "start", "letters"] (defScope sWalk) := ⟨rfl, rfl, rfl, by decide +kernel, rfl, by decide +kernel, by decide +kernel⟩
section
variable {P : Program} {w : World} {K : PySem.W.Frag} {mg : Str → Option Value} {base : Heap} {C : Addr}
def spWord : Sp := fun vs H Q _ => ∃ ms : List Nat, vs = [.str (sS ms)] ∧ (∀ m ∈ ms, m ∈ letters) ∧ 1 ≤ ms.length ∧ ms.length ≤ 200 ∧ ∀ H', Same H H' → Q (.bl true) H'
theorem dr_at {H : Hp} {dl : Addr} {ds : List Addr} {n : Nat} {ts : List Tie} (d : Dr H dl ds n ts) {p : Nat} (hp : p < n) : ∃ a, atI (ds.map V.ref) (p : Int) = some (.ref a) ∧ H a = some (.dK (doorsK p ts)) := by
  have hi : p < ds.length := by rw [d.len]; exact hp
  have hg : ds[p]? = some ds[p] := List.getElem?_eq_getElem hi
  exact ⟨ds[p], atI_nat (by rw [List.getElem?_map, hg]; rfl), d.hd p _ hg⟩
/-- _law_walk: by the doors told -/
def spWalk : Sp := fun vs H Q _ => ∃ (dl : Addr) (ds : List Addr) (n : Nat) (ts : List Tie) (h : Nat) (ms : List Nat), vs = [.ref dl, .int (h : Int), .str (sS ms)] ∧ Dr H dl ds n ts ∧ WebOk n ts ∧ h < n ∧ Q (walkV (walkN ts h ms)) H
theorem ok_walk {f : Addr} {fd : FuncData} (F : Fun K "_law_walk" "_law_walk" sWalk f fd) : FnOk P w K mg base CX0 1 f fd ["ways_here", "start", "letters"] spWalk := by
  refine F.ok scWalk (fun vs H Q E h => ?_) (fun cdv A outer s H vs Q E hr h => ?_)
  · obtain ⟨dl, ds, n, ts, h, ms, rfl, _⟩ := h
    rfl
  · obtain ⟨dl, ds, n, ts, h, ms, rfl, dr, wk, hn, k⟩ := h
    refine ⟨_, (C8.pss_cut (ps_for PassesOwn.never rfl (pi_str (pv 2)) (pg_name (i := 3) scWalk.nd rfl (.inl rfl)) (pss_cons (ps_if (pt_cmp (pc_dnotin (hu_of hr) (pv 3) (pe_ix ix_list (pv 0) (pv 1) (fun _ _ => rfl)))) (pss_one (ps_ret pe_non)) pss_nil) (pss_one (ps_set (i := 1) scWalk.nd rfl (.inl rfl) (pe_dget (hu_of hr) (pe_ix ix_list (pv 0) (pv 1) (fun _ _ => rfl)) (pv 3) (fun _ _ => rfl)))))) (pss_one (ps_ret (pv 1)))), ?_⟩
    refine ⟨fun σ H' => H = H' ∧ ∃ (p : Nat) (o : Option V), walkN ts h ms = some p ∧ σ = [some (.ref dl), some (.int (p : Int)), some (.str (sS ms)), o], ?_, ?_⟩
    · refine ⟨_, rfl, _, rfl, for_it walk_str (fun i σ H' => H = H' ∧ ∃ (p : Nat) (o : Option V), p < n ∧ walkN ts h (ms.take i) = some p ∧ σ = [some (.ref dl), some (.int (p : Int)), some (.str (sS ms)), o]) ⟨rfl, h, none, hn, rfl, rfl⟩ (fun _ _ _ _ _ => trivial) ?_ ?_⟩
      · rintro i x σ H1 _ hi ⟨rfl, p, o, hp, hw, rfl⟩ ⟨rfl, m, hm, rfl⟩
        have hmi : ms[i]? = some m := by
          rw [← sS_cps ms, Array.getElem?_toList]
          exact hm
        obtain ⟨a, ha, hda⟩ := dr_at dr hp
        refine ⟨_, rfl, _, rfl, _, rfl, dl, _, _, _, rfl, rfl, SqL.of dr.hl, ha, a, _, rfl, DGet.k (k := Sum.inr (sgn m)) hda, _, rfl, ?_⟩
        rw [valV_door]
        cases hd : door p m ts with
        | none =>
          rw [walk_stop hmi hw hd] at k
          exact iteT k
        | some q =>
          refine iteF ⟨_, rfl, _, rfl, dl, _, _, _, rfl, rfl, SqL.of dr.hl, ha, _, rfl, a, .int (q : Int), rfl, ?_, rfl, q, _, door_lt wk hd, (walk_step hmi hw).trans hd, rfl⟩
          have g := DGet.k (k := Sum.inr (sgn m)) hda
          rw [valV_door, hd] at g
          exact g
      · rintro σ H1 ⟨rfl, p, o, hp, hw, rfl⟩
        rw [List.take_of_length_le (by rw [← sS_len]; exact Nat.le_refl _)] at hw
        exact ⟨rfl, p, o, hw, rfl⟩
    rintro σ H1 ⟨rfl, p, o, hw, rfl⟩
    rw [hw] at k
    exact ⟨_, rfl, k⟩
/-- Web.go, a house and a word -/
def spGo (C : Addr) : Sp := fun vs H Q _ => ∃ (x : Addr) (n : Nat) (ts : List Tie) (h : Nat) (ms : List Nat), vs = [.ref x, .int (h : Int), .str (sS ms)] ∧ WebAt C H x n ts ∧ h < n ∧ (∀ m ∈ ms, m ∈ letters) ∧ 1 ≤ ms.length ∧ ms.length ≤ 200 ∧
  ∀ H', Same H H' → Q (walkV (walkN ts h ms)) H'
end
end Wh

namespace Wh
open PySem L2
abbrev sWText : Stmt := metS 29 1
abbrev sWTies : Stmt := metS 29 5
abbrev sWStr : Stmt := metS 29 11
abbrev sWEq : Stmt := metS 29 10
theorem scWEq : FnScope ["self", "other"] ["self", "other"] (defScope sWEq) := ⟨rfl, rfl, rfl, by decide +kernel, rfl, by decide +kernel, by decide +kernel⟩
theorem scWText : FnScope ["self"] ["self"] (defScope sWText) := ⟨rfl, rfl, rfl, by decide +kernel, rfl, by decide +kernel, by decide +kernel⟩
theorem scWTies : FnScope ["self"] ["self"] (defScope sWTies) := ⟨rfl, rfl, rfl, by decide +kernel, rfl, by decide +kernel, by decide +kernel⟩
theorem scWStr : FnScope ["self"] ["self"] (defScope sWStr) := ⟨rfl, rfl, rfl, by decide +kernel, rfl, by decide +kernel, by decide +kernel⟩
structure WebI (K : PySem.W.Frag) (C : Addr) : Prop where
  ha : PySem.W.findIn K (.ref C) "__class__" = some (some (.builtin "object.__class__"))
  hn : PySem.W.specialIn K (.builtin "object.__class__") "__get__" = some (some (.builtin "getset_descriptor.__get__"))
  ht : PySem.W.takesIn K (.builtin "object.__class__") = some true
  hm : PySem.W.mroIn K C (.type "object") = some true
  kit : PySem.W.kitOne K (.ref C) (.ref C) = some true
section
variable {P : Program} {w : World} {K : PySem.W.Frag} {mg : Str → Option Value} {base : Heap} {C : Addr}
def spWEqA (K : PySem.W.Frag) (C : Addr) : Sp := fun vs H Q _ => ∃ (x : Addr) (y : V) (n : Nat) (ts : List Tie), vs = [.ref x, y] ∧ WebAt C H x n ts ∧
  ((∃ (b : Addr) (m : Nat) (us : List Tie), y = .ref b ∧ WebAt C H b m us ∧ Q (.bl (decide (ts = us))) H) ∨ ∃ t : Value, TyX K H y t ∧ PySem.W.kitOne K t (.ref C) = some false ∧ Q (.bl false) H)
theorem ok_weqA {f : Addr} {fd : FuncData} (F : Fun K "__eq__" "Web.__eq__" sWEq f fd) (cW : WebC K C) (I : WebI K C) (misi : mg "isinstance" = none) (mW : mg "Web" = some (.ref C)) : FnOk P w K mg base CX0 1 f fd ["self", "other"] (spWEqA K C) := by
  refine F.ok scWEq (fun vs H Q E h => ?_) (fun cdv A outer s H vs Q E hr h => ?_)
  · obtain ⟨x, y, n, ts, rfl, _⟩ := h
    rfl
  · obtain ⟨x, y, n, ts, rfl, wx, h⟩ := h
    obtain ⟨dx, txt, l, ps, dl, ds, h1, _⟩ := wx.ex
    refine ⟨_, (pss_one (ps_ret (pe_and (pe_callB call_isi (by rfl) misi (by decide +kernel) (pa_cons (pv 1) (pa_cons (pe_glob (v := .ref C) rfl mW rfl) pa_nil))) (pe_one (pe_cmpR op_eq (pe_fld (pv 0) rfl) (pe_fld (pv 1) rfl) (nomark _)))))), ?_⟩
    rcases h with ⟨b, m, us, rfl, wy, k⟩ | ⟨t, ty, no, k⟩
    · obtain ⟨dy, txt2, l2, ps2, dl2, ds2, h2, _⟩ := wy.ex
      refine ⟨_, rfl, _, _, _, _, true, rfl, .own C, .base (.ins h2 cW.c I.ha I.hn I.ht I.hm), I.kit, true, rfl, ?_⟩
      refine iteT ⟨_, rfl, x, C, dx, _, _, rfl, h1, cW.c, cW.n2, ff_plain _ _ _ _, _, rfl, b, C, dy, _, _, rfl, h2, cW.c, cW.n2, ff_plain _ _ _ _, rfl, ?_⟩
      have e : decide (V.str (webS ts) = V.str (webS us)) = decide (ts = us) := by
        by_cases c : ts = us
        · rw [c, decide_eq_true rfl, decide_eq_true rfl]
        · rw [decide_eq_false c, decide_eq_false fun z => c (webS_inj wx.wk wy.wk (V.str.inj z))]
      rw [e]
      exact k
    · exact ⟨_, rfl, _, _, _, _, false, rfl, .own C, ty, no, false, rfl, iteF k⟩
def spWEq (C : Addr) : Sp := fun vs H Q _ => ∃ (x y : Addr) (n m : Nat) (ts : List Tie), vs = [.ref x, .ref y] ∧ WebAt C H x n ts ∧ WebAt C H y m ts ∧ Q (.bl true) H
theorem ok_weq {f : Addr} {fd : FuncData} (G : FnOk P w K mg base CX0 1 f fd ["self", "other"] (spWEqA K C)) : FnOk P w K mg base CX0 1 f fd ["self", "other"] (spWEq C) :=
  G.imp fun vs H Q E ⟨x, y, n, m, ts, e, wx, wy, k⟩ => ⟨x, .ref y, n, ts, e, wx, .inl ⟨y, m, ts, rfl, wy, by rw [decide_eq_true rfl]; exact k⟩⟩
def spWText (C : Addr) : Sp := fun vs H Q _ => ∃ (x : Addr) (txt : Str), vs = [.ref x] ∧ TextAt C H x txt ∧ Q (.str txt) H
theorem ok_wtext {f : Addr} {fd : FuncData} (F : Fun K "text" "Web.text" sWText f fd) (cW : WebC K C) : FnOk P w K mg base CX0 1 f fd ["self"] (spWText C) := by
  refine F.ok scWText (fun vs H Q E h => ?_) (fun cdv A outer s H vs Q E hr h => ?_)
  · obtain ⟨x, txt, rfl, _⟩ := h
    rfl
  · obtain ⟨x, txt, rfl, ⟨dx, pl, l, dl, h1⟩, k⟩ := h
    exact ⟨_, (pss_one (ps_ret (pe_fld (pv 0) rfl))), _, rfl, x, C, dx, _, _, rfl, h1, cW.c, cW.n1, ff_text _ _ _ _, k⟩
def spWTies (C : Addr) : Sp := fun vs H Q _ => ∃ (x : Addr) (n : Nat) (ts : List Tie), vs = [.ref x] ∧ WebAt C H x n ts ∧ ∀ (l : Addr) (ps : List (Addr × Tie)), H l = some (.tup (refs ps)) → At tieV H ps → (ps.map (·.2)).Perm ts → (ps.map (·.2)).Pairwise (fun x y => ¬ tLt y x) → Q (.ref l) H
theorem ok_wties {f : Addr} {fd : FuncData} (F : Fun K "ties" "Web.ties" sWTies f fd) (cW : WebC K C) : FnOk P w K mg base CX0 1 f fd ["self"] (spWTies C) := by
  refine F.ok scWTies (fun vs H Q E h => ?_) (fun cdv A outer s H vs Q E hr h => ?_)
  · obtain ⟨x, n, ts, rfl, _⟩ := h
    rfl
  · obtain ⟨x, n, ts, rfl, wb, k⟩ := h
    obtain ⟨dx, txt, l, ps, dl, ds, h1, h2, h3, h4, h5, h6⟩ := wb.ex
    exact ⟨_, (pss_one (ps_ret (pe_fld (pv 0) rfl))), _, rfl, x, C, dx, _, _, rfl, h1, cW.c, cW.n3, ff_ties _ _ _ _, k l ps h2 h3 h4 h6⟩
def spWStr (C : Addr) : Sp := fun vs H Q _ => ∃ (x : Addr) (n : Nat) (ts : List Tie), vs = [.ref x] ∧ WebAt C H x n ts ∧ Q (.str (webS ts)) H
theorem ok_wstr {f : Addr} {fd : FuncData} (F : Fun K "__str__" "Web.__str__" sWStr f fd) (cW : WebC K C) (mstr : mg "str" = none) : FnOk P w K mg base CX0 1 f fd ["self"] (spWStr C) := by
  refine F.ok scWStr (fun vs H Q E h => ?_) (fun cdv A outer s H vs Q E hr h => ?_)
  · obtain ⟨x, n, ts, rfl, _⟩ := h
    rfl
  · obtain ⟨x, n, ts, rfl, wb, k⟩ := h
    obtain ⟨dx, txt, l, ps, dl, ds, h1, _⟩ := wb.ex
    exact ⟨_, (pss_one (ps_ret (pe_callTy SkE.call_str_str (by rfl) mstr (by decide +kernel) (pa_cons (pe_fld (pv 0) rfl) pa_nil)))), _, rfl, x, C, dx, _, _, rfl, h1, cW.c, cW.n2, ff_plain _ _ _ _, _, rfl, k⟩
end
end Wh

namespace Wh
open PySem L2
abbrev sCkWeb : Stmt := topS 33
theorem scCkWeb : FnScope ["web"] ["web"] (defScope sCkWeb) := ⟨rfl, rfl, rfl, by decide +kernel, rfl, by decide +kernel, by decide +kernel⟩
section
variable {P : Program} {w : World} {K : PySem.W.Frag} {mg : Str → Option Value} {base : Heap} {C : Addr}
/-! ### doors of a tuple of ties -/
def spCountT (K : PySem.W.Frag) : Sp := fun vs H Q _ => ∃ (l : Addr) (ps : List (Addr × Tie)) (n : Nat), vs = [.ref l] ∧ H l = some (.tup (refs ps)) ∧ At tieV H ps ∧ WebOk n (ps.map (·.2)) ∧ ∀ H', Same H H' → Q (.int (n : Int)) H'
theorem ok_countT {f : Addr} {fd : FuncData} (F : Fun K "count_houses" "count_houses" sCount f fd) (mmax : mg "max" = none) : FnOk P w K mg base CX0 1 f fd ["ties"] (spCountT K) := by
  refine F.ok scCount (fun vs H Q E h => ?_) (fun cdv A outer s H vs Q E hr h => ?_)
  · obtain ⟨l, ps, n, rfl, _⟩ := h
    rfl
  · obtain ⟨l, ps, n, rfl, hl, hA, wk, k⟩ := h
    refine ⟨_, (pss_one (ps_ret (pe_op op_add (pe_callB (cr_max rfl) (by rfl) mmax (by decide +kernel) (pa_cons (pe_lc (own := [("tie", 1)]) (g := gName 1) (tt := tYes) rfl scCount.nd (pi_tup (pv 0)) (blkOk_by (N := ["ties", "tie"]) (own := [("tie", 1)]) (sc := defScope sCount) (by decide +kernel)) (fun _ _ _ _ _ => (pg_name (i := 1) scCount.nd rfl (.inl rfl))) (fun _ _ _ _ _ => pts_nil) (fun _ _ _ _ _ => (pe_ix (ix_tupK K rfl) (pv 1) pe_int (fun _ _ => rfl)))) pa_nil)) pe_int))), ?_⟩
    refine ⟨_, rfl, l, rfl, ⟨_, SqT.of hl⟩, fun D nD => ?_⟩
    refine lc_tup (K := K) (a := l) (xs := refs ps) (fun i H' => Same H H' ∧ H' D = some (.lst (((ps.map fun p => (p.2.b : Int)).take i).map V.int))) ⟨same_upd nD, upd_same⟩ (fun i H' _ ⟨s, _⟩ => SqT.of (s _ _ hl)) ?_ ?_
    · rintro i x H1 hx ⟨s1, hD⟩
      obtain ⟨⟨p, t⟩, hk, rfl⟩ := refs_get hx
      have hp : H1 p = some (.tup (tieV t)) := s1 _ _ (hA _ (List.mem_of_getElem? hk))
      refine ⟨rfl, _, rfl, p, _, _, _, rfl, rfl, SqT.of hp, rfl, _, hD, ?_, s1.own nD, ?_⟩
      · have := wk.len
        rw [List.length_map] at this
        rw [List.length_map, List.length_take, List.length_map]
        exact small1000 (by omega)
      · rw [upd_same, List.take_succ, List.getElem?_map, hk, List.map_append]
        rfl
    · rintro H1 ⟨s1, hD⟩
      rw [refs_len, List.take_of_length_le (by rw [List.length_map]; exact Nat.le_refl _)] at hD
      refine ⟨D, _, rfl, SqL.of hD, ?_, fun m hm hle => ?_⟩
      · have := wk.ne
        rw [List.length_map]
        exact List.length_pos_iff.mpr fun e => this (by rw [e]; rfl)
      · refine ⟨_, _, rfl, rfl, ?_⟩
        show Q (.int (m + 1)) H1
        rw [max_top wk hm hle]
        exact k H1 s1
def spDoorsT (K : PySem.W.Frag) : Sp := fun vs H Q _ => ∃ (l : Addr) (ps : List (Addr × Tie)) (n : Nat), vs = [.ref l] ∧ H l = some (.tup (refs ps)) ∧ At tieV H ps ∧ WebOk n (ps.map (·.2)) ∧
  ∀ (dl : Addr) (ds : List Addr) (H' : Hp), Same H H' → Dr H' dl ds n (ps.map (·.2)) → H dl = none → (∀ a ∈ ds, H a = none) → Q (.ref dl) H'
theorem ok_doorsT {f fC : Addr} {fd fdC : FuncData} (F : Fun K "doors_of" "doors_of" sDoors f fd) (mmax : mg "max" = none) (mrange : mg "range" = none) (FC : Fun K "count_houses" "count_houses" sCount fC fdC) (bC : Binds K fdC ["ties"] []) (mC : mg "count_houses" = some (.ref fC)) :
    FnOk P w K mg base CX0 2 f fd ["ties"] (spDoorsT K) := by
  have GC : FnOk P w K mg base CX0 1 fC fdC ["ties"] (spCountT K) := ok_countT FC mmax
  refine F.ok scDoors (fun vs H Q E h => ?_) (fun cdv A outer s H vs Q E hr h => ?_)
  · obtain ⟨l, ps, n, rfl, _⟩ := h
    rfl
  · obtain ⟨l, ps, n, rfl, hl, hA, wk, k⟩ := h
    refine ⟨_, (C8.pss_cut (ps_setLc (i := 1) (own := [("_", 6)]) (g := gName 6) (tt := tYes) rfl scDoors.nd rfl rfl (sw_true rfl rfl rfl (by decide +kernel)) (pi_range1 (by rfl) mrange (pa_cons (pe_call GC hr (by rfl) mC FC.kp bC .nil pass0 (pa_cons (pv 0) pa_nil)) pa_nil)) (blkOk_by (N := ["ties", "doors", "low", "mark", "high", "back", "_"]) (own := [("_", 6)]) (sc := defScope sDoors) (by decide +kernel)) (fun _ _ _ _ _ => (pg_name (i := 6) scDoors.nd rfl (.inl rfl))) (fun _ _ _ _ _ => pts_nil) (fun _ _ _ _ _ => pe_dnewK)) (C8.pss_cut (ps_for PassesOwn.never rfl (pi_tup (pv 0)) (pg_tup (by rfl) (pgs_cons (pg_name (i := 2) scDoors.nd rfl (.inl rfl)) (pgs_cons (pg_name (i := 3) scDoors.nd rfl (.inl rfl)) (pgs_cons (pg_name (i := 4) scDoors.nd rfl (.inl rfl)) (pgs_cons (pg_name (i := 5) scDoors.nd rfl (.inl rfl)) pgs_nil))))) (pss_cons (ps_dput (hu_of hr) (pe_ix ix_list (pv 1) (pv 2) (fun _ _ => rfl)) (pv 3) (pv 4) rfl) (pss_one (ps_dput (hu_of hr) (pe_ix ix_list (pv 1) (pv 4) (fun _ _ => rfl)) (pv 5) (pv 2) rfl)))) (pss_one (ps_ret (pv 1))))), ?_⟩
    refine ⟨fun σ H' => Same H H' ∧ ∃ (dl : Addr) (ds : List Addr), Dr H' dl ds n [] ∧ H dl = none ∧ (∀ a ∈ ds, H a = none) ∧ σ = [some (.ref l), some (.ref dl), none, none, none, none, none], ?_, ?_⟩
    · refine ⟨_, rfl, l, ps, n, rfl, hl, hA, wk, fun H1 s1 => ⟨(n : Int), rfl, by omega, by have := wk.n10; omega, fun D nD => ?_⟩⟩
      rw [show ((n : Int)).toNat = n from Int.toNat_natCast n]
      exact rd_dicts s1 wk.n10 nD (fun ds H' s2 d hn => ⟨s2, D, ds, d, s1.free nD, hn, rfl⟩) fun _ => rfl
    rintro σ H1 ⟨s1, dl, ds, dr, ndl, nds, rfl⟩
    refine ⟨fun σ H' => Same H H' ∧ Dr H' dl ds n (ps.map (·.2)) ∧ ∃ w2 w3 w4 w5 : Option V, σ = [some (.ref l), some (.ref dl), w2, w3, w4, w5, none], ?_, ?_⟩
    · refine ⟨_, rfl, l, rfl, ⟨_, SqT.of (s1 _ _ hl)⟩, for_tup (K := K) (a := l) (xs := refs ps) (fun i σ H' => Same H H' ∧ Dr H' dl ds n ((ps.map (·.2)).take i) ∧ ∃ w2 w3 w4 w5 : Option V, σ = [some (.ref l), some (.ref dl), w2, w3, w4, w5, none])
        ⟨s1, dr, none, none, none, none, rfl⟩ (fun i σ H' _ ⟨s, _⟩ => SqT.of (s _ _ hl)) ?_ ?_⟩
      · rintro i x σ H2 hx ⟨s2, d2, w2, w3, w4, w5, rfl⟩
        obtain ⟨⟨p, t⟩, hk, rfl⟩ := refs_get hx
        have hp : H2 p = some (.tup (tieV t)) := s2 _ _ (hA _ (List.mem_of_getElem? hk))
        have hkt : (ps.map (·.2))[i]? = some t := by rw [List.getElem?_map, hk]; rfl
        obtain ⟨tab, tbn⟩ := wk.lt t (List.mem_of_getElem? hkt)
        have ne : t.a ≠ t.b := by omega
        have hi1 : t.a < ds.length := by rw [d2.len]; omega
        have hi2 : t.b < ds.length := by rw [d2.len]; omega
        have g1 : ds[t.a]? = some ds[t.a] := List.getElem?_eq_getElem hi1
        have g2 : ds[t.b]? = some ds[t.b] := List.getElem?_eq_getElem hi2
        have at1 : ∀ {j : Nat} (hj : j < ds.length), atI (ds.map V.ref) (j : Int) = some (.ref ds[j]) := fun {j} hj => atI_nat (by rw [List.getElem?_map, List.getElem?_eq_getElem hj]; rfl)
        obtain ⟨h3, und⟩ := List.nodup_cons.mp d2.nd
        have n12 : ds[t.a] ≠ ds[t.b] := fun z => ne (nd_ix und g1 (by rw [z]; exact g2))
        have sz : ∀ h, (doorsK h ((ps.map (·.2)).take i)).length < sizeLine := fun h => by
          rw [doorsK_len]
          exact small1000 (by have := marksAt_take_len h wk i; omega)
        refine ⟨p, _, rfl, SqT.of hp, rfl, _, _, rfl, _, _, rfl, _, _, rfl, _, _, rfl, rfl, ?_⟩
        refine ⟨_, rfl, _, rfl, _, rfl, dl, _, _, _, rfl, rfl, SqL.of d2.hl, at1 hi1, _, rfl, _, _, rfl, DPut.k (k := Sum.inr (sgn t.m)) (d2.hd _ _ g1) (sz _), ?_⟩
        rw [put_mark _ (mark_new_a wk.uniq hkt ne)]
        have hl2 := put_ne (u := HO.dK (doorsK t.a ((ps.map (·.2)).take i) ++ [(Sum.inr (sgn t.m), V.int (t.b : Int))])) d2.hl (fun z => h3 (z ▸ List.mem_of_getElem? g1))
        have hd2 := put_ne (u := HO.dK (doorsK t.a ((ps.map (·.2)).take i) ++ [(Sum.inr (sgn t.m), V.int (t.b : Int))])) (d2.hd _ _ g2) (fun z => n12 z.symm)
        refine ⟨_, rfl, _, rfl, _, rfl, dl, _, _, _, rfl, rfl, SqL.of hl2, at1 hi2, _, rfl, _, _, rfl, DPut.k (k := Sum.inr (sgn t.o)) hd2 (sz _), ?_⟩
        rw [put_mark _ (mark_new_b wk.uniq hkt ne)]
        refine ⟨((s2.own (nds _ (List.mem_of_getElem? g1))).own (nds _ (List.mem_of_getElem? g2))), ?_, _, _, _, _, rfl⟩
        rw [List.take_succ, hkt]
        exact d2.step t ne g1 g2
      · rintro σ H2 ⟨s2, d2, w2, w3, w4, w5, rfl⟩
        rw [refs_len, List.take_of_length_le (by rw [List.length_map]; exact Nat.le_refl _)] at d2
        exact ⟨s2, d2, _, _, _, _, rfl⟩
    rintro σ H2 ⟨s2, d2, w2, w3, w4, w5, rfl⟩
    exact ⟨_, rfl, k dl ds H2 s2 d2 ndl nds⟩

/-! ### the checks, where nothing is wrong -/
theorem _root_.Wh.WebAt.fgo {H : Hp} {x : Addr} {n : Nat} {ts : List Tie} (w : WebAt C H x n ts) : ∃ dx fs, H x = some (.ins C dx fs) ∧ fs.lookup ("go" : Str) = none := by
  obtain ⟨dx, txt, l, ps, dl, ds, h1, _⟩ := w.ex
  exact ⟨dx, _, h1, ff_no _ _ _ _ (by decide +kernel)⟩
def spCkWeb (C : Addr) : Sp := fun vs H Q _ => ∃ (x : Addr) (n : Nat) (ts : List Tie), vs = [.ref x] ∧ WebAt C H x n ts ∧ Q .non H
theorem ok_ckweb {f : Addr} {fd : FuncData} (F : Fun K "check_web" "check_web" sCkWeb f fd) (cW : WebC K C) (I : WebI K C) (misi : mg "isinstance" = none) (mW : mg "Web" = some (.ref C)) : FnOk P w K mg base CX0 1 f fd ["web"] (spCkWeb C) := by
  refine F.ok scCkWeb (fun vs H Q E h => ?_) (fun cdv A outer s H vs Q E hr h => ?_)
  · obtain ⟨x, n, ts, rfl, _⟩ := h
    rfl
  · obtain ⟨x, n, ts, rfl, wb, k⟩ := h
    obtain ⟨dx, txt, l, ps, dl, ds, h1, _⟩ := wb.ex
    refine ⟨_, (pss_one (ps_if (pt_not (pt_val (pe_callB call_isi (by rfl) misi (by decide +kernel) (pa_cons (pv 0) (pa_cons (pe_glob (v := .ref C) rfl mW rfl) pa_nil))))) pss_never pss_nil)), ?_⟩
    exact ⟨_, rfl, _, _, _, _, true, rfl, .own C, .base (.ins h1 cW.c I.ha I.hn I.ht I.hm), I.kit, true, rfl, iteF k⟩
def spCkWord : Sp := fun vs H Q _ => ∃ ms : List Nat, vs = [.str (sS ms)] ∧ (∀ m ∈ ms, m ∈ letters) ∧ 1 ≤ ms.length ∧ ms.length ≤ 200 ∧ ∀ H', Same H H' → Q .non H'
def spIsPair : Sp := fun vs H Q _ => ∃ (p : Addr) (q : Pr) (n : Nat), vs = [.ref p, .int (n : Int)] ∧ H p = some (.tup (prV q)) ∧ q.1 < n ∧ q.2 < n ∧ ∀ H', Same H H' → Q (.bl true) H'
def spCkPair (C : Addr) : Sp := fun vs H Q _ => ∃ (x p : Addr) (n : Nat) (ts : List Tie) (q : Pr), vs = [.ref x, .ref p] ∧ WebAt C H x n ts ∧ H p = some (.tup (prV q)) ∧ q.1 < n ∧ q.2 < n ∧ ∀ H', Same H H' → Q .non H'
/-! ### led -/
def poV (p : Nat × Option Nat) : List V := [.int (p.1 : Int), walkV p.2]
def ledL (n : Nat) (ts : List Tie) (ms : List Nat) : List Pr := (List.range n).filterMap fun h => (walkN ts h ms).map fun e => (h, e)
def spLed (C : Addr) : Sp := fun vs H Q _ => ∃ (x : Addr) (n : Nat) (ts : List Tie) (ms : List Nat), vs = [.ref x, .str (sS ms)] ∧ WebAt C H x n ts ∧ (∀ m ∈ ms, m ∈ letters) ∧ 1 ≤ ms.length ∧ ms.length ≤ 200 ∧
  ∀ (p : Addr) (prs : List (Addr × Pr)) (H' : Hp), Same H H' → H p = none → H' p = some (.tup (refs prs)) → At prV H' prs → prs.map (·.2) = ledL n ts ms → Q (.ref p) H'
/-! ### unlike -/
def unB (ts : List Tie) (ms ks : List Nat) (h : Nat) : Bool := match walkN ts h ms, walkN ts h ks with
  | some a, some b => !decide (a = b)
  | _, _ => false
def unL (n : Nat) (ts : List Tie) (ms ks : List Nat) : List Nat := (List.range n).filter (unB ts ms ks)
def natV (h : Nat) : V := .int (h : Int)
def spUnlike (C : Addr) : Sp := fun vs H Q _ => ∃ (x : Addr) (n : Nat) (ts : List Tie) (ms ks : List Nat), vs = [.ref x, .str (sS ms), .str (sS ks)] ∧ WebAt C H x n ts ∧ (∀ m ∈ ms, m ∈ letters) ∧ 1 ≤ ms.length ∧ ms.length ≤ 200 ∧ (∀ m ∈ ks, m ∈ letters) ∧ 1 ≤ ks.length ∧ ks.length ≤ 200 ∧
  ∀ (p : Addr) (H' : Hp), Same H H' → H p = none → H' p = some (.tup ((unL n ts ms ks).map natV)) → Q (.ref p) H'
end
end Wh

namespace Wh
open PySem L2
/-! ### classes do not hang on the order of ties -/
theorem st2_perm {n : Nat} {ts us : List Tie} (w : WebOk n ts) (p : ts.Perm us) (q : Pr) (m : Nat) : step2 ts q m = step2 us q m := by
  unfold step2
  rw [door_perm w p, door_perm w p]
theorem wk2_perm {n : Nat} {ts us : List Tie} (w : WebOk n ts) (p : ts.Perm us) : ∀ (ms : List Nat) (q : Pr), walk2 ts q ms = walk2 us q ms
  | [], _ => rfl
  | m :: ms, q => by
    show (step2 ts q m).bind _ = (step2 us q m).bind _
    rw [st2_perm w p]
    cases step2 us q m with
    | none => rfl
    | some r => exact wk2_perm w p ms r
theorem Cl.perm {n : Nat} {ts us : List Tie} (w : WebOk n ts) (p : ts.Perm us) {a b : Pr} (h : Cl n ts a b) : Cl n us a b := by
  induction h with
  | refl a => exact .refl a
  | step h1 h2 l =>
    obtain ⟨u, ne, h⟩ := l
    exact .step h1 h2 ⟨u, ne, by rw [← wk2_perm w p]; exact h⟩
  | symm _ ih => exact .symm ih
  | trans _ _ i1 i2 => exact .trans i1 i2
theorem Cl.perm_iff {n : Nat} {ts us : List Tie} (w : WebOk n ts) (p : ts.Perm us) {a b : Pr} : Cl n ts a b ↔ Cl n us a b := ⟨Cl.perm w p, Cl.perm (w.perm p) p.symm⟩
theorem TableOk.perm {n : Nat} {ts us : List Tie} {T : List (List Nat)} (w : WebOk n ts) (p : ts.Perm us) (t : TableOk n ts T) : TableOk n us T := by
  obtain ⟨⟨hs, h1, h2⟩, h3⟩ := t
  exact ⟨⟨hs, fun a b ha hb => (h1 a b ha hb).trans (Cl.perm_iff w p), h2⟩, fun a b c i1 i2 cl => h3 a b c i1 i2 ((Cl.perm_iff w p).mpr cl)⟩
theorem Unfair.perm {n : Nat} {ts us : List Tie} (w : WebOk n ts) (p : ts.Perm us) (u : Unfair n ts) : Unfair n us := by
  obtain ⟨a, b, c, h1, h2, ne, cl⟩ := u
  exact ⟨a, b, c, h1, h2, ne, cl.perm w p⟩
section
variable {P : Program} {w : World} {K : PySem.W.Frag} {mg : Str → Option Value} {base : Heap} {C : Addr}
def spCodes (C : Addr) : Sp := fun vs H Q _ => ∃ (x : Addr) (n : Nat) (ts : List Tie), vs = [.ref x] ∧ WebAt C H x n ts ∧ (∀ H', Same H H' → Unfair n ts → Q .non H') ∧
  ∀ (t : Addr) (qs : List (Addr × List Nat)) (H' : Hp), Same H H' → H t = none → H' t = some (.tup (refs qs)) → At natsV H' qs → TableOk n ts (qs.map (·.2)) → Q (.ref t) H'
def spHas (C : Addr) : Sp := fun vs H Q _ => ∃ (x : Addr) (n : Nat) (ts : List Tie), vs = [.ref x] ∧ WebAt C H x n ts ∧ ∀ (b : Bool) (H' : Hp), Same H H' → (b = true ↔ ¬ Unfair n ts) → Q (.bl b) H'
end
end Wh

namespace Wh
open PySem L2
abbrev sBCodes : Stmt := topS 46
abbrev sHasB : Stmt := topS 45
theorem scBCodes : FnScope ["web"] ["web"] (defScope sBCodes) := ⟨rfl, rfl, rfl, by decide +kernel, rfl, by decide +kernel, by decide +kernel⟩
theorem scHasB : FnScope ["web"] ["web"] (defScope sHasB) := ⟨rfl, rfl, rfl, by decide +kernel, rfl, by decide +kernel, by decide +kernel⟩
/-! ### classes do not hang on the order of ties -/
theorem Wd.perm {n : Nat} {ts us : List Tie} (w : WebOk n ts) (p : ts.Perm us) {a b : Pr} (h : Wd n ts a b) : Wd n us a b := by
  induction h with
  | cl c => exact .cl (c.perm w p)
  | step _ h1 h2 ih => exact .step ih (by rw [← door_perm w p]; exact h1) (by rw [← door_perm w p]; exact h2)
  | symm _ ih => exact .symm ih
  | trans _ _ i1 i2 => exact .trans i1 i2
theorem Bh.perm {n : Nat} {ts us : List Tie} (w : WebOk n ts) (p : ts.Perm us) {a b : Pr} (h : Bh n ts a b) : Bh n us a b := by
  induction h with
  | cl c => exact .cl (c.perm w p)
  | step _ h1 h2 ih => exact .step ih (by rw [← door_perm w p]; exact h1) (by rw [← door_perm w p]; exact h2)
  | symm _ ih => exact .symm ih
  | trans _ _ i1 i2 => exact .trans i1 i2
theorem TabSp.to {n : Nat} {R R' : Pr → Pr → Prop} {U U' : Prop} {H : Hp} {Q : VK} (h : TabSp n R U H Q) (hr : ∀ p q, R p q ↔ R' p q) (hu : U ↔ U') : TabSp n R' U' H Q :=
  ⟨fun H' s u => h.1 H' s (hu.mpr u), fun t qs H' s nt ht hQ tb nu => h.2 t qs H' s nt ht hQ (tb.congr fun p q _ _ => (hr p q).symm) fun u => nu (hu.mp u)⟩
theorem unfR_iff {n : Nat} {R R' : Pr → Pr → Prop} (h : ∀ p q, R p q ↔ R' p q) : UnfairR n R ↔ UnfairR n R' := ⟨fun u => u.mono fun p q _ _ r => (h p q).mp r, fun u => u.mono fun p q _ _ r => (h p q).mpr r⟩
theorem unfE_iff {n : Nat} {R R' : Pr → Pr → Prop} (h : ∀ p q, R p q ↔ R' p q) : UnfairE n R ↔ UnfairE n R' := ⟨fun u => u.mono fun p q _ _ r => (h p q).mp r, fun u => u.mono fun p q _ _ r => (h p q).mpr r⟩
theorem TabSp.same {n : Nat} {R : Pr → Pr → Prop} {U : Prop} {H H1 : Hp} {Q : VK} (h : TabSp n R U H Q) (s : Same H H1) : TabSp n R U H1 Q :=
  ⟨fun H' s' u => h.1 H' (Same.trans s s') u, fun t qs H' s' nt ht hQ tb nu => h.2 t qs H' (Same.trans s s') (s.free nt) ht hQ tb nu⟩
/-- the rows of a table as the heap has them -/
theorem tab_row {H : Hp} {rs : List (Addr × List Nat)} {n : Nat} {R : Pr → Pr → Prop} (hA : At natsV H rs) (tab : Tab n R (rs.map (·.2))) : ∀ i, i < n → ∃ (r : Addr) (ns : List Nat), rs[i]? = some (r, ns) ∧ atI (refs rs) (i : Int) = some (.ref r) ∧ H r = some (.tup (natsV ns)) ∧ ns.length = n ∧ ∀ y, y < n → (natsV ns)[y]? = some (.int (cell (rs.map (·.2)) (i, y) : Int)) := by
  intro i hi
  have rl : rs.length = n := by
    have := tab.len
    rwa [List.length_map] at this
  have g : rs[i]? = some rs[i] := List.getElem?_eq_getElem (by omega)
  generalize hz : rs[i] = z at g
  obtain ⟨r, ns⟩ := z
  have hm := List.mem_of_getElem? g
  have ln : ns.length = n := tab.row _ (List.mem_map_of_mem (f := (·.2)) hm)
  refine ⟨r, ns, g, atI_nat (by unfold refs; rw [List.getElem?_map, g]; rfl), hA _ hm, ln, fun y hy => ?_⟩
  unfold natsV
  rw [List.getElem?_map, List.getElem?_eq_getElem (by omega)]
  show some (V.int ((ns[y] : Nat) : Int)) = _
  have : cell (rs.map (·.2)) (i, y) = ns[y] := by
    unfold cell
    rw [List.getElem?_map, g]
    simp only [Option.map_some, Option.getD_some]
    rw [List.getElem?_eq_getElem (by omega)]
    rfl
  rw [this]
/-- what a table's name holds: None, or the table -/
def TabV (n : Nat) (R : Pr → Pr → Prop) (U : Prop) (v : V) (H : Hp) : Prop := (v = .non ∧ U) ∨ ∃ (t : Addr) (qs : List (Addr × List Nat)), v = .ref t ∧ H t = some (.tup (refs qs)) ∧ At natsV H qs ∧ Tab n R (qs.map (·.2)) ∧ ¬ U
theorem TabV.same {n : Nat} {R : Pr → Pr → Prop} {U : Prop} {v : V} {H H' : Hp} (h : TabV n R U v H) (s : Same H H') : TabV n R U v H' := by
  rcases h with h | ⟨t, qs, h1, h2, h3, h4, h5⟩
  · exact .inl h
  · exact .inr ⟨t, qs, h1, s _ _ h2, h3.same s, h4, h5⟩
theorem TabV.keep {n : Nat} {R : Pr → Pr → Prop} {U : Prop} {v : V} {H H' : Hp} (h : TabV n R U v H) (s : ∀ b xs, H b = some (.tup xs) → H' b = some (.tup xs)) : TabV n R U v H' := by
  rcases h with h | ⟨t, qs, h1, h2, h3, h4, h5⟩
  · exact .inl h
  · exact .inr ⟨t, qs, h1, s _ _ h2, h3.mono s, h4, h5⟩
theorem tabsp_of {n : Nat} {R : Pr → Pr → Prop} {U : Prop} {H : Hp} {Q : VK} (h : ∀ v H', Same H H' → TabV n R U v H' → Q v H') : TabSp n R U H Q :=
  ⟨fun H' s u => h _ _ s (.inl ⟨rfl, u⟩), fun t qs H' s _ ht hQ tb nu => h _ _ s (.inr ⟨t, qs, rfl, ht, hQ, tb, nu⟩)⟩
section
variable {P : Program} {w : World} {K : PySem.W.Frag} {mg : Str → Option Value} {base : Heap} {C : Addr}
def spTabW (C : Addr) (R : Nat → List Tie → Pr → Pr → Prop) (U : Nat → (Pr → Pr → Prop) → Prop) : Sp := fun vs H Q _ => ∃ (x : Addr) (n : Nat) (ts : List Tie), vs = [.ref x] ∧ WebAt C H x n ts ∧ TabSp n (R n ts) (U n (R n ts)) H Q
theorem codes_tab {k : Nat} {f : Addr} {fd : FuncData} {ps : List Str} (G : FnOk P w K mg base CX0 k f fd ps (spCodes C)) : FnOk P w K mg base CX0 k f fd ps (spTabW C Cl UnfairR) :=
  L2.FnOk.imp G fun vs H Q E ⟨x, n, ts, e, wb, h1, h2⟩ => ⟨x, n, ts, e, wb, h1, fun t qs H' s nt ht hQ ok => h2 t qs H' s nt ht hQ ok.tab fun u => by
    obtain ⟨a, b, c, i1, i2, ne, cl⟩ := u
    exact ne (ok.fair a b c i1 i2 cl)⟩
theorem ok_bcodes {f fA fD fL gT pT : Addr} {fd fdA fdD fdL fdT : FuncData} (F : Fun K "back_codes" "back_codes" sBCodes f fd) (cW : WebC K C)
    (GA : FnOk P w K mg base CX0 1 fA fdA ["web"] (spCkWeb C)) (FA : Fun K "check_web" "check_web" sCkWeb fA fdA) (bA : Binds K fdA ["web"] []) (mA : mg "check_web" = some (.ref fA))
    (GD : FnOk P w K mg base CX0 2 fD fdD ["ties"] (spDoorsT K)) (FD : Fun K "doors_of" "doors_of" sDoors fD fdD) (bD : Binds K fdD ["ties"] []) (mD : mg "doors_of" = some (.ref fD))
    (GL : FnOk P w K mg base CX0 4 fL fdL ["doors"] spLBack) (FL : Fun K "linked_back" "linked_back" sLBack fL fdL) (bL : Binds K fdL ["doors"] []) (mL : mg "linked_back" = some (.ref fL))
    (GT : FnOk P w K mg base CX0 1 gT fdT ["self"] (spWTies C)) (bT : Binds K fdT ["self"] []) (qT : PropOf K C "ties" pT gT) : FnOk P w K mg base CX0 5 f fd ["web"] (spTabW C Cl UnfairE) := by
  refine F.ok scBCodes (fun vs H Q E h => ?_) (fun cdv A outer s H vs Q E hr h => ?_)
  · obtain ⟨x, n, ts, rfl, _⟩ := h
    rfl
  · obtain ⟨x, n, ts, rfl, wb, k⟩ := h
    have hr1 : Room 1 _ := hr.mono (by decide)
    have hr2 : Room 2 _ := hr.mono (by decide)
    have hr3 : Room 4 _ := hr
    refine ⟨_, (C8.pss_cut (ps_expr (pe_call GA hr1 (by rfl) mA FA.kp bA .nil pass0 (pa_cons (pv 0) pa_nil))) (pss_one (ps_ret (pe_call GL hr3 (by rfl) mL FL.kp bL .nil pass0 (pa_cons (pe_call GD hr2 (by rfl) mD FD.kp bD .nil pass0 (pa_cons (pe_prop (pv 0) cW.c qT GT hr2 bT .nil pass0 rfl) pa_nil)) pa_nil))))), ?_⟩
    refine ⟨fun σ H' => H = H' ∧ σ = [some (.ref x)], ⟨_, rfl, x, n, ts, rfl, wb, rfl, rfl⟩, ?_⟩
    rintro σ H0 ⟨rfl, rfl⟩
    obtain ⟨dx, fs, hx⟩ := wb.isI
    refine ⟨_, rfl, x, dx, fs, rfl, hx, x, n, ts, rfl, wb, fun l ps h1 h2 h3 h4 => ?_⟩
    have wkp : WebOk n (ps.map (·.2)) := wb.wk.perm h3.symm
    refine ⟨l, ps, n, rfl, h1, h2, wkp, fun dl ds H1 s1 dr _ _ => ?_⟩
    have iff : ∀ p q, Cl n ts p q ↔ Cl n (ps.map (·.2)) p q := fun p q => ⟨fun h => h.perm wb.wk h3.symm, fun h => h.perm wkp h3⟩
    exact ⟨dl, ds, n, ps.map (·.2), rfl, dr, wkp, (k.to iff (unfE_iff iff)).same s1⟩
def spHasW (C : Addr) (R : Nat → List Tie → Pr → Pr → Prop) (U : Nat → (Pr → Pr → Prop) → Prop) : Sp := fun vs H Q _ => ∃ (x : Addr) (n : Nat) (ts : List Tie), vs = [.ref x] ∧ WebAt C H x n ts ∧ ∀ (b : Bool) (H' : Hp), Same H H' → (b = true ↔ ¬ U n (R n ts)) → Q (.bl b) H'
theorem has_of {R : Nat → List Tie → Pr → Pr → Prop} {U : Nat → (Pr → Pr → Prop) → Prop} {x : Addr} {n : Nat} {ts : List Tie} {H : Hp} {Q : VK} (k : ∀ (b : Bool) (H' : Hp), Same H H' → (b = true ↔ ¬ U n (R n ts)) → Q (.bl b) H') (Q' : VK)
    (h1 : ∀ H', Q (.bl false) H' → Q' .non H') (h2 : ∀ t H', Q (.bl true) H' → Q' (.ref t) H') : TabSp n (R n ts) (U n (R n ts)) H Q' :=
  ⟨fun H' s u => h1 H' (k false H' s ⟨fun z => (by cases z), fun z => absurd u z⟩), fun t qs H' s _ _ _ _ nu => h2 t H' (k true H' s ⟨fun _ => nu, fun _ => rfl⟩)⟩
theorem ok_hasb {f fC : Addr} {fd fdC : FuncData} (F : Fun K "has_back" "has_back" sHasB f fd) (GC : FnOk P w K mg base CX0 5 fC fdC ["web"] (spTabW C Cl UnfairE)) (FC : Fun K "back_codes" "back_codes" sBCodes fC fdC) (bC : Binds K fdC ["web"] []) (mC : mg "back_codes" = some (.ref fC)) : FnOk P w K mg base CX0 6 f fd ["web"] (spHasW C Cl UnfairE) := by
  refine F.ok scHasB (fun vs H Q E h => ?_) (fun cdv A outer s H vs Q E hr h => ?_)
  · obtain ⟨x, n, ts, rfl, _⟩ := h
    rfl
  · obtain ⟨x, n, ts, rfl, wb, k⟩ := h
    refine ⟨_, (pss_one (ps_ret (pe_cmpR op_notN (pe_call GC hr (by rfl) mC FC.kp bC .nil pass0 (pa_cons (pv 0) pa_nil)) pe_non (nomark _)))), ?_⟩
    exact ⟨_, rfl, x, n, ts, rfl, wb, has_of (x := x) k _ (fun H' q => ⟨rfl, q⟩) fun t H' q => ⟨rfl, q⟩⟩
end
end Wh

namespace Wh
open PySem L2
abbrev sMerged : Stmt := topS 56
abbrev sLTable : Stmt := topS 59
abbrev sLParted : Stmt := topS 60
theorem scMerged : FnScope ["labels", "one", "two", "low", "high", "pair"] ["labels", "one", "two"] (defScope sMerged) := ⟨rfl, rfl, rfl, by decide +kernel, rfl, by decide +kernel, by decide +kernel⟩
theorem scLTable : FnScope ["labels", "many", "heads", "pair", "first", "last"] ["labels", "many"] (defScope sLTable) := ⟨rfl, rfl, rfl, by decide +kernel, rfl, by decide +kernel, by decide +kernel⟩
theorem scLParted : FnScope ["table_here", "want_here", "many", "one", "row", "spot"] ["table_here", "want_here"] (defScope sLParted) := ⟨rfl, rfl, rfl, by decide +kernel, rfl, by decide +kernel, by decide +kernel⟩
theorem u2_of {k : Nat} {A : Around} (h : Room k A) : A.units + 2 < cLine := by have := h.units; omega
theorem mt_indexK {X : Cx} (K : PySem.W.Frag) (k : X.K = K) : MtR X "list.index" (rIndex K) := k ▸ mt_index
theorem paired_snoc {α β : Type} {R : α → β → Prop} : ∀ {xs : List α} {ys : List β} {x : α} {y : β}, Paired R xs ys → R x y → Paired R (xs ++ [x]) (ys ++ [y])
  | _, _, _, _, .nil, r => .cons r .nil
  | _, _, _, _, .cons h t, r => .cons h (paired_snoc t r)
/-- o.m(e, ..), a built-in method, within comprehensions -/
theorem pe_bmK {X : Cx} (K : PySem.W.Frag) (k : X.K = K) {o e : Expr} {es : List Expr} {to : TE} {t : TA} {name : Str} {apos cpos : Pos} {T id : String} {r : V → List V → Hp → VK → Prop} (pa : PlainAttrs T) (slot : Slot T name id) (ty : typeOf (.builtin id) = pure (.type "method_descriptor")) (hm : MtR X id r) (ho : PE X o to) (ha : PA X (e :: es) t)
    (b1 : attributeBase o name X.env (eval o X.env) = eval o X.env := by rfl)
    (b2 : ((backTo cpos (starEach (e :: es) X.env)).all (fun x => !x.1) && (backToKw cpos (keywordEach [] X.env)).all (fun x => x.1.isSome) && decide ((e :: es).length + ([] : List Keyword).length + (if ([] : List Keyword).isEmpty then 0 else 1) < 30)) = true := by rfl)
    (b3 : (apos.endLine == cpos.line) = true := by rfl) (b4 : starEach (e :: es) X.env = (false, eval e X.env) :: starEach es X.env := by rfl) (b5 : (backTo cpos (starEach es X.env)).any (·.1) = false := by rfl) :
    PE X (.Call (.Attribute o name apos) (e :: es) [] cpos) (tBM K T r to t) := by
  subst k
  exact pe_bm pa slot ty hm ho ha b1 b2 b3 b4 b5
section
variable {P : Program} {w : World} {K : PySem.W.Frag} {mg : Str → Option Value} {base : Heap}
def spMerged : Sp := fun vs H Q _ => ∃ (d pa oa : Addr) (n : Nat) (f : Pr → Nat) (p o : Pr), vs = [.ref d, .ref pa, .ref oa] ∧ H d = some (.dT (lblK n f)) ∧ n ≤ 10 ∧ InN n p ∧ InN n o ∧ H pa = some (.tup (prV p)) ∧ H oa = some (.tup (prV o)) ∧
  ∀ (e : Addr) (H' : Hp), Same H H' → H e = none → H' e = some (.dT (lblK n (mrg f (f p) (f o)))) → Q (.ref e) H'
set_option maxHeartbeats 2000000 in
theorem ok_merged {f : Addr} {fd : FuncData} (F : Fun K "_law_merged" "_law_merged" sMerged f fd) (mmin : mg "min" = none) (mmax : mg "max" = none) (mdict : mg "dict" = none) : FnOk P w K mg base CX0 1 f fd ["labels", "one", "two"] spMerged := by
  refine F.ok scMerged (fun vs H Q E h => ?_) (fun cdv A outer s H vs Q E hr h => ?_)
  · obtain ⟨d, pa, oa, n, g, p, o, rfl, _⟩ := h
    rfl
  · obtain ⟨d, pa, oa, n, g, p, o, rfl, hd, n10, hp, ho, hpa, hoa, k⟩ := h
    refine ⟨_, (C8.pss_cut (ps_asg (pe_tup (pa_cons (pe_callB (call_min2 rfl) (by rfl) mmin (by decide +kernel) (pa_cons (pe_dget (hu_of hr) (pv 0) (pv 1) (fun _ _ => rfl)) (pa_cons (pe_dget (hu_of hr) (pv 0) (pv 2) (fun _ _ => rfl)) pa_nil))) (pa_cons (pe_callB (call_max2 rfl) (by rfl) mmax (by decide +kernel) (pa_cons (pe_dget (hu_of hr) (pv 0) (pv 1) (fun _ _ => rfl)) (pa_cons (pe_dget (hu_of hr) (pv 0) (pv 2) (fun _ _ => rfl)) pa_nil))) pa_nil))) (pg_tup (by rfl) (pgs_cons (pg_name (i := 3) scMerged.nd rfl (.inr rfl)) (pgs_cons (pg_name (i := 4) scMerged.nd rfl (.inr rfl)) pgs_nil)))) (pss_one (ps_ret (pe_callTy (cr_dictT K rfl rfl (u2_of hr)) (by rfl) mdict (by decide +kernel) (pa_cons (pe_lock (pe_lc (own := [("pair", 5)]) (g := gName 5) (tt := tYes) rfl scMerged.nd (pi_keys (pv 0)) (blkOk_by (N := ["labels", "one", "two", "low", "high", "pair"]) (own := [("pair", 5)]) (sc := defScope sMerged) (by decide +kernel)) (fun _ _ _ _ _ => (pg_name (i := 5) scMerged.nd rfl (.inl rfl))) (fun _ _ _ _ _ => pts_nil) (fun _ _ _ _ _ => (pe_tup (pa_cons (pv 5) (pa_cons (pe_ifExp (pt_cmpR op_eq (pe_dget (hu_of hr) (pv 0) (pv 5) (fun _ _ => rfl)) (pv 4) (nomark _)) (pv 3) (pe_dget (hu_of hr) (pv 0) (pv 5) (fun _ _ => rfl))) pa_nil)))))) pa_nil))))), ?_⟩
    have nn : n * n ≤ 100 := Nat.mul_le_mul n10 n10
    have gP : ∀ {H' : Hp} {od : Obj} {u : Addr} {q : Pr}, (H' d = some (.dT (lblK n g)) ∨ H' d = some (.frz od (.dT (lblK n g)))) → H' u = some (.tup (prV q)) → InN n q → DGet H' d (.ref u) (some (.int (g q : Int))) := fun {H' od u q} h hu hq => by
      rw [← lblK_val hq]
      rcases h with h | h
      · exact DGet.t (k := pk q) h hu
      · exact .inr ⟨_, pk q, u, .inr ⟨od, h⟩, rfl, hu, rfl⟩
    refine ⟨fun σ H' => Same H H' ∧ σ = [some (.ref d), some (.ref pa), some (.ref oa), some (.int ((min (g p) (g o) : Nat) : Int)), some (.int ((max (g p) (g o) : Nat) : Int)), none], ?_, ?_⟩
    · refine ⟨_, rfl, _, rfl, d, _, rfl, gP (od := default) (.inl hd) hpa hp, _, rfl, _, rfl, d, _, rfl, gP (od := default) (.inl hd) hoa ho, _, _, rfl, ?_⟩
      refine ⟨_, rfl, _, rfl, d, _, rfl, gP (od := default) (.inl hd) hpa hp, _, rfl, _, rfl, d, _, rfl, gP (od := default) (.inl hd) hoa ho, _, _, rfl, ?_⟩
      have e1 : (if (g o : Int) < (g p : Int) then (g o : Int) else (g p : Int)) = ((min (g p) (g o) : Nat) : Int) := by split <;> omega
      have e2 : (if (g o : Int) > (g p : Int) then (g o : Int) else (g p : Int)) = ((max (g p) (g o) : Nat) : Int) := by split <;> omega
      rw [e1, e2]
      exact ⟨by show 2 ≤ sizeLine; decide, fun q nq => ⟨q, _, rfl, SqT.of upd_same, rfl, _, _, rfl, _, _, rfl, rfl, same_upd nq, rfl⟩⟩
    rintro σ H1 ⟨s1, rfl⟩
    have hd1 := s1 _ _ hd
    refine ⟨d, _, hd1, True.intro, fun od => ?_⟩
    refine ⟨_, rfl, d, od, rfl, .inr ⟨_, upd_same, fun D nD => ?_⟩⟩
    have nDd : D ≠ d := fun e => by
      rw [e] at nD
      rw [upd_same] at nD
      cases nD
    have nD1 : H1 D = none := by rwa [upd_ne nDd] at nD
    generalize hg : mrg g (g p) (g o) = g' at k
    have hg' : ∀ q, (if (g q : Int) = ((max (g p) (g o) : Nat) : Int) then ((min (g p) (g o) : Nat) : Int) else (g q : Int)) = (g' q : Int) := fun q => by
      rw [← hg]
      unfold mrg
      split <;> split <;> omega
    refine lc_it walk_keysT (fun j H' => (∀ b u, H1 b = some u → b ≠ d → H' b = some u) ∧ H' d = some (.frz od (.dT (lblK n g))) ∧ ∃ ps : List (Addr × Addr), H' D = some (.lst (ps.map fun q => V.ref q.1)) ∧ ps.length = j ∧ Paired (fun (q : Addr × Addr) (kv : List L2.Key × V) => H' q.1 = some (.tup [V.ref q.2, kv.2]) ∧ H' q.2 = some (.tup (kv.1.map kV))) ps ((lblK n g').take j))
      ?_ (fun j H' _ ⟨_, e, _⟩ => e) ?_ ?_
    · refine ⟨fun b u e ne => ?_, ?_, [], upd_same, rfl, .nil⟩
      · rw [upd_ne (ne_of_none e nD1), upd_ne ne]
        exact e
      · rw [upd_ne nDd.symm, upd_same]
    · rintro j x H2 H3 hj ⟨old, hd2, ps, hD, pl, pr⟩ ⟨rfl, ky, v, q, e1, rfl, hq⟩
      obtain ⟨r, hr, ij, ekv⟩ := lblK_get e1
      obtain ⟨rfl, rfl⟩ := Prod.mk.inj ekv
      rw [lblK_len] at hj
      refine ⟨rfl, _, rfl, _, rfl, _, rfl, d, _, rfl, gP (od := od) (.inr hd2) hq hr, _, rfl, rfl, _, rfl, ?_⟩
      have jn : j < n * n := hj
      have main : ∀ z : Addr, H3 z = none → ∃ acc, (upd H3 z (.tup [V.ref q, V.int (g' r : Int)])) D = some (.lst acc) ∧ acc.length < sizeLine ∧ (∀ b u, H1 b = some u → b ≠ d → (upd (upd H3 z (.tup [V.ref q, V.int (g' r : Int)])) D (.lst (acc ++ [V.ref z]))) b = some u) ∧
          (upd (upd H3 z (.tup [V.ref q, V.int (g' r : Int)])) D (.lst (acc ++ [V.ref z]))) d = some (.frz od (.dT (lblK n g))) ∧ ∃ ps : List (Addr × Addr), (upd (upd H3 z (.tup [V.ref q, V.int (g' r : Int)])) D (.lst (acc ++ [V.ref z]))) D = some (.lst (ps.map fun q => V.ref q.1)) ∧ ps.length = j + 1 ∧
          Paired (fun (q' : Addr × Addr) (kv : List L2.Key × V) => (upd (upd H3 z (.tup [V.ref q, V.int (g' r : Int)])) D (.lst (acc ++ [V.ref z]))) q'.1 = some (.tup [V.ref q'.2, kv.2]) ∧ (upd (upd H3 z (.tup [V.ref q, V.int (g' r : Int)])) D (.lst (acc ++ [V.ref z]))) q'.2 = some (.tup (kv.1.map kV))) ps ((lblK n g').take (j + 1)) := fun z nz => by
        have tupD : ∀ {b : Addr} {xs : List V}, H3 b = some (.tup xs) → b ≠ D := fun {b xs} e => ne_of e hD (by intro z; cases z)
        refine ⟨_, put_old hD nz, ?_, fun b u e ne => ?_, ?_, ps ++ [(z, q)], ?_, ?_, ?_⟩
        · rw [List.length_map, pl]
          exact small1000 (by omega)
        · rw [upd_ne (ne_of_none e nD1)]
          exact put_old (old b u e ne) nz
        · rw [upd_ne nDd.symm]
          exact put_old hd2 nz
        · rw [upd_same, List.map_append]
          rfl
        · rw [List.length_append, pl]
          rfl
        · have nx : (lblK n g')[j]? = some (pk r, V.int (g' r : Int)) := by
            unfold lblK
            rw [List.getElem?_map, ← ij, PL_in hr]
            rfl
          rw [List.take_succ, nx]
          refine paired_snoc (L2.Paired.mapP pr fun a b ⟨x1, x2⟩ => ⟨?_, ?_⟩) ⟨?_, ?_⟩
          · rw [upd_ne (tupD x1)]
            exact put_old x1 nz
          · rw [upd_ne (tupD x2)]
            exact put_old x2 nz
          · show (upd (upd H3 z _) D _) z = _
            rw [upd_ne (ne_of_none hD nz).symm]
            exact upd_same
          · show (upd (upd H3 z _) D _) q = _
            rw [upd_ne (tupD hq)]
            exact put_old hq nz
      have e := hg' r
      refine ite2 (fun h => ?_) (fun h => ?_)
      · rw [if_pos (by have := of_decide_eq_true h; injection this)] at e
        rw [← e] at main
        exact ⟨_, rfl, by show 2 ≤ sizeLine; decide, main⟩
      · rw [if_neg (fun z => h (decide_eq_true (congrArg V.int z)))] at e
        rw [← e] at main
        exact ⟨_, rfl, _, rfl, d, _, rfl, gP (od := od) (.inr hd2) hq hr, by show 2 ≤ sizeLine; decide, main⟩
    · rintro H2 ⟨old, hd2, ps, hD, pl, pr⟩
      rw [lblK_len, ← lblK_len n g', List.take_length] at pr
      have same : ∀ b u, H1 b = some u → (upd H2 d (.dT (lblK n g))) b = some u := fun b u e => by
        by_cases c : b = d
        · subst c
          rw [upd_same, ← hd1, e]
        · rw [upd_ne c]
          exact old b u e c
      have tupd : ∀ {b : Addr} {xs : List V}, H2 b = some (.tup xs) → b ≠ d := fun {b xs} e => ne_of e hd2 (by intro z; cases z)
      refine ⟨hd2, D, ps, lblK n g', rfl, SqL.of ?_, L2.Paired.mapP pr fun a b ⟨x1, x2⟩ => ⟨SqT.of ?_, ?_⟩, lblK_keys n g', fun e ne => k e _ ?_ ?_ upd_same⟩
      · rw [upd_ne nDd]
        exact hD
      · rw [upd_ne (tupd x1)]
        exact x1
      · rw [upd_ne (tupd x2)]
        exact x2
      · exact Same.trans s1 (Same.put (H' := upd H2 d (.dT (lblK n g))) same ne)
      · exact s1.free (Same.free (H' := upd H2 d (.dT (lblK n g))) same ne)
/-! ### the table of labels -/
def spLTable : Sp := fun vs H Q _ => ∃ (d : Addr) (n : Nat) (f : Pr → Nat), vs = [.ref d, .int (n : Int)] ∧ H d = some (.dT (lblK n f)) ∧ n ≤ 7 ∧ LabOk n f ∧
  ∀ (t : Addr) (qs : List (Addr × List Nat)) (H' : Hp), Same H H' → H' t = some (.tup (refs qs)) → At natsV H' qs → qs.map (·.2) = tblF n f → Q (.ref t) H'
theorem eqV_int (a b : Int) : eqV (V.int a) (V.int b) = decide (a = b) := by
  by_cases h : a = b
  · subst h
    simp [eqV]
  · simp [eqV, h]
set_option maxHeartbeats 2000000 in
theorem ok_ltable {f : Addr} {fd : FuncData} (F : Fun K "_law_table" "_law_table" sLTable f fd) (mrange : mg "range" = none) (mtuple : mg "tuple" = none) (msorted : mg "sorted" = none) (mset : mg "set" = none) : FnOk P w K mg base CX0 1 f fd ["labels", "many"] spLTable := by
  refine F.ok scLTable (fun vs H Q E h => ?_) (fun cdv A outer s H vs Q E hr h => ?_)
  · obtain ⟨d, n, g, rfl, _⟩ := h
    rfl
  · obtain ⟨d, n, g, rfl, hd, n7, lab, k⟩ := h
    have nn : n * n ≤ 49 := Nat.mul_le_mul n7 n7
    refine ⟨_, (C8.pss_cut (ps_set (i := 2) scLTable.nd rfl (.inr rfl) (pe_callB (cr_sortedSet rfl) (by rfl) msorted (by decide +kernel) (pa_cons (pe_callTy (cr_setOfB rfl) (by rfl) mset (by decide +kernel) (pa_cons (pe_lock (pe_lc (own := [("pair", 3)]) (g := gName 3) (tt := tYes) rfl scLTable.nd (pi_keys (pv 0)) (blkOk_by (N := ["labels", "many", "heads", "pair", "first", "last"]) (own := [("pair", 3)]) (sc := defScope sLTable) (by decide +kernel)) (fun _ _ _ _ _ => (pg_name (i := 3) scLTable.nd rfl (.inl rfl))) (fun _ _ _ _ _ => pts_nil) (fun _ _ _ _ _ => (pe_dget (hu_of hr) (pv 0) (pv 3) (fun _ _ => rfl))))) pa_nil)) pa_nil))) (pss_one (ps_ret (pe_callTy (call_tupOf K rfl) (by rfl) mtuple (by decide +kernel) (pa_cons (pe_lc (own := [("first", 4)]) (g := gName 4) (tt := tYes) rfl scLTable.nd (pi_range1 (by rfl) mrange (pa_cons (pv 1) pa_nil)) (blkOk_by (N := ["labels", "many", "heads", "pair", "first", "last"]) (own := [("first", 4)]) (sc := defScope sLTable) (by decide +kernel)) (fun _ _ _ _ _ => (pg_name (i := 4) scLTable.nd rfl (.inr rfl))) (fun _ _ _ _ _ => pts_nil) (fun _ _ _ _ _ => (pe_callTy (call_tupOf K rfl) (by rfl) mtuple (by decide +kernel) (pa_cons (pe_lc (own := [("last", 5)]) (g := gName 5) (tt := tYes) rfl scLTable.nd (pi_range1 (by rfl) mrange (pa_cons (pv 1) pa_nil)) (blkOk_by (N := ["labels", "many", "heads", "pair", "first", "last"]) (own := [("last", 5)]) (by show blkC _ (L2.relS _ (defScope sLTable)) _ _ = true; decide +kernel)) (fun _ _ _ _ _ => (pg_name (i := 5) scLTable.nd rfl (.inl rfl))) (fun _ _ _ _ _ => pts_nil) (fun _ _ _ _ _ => (pe_bmK K rfl PySem.F.plainAttrs_list PySem.F.slot_list_index PySem.F.type_list_index (mt_indexK K rfl) (pv 2) (pa_cons (pe_dget (hu_of hr) (pv 0) (pe_tup (pa_cons (pv 4) (pa_cons (pv 5) pa_nil))) (fun _ _ => rfl)) pa_nil)))) pa_nil)))) pa_nil))))), ?_⟩
    refine ⟨fun σ H' => Same H H' ∧ ∃ hp : Addr, H' hp = some (.lst ((headsF n g).map fun v : Nat => V.int (v : Int))) ∧ σ = [some (.ref d), some (.int (n : Int)), some (.ref hp), none, none, none], ?_, ?_⟩
    · refine ⟨d, _, hd, True.intro, fun od => ?_⟩
      refine ⟨_, rfl, d, od, rfl, .inr ⟨_, upd_same, fun D nD => ?_⟩⟩
      have nDd : D ≠ d := fun e => by
        rw [e] at nD
        rw [upd_same] at nD
        cases nD
      have nD1 : H D = none := by rwa [upd_ne nDd] at nD
      refine lc_it walk_keysT (fun j H' => (∀ b u, H b = some u → b ≠ d → H' b = some u) ∧ H' d = some (.frz od (.dT (lblK n g))) ∧ H' D = some (.lst ((((PL n).take j).map fun p => (g p : Int)).map V.int)))
        ⟨fun b u e ne => ?_, ?_, upd_same⟩ (fun j H' _ ⟨_, e, _⟩ => e) ?_ ?_
      · rw [upd_ne (ne_of_none e nD1), upd_ne ne]
        exact e
      · rw [upd_ne nDd.symm, upd_same]
      · rintro j x H2 H3 hj ⟨old, hd2, hD⟩ ⟨rfl, ky, v, q, e1, rfl, hq⟩
        obtain ⟨r, hr2, ij, ekv⟩ := lblK_get e1
        obtain ⟨rfl, rfl⟩ := Prod.mk.inj ekv
        rw [lblK_len] at hj
        refine ⟨rfl, _, rfl, _, rfl, d, V.int (g r : Int), rfl, ?_, _, hD, ?_, fun b u e ne => ?_, ?_, ?_⟩
        · rw [← lblK_val hr2]
          exact .inr ⟨_, pk r, q, .inr ⟨od, hd2⟩, rfl, hq, rfl⟩
        · rw [List.length_map, List.length_map, List.length_take]
          exact small1000 (by omega)
        · rw [upd_ne (ne_of_none e nD1)]
          exact old b u e ne
        · rw [upd_ne nDd.symm]
          exact hd2
        · rw [upd_same, List.take_succ, ← ij, PL_in hr2, List.map_append, List.map_append]
          rfl
      · rintro H2 ⟨old, hd2, hD⟩
        rw [lblK_len, ← PL_len n, List.take_length] at hD
        have same : Same H (upd H2 d (.dT (lblK n g))) := fun b u e => by
          by_cases c : b = d
          · subst c
            rw [upd_same, ← hd, e]
          · rw [upd_ne c]
            exact old b u e c
        refine ⟨hd2, D, _, rfl, SqL.of (by rw [upd_ne nDd]; exact hD), by rw [List.length_map, PL_len]; omega, fun a cc na hc => ?_⟩
        have few : cc < 64 := by
          have := hc ((PL n).map fun p => (g p : Int)) fun x hx => hx
          rw [List.length_map, PL_len] at this
          omega
        refine ⟨a, _, cc, rfl, upd_same, few, fun ns p asc mem len np => ⟨(same.put na).put np, p, ?_, rfl⟩⟩
        have e : ns = (headsF n g).map fun v : Nat => (v : Int) := by
          refine asc_uniq asc ?_ fun x => ?_
          · rw [List.pairwise_map]
            exact (headsF_asc lab).imp fun h => by omega
          · rw [mem, decide_eq_true_iff]
            simp only [List.mem_map, PL_mem, headsF_mem]
            constructor
            · rintro ⟨q, hq, rfl⟩
              exact ⟨g q, ⟨q, hq, rfl⟩, rfl⟩
            · rintro ⟨v, ⟨q, hq, rfl⟩, rfl⟩
              exact ⟨q, hq, rfl⟩
        rw [upd_same, e, List.map_map]
        rfl
    rintro σ H1 ⟨s1, hp, hhp, rfl⟩
    refine ⟨_, rfl, (n : Int), rfl, by omega, by omega, fun D nD => ?_⟩
    rw [show ((n : Int)).toNat = n from Int.toNat_natCast n]
    refine lc_range (lo := 0) (n := n) (fun i H' => Same H1 H' ∧ ∃ qs : List (Addr × List Nat), H' D = some (.lst (refs qs)) ∧ At natsV H' qs ∧ qs.map (·.2) = (tblF n g).take i) ⟨same_upd nD, [], upd_same, (fun p hp => by cases hp), rfl⟩ ?_ ?_
    · rintro i H2 hi ⟨s2, qs, hD, hA, eq⟩
      rw [show (0 : Int) + (i : Int) = (i : Int) from Int.zero_add _]
      have row : (tblF n g)[i]? = some ((List.range n).map fun b => (headsF n g).idxOf (g (i, b))) := by
        unfold tblF
        rw [List.getElem?_map, List.getElem?_range hi]
        rfl
      have ql : qs.length = i := by
        have e := congrArg List.length eq
        rw [List.length_map, List.length_take] at e
        have : (tblF n g).length = n := by unfold tblF; rw [List.length_map, List.length_range]
        omega
      refine ⟨rfl, _, rfl, (n : Int), rfl, by omega, by omega, fun D2 nD2 => ?_⟩
      rw [show ((n : Int)).toNat = n from Int.toNat_natCast n]
      refine lc_range (lo := 0) (n := n) (fun j H' => Same H2 H' ∧ H' D2 = some (.lst (natsV ((List.range j).map fun b => (headsF n g).idxOf (g (i, b)))))) ⟨same_upd nD2, upd_same⟩ ?_ ?_
      · rintro j H3 hj ⟨s3, hD2⟩
        rw [show (0 : Int) + (j : Int) = (j : Int) from Int.zero_add _]
        have s13 := Same.trans s2 s3
        have inj : InN n (i, j) := ⟨hi, hj⟩
        have mem : g (i, j) ∈ headsF n g := headsF_mem.mpr ⟨_, inj, rfl⟩
        refine ⟨rfl, _, rfl, .inl ⟨rfl, _, SqL.of (s13 _ _ hhp)⟩, _, rfl, _, rfl, _, rfl, by show 2 ≤ sizeLine; decide, fun q nq => ⟨d, V.int (g (i, j) : Int), rfl, ?_, hp, _, _, (headsF n g).idxOf (g (i, j)), V.int (g (i, j) : Int), rfl, rfl, SqL.of (put_old (s13 _ _ hhp) nq), rfl, ?_, ?_, ?_, ?_, _, put_old hD2 nq, ?_, (s3.put nq).own nD2, ?_⟩⟩
        · rw [← lblK_val inj]
          exact DGet.t (k := pk (i, j)) (put_old (s13 _ _ (s1 _ _ hd)) nq) upd_same
        · rw [List.all_map, List.all_eq_true]
          intro _ _
          rfl
        · rw [List.getElem?_map, List.getElem?_eq_getElem (List.idxOf_lt_length_iff.mpr mem), List.getElem_idxOf]
          rfl
        · rw [eqV_int]
          exact decide_eq_true rfl
        · intro m z' hm hz
          rw [List.getElem?_map] at hz
          obtain ⟨u, hu, rfl⟩ := Option.map_eq_some_iff.mp hz
          rw [eqV_int]
          refine decide_eq_false fun e => ?_
          have e : u = g (i, j) := by omega
          subst e
          have lm : m < (headsF n g).length := (List.getElem?_eq_some_iff.mp hu).1
          have nd : (headsF n g).Nodup := (headsF_asc lab).imp fun h => by omega
          have := nd.idxOf_getElem m lm
          rw [(List.getElem?_eq_some_iff.mp hu).2] at this
          omega
        · unfold natsV
          rw [List.length_map, List.length_map, List.length_range]
          exact small1000 (by omega)
        · rw [upd_same, List.range_succ, List.map_append]
          unfold natsV
          rw [List.map_append]
          rfl
      · rintro H3 ⟨s3, hD2⟩
        refine ⟨D2, _, rfl, SqL.of hD2, fun p np => ⟨_, put_old (s3 _ _ hD) np, ?_, ((Same.trans s2 s3).put np).own nD, qs ++ [(p, (List.range n).map fun b => (headsF n g).idxOf (g (i, b)))], ?_, ?_, ?_⟩⟩
        · rw [refs_len, ql]
          exact small1000 (by omega)
        · rw [upd_same, refs_app]
          rfl
        · exact At.snoc (((hA.same s3).same (same_upd np)).mono (upd_tup (put_old (s3 _ _ hD) np))) (put_ne upd_same (ne_of_none (s3 _ _ hD) np).symm)
        · rw [List.map_append, eq, List.take_succ, row]
          rfl
    · rintro H2 ⟨s2, qs, hD, hA, eq⟩
      have : (tblF n g).length = n := by unfold tblF; rw [List.length_map, List.length_range]
      rw [List.take_of_length_le (by omega)] at eq
      exact ⟨D, _, rfl, SqL.of hD, fun p np => k p qs _ ((Same.trans s1 s2).put np) upd_same (hA.same (same_upd np)) eq⟩
/-! ### whether a table parts what it must -/
def sideB (z : Str) : Bool := decide (z = "back") || decide (z = "behind")
def UnfS (z : Str) (n : Nat) (R : Pr → Pr → Prop) : Prop := if sideB z = true then UnfairE n R else UnfairR n R
def lineT (s : Bool) (T : List (List Nat)) (n one : Nat) : List Nat := (List.range n).map fun j => if s = true then cell T (j, one) else cell T (one, j)
theorem firsts_nodup : ∀ l : List Nat, (firsts l).length = l.length → l.Nodup := by
  refine from_left (P := fun l : List Nat => (firsts l).length = l.length → l.Nodup) (fun _ => List.nodup_nil) ?_
  intro l v ih h
  rw [firsts_snoc, List.length_append, List.length_singleton] at h
  have le := (firsts_mem l).2
  by_cases c : v ∈ firsts l
  · rw [if_pos c] at h
    omega
  · rw [if_neg c, List.length_append, List.length_singleton] at h
    refine List.nodup_append.mpr ⟨ih (by omega), by simp, fun a ha b hb e => c (((firsts_mem l).1 v).mpr ?_)⟩
    rw [List.mem_singleton.mp hb] at e
    exact e ▸ ha
theorem range_nodup {n : Nat} {g : Nat → Nat} : ((List.range n).map g).Nodup ↔ ∀ i j, i < n → j < n → i ≠ j → g i ≠ g j := by
  rw [List.nodup_iff_pairwise_ne, List.pairwise_map]
  constructor
  · intro h i j hi hj ne
    have at_ : ∀ k (hk : k < (List.range n).length), (List.range n)[k] = k := fun k hk => List.getElem_range hk
    have li : i < (List.range n).length := by rw [List.length_range]; exact hi
    have lj : j < (List.range n).length := by rw [List.length_range]; exact hj
    rcases Nat.lt_or_gt_of_ne ne with c | c
    · have z := List.pairwise_iff_getElem.mp h i j li lj c
      rw [at_, at_] at z
      exact z
    · have z := List.pairwise_iff_getElem.mp h j i lj li c
      rw [at_, at_] at z
      exact fun e => z e.symm
  · intro h
    refine List.nodup_range.imp_of_mem fun {a b} ha hb ne => h a b (List.mem_range.mp ha) (List.mem_range.mp hb) ne
theorem line_fair {z : Str} {n : Nat} {R : Pr → Pr → Prop} {T : List (List Nat)} (t : Tab n R T) : (∀ one, one < n → (lineT (sideB z) T n one).Nodup) ↔ ¬ UnfS z n R := by
  unfold lineT UnfS
  cases sideB z with
  | true =>
    simp only [if_true]
    constructor
    · rintro h ⟨a, b, c, h1, h2, ne, r⟩
      exact (range_nodup.mp (h c h1.2)) a b h1.1 h2.1 ne ((t.iff _ _ h1 h2).mpr r)
    · intro h c hc
      exact range_nodup.mpr fun i j hi hj ne e => h ⟨i, j, c, ⟨hi, hc⟩, ⟨hj, hc⟩, ne, (t.iff _ _ ⟨hi, hc⟩ ⟨hj, hc⟩).mp e⟩
  | false =>
    simp only [Bool.false_eq_true, if_false]
    constructor
    · rintro h ⟨a, b, c, h1, h2, ne, r⟩
      exact (range_nodup.mp (h a h1.1)) b c h1.2 h2.2 ne ((t.iff _ _ h1 h2).mpr r)
    · intro h a ha
      exact range_nodup.mpr fun i j hi hj ne e => h ⟨a, i, j, ⟨ha, hi⟩, ⟨ha, hj⟩, ne, (t.iff _ _ ⟨ha, hi⟩ ⟨ha, hj⟩).mp e⟩
theorem in_sides (z : Str) : inV (V.str z) [V.str "back", V.str "behind"] = sideB z := by
  unfold inV sideB
  have e : ∀ a b : Str, eqV (V.str a) (V.str b) = decide (b = a) := fun a b => by
    by_cases h : b = a
    · subst h
      simp [eqV]
    · have : ¬ a = b := fun q => h q.symm
      simp [eqV, h, this]
  rw [List.any_cons, List.any_cons, List.any_nil, e, e, Bool.or_false]
def spLParted : Sp := fun vs H Q _ => ∃ (t : Addr) (z : Str) (n : Nat) (qs : List (Addr × List Nat)) (R : Pr → Pr → Prop), vs = [.ref t, .str z] ∧ n ≤ 10 ∧ H t = some (.tup (refs qs)) ∧ At natsV H qs ∧ Tab n R (qs.map (·.2)) ∧
  ∀ (b : Bool) (H' : Hp), Same H H' → (b = true ↔ ¬ UnfS z n R) → Q (.bl b) H'
set_option maxHeartbeats 2000000 in
theorem ok_lparted {f : Addr} {fd : FuncData} (F : Fun K "_law_parted" "_law_parted" sLParted f fd) (mrange : mg "range" = none) (mlen : mg "len" = none) (mset : mg "set" = none) : FnOk P w K mg base CX0 1 f fd ["table_here", "want_here"] spLParted := by
  refine F.ok scLParted (fun vs H Q E h => ?_) (fun cdv A outer s H vs Q E hr h => ?_)
  · obtain ⟨t, z, n, qs, R, rfl, _⟩ := h
    rfl
  · obtain ⟨t, z, n, qs, R, rfl, n10, ht, hA, tab, k⟩ := h
    have ql : (refs qs).length = n := by rw [refs_len]; have := tab.len; rwa [List.length_map] at this
    refine ⟨_, (C8.pss_cut (ps_set (i := 2) scLParted.nd rfl (.inl rfl) (pe_callB call_len_seq (by rfl) mlen PySem.boot_len (pa_cons (pv 0) pa_nil))) (C8.pss_cut (ps_for PassesOwn.never rfl (pi_range1 (by rfl) mrange (pa_cons (pv 2) pa_nil)) (pg_name (i := 3) scLParted.nd rfl (.inr rfl)) (C8.pss_cut (ps_setLc (i := 4) (own := [("spot", 5)]) (g := gName 5) (tt := tYes) rfl scLParted.nd rfl rfl (sw_true rfl rfl rfl (by decide +kernel)) (pi_range1 (by rfl) mrange (pa_cons (pv 2) pa_nil)) (blkOk_by (N := ["table_here", "want_here", "many", "one", "row", "spot"]) (own := [("spot", 5)]) (sc := defScope sLParted) (by decide +kernel)) (fun _ _ _ _ _ => (pg_name (i := 5) scLParted.nd rfl (.inl rfl))) (fun _ _ _ _ _ => pts_nil) (fun _ _ _ _ _ => (pe_ifExp (pt_cmpR (op_inK K rfl) (pv 1) (pe_lst (pa_cons pe_str (pa_cons pe_str pa_nil))) (by rfl)) (pe_ix (ix_tupK K rfl) (pe_ix (ix_tupK K rfl) (pv 0) (pv 5) (fun _ _ => rfl)) (pv 3) (fun _ _ => rfl)) (pe_ix (ix_tupK K rfl) (pe_ix (ix_tupK K rfl) (pv 0) (pv 3) (fun _ _ => rfl)) (pv 5) (fun _ _ => rfl))))) (pss_one (ps_if (pt_cmpR op_ne (pe_lenSetC K rfl rfl (by rfl) mlen (by rfl) mset (pv 4)) (pv 2) (nomark _)) (pss_one (ps_ret pe_bl)) pss_nil)))) (pss_one (ps_ret pe_bl)))), ?_⟩
    refine ⟨fun σ H' => H = H' ∧ σ = [some (.ref t), some (.str z), some (.int (n : Int)), none, none, none], ?_, ?_⟩
    · refine ⟨_, rfl, t, _, rfl, .inr (SqT.of ht), rfl, ?_⟩
      rw [ql]
      rfl
    rintro σ H0 ⟨rfl, rfl⟩
    refine ⟨fun σ H' => Same H H' ∧ ∀ one, one < n → (lineT (sideB z) (qs.map (·.2)) n one).Nodup, ?_, fun σ H1 ⟨s1, all⟩ => k true H1 s1 ⟨fun _ => (line_fair tab).mp all, fun _ => rfl⟩⟩
    refine ⟨_, rfl, (n : Int), rfl, by omega, by omega, ?_⟩
    rw [show ((n : Int)).toNat = n from Int.toNat_natCast n]
    refine for_range (lo := 0) (n := n) (fun i σ H' => Same H H' ∧ (∀ one, one < i → (lineT (sideB z) (qs.map (·.2)) n one).Nodup) ∧ ∃ v3 v4 v5 : Option V, σ = [some (.ref t), some (.str z), some (.int (n : Int)), v3, v4, v5]) ⟨Same.refl _, fun _ h => (by omega), none, none, none, rfl⟩ ?_ (fun σ H' ⟨s, a, _⟩ => ⟨s, a⟩)
    rintro i σ H1 hi ⟨s1, all, v3, v4, v5, rfl⟩
    rw [show (0 : Int) + (i : Int) = (i : Int) from Int.zero_add _]
    generalize hT : qs.map (·.2) = T at *
    refine ⟨fun σ H' => Same H H' ∧ ∃ L : Addr, H' L = some (.lst (natsV (lineT (sideB z) T n i))) ∧ σ = [some (.ref t), some (.str z), some (.int (n : Int)), some (.int (i : Int)), some (.ref L), v5], ?_, ?_⟩
    · refine ⟨_, rfl, (n : Int), rfl, by omega, by omega, fun D nD => ?_⟩
      rw [show ((n : Int)).toNat = n from Int.toNat_natCast n]
      refine lc_range (lo := 0) (n := n) (fun j H' => Same H1 H' ∧ H' D = some (.lst (natsV ((List.range j).map fun j => if sideB z = true then cell T (j, i) else cell T (i, j))))) ⟨same_upd nD, upd_same⟩ ?_ ?_
      · rintro j H2 hj ⟨s2, hD⟩
        rw [show (0 : Int) + (j : Int) = (j : Int) from Int.zero_add _]
        have s12 := Same.trans s1 s2
        refine ⟨rfl, _, rfl, by show 2 ≤ sizeLine; decide, fun q nq => ⟨q, _, rfl, .inl (SqL.of upd_same), rfl, by rfl, _, rfl, ?_⟩⟩
        rw [if_neg Bool.false_ne_true, in_sides]
        have s3 := s12.put nq (o := .lst [V.str "back", V.str "behind"])
        have hA3 := hA.same s3
        have hD3 := put_old (u := .lst [V.str "back", V.str "behind"]) hD nq
        have len : (natsV ((List.range j).map fun j => if sideB z = true then cell T (j, i) else cell T (i, j))).length < sizeLine := by
          unfold natsV
          rw [List.length_map, List.length_map, List.length_range]
          exact small1000 (by omega)
        have fin : ∀ c : Nat, c = (if sideB z = true then cell T (j, i) else cell T (i, j)) → ∃ acc, (upd H2 q (.lst [V.str "back", V.str "behind"])) D = some (.lst acc) ∧ acc.length < sizeLine ∧ Same H1 (upd (upd H2 q (.lst [V.str "back", V.str "behind"])) D (.lst (acc ++ [V.int (c : Int)]))) ∧ (upd (upd H2 q (.lst [V.str "back", V.str "behind"])) D (.lst (acc ++ [V.int (c : Int)]))) D = some (.lst (natsV ((List.range (j + 1)).map fun j => if sideB z = true then cell T (j, i) else cell T (i, j)))) := fun c e => by
          refine ⟨_, hD3, len, (s2.put nq).own nD, ?_⟩
          rw [upd_same, e, List.range_succ, List.map_append]
          unfold natsV
          rw [List.map_append]
          rfl
        cases hs : sideB z with
        | true =>
          rw [hs] at fin
          obtain ⟨r1, ns1, g1, a1, h1, l1, c1⟩ := tab_row (R := R) hA3 (by rw [hT]; exact tab) j hj
          refine iteT ⟨_, rfl, _, rfl, t, _, _, _, rfl, rfl, SqT.of (s3 _ _ ht), a1, _, rfl, r1, _, _, _, rfl, rfl, SqT.of h1, atI_nat (c1 i hi), ?_⟩
          rw [hT]
          exact fin _ rfl
        | false =>
          rw [hs] at fin
          obtain ⟨r1, ns1, g1, a1, h1, l1, c1⟩ := tab_row (R := R) hA3 (by rw [hT]; exact tab) i hi
          refine iteF ⟨_, rfl, _, rfl, t, _, _, _, rfl, rfl, SqT.of (s3 _ _ ht), a1, _, rfl, r1, _, _, _, rfl, rfl, SqT.of h1, atI_nat (c1 j hj), ?_⟩
          rw [hT]
          exact fin _ rfl
      · rintro H2 ⟨s2, hD⟩
        exact ⟨Same.trans s1 s2, D, hD, rfl⟩
    rintro σ H2 ⟨s2, L, hL, rfl⟩
    have eL : natsV (lineT (sideB z) T n i) = ((lineT (sideB z) T n i).map fun v : Nat => (v : Int)).map V.int := by
      unfold natsV
      rw [List.map_map]
      rfl
    have lenL : (lineT (sideB z) T n i).length = n := by unfold lineT; rw [List.length_map, List.length_range]
    refine ⟨_, rfl, L, _, rfl, SqL.of (eL ▸ hL), by rw [List.length_map, lenL]; omega, fun c hc => ⟨_, rfl, rfl, _, rfl, ?_⟩⟩
    have cint : ∀ l : List Nat, l.Nodup → (l.map fun v : Nat => (v : Int)).Nodup := fun l h => by
      rw [List.nodup_iff_pairwise_ne, List.pairwise_map]
      exact List.Pairwise.imp (fun ne e => ne (by omega)) h
    by_cases nd : (lineT (sideB z) T n i).Nodup
    · have e : c = n := by
        rw [hc _ (cint _ nd) fun x => Iff.rfl, List.length_map, lenL]
      subst e
      rw [show (!decide (V.int ((c : Nat) : Int) = V.int (c : Int))) = false by simp]
      refine iteF ⟨s2, fun one h1 => ?_, _, _, _, rfl⟩
      rcases Nat.lt_or_ge one i with h | h
      · exact all one h
      · obtain rfl : one = i := by omega
        exact nd
    · have ne : c ≠ n := fun e => by
        have e2 := hc ((firsts (lineT (sideB z) T n i)).map fun v : Nat => (v : Int)) (cint _ (firsts_nd _)) fun x => by
          simp only [List.mem_map, (firsts_mem _).1]
        rw [List.length_map] at e2
        exact nd (firsts_nodup _ (by omega))
      rw [show (!decide (V.int (c : Int) = V.int (n : Int))) = true by
        have : ¬ (c : Int) = (n : Int) := by omega
        simp [this]]
      refine iteT (k false H2 s2 ⟨fun z => (by cases z), fun nu => absurd ((line_fair tab).mpr nu i hi) nd⟩)
end
end Wh

namespace Wh
open PySem L2
def esK (es : List En) : List (List Key × V) := es.map fun e => (kP e.1, V.str (sS e.2))
theorem esK_val (es : List En) (r : Pr) : valV (esK es) (kP r) = (es.find? fun e => decide (e.1 = r)).map fun e => V.str (sS e.2) := by
  unfold valV esK
  rw [List.find?_map]
  have e : ((fun kv : List Key × V => decide (kv.1 = kP r)) ∘ fun e : En => (kP e.1, V.str (sS e.2))) = fun e => decide (e.1 = r) := by
    funext e
    show decide (kP e.1 = kP r) = decide (e.1 = r)
    by_cases c : e.1 = r
    · rw [c, decide_eq_true rfl, decide_eq_true rfl]
    · rw [decide_eq_false c, decide_eq_false fun z => c (kP_inj z)]
  rw [e, Option.map_map]
  rfl
theorem esK_no {es : List En} {r : Pr} : (valV (esK es) (kP r)).isSome = decide (r ∈ es.map (·.1)) := by
  rw [esK_val]
  cases h : es.find? fun e => decide (e.1 = r) with
  | none =>
    refine (decide_eq_false fun z => ?_).symm
    obtain ⟨e, he, e1⟩ := List.mem_map.mp z
    exact absurd (List.find?_eq_none.mp h e he) (by simp [e1])
  | some e => exact (decide_eq_true (List.mem_map.mpr ⟨e, List.mem_of_find?_eq_some h, of_decide_eq_true (List.find?_some (p := fun e : En => decide (e.1 = r)) h)⟩)).symm
def enV (e : En) : List V := [.int (e.1.1 : Int), .int (e.1.2 : Int), .str (sS e.2)]
theorem sS_snoc (ms : List Nat) (m : Nat) : sS ms ++ sgn m = sS (ms ++ [m]) := by
  show SX.S ms ++ SX.S [m] = SX.S (ms ++ [m])
  rw [SX.S_cat]
theorem sS_nil : ("" : Str) = sS [] := by decide +kernel
theorem esK_snoc (es : List En) (e : En) : esK (es ++ [e]) = esK es ++ [(kP e.1, V.str (sS e.2))] := List.map_append
theorem step2_perm {n : Nat} {ts us : List Tie} (w : WebOk n ts) (p : ts.Perm us) (q : Pr) (m : Nat) : step2 ts q m = step2 us q m := by
  unfold step2
  rw [door_perm w p, door_perm w p]
theorem walk2_perm {n : Nat} {ts us : List Tie} (w : WebOk n ts) (p : ts.Perm us) : ∀ (ms : List Nat) (q : Pr), walk2 ts q ms = walk2 us q ms
  | [], _ => rfl
  | m :: ms, q => by
    show (step2 ts q m).bind _ = (step2 us q m).bind _
    rw [step2_perm w p]
    cases step2 us q m with
    | none => rfl
    | some r => exact walk2_perm w p ms r
section
variable {P : Program} {w : World} {K : PySem.W.Frag} {mg : Str → Option Value} {base : Heap} {C : Addr}
def spBeside : Sp := fun vs H Q _ => ∃ (dl : Addr) (ds : List Addr) (n : Nat) (ts : List Tie) (p0 : Pr), vs = [.ref dl, .int (p0.1 : Int), .int (p0.2 : Int)] ∧ Dr H dl ds n ts ∧ WebOk n ts ∧ p0.1 < n ∧ p0.2 < n ∧
  ∀ (d : Addr) (es : List En) (H' : Hp), Same H H' → H d = none → H' d = some (.dT (esK es)) → Beside n ts p0 es → Q (.ref d) H'
/-- what the while keeps -/
structure Bq (n : Nat) (ts : List Tie) (p0 : Pr) (da qa : Addr) (H' : Hp) (es : List En) (i : Nat) (done : List Nat) : Prop where
  hd : H' da = some (.dT (esK es))
  ex : ∃ qs : List (Addr × En), H' qa = some (.lst (refs qs)) ∧ At enV H' qs ∧ qs.map (·.2) = qu p0 es
  bf : Bfs n ts p0 es i done
theorem Bq.same {n : Nat} {ts : List Tie} {p0 : Pr} {da qa : Addr} {H H' : Hp} {es : List En} {i : Nat} {done : List Nat} (b : Bq n ts p0 da qa H es i done) (k : ∀ a o, H a = some o → (∀ od u, o ≠ .frz od u) → (∀ kvs, o ≠ .dK kvs) → H' a = some o) : Bq n ts p0 da qa H' es i done := by
  obtain ⟨qs, h1, h2, h3⟩ := b.ex
  exact ⟨k _ _ b.hd (fun _ _ z => nomatch z) (fun _ z => nomatch z), ⟨qs, k _ _ h1 (fun _ _ z => nomatch z) (fun _ z => nomatch z), fun p hp => k _ _ (h2 p hp) (fun _ _ z => nomatch z) (fun _ z => nomatch z), h3⟩, b.bf⟩
/-! ### joined -/
def joinV : Option (List Nat) → V
  | none => .non
  | some w => .str (sS w)
def spJoined (C : Addr) : Sp := fun vs H Q _ => ∃ (x pa oa : Addr) (n : Nat) (ts : List Tie) (p o : Pr), vs = [.ref x, .ref pa, .ref oa] ∧ WebAt C H x n ts ∧ H pa = some (.tup (prV p)) ∧ H oa = some (.tup (prV o)) ∧ p.1 < n ∧ p.2 < n ∧ o.1 < n ∧ o.2 < n ∧
  ∀ (r : Option (List Nat)) (H' : Hp), Same H H' → JoinOk n ts (p.1, o.1) (p.2, o.2) r → Q (joinV r) H'
theorem JoinOk.perm {n : Nat} {ts us : List Tie} {p0 tgt : Pr} {r : Option (List Nat)} (w : WebOk n ts) (p : ts.Perm us) (h : JoinOk n ts p0 tgt r) : JoinOk n us p0 tgt r := by
  cases r with
  | none => exact fun z ne => by rw [← walk2_perm w p]; exact h z ne
  | some z =>
    obtain ⟨h1, h2, h3, h4, h5⟩ := h
    exact ⟨h1, h2, h3, by rw [← walk2_perm w p]; exact h4, fun y ne hy => h5 y ne (by rw [walk2_perm w p]; exact hy)⟩
end
end Wh

namespace Wh
open PySem L2
abbrev sMaps : Stmt := topS 55
theorem scMaps : FnScope ["ways_here", "many", "found", "line", "step", "letters", "ends", "mark", "later", "end"] ["ways_here"] (defScope sMaps) := ⟨rfl, rfl, rfl, by decide +kernel, rfl, by decide +kernel, by decide +kernel⟩
def eV (es : Ends) : List V := es.map walkV
def eK (es : Ends) : List NKey := es.map fun e => e.map fun h : Nat => (Sum.inl (h : Int) : L2.Key)
theorem eK_nV (es : Ends) : (eK es).map nV = eV es := by
  unfold eK eV
  rw [List.map_map]
  refine List.map_congr_left fun e _ => ?_
  cases e <;> rfl
theorem eK_inj {es fs : Ends} (h : eK es = eK fs) : es = fs := by
  refine List.map_inj_right (fun a b e => ?_) |>.mp h
  cases a <;> cases b
  · rfl
  · cases e
  · cases e
  · injection e with e
    injection e with e
    rw [Int.ofNat.inj e]
theorem eV_inj {es fs : Ends} (h : eV es = eV fs) : es = fs := by
  refine List.map_inj_right (fun a b e => ?_) |>.mp h
  cases a <;> cases b
  · rfl
  · cases e
  · cases e
  · injection e with e
    rw [Int.ofNat.inj e]
theorem eV_nb (es : Ends) : (eV es).all nb = true := List.all_eq_true.mpr fun x hx => by
  obtain ⟨e, _, rfl⟩ := List.mem_map.mp hx
  cases e <;> rfl
theorem paired_at {α β : Type} {R : α → β → Prop} : ∀ {xs : List α} {ys : List β}, Paired R xs ys → ∀ {i : Nat} {y : β}, ys[i]? = some y → ∃ x, xs[i]? = some x ∧ R x y
  | _, _, .nil, i, y, e => by cases i <;> cases e
  | _, _, .cons h _, 0, y, e => by
    obtain rfl := Option.some.inj e
    exact ⟨_, rfl, h⟩
  | _, _, .cons _ t, i + 1, y, e => paired_at t (i := i) e
/-- the queue as it lies -/
structure LnAt (H : Hp) (ln : Addr) (ps : List (Addr × Addr)) (L : List Row) : Prop where
  hl : H ln = some (.lst (ps.map fun p => V.ref p.1))
  rows : Paired (fun (p : Addr × Addr) (x : Row) => H p.1 = some (.tup [V.str (sS x.1), V.ref p.2]) ∧ H p.2 = some (.tup (eV x.2))) ps L
structure MpAt (P : Program) (w : World) (H : Hp) (fd ln : Addr) (o : Obj) (ks : List (List NKey × Addr)) (ps : List (Addr × Addr)) (L : List Row) : Prop where
  line : LnAt H ln ps L
  found : NdIn P w H fd o ks
  keys : ks.map Prod.fst = (L.tail.map (·.2)).map eK
theorem NdIn.same {P : Program} {w : World} {H H' : Hp} {a : Addr} {o : Obj} {ks : List (List NKey × Addr)} (n : NdIn P w H a o ks) (s : Same H H') : NdIn P w H' a o ks := ⟨s _ _ n.at_, fun q hq => s _ _ (n.key q hq)⟩
theorem LnAt.same {H H' : Hp} {ln : Addr} {ps : List (Addr × Addr)} {L : List Row} (l : LnAt H ln ps L) (s : Same H H') : LnAt H' ln ps L := ⟨s _ _ l.hl, L2.Paired.mapP l.rows fun a b ⟨h1, h2⟩ => ⟨s _ _ h1, s _ _ h2⟩⟩
theorem MpAt.same {P : Program} {w : World} {H H' : Hp} {fa ln : Addr} {o : Obj} {ks : List (List NKey × Addr)} {ps : List (Addr × Addr)} {L : List Row} (m : MpAt P w H fa ln o ks ps L) (s : Same H H') : MpAt P w H' fa ln o ks ps L := ⟨m.line.same s, m.found.same s, m.keys⟩
theorem MpAt.add {P : Program} {w : World} {H : Hp} {fa ln la q : Addr} {o o' : Obj} {ks : List (List NKey × Addr)} {ps : List (Addr × Addr)} {L : List Row} (m : MpAt P w H fa ln o ks ps L) (neL : L ≠ []) {y : Row} (hla : H la = some (.tup (eV y.2))) (nq : (upd H fa (NdO P w fa o' (ks ++ [(eK y.2, la)]))) q = none) :
    MpAt P w (upd (upd (upd H fa (NdO P w fa o' (ks ++ [(eK y.2, la)]))) q (.tup [V.str (sS y.1), V.ref la])) ln (.lst (ps.map (fun p => V.ref p.1) ++ [V.ref q]))) fa ln o' (ks ++ [(eK y.2, la)]) (ps ++ [(q, la)]) (L ++ [y]) := by
  have fl : fa ≠ ln := ne_of m.found.at_ m.line.hl (by intro z; cases z)
  have nq0 : H q = none ∧ q ≠ fa := by
    have : q ≠ fa := fun e => by rw [e, upd_same] at nq; cases nq
    exact ⟨by rwa [upd_ne this] at nq, this⟩
  have up : ∀ {b : Addr} {xs : List V}, H b = some (.tup xs) → (upd (upd (upd H fa (NdO P w fa o' (ks ++ [(eK y.2, la)]))) q (.tup [V.str (sS y.1), V.ref la])) ln (.lst (ps.map (fun p => V.ref p.1) ++ [V.ref q]))) b = some (.tup xs) := fun {b xs} e => by
    rw [upd_ne (ne_of e m.line.hl (by intro z; cases z)), upd_ne (ne_of_none e nq0.1), upd_ne (ne_of e m.found.at_ (by intro z; cases z))]
    exact e
  refine ⟨⟨?_, ?_⟩, ⟨?_, fun z hz => ?_⟩, ?_⟩
  · rw [upd_same, List.map_append]
    rfl
  · refine paired_snoc (L2.Paired.mapP m.line.rows fun a b ⟨h1, h2⟩ => ⟨up h1, up h2⟩) ⟨?_, up hla⟩
    rw [upd_ne (ne_of_none m.line.hl nq0.1).symm]
    exact upd_same
  · rw [upd_ne fl, upd_ne nq0.2.symm]
    exact upd_same
  · rcases List.mem_append.mp hz with hz | hz
    · exact up (m.found.key z hz)
    · rw [List.mem_singleton.mp hz, eK_nV]
      exact up hla
  · rw [tail_app neL, List.map_append, List.map_append, List.map_append, m.keys]
    rfl
section
variable {P : Program} {w : World} {K : PySem.W.Frag} {mg : Str → Option Value} {base : Heap}
def spMaps (P : Program) (w : World) : Sp := fun vs H Q _ => ∃ (dl : Addr) (ds : List Addr) (n : Nat) (ts : List Tie), vs = [.ref dl] ∧ Dr H dl ds n ts ∧ WebOk n ts ∧ n ≤ 4 ∧
  ∀ (d : Addr) (o : Obj) (ks : List (List NKey × Addr)) (KS : List Ends) (H' : Hp), Same H H' → NdIn P w H' d o ks → ks.map Prod.fst = KS.map eK → MapsOk ts n KS → Q (.ref d) H'
set_option maxHeartbeats 4000000 in
theorem ok_maps {f : Addr} {fd : FuncData} (F : Fun K "_law_maps" "_law_maps" sMaps f fd) (mlen : mg "len" = none) (mtuple : mg "tuple" = none) (mrange : mg "range" = none) : FnOk P w K mg base CX0 1 f fd ["ways_here"] (spMaps P w) := by
  refine F.ok scMaps (fun vs H Q E h => ?_) (fun cdv A outer s H vs Q E hr h => ?_)
  · obtain ⟨dl, ds, n, ts, rfl, _⟩ := h
    rfl
  · obtain ⟨dl, ds, n, ts, rfl, dr, wk, n4, k⟩ := h
    refine ⟨_, (C8.pss_cut (ps_par (i := 1) (j := 2) (by rfl) scMaps.nd rfl rfl (by decide) rfl rfl (pa_cons (pe_callB call_len_seq (by rfl) mlen PySem.boot_len (pa_cons (pv 0) pa_nil)) (pa_cons pe_dnewN pa_nil)) (by rfl)) (C8.pss_cut (ps_set (i := 3) scMaps.nd rfl (.inl rfl) (pe_lst (pa_cons (pe_tup (pa_cons pe_str (pa_cons (pe_tupRg rfl (by rfl) mtuple (prg_1 (by rfl) mrange (pv 1))) pa_nil))) pa_nil))) (C8.pss_cut (ps_for PassesOwn.never rfl (pi_range1 (by rfl) mrange (pa_cons pe_int pa_nil)) (pg_name (i := 4) scMaps.nd rfl (.inl rfl)) (pss_one (ps_if (pt_cmpR op_lt (pv 4) (pe_callB call_len_seq (by rfl) mlen PySem.boot_len (pa_cons (pv 3) pa_nil)) (nomark _)) (C8.pss_cut (ps_asg (pe_ix ix_list (pv 3) (pv 4) (fun _ _ => rfl)) (pg_tup (by rfl) (pgs_cons (pg_name (i := 5) scMaps.nd rfl (.inl rfl)) (pgs_cons (pg_name (i := 6) scMaps.nd rfl (.inl rfl)) pgs_nil)))) (pss_one (ps_for PassesOwn.never rfl (pi_str pe_str) (pg_name (i := 7) scMaps.nd rfl (.inr rfl)) (C8.pss_cut (ps_set (i := 8) scMaps.nd rfl (.inl rfl) (pe_callTy (call_tupOf K rfl) (by rfl) mtuple (by decide +kernel) (pa_cons (pe_lc (own := [("end", 9)]) (g := gName 9) (tt := tYes) rfl scMaps.nd (pi_tupK K rfl (pv 6)) (blkOk_by (N := ["ways_here", "many", "found", "line", "step", "letters", "ends", "mark", "later", "end"]) (own := [("end", 9)]) (sc := defScope sMaps) (by decide +kernel)) (fun _ _ _ _ _ => (pg_name (i := 9) scMaps.nd rfl (.inl rfl))) (fun _ _ _ _ _ => pts_nil) (fun _ _ _ _ _ => (pe_ifExp (pt_cmpR op_isN (pv 9) pe_non (nomark _)) pe_non (pe_dget1 (hu_of hr) (pe_ix (ix_listK K rfl) (pv 0) (pv 9) (fun _ _ => rfl)) (pv 7) ⟨rfl, rfl, rfl, rfl⟩)))) pa_nil))) (pss_one (ps_if (PW.pt (pw_and (pt_cmpR (op_neD hr.units) (pv 8) (pe_op op_repT (pe_tup (pa_cons pe_non pa_nil)) (pv 1)) (nomark _)) (pw_and1 (pt_cmpR (op_notInN (hu_of hr)) (pv 8) (pv 2) (by rfl))))) (C8.pss_cut (ps_asg (pe_op op_add_str (pv 5) (pv 7)) (pg_sub (pv 2) (pv 8) (set_nd (hu_of hr)))) (pss_one (ps_expr (pe_bm PySem.F.plainAttrs_list PySem.F.slot_list_append PySem.F.type_list_append mt_append (pv 3) (pa_cons (pe_tup (pa_cons (pe_op op_add_str (pv 5) (pv 7)) (pa_cons (pv 8) pa_nil))) pa_nil))))) pss_nil)))))) pss_nil))) (pss_one (ps_ret (pv 2)))))), ?_⟩
    have n2 := wk.n2
    refine ⟨fun σ H' => Same H H' ∧ ∃ (fa : Addr) (o : Obj), H fa = none ∧ H' fa = some (NdO P w fa o []) ∧ σ = [some (.ref dl), some (.int (n : Int)), some (.ref fa), none, none, none, none, none, none, none], ?_, ?_⟩
    · refine ⟨_, rfl, dl, _, rfl, .inl (SqL.of dr.hl), fun fa o nfa => ⟨_, _, rfl, same_upd nfa, fa, o, nfa, upd_same, ?_⟩⟩
      rw [List.length_map, dr.len]
      rfl
    rintro σ H1 ⟨s1, fa, o0, nfa, hf1, rfl⟩
    refine ⟨fun σ H' => Same H H' ∧ ∃ (ln ea ra : Addr), H ln = none ∧ fa ≠ ln ∧ MpAt P w H' fa ln o0 [] [(ra, ea)] [([], runE ts n [])] ∧ σ = [some (.ref dl), some (.int (n : Int)), some (.ref fa), some (.ref ln), none, none, none, none, none, none], ?_, ?_⟩
    · refine ⟨_, rfl, (n : Int), rfl, RgOk.of_le (by decide) (by omega) (by decide) (by omega), fun ea nea => ⟨by show 2 ≤ sizeLine; decide, fun ra nra => ⟨by show 1 ≤ sizeLine; decide, fun ln nln => ?_⟩⟩⟩
      have e1 : rgV 0 (n : Int) = eV (runE ts n []) := by
        rw [run_nil]
        unfold rgV eV
        rw [List.map_map, show ((n : Int) - 0).toNat = n by omega]
        refine List.map_congr_left fun h _ => ?_
        show V.int (0 + (h : Int)) = V.int (h : Int)
        rw [Int.zero_add]
      rw [e1] at nra nln ⊢
      have s2 := ((s1.put nea (o := .tup (eV (runE ts n [])))).put nra (o := .tup [.str "", .ref ea])).put nln (o := .lst [.ref ra])
      have nl : H ln = none := ((s1.put nea (o := .tup (eV (runE ts n [])))).put nra (o := .tup [.str "", .ref ea])).free nln
      refine ⟨s2, ln, ea, ra, nl, ?_, ⟨⟨upd_same, .cons ⟨?_, ?_⟩ .nil⟩, ⟨?_, fun q hq => by cases hq⟩, rfl⟩, rfl⟩
      · exact ne_of_none (put_old (put_old hf1 nea) nra) nln
      · rw [sS_nil]
        exact put_old upd_same nln
      · exact put_old (put_old upd_same nra) nln
      · exact put_old (put_old (put_old hf1 nea) nra) nln
    rintro σ H2 ⟨s2, ln, ea, ra, nln, nfl, mp, rfl⟩
    refine ⟨fun σ H' => Same H H' ∧ ∃ (o : Obj) (ks : List (List NKey × Addr)) (ps : List (Addr × Addr)) (L : List Row) (v4 v5 v6 v7 v8 : Option V), MpAt P w H' fa ln o ks ps L ∧ Que ts n L ∧ (∀ j m, j < L.length → m ∈ letters → SeenM ts n L j m) ∧ σ = [some (.ref dl), some (.int (n : Int)), some (.ref fa), some (.ref ln), v4, v5, v6, v7, v8, none], ?_, ?_⟩
    · refine ⟨700, rfl, by decide, by decide, ?_⟩
      rw [show ((700 : Int)).toNat = 700 from rfl]
      refine for_range (lo := 0) (n := 700) (fun i σ H' => Same H H' ∧ ∃ (o : Obj) (ks : List (List NKey × Addr)) (ps : List (Addr × Addr)) (L : List Row) (v4 v5 v6 v7 v8 : Option V), MpAt P w H' fa ln o ks ps L ∧ Que ts n L ∧ (∀ j m, j < i → j < L.length → m ∈ letters → SeenM ts n L j m) ∧ (∀ x ∈ L, x.1.length ≤ i) ∧
          σ = [some (.ref dl), some (.int (n : Int)), some (.ref fa), some (.ref ln), v4, v5, v6, v7, v8, none]) ⟨s2, o0, [], _, _, none, none, none, none, none, mp, Que.init ts n, fun _ _ h => absurd h (Nat.not_lt_zero _), fun x hx => ?_, rfl⟩ ?_ ?_
      · rw [List.mem_singleton.mp hx]
        exact Nat.le_refl 0
      · rintro i σ H3 hi ⟨s3, o, ks, ps, L, v4, v5, v6, v7, v8, mp, q, seen, lens, rfl⟩
        rw [show (0 : Int) + (i : Int) = (i : Int) from Int.zero_add _]
        have pl : ps.length = L.length := Paired.length mp.line.rows
        refine ⟨_, rfl, _, rfl, ln, _, rfl, .inl (SqL.of mp.line.hl), _, _, rfl, rfl, _, rfl, ?_⟩
        rw [List.length_map, pl]
        refine ite2 (fun hlt => ?_) (fun hge => ?_)
        · have hlt : i < L.length := by have := of_decide_eq_true hlt; omega
          have hx : L[i]? = some L[i] := List.getElem?_eq_getElem hlt
          generalize L[i] = x at hx
          obtain ⟨p, hp, hrow, hea⟩ : ∃ p, ps[i]? = some p ∧ H3 p.1 = some (.tup [V.str (sS x.1), V.ref p.2]) ∧ H3 p.2 = some (.tup (eV x.2)) := by
            obtain ⟨p, hp, h1, h2⟩ := paired_at mp.line.rows hx
            exact ⟨p, hp, h1, h2⟩
          refine ⟨fun σ H' => H3 = H' ∧ σ = [some (.ref dl), some (.int (n : Int)), some (.ref fa), some (.ref ln), some (.int (i : Int)), some (.str (sS x.1)), some (.ref p.2), v7, v8, none], ?_, ?_⟩
          · refine ⟨_, rfl, _, rfl, ln, _, _, _, rfl, rfl, SqL.of mp.line.hl, atI_nat (by rw [List.getElem?_map, hp]; rfl), p.1, _, rfl, SqT.of hrow, rfl, _, _, rfl, _, _, rfl, rfl, rfl, rfl⟩
          rintro σ H4 ⟨rfl, rfl⟩
          have lx0 := lens x (List.mem_of_getElem? hx)
          refine ⟨_, rfl, for_it walk_str (fun j σ H' => Same H H' ∧ ∃ (o : Obj) (ks : List (List NKey × Addr)) (ps : List (Addr × Addr)) (L : List Row) (v7 v8 : Option V), MpAt P w H' fa ln o ks ps L ∧ Que ts n L ∧ L[i]? = some x ∧ H' p.2 = some (.tup (eV x.2)) ∧ (∀ j m, j < i → j < L.length → m ∈ letters → SeenM ts n L j m) ∧ (∀ m ∈ letters.take j, SeenM ts n L i m) ∧ (∀ x ∈ L, x.1.length ≤ i + 1) ∧
            σ = [some (.ref dl), some (.int (n : Int)), some (.ref fa), some (.ref ln), some (.int (i : Int)), some (.str (sS x.1)), some (.ref p.2), v7, v8, none])
            ⟨s3, o, ks, ps, L, v7, v8, mp, q, hx, hea, seen, fun m hm => (by cases hm), fun x hx => Nat.le_succ_of_le (lens x hx), rfl⟩ (fun _ _ _ _ _ => trivial) ?_ ?_⟩
          · rintro j y σ H5 H6 hj ⟨s5, o, ks, ps, L, v7, v8, mp, q, hx, hea, seen, seenI, lens, rfl⟩ ⟨rfl, m, hm, rfl⟩
            have hmj : letters[j]? = some m := by
              have ez : (("abcdefghijkl" : Str)).cps.toList = letters := by decide +kernel
              rw [← ez, Array.getElem?_toList]
              exact hm
            have hml : m ∈ letters := List.mem_of_getElem? hmj
            have tk : letters.take (j + 1) = letters.take j ++ [m] := by rw [List.take_succ, hmj]; rfl
            refine ⟨fun σ H' => Same H6 H' ∧ ∃ la : Addr, H6 la = none ∧ H' la = some (.tup (eV (nxE ts x.2 m))) ∧ σ = [some (.ref dl), some (.int (n : Int)), some (.ref fa), some (.ref ln), some (.int (i : Int)), some (.str (sS x.1)), some (.ref p.2), some (.str (sgn m)), some (.ref la), none], ?_, ?_⟩
            · refine ⟨_, rfl, p.2, rfl, ⟨_, SqT.of hea⟩, fun D nD => ?_⟩
              have wd : ∀ h, some h ∈ x.2 → h < n := fun h hh => by
                rw [(q.runs x (List.mem_of_getElem? hx)).1] at hh
                obtain ⟨k, hk, e2⟩ := List.mem_map.mp hh
                exact walkN_lt wk (List.mem_range.mp hk) e2
              have xl : x.2.length = n := by rw [(q.runs x (List.mem_of_getElem? hx)).1, run_len]
              refine lc_it walk_tup (fun j2 H' => Same H6 H' ∧ H' D = some (.lst ((eV (nxE ts x.2 m)).take j2))) ⟨same_upd nD, upd_same⟩ (fun j2 H' _ ⟨s8, _⟩ => SqT.of (s8 _ _ hea)) ?_ ?_
              · rintro j2 y H8 H9 hj2 ⟨s8, hD⟩ ⟨rfl, hy⟩
                obtain ⟨e, he, rfl⟩ : ∃ e, x.2[j2]? = some e ∧ y = walkV e := by
                  unfold eV at hy
                  rw [List.getElem?_map] at hy
                  obtain ⟨e, h1, h2⟩ := Option.map_eq_some_iff.mp hy
                  exact ⟨e, h1, h2.symm⟩
                have len : ((eV (nxE ts x.2 m)).take j2).length < sizeLine := by
                  rw [List.length_take]
                  unfold eV nxE
                  rw [List.length_map, List.length_map, xl]
                  exact small1000 (by omega)
                have nx : (eV (nxE ts x.2 m)).take (j2 + 1) = (eV (nxE ts x.2 m)).take j2 ++ [walkV (e.bind fun h => door h m ts)] := by
                  rw [List.take_succ]
                  unfold eV nxE
                  rw [List.getElem?_map, List.getElem?_map, he]
                  rfl
                have fin : ∀ v : V, v = walkV (e.bind fun h => door h m ts) → Same H6 (upd H9 D (.lst ((eV (nxE ts x.2 m)).take j2 ++ [v]))) ∧ (upd H9 D (.lst ((eV (nxE ts x.2 m)).take j2 ++ [v]))) D = some (.lst ((eV (nxE ts x.2 m)).take (j2 + 1))) := fun v e => by
                  subst e
                  exact ⟨s8.own nD, by rw [upd_same, nx]⟩
                refine ⟨rfl, _, rfl, rfl, _, rfl, ?_⟩
                cases e with
                | none => exact iteT ⟨_, hD, len, fin _ rfl⟩
                | some h =>
                  obtain ⟨a1, ha1, hda1⟩ := dr_at ((dr.same s5).same s8) (wd h (List.mem_of_getElem? he))
                  refine iteF ⟨_, rfl, _, rfl, dl, _, _, _, rfl, rfl, SqL.of ((dr.same s5).same s8).hl, ha1, a1, rfl, .inl ⟨_, .inl hda1⟩, _, rfl, _, DGet.k (k := Sum.inr (sgn m)) hda1, _, hD, len, fin _ ?_⟩
                  rw [valV_door]
                  show _ = walkV (door h m ts)
                  cases door h m ts <;> rfl
              · rintro H8 ⟨s8, hD⟩
                have full : (eV (nxE ts x.2 m)).take (eV x.2).length = eV (nxE ts x.2 m) := List.take_of_length_le (by unfold eV nxE; rw [List.length_map, List.length_map, List.length_map]; exact Nat.le_refl _)
                rw [full] at hD
                exact ⟨D, _, rfl, SqL.of hD, fun la nla => ⟨s8.put nla, la, s8.free nla, upd_same, rfl⟩⟩
            rintro σ H7 ⟨s7, la, nla, hla, rfl⟩
            have hi4 : i < L.length := (List.getElem?_eq_some_iff.mp hx).1
            refine ⟨_, rfl, by show 1 ≤ sizeLine; decide, fun q1 nq1 => ⟨_, rfl, q1, (n : Int), _, rfl, rfl, SqT.of upd_same, by simp, by omega, by omega, by decide, fun r1 nr1 => ?_⟩⟩
            have s8 : Same H6 (upd (upd H7 q1 (.tup [.non])) r1 (.tup (List.replicate ((n : Int)).toNat [V.non]).flatten)) := (s7.put nq1).put nr1
            have hla8 : (upd (upd H7 q1 (.tup [.non])) r1 (.tup (List.replicate ((n : Int)).toNat [V.non]).flatten)) la = some (.tup (eV (nxE ts x.2 m))) := put_old (put_old hla nq1) nr1
            have ed : (List.replicate ((n : Int)).toNat [V.non]).flatten = eV (dedE n) := by
              rw [Int.toNat_natCast]
              unfold eV dedE
              rw [List.map_replicate, List.flatten_replicate_singleton]
              rfl
            have hr8 : (upd (upd H7 q1 (.tup [.non])) r1 (.tup (List.replicate ((n : Int)).toNat [V.non]).flatten)) r1 = some (.tup (eV (dedE n))) := by rw [upd_same, ed]
            generalize upd (upd H7 q1 (.tup [.non])) r1 (.tup (List.replicate ((n : Int)).toNat [V.non]).flatten) = H8 at s8 hla8 hr8
            have mp8 := mp.same s8
            refine ⟨_, _, tD_dp K (eV_nb _) hla8, tD_dp K (eV_nb _) hr8, tD_shaped (eV_nb _), tD_shaped (eV_nb _), _, rfl, ?_⟩
            rw [tD_eqv (eV_nb _) (eV_nb _)]
            have seenS : ∀ m' ∈ letters.take (j + 1), m' ∈ letters.take j ∨ m' = m := fun m' h => by
              rw [tk] at h
              rcases List.mem_append.mp h with h | h
              · exact .inl h
              · exact .inr (List.mem_singleton.mp h)
            by_cases cd : nxE ts x.2 m = dedE n
            · rw [decide_eq_true (congrArg eV cd)]
              refine iteF ⟨s5.trans s8, o, ks, ps, L, _, _, mp8, q, hx, s8 _ _ hea, seen, fun m' h => ?_, lens, rfl⟩
              rcases seenS m' h with h | rfl
              · exact seenI m' h
              · intro x' hx'
                obtain rfl := Option.some.inj (hx.symm.trans hx')
                exact .inl cd
            · rw [decide_eq_false fun z => cd (eV_inj z)]
              refine iteT ⟨_, rfl, _, rfl, la, fa, o, ks, eK (nxE ts x.2 m), rfl, rfl, by rw [eK_nV]; exact hla8, mp8.found, _, rfl, ?_⟩
              have memK : eK (nxE ts x.2 m) ∈ ks.map Prod.fst ↔ nxE ts x.2 m ∈ L.tail.map (·.2) := by
                rw [mp.keys]
                constructor
                · intro h
                  obtain ⟨es, h1, h2⟩ := List.mem_map.mp h
                  exact eK_inj h2 ▸ h1
                · exact fun h => List.mem_map.mpr ⟨_, h, rfl⟩
              by_cases ck : nxE ts x.2 m ∈ L.tail.map (·.2)
              · rw [decide_eq_true (memK.mpr ck)]
                refine iteF ⟨s5.trans s8, o, ks, ps, L, _, _, mp8, q, hx, s8 _ _ hea, seen, fun m' h => ?_, lens, rfl⟩
                rcases seenS m' h with h | rfl
                · exact seenI m' h
                · intro x' hx'
                  obtain rfl := Option.some.inj (hx.symm.trans hx')
                  exact .inr ck
              · rw [decide_eq_false fun z => ck (memK.mp z)]
                refine iteT ?_
                have lx := lens x (List.mem_of_getElem? hx)
                have few := q.few wk n4
                rw [List.length_tail] at few
                have l1 : (sS x.1).length + (sgn m).length ≤ sizeLine := by
                  rw [sS_len, sgn_len]
                  exact Nat.le_of_lt (small1000 (by omega))
                have kl : ks.length = L.length - 1 := by
                  have := congrArg List.length mp.keys
                  rwa [List.length_map, List.length_map, List.length_map, List.length_tail] at this
                refine ⟨fun σ H' => ∃ o' : Obj, H' = upd H8 fa (NdO P w fa o' (ks ++ [(eK (nxE ts x.2 m), la)])) ∧ σ = [some (.ref dl), some (.int (n : Int)), some (.ref fa), some (.ref ln), some (.int (i : Int)), some (.str (sS x.1)), some (.ref p.2), some (.str (sgn m)), some (.ref la), none], ?_, ?_⟩
                · exact ⟨_, rfl, _, rfl, sS x.1, sgn m, rfl, rfl, l1, _, rfl, _, rfl, la, fa, o, ks, eK (nxE ts x.2 m), rfl, rfl, by rw [eK_nV]; exact hla8, mp8.found, fun z => ck (memK.mp z), small1000 (by omega), fun o' => ⟨o', rfl, rfl⟩⟩
                rintro σ H9 ⟨o', rfl, rfl⟩
                have fl : fa ≠ ln := ne_of mp8.found.at_ mp8.line.hl (by intro z; cases z)
                have hl9 : (upd H8 fa (NdO P w fa o' (ks ++ [(eK (nxE ts x.2 m), la)]))) ln = some (.lst (ps.map fun p => V.ref p.1)) := by
                  rw [upd_ne fl.symm]
                  exact mp8.line.hl
                refine ⟨_, rfl, .inl ⟨rfl, _, SqL.of hl9⟩, _, rfl, _, rfl, sS x.1, sgn m, rfl, rfl, l1, _, rfl, by show 2 ≤ sizeLine; decide, fun q3 nq3 => ⟨_, _, _, rfl, rfl, put_old hl9 nq3, by rw [List.length_map, Paired.length mp.line.rows]; exact small1000 (by omega), ?_⟩⟩
                rw [sS_snoc]
                have add := mp8.add (y := (x.1 ++ [m], nxE ts x.2 m)) q.ne hla8 nq3
                refine ⟨?_, o', _, _, _, _, _, add, q.add (List.mem_of_getElem? hx) hml cd ck, ?_, ?_, fun j' m' h1 h2 hm' => ?_, fun m' h => ?_, fun z hz => ?_, rfl⟩
                · intro b u e
                  have e8 := (s5.trans s8) b u e
                  have b1 : b ≠ fa := ne_of_none e nfa
                  have b2 : b ≠ ln := ne_of_none e nln
                  have nq0 : H8 q3 = none := by
                    have : q3 ≠ fa := fun e => by rw [e, upd_same] at nq3; cases nq3
                    rwa [upd_ne this] at nq3
                  rw [upd_ne b2, upd_ne (ne_of_none e8 nq0), upd_ne b1]
                  exact e8
                · rw [List.getElem?_append_left hi4]
                  exact hx
                · have e8 := s8 _ _ hea
                  have nq0 : H8 q3 = none := by
                    have : q3 ≠ fa := fun e => by rw [e, upd_same] at nq3; cases nq3
                    rwa [upd_ne this] at nq3
                  rw [upd_ne (ne_of e8 mp8.line.hl (by intro z; cases z)), upd_ne (ne_of_none e8 nq0), upd_ne (ne_of e8 mp8.found.at_ (by intro z; cases z))]
                  exact e8
                · exact SeenM.app q (by omega) (seen j' m' h1 (by omega) hm')
                · rcases seenS m' h with h | rfl
                  · exact SeenM.app q hi4 (seenI m' h)
                  · intro x' hx'
                    rw [List.getElem?_append_left hi4, hx] at hx'
                    obtain rfl := Option.some.inj hx'
                    right
                    rw [tail_app q.ne, List.map_append]
                    exact List.mem_append_right _ (List.mem_singleton.mpr rfl)
                · rcases List.mem_append.mp hz with hz | hz
                  · exact lens z hz
                  · rw [List.mem_singleton.mp hz, List.length_append]
                    show x.1.length + 1 ≤ i + 1
                    exact Nat.succ_le_succ lx0
          · rintro σ H5 ⟨s5, o, ks, ps, L, v7, v8, mp, q, hx, hea, seen, seenI, lens, rfl⟩
            have e12 : letters.take (("abcdefghijkl" : Str)).cps.size = letters := by decide +kernel
            rw [e12] at seenI
            refine ⟨s5, o, ks, ps, L, _, _, _, _, _, mp, q, fun j m h1 h2 hm => ?_, lens, rfl⟩
            by_cases c : j < i
            · exact seen j m c h2 hm
            · obtain rfl : j = i := by omega
              exact seenI m hm
        · have hge : ¬ i < L.length := fun z => hge (decide_eq_true (by omega))
          exact ⟨s3, o, ks, ps, L, _, _, _, _, _, mp, q, fun j m h1 h2 => (by by_cases c : j < i; exact seen j m c h2; exact absurd (show i < L.length by omega) hge), fun x hx => Nat.le_succ_of_le (lens x hx), rfl⟩
      · rintro σ H3 ⟨s3, o, ks, ps, L, v4, v5, v6, v7, v8, mp, q, seen, lens, rfl⟩
        have few := q.few wk n4
        rw [List.length_tail] at few
        exact ⟨s3, o, ks, ps, L, _, _, _, _, _, mp, q, fun j m h1 => seen j m (by omega) h1, rfl⟩
    rintro σ H3 ⟨s3, o, ks, ps, L, v4, v5, v6, v7, v8, mp, q, seen, rfl⟩
    exact ⟨_, rfl, k fa o ks _ H3 s3 mp.found mp.keys (q.done seen)⟩
end
end Wh

namespace Wh
open PySem L2
abbrev sLabels : Stmt := topS 58
abbrev sLBound : Stmt := topS 57
theorem scLabels : FnScope ["ways_here", "want_here", "labels", "many", "first", "last", "ends", "row", "pair", "turn", "later", "spot"] ["ways_here", "want_here"] (defScope sLabels) := ⟨rfl, rfl, rfl, by decide +kernel, rfl, by decide +kernel, by decide +kernel⟩
section
variable {P : Program} {w : World} {K : PySem.W.Frag} {mg : Str → Option Value} {base : Heap}
/-- never called -/
def spNever : Sp := fun _ _ _ _ => False
def spLabels : Sp := fun vs H Q _ => ∃ (dl : Addr) (ds : List Addr) (n : Nat) (ts : List Tie) (z : Str), vs = [.ref dl, .str z] ∧ Dr H dl ds n ts ∧ WebOk n ts ∧ n ≤ 4 ∧ inV (V.str z) [V.str "hand", V.str "behind"] = false ∧
  ∀ (d : Addr) (f : Pr → Nat) (H' : Hp), Same H H' → H' d = some (.dT (lblK n f)) → LabOk n f → (∀ p q, InN n p → InN n q → (f p = f q ↔ Cl n ts p q)) → Q (.ref d) H'
set_option maxHeartbeats 4000000 in
theorem ok_labels {f fP fM fB : Addr} {fd fdP fdM fdB : FuncData} (F : Fun K "_law_labels" "_law_labels" sLabels f fd) (mlen : mg "len" = none) (mrange : mg "range" = none)
    (GP : FnOk P w K mg base CX0 1 fP fdP ["ways_here"] (spMaps P w)) (FP : Fun K "_law_maps" "_law_maps" sMaps fP fdP) (bP : Binds K fdP ["ways_here"] []) (mP : mg "_law_maps" = some (.ref fP))
    (GM : FnOk P w K mg base CX0 1 fM fdM ["labels", "one", "two"] spMerged) (FM : Fun K "_law_merged" "_law_merged" sMerged fM fdM) (bM : Binds K fdM ["labels", "one", "two"] []) (mM : mg "_law_merged" = some (.ref fM))
    (GB : FnOk P w K mg base CX0 1 fB fdB ["ways_here", "labels", "want_here"] spNever) (FB : Fun K "_law_bound" "_law_bound" sLBound fB fdB) (bB : Binds K fdB ["ways_here", "labels", "want_here"] []) (mB : mg "_law_bound" = some (.ref fB)) :
    FnOk P w K mg base CX0 2 f fd ["ways_here", "want_here"] spLabels := by
  refine F.ok scLabels (fun vs H Q E h => ?_) (fun cdv A outer s H vs Q E hr h => ?_)
  · obtain ⟨dl, ds, n, ts, z, rfl, _⟩ := h
    rfl
  · obtain ⟨dl, ds, n, ts, z, rfl, dr, wk, n4, hz, k⟩ := h
    have hr1 : Room 1 _ := hr
    refine ⟨_, (C8.pss_cut (ps_par (i := 2) (j := 3) (by rfl) scLabels.nd rfl rfl (by decide) rfl rfl (pa_cons pe_dnewT (pa_cons (pe_callB call_len_seq (by rfl) mlen PySem.boot_len (pa_cons (pv 0) pa_nil)) pa_nil)) (by rfl)) (C8.pss_cut (ps_for PassesOwn.never rfl (pi_range1 (by rfl) mrange (pa_cons (pv 3) pa_nil)) (pg_name (i := 4) scLabels.nd rfl (.inl rfl)) (pss_one (ps_for PassesOwn.never rfl (pi_range1 (by rfl) mrange (pa_cons (pv 3) pa_nil)) (pg_name (i := 5) scLabels.nd rfl (.inl rfl)) (pss_one (ps_dput (hu_of hr) (pv 2) (pe_tup (pa_cons (pv 4) (pa_cons (pv 5) pa_nil))) (pe_op op_add (pe_op op_mul (pv 3) (pv 4)) (pv 5)) rfl))))) (C8.pss_cut (ps_for PassesOwn.never rfl (pi_keysN (pe_call GP hr1 (by rfl) mP FP.kp bP .nil pass0 (pa_cons (pv 0) pa_nil))) (pg_name (i := 6) scLabels.nd rfl (.inr rfl)) (C8.pss_cut (ps_setLc (i := 7) (own := [("spot", 11)]) (g := gName 11) rfl scLabels.nd rfl rfl (sw_true rfl rfl rfl (by decide +kernel)) (pi_range1 (by rfl) mrange (pa_cons (pv 3) pa_nil)) (blkOk_by (N := ["ways_here", "want_here", "labels", "many", "first", "last", "ends", "row", "pair", "turn", "later", "spot"]) (own := [("spot", 11)]) (sc := defScope sLabels) (by decide +kernel)) (fun _ _ _ _ _ => (pg_name (i := 11) scLabels.nd rfl (.inl rfl))) (fun _ _ _ _ _ => (pts_one (pt_cmpR op_notN (pe_ix (ix_tupK K rfl) (pv 6) (pv 11) (fun _ _ => rfl)) pe_non (nomark _)))) (fun _ _ _ _ _ => (pe_tup (pa_cons (pv 11) (pa_cons (pe_ix (ix_tupK K rfl) (pv 6) (pv 11) (fun _ _ => rfl)) pa_nil))))) (pss_one (ps_for PassesOwn.never rfl (pi_list (pe_slice sl_list (pv 7) (po_some pe_int) po_none)) (pg_name (i := 8) scLabels.nd rfl (.inl rfl)) (pss_one (ps_set (i := 2) scLabels.nd rfl (.inl rfl) (pe_call GM hr1 (by rfl) mM FM.kp bM .nil pass0 (pa_cons (pv 2) (pa_cons (pe_ix ix_list (pv 7) pe_int (fun _ _ => rfl)) (pa_cons (pv 8) pa_nil)))))))))) (pss_cons (ps_for PassesOwn.never rfl (pi_range1 (by rfl) mrange (pa_cons pe_int pa_nil)) (pg_name (i := 9) scLabels.nd rfl (.inl rfl)) (C8.pss_cut (ps_set (i := 10) scLabels.nd rfl (.inl rfl) (pe_ifExp (pt_cmpR (op_inK K rfl) (pv 1) (pe_lst (pa_cons pe_str (pa_cons pe_str pa_nil))) (by rfl)) (pe_call GB hr1 (by rfl) mB FB.kp bB .nil pass0 (pa_cons (pv 0) (pa_cons (pv 2) (pa_cons (pv 1) pa_nil)))) (pv 2))) (pss_cons (ps_if (pt_cmpR (op_eqT (hu_of hr)) (pv 10) (pv 2) (nomark _)) (pss_one (ps_ret (pv 2))) pss_nil) (pss_one (ps_set (i := 2) scLabels.nd rfl (.inl rfl) (pv 10)))))) (pss_one (ps_ret (pv 2))))))), ?_⟩
    have n2 := wk.n2
    have nn : n * n ≤ 16 := Nat.mul_le_mul n4 n4
    refine ⟨fun σ H' => Same H H' ∧ ∃ d : Addr, H d = none ∧ H' d = some (.dT []) ∧ σ = [some (.ref dl), some (.str z), some (.ref d), some (.int (n : Int)), none, none, none, none, none, none, none, none], ?_, ?_⟩
    · refine fun d nd => ⟨_, rfl, dl, _, rfl, .inl (SqL.of (put_old dr.hl nd)), _, _, rfl, same_upd nd, d, nd, upd_same, ?_⟩
      rw [List.length_map, dr.len]
      rfl
    rintro σ H1 ⟨s1, d, nd, hd1, rfl⟩
    refine ⟨fun σ H' => Same H H' ∧ H' d = some (.dT (lblK n (ixP n))) ∧ ∃ v4 v5 : Option V, σ = [some (.ref dl), some (.str z), some (.ref d), some (.int (n : Int)), v4, v5, none, none, none, none, none, none], ?_, ?_⟩
    · refine ⟨_, rfl, (n : Int), rfl, by omega, by omega, ?_⟩
      rw [show ((n : Int)).toNat = n from Int.toNat_natCast n]
      refine for_range (lo := 0) (n := n) (fun i σ H' => Same H H' ∧ H' d = some (.dT ((lblK n (ixP n)).take (n * i))) ∧ ∃ v4 v5 : Option V, σ = [some (.ref dl), some (.str z), some (.ref d), some (.int (n : Int)), v4, v5, none, none, none, none, none, none]) ⟨s1, by rw [Nat.mul_zero]; exact hd1, none, none, rfl⟩ ?_ ?_
      · rintro i σ H2 hi ⟨s2, hd2, v4, v5, rfl⟩
        rw [show (0 : Int) + (i : Int) = (i : Int) from Int.zero_add _]
        refine ⟨_, rfl, (n : Int), rfl, by omega, by omega, ?_⟩
        rw [show ((n : Int)).toNat = n from Int.toNat_natCast n]
        refine for_range (lo := 0) (n := n) (fun j σ H' => Same H H' ∧ H' d = some (.dT ((lblK n (ixP n)).take (n * i + j))) ∧ ∃ v5 : Option V, σ = [some (.ref dl), some (.str z), some (.ref d), some (.int (n : Int)), some (.int (i : Int)), v5, none, none, none, none, none, none]) ⟨s2, hd2, v5, rfl⟩ ?_ ?_
        · rintro j σ H3 hj ⟨s3, hd3, v5, rfl⟩
          rw [show (0 : Int) + (j : Int) = (j : Int) from Int.zero_add _]
          have hp : InN n (i, j) := ⟨hi, hj⟩
          have few : ((lblK n (ixP n)).take (n * i + j)).length < sizeLine := by
            rw [List.length_take, lblK_len]
            exact small1000 (by omega)
          refine ⟨_, rfl, _, rfl, (n : Int), (i : Int), rfl, rfl, ?_, _, rfl, _, _, rfl, rfl, _, rfl, _, rfl, _, rfl, by show 2 ≤ sizeLine; decide, fun q nq => ⟨d, _, rfl, DPut.t (k := pk (i, j)) (put_old hd3 nq) upd_same few, ?_⟩⟩
          · unfold CMul
            omega
          · have e : V.int ((n : Int) * (i : Int) + (j : Int)) = V.int ((n * i + j : Nat) : Int) := by rw [Int.natCast_add, Int.natCast_mul]
            have e2 : putK ((lblK n (ixP n)).take (n * i + j)) (pk (i, j)) (V.int ((n : Int) * (i : Int) + (j : Int))) = (lblK n (ixP n)).take (n * i + (j + 1)) := by
              rw [e]
              exact lbl_put hp rfl
            exact ⟨(s3.put nq).own nd, upd_same.trans (congrArg (fun l => some (HO.dT l)) e2), _, rfl⟩
        · rintro σ H3 ⟨s3, hd3, v5, rfl⟩
          exact ⟨s3, by rw [Nat.mul_succ]; exact hd3, _, _, rfl⟩
      · rintro σ H2 ⟨s2, hd2, v4, v5, rfl⟩
        rw [← lblK_len n (ixP n), List.take_length] at hd2
        exact ⟨s2, hd2, _, _, rfl⟩
    rintro σ H2 ⟨s2, hd2, v4, v5, rfl⟩
    refine ⟨fun σ H' => Same H H' ∧ ∃ (e : Addr) (f : Pr → Nat) (v4 v5 v6 v7 v8 : Option V), H' e = some (.dT (lblK n f)) ∧ LabOk n f ∧ (∀ p q, InN n p → InN n q → (f p = f q ↔ Cl n ts p q)) ∧ σ = [some (.ref dl), some (.str z), some (.ref e), some (.int (n : Int)), v4, v5, v6, v7, v8, none, none, none], ?_, ?_⟩
    · refine ⟨_, rfl, dl, ds, n, ts, rfl, dr.same s2, wk, n4, fun md mo ks KS H3 s3 nin keys ok => ?_⟩
      have s23 := s2.trans s3
      have hd3 := s3 _ _ hd2
      have allIn : ∀ es ∈ KS, ∀ p q, (p, q) ∈ mrgsE n es → InN n p ∧ InN n q := fun es he p q hm => by
        obtain ⟨ms, _, rfl⟩ := ok.some_ es he
        obtain ⟨h1, h2⟩ := mrgsE_in hm
        obtain ⟨a1, a2⟩ := rowP_run.mp h1
        obtain ⟨b1, b2⟩ := rowP_run.mp h2
        exact ⟨⟨a1, walkN_lt wk a1 a2⟩, ⟨b1, walkN_lt wk b1 b2⟩⟩
      have kl : ks.length = KS.length := by
        have := congrArg List.length keys
        rwa [List.length_map, List.length_map] at this
      refine ⟨md, mo, ks, rfl, nin, for_it walk_nd (fun i σ H' => Same H3 H' ∧ ∃ (e : Addr) (f : Pr → Nat) (v4 v5 v6 v7 v8 : Option V), H' e = some (.dT (lblK n f)) ∧ LabOk n f ∧ Told2 n f (OneOf ((KS.take i).flatMap (mrgsE n))) ∧
        σ = [some (.ref dl), some (.str z), some (.ref e), some (.int (n : Int)), v4, v5, v6, v7, v8, none, none, none]) ⟨Same.refl _, d, ixP n, _, _, none, none, none, hd3, LabOk.init n, ?_, rfl⟩ (fun i σ H' _ ⟨s', _⟩ => nin.same s') ?_ ?_⟩
      · rw [List.take_zero]
        exact (Told2.init n).same fun p q _ _ => ⟨fun g => g.mono fun _ _ z => z.elim, fun g => g.mono fun _ _ z => by cases z⟩
      · rintro i x σ H4 H5 hi ⟨s4, e, f, v4, v5, v6, v7, v8, he, lab, told, rfl⟩ ⟨rfl, key, q, hk, rfl, hq⟩
        have hes : ∃ es, KS[i]? = some es ∧ key = eK es := by
          have h1 : (ks.map Prod.fst)[i]? = some key := by rw [List.getElem?_map, hk]; rfl
          rw [keys, List.getElem?_map] at h1
          obtain ⟨es, h2, h3⟩ := Option.map_eq_some_iff.mp h1
          exact ⟨es, h2, h3.symm⟩
        obtain ⟨es, hes, rfl⟩ := hes
        rw [eK_nV] at hq
        have esl : es.length = n := by
          obtain ⟨ms, _, rfl⟩ := ok.some_ es (List.mem_of_getElem? hes)
          exact run_len ..
        refine ⟨fun σ H' => Same H5 H' ∧ ∃ (rl : Addr) (qs : List (Addr × Pr)), H' rl = some (.lst (refs qs)) ∧ At prV H' qs ∧ qs.map (·.2) = rowP n es ∧ σ = [some (.ref dl), some (.str z), some (.ref e), some (.int (n : Int)), v4, v5, some (.ref q), some (.ref rl), v8, none, none, none], ?_, ?_⟩
        · refine ⟨_, rfl, (n : Int), rfl, by omega, by omega, fun D nD => ?_⟩
          rw [show ((n : Int)).toNat = n from Int.toNat_natCast n]
          refine lc_range (lo := 0) (n := n) (fun j H' => Same H5 H' ∧ ∃ qs : List (Addr × Pr), H' D = some (.lst (refs qs)) ∧ At prV H' qs ∧ qs.map (·.2) = (List.range j).filterMap (fun h => ((es[h]?).join).map fun e => (h, e)) ∧ qs.length ≤ j) ⟨same_upd nD, [], upd_same, (fun p hp => by cases hp), rfl, Nat.le_refl _⟩ ?_ ?_
          · rintro j H6 hj ⟨s6, qs, hD, hQ, hqs, lq⟩
            rw [show (0 : Int) + (j : Int) = (j : Int) from Int.zero_add _]
            have hq6 := s6 _ _ hq
            have hej : es[j]? = some es[j] := List.getElem?_eq_getElem (by omega)
            generalize es[j] = x at hej
            have hv : (eV es)[j]? = some (walkV x) := by unfold eV; rw [List.getElem?_map, hej]; rfl
            refine ⟨rfl, _, rfl, _, rfl, q, _, _, _, rfl, rfl, SqT.of hq6, atI_nat hv, rfl, _, rfl, ?_⟩
            cases x with
            | none =>
              refine iteF ⟨s6, qs, hD, hQ, ?_, by omega⟩
              rw [List.range_succ, List.filterMap_append, hqs]
              simp [hej]
            | some y =>
              refine iteT ⟨_, rfl, _, rfl, _, rfl, q, _, _, _, rfl, rfl, SqT.of hq6, atI_nat hv, by show 2 ≤ sizeLine; decide, fun u nu => ⟨_, put_old hD nu, ?_, (s6.put nu).own nD, qs ++ [(u, (j, y))], ?_, ?_, ?_, ?_⟩⟩
              · rw [refs_len]
                exact small1000 (by omega)
              · rw [upd_same, refs_app]
                rfl
              · exact At.snoc ((hQ.same (same_upd nu)).mono (upd_tup (put_old hD nu))) (put_ne upd_same (ne_of_none hD nu).symm)
              · rw [List.map_append, hqs, List.range_succ, List.filterMap_append]
                simp [hej]
              · rw [List.length_append]
                exact Nat.succ_le_succ lq
          · rintro H6 ⟨s6, qs, hD, hQ, hqs, lq⟩
            exact ⟨s6, D, qs, hD, hQ, hqs, rfl⟩
        rintro σ H6 ⟨s6, rl, qs, hrl, hQ, hqs, rfl⟩
        have qn : qs.length ≤ n := by
          have := congrArg List.length hqs
          rw [List.length_map] at this
          rw [this]
          unfold rowP
          have := List.length_filterMap_le (fun h => ((es[h]?).join).map fun e => (h, e)) (List.range n)
          rwa [List.length_range] at this
        refine ⟨_, rfl, _, rfl, rl, _, rfl, SqL.of hrl, fun sl nsl => ?_⟩
        have ec : cutV (refs qs) (some (1 : Int)) none = refs (qs.drop 1) := by
          unfold cutV
          rw [show (some (1 : Int)) = some ((1 : Nat) : Int) from rfl, HT.sIx_nat, HT.sIx_none]
          have : min 1 (refs qs).length = (refs qs).length - ((refs qs).length - 1) := by omega
          cases qs with
          | nil => rfl
          | cons a r =>
            have e1 : min 1 (refs (a :: r)).length = 1 := by rw [refs_len, List.length_cons]; omega
            rw [e1]
            show ((refs r).take _) = refs r
            refine List.take_of_length_le ?_
            rw [refs_len, refs_len, List.length_cons]
            omega
        rw [ec]
        have s7 := s6.put nsl (o := .lst (refs (qs.drop 1)))
        refine ⟨sl, rfl, ⟨_, SqL.of upd_same⟩, for_it walk_list (fun j σ H' => Same (upd H6 sl (.lst (refs (qs.drop 1)))) H' ∧ ∃ (e : Addr) (f : Pr → Nat) (v8 : Option V), H' e = some (.dT (lblK n f)) ∧ LabOk n f ∧ Told2 n f (OneOf ((KS.take i).flatMap (mrgsE n) ++ (mrgsE n es).take j)) ∧
          σ = [some (.ref dl), some (.str z), some (.ref e), some (.int (n : Int)), v4, v5, some (.ref q), some (.ref rl), v8, none, none, none]) ⟨Same.refl _, e, f, v8, s7 _ _ he, lab, by rw [List.take_zero, List.append_nil]; exact told, rfl⟩ (fun _ _ _ _ ⟨s', _⟩ => SqL.of (s' _ _ upd_same)) ?_ ?_⟩
        · rintro j x σ H7 H8 hj ⟨s8, e, f, v8, he, lab, told, rfl⟩ ⟨rfl, hx⟩
          obtain ⟨⟨u, p⟩, hu, rfl⟩ := refs_get hx
          obtain ⟨q0, r, rfl⟩ : ∃ q0 r, qs = q0 :: r := by
            cases qs with
            | nil => simp at hu
            | cons a r => exact ⟨a, r, rfl⟩
          have hu : r[j]? = some (u, p) := by simpa using hu
          have erow : rowP n es = q0.2 :: r.map (·.2) := hqs.symm
          have em : mrgsE n es = (r.map (·.2)).map fun p => (q0.2, p) := by unfold mrgsE; rw [erow]
          have ej : (mrgsE n es)[j]? = some (q0.2, p) := by rw [em, List.getElem?_map, List.getElem?_map, hu]; rfl
          obtain ⟨h1, h2⟩ := allIn es (List.mem_of_getElem? hes) _ _ (List.mem_of_getElem? ej)
          have s68 := s7.trans s8
          have ss : Same H6 H8 := (same_upd nsl).trans s8
          refine ⟨_, rfl, _, rfl, rl, _, _, _, rfl, rfl, SqL.of (ss _ _ hrl), atI_nat (j := 0) (show (refs (q0 :: r))[0]? = some (V.ref q0.1) from rfl), _, rfl, e, q0.1, u, n, f, q0.2, p, rfl, he, by omega, h1, h2, ss _ _ (hQ _ List.mem_cons_self), ss _ _ (hQ _ (List.mem_cons_of_mem _ (List.mem_of_getElem? hu))), fun e' H9 s9 _ he' => ⟨s8.trans s9, e', _, _, he', lab.mrg h1 h2, told.mrg (fun x y d => ?_) h1 h2 (fun x y => ?_), rfl⟩⟩
          · rcases List.mem_append.mp d with d | d
            · obtain ⟨es', he', hm⟩ := List.mem_flatMap.mp d
              exact allIn es' (List.mem_of_mem_take he') _ _ hm
            · exact allIn es (List.mem_of_getElem? hes) _ _ (List.mem_of_mem_take d)
          · show (x, y) ∈ _ ↔ (x, y) ∈ _ ∨ _
            rw [List.take_succ, ej, ← List.append_assoc, List.mem_append]
            show _ ∨ (x, y) ∈ [(q0.2, p)] ↔ _
            rw [List.mem_singleton, Prod.mk.injEq]
        · rintro σ H7 ⟨s8, e, f, v8, he, lab, told, rfl⟩
          have full : (mrgsE n es).take (refs (qs.drop 1)).length = mrgsE n es := by
            refine List.take_of_length_le ?_
            unfold mrgsE
            rw [← hqs, refs_len]
            cases qs with
            | nil => exact Nat.le_refl _
            | cons a r =>
              show ((r.map (·.2)).map _).length ≤ r.length
              rw [List.length_map, List.length_map]
              exact Nat.le_refl _
          rw [full] at told
          refine ⟨(s4.trans s7).trans s8, e, f, _, _, _, _, _, he, lab, ?_, rfl⟩
          rw [List.take_succ, hes, List.flatMap_append]
          have e1 : (some es).toList.flatMap (mrgsE n) = mrgsE n es := List.append_nil _
          rw [e1]
          exact told
      · rintro σ H4 ⟨s4, e, f, v4, v5, v6, v7, v8, he, lab, told, rfl⟩
        rw [kl, List.take_length] at told
        exact ⟨s23.trans s4, e, f, _, _, _, _, _, he, lab, fun p q hp hq => (told p q hp hq).trans (gen_maps wk ok), rfl⟩
    rintro σ H3 ⟨s3, e, f, v4, v5, v6, v7, v8, he, lab, iff, rfl⟩
    refine ⟨16, rfl, by decide, by decide, ?_⟩
    rw [show ((16 : Int)).toNat = 16 from rfl]
    refine for_range (lo := 0) (n := 16) (fun i σ H' => i = 0 ∧ Same H3 H' ∧ σ = [some (.ref dl), some (.str z), some (.ref e), some (.int (n : Int)), v4, v5, v6, v7, v8, none, none, none]) ⟨rfl, Same.refl _, rfl⟩ ?_ (fun σ H' ⟨z, _⟩ => absurd z (by decide))
    rintro i σ H4 hi ⟨rfl, s4, rfl⟩
    refine ⟨fun σ H' => Same H4 H' ∧ σ = [some (.ref dl), some (.str z), some (.ref e), some (.int (n : Int)), v4, v5, v6, v7, v8, some (.int 0), some (.ref e), none], ?_, ?_⟩
    · refine ⟨_, rfl, by show 2 ≤ sizeLine; decide, fun q nq => ⟨q, _, rfl, .inl (SqL.of upd_same), rfl, by rfl, _, rfl, ?_⟩⟩
      rw [if_neg Bool.false_ne_true, hz]
      exact iteF ⟨_, rfl, same_upd nq, rfl⟩
    rintro σ H5 ⟨s5, rfl⟩
    have he5 := s5 _ _ (s4 _ _ he)
    refine ⟨_, rfl, _, rfl, e, e, lblK n f, lblK n f, _, _, rfl, rfl, he5, he5, rfl, lbl_ints n f, lbl_ints n f, _, rfl, ?_⟩
    rw [decide_eq_true rfl]
    exact iteT ⟨_, rfl, k e f H5 ((s3.trans s4).trans s5) he5 lab iff⟩
end
end Wh

namespace Wh
open PySem L2
abbrev sDue : Stmt := topS 61
theorem scDue : FnScope ["ways_here", "want_here", "table_here"] ["ways_here", "want_here"] (defScope sDue) := ⟨rfl, rfl, rfl, by decide +kernel, rfl, by decide +kernel, by decide +kernel⟩
theorem scLBound : FnScope ["ways_here", "labels", "want_here", "houses_here", "one", "two", "mark", "heads", "others", "first", "last", "spot"] ["ways_here", "labels", "want_here"] (defScope sLBound) := ⟨rfl, rfl, rfl, by decide +kernel, rfl, by decide +kernel, by decide +kernel⟩
section
variable {P : Program} {w : World} {K : PySem.W.Frag} {mg : Str → Option Value} {base : Heap}
theorem ok_never {f : Addr} {fd : FuncData} (F : Fun K "_law_bound" "_law_bound" sLBound f fd) : FnOk P w K mg base CX0 1 f fd ["ways_here", "labels", "want_here"] spNever := by
  refine F.ok scLBound (fun vs H Q E h => h.elim) (fun cdv A outer s H vs Q E hr h => h.elim)
def spDue : Sp := fun vs H Q _ => ∃ (dl : Addr) (ds : List Addr) (n : Nat) (ts : List Tie) (z : Str), vs = [.ref dl, .str z] ∧ Dr H dl ds n ts ∧ WebOk n ts ∧ n ≤ 4 ∧ inV (V.str z) [V.str "hand", V.str "behind"] = false ∧
  ∀ (v : V) (H' : Hp), Same H H' → TabV n (Cl n ts) (UnfS z n (Cl n ts)) v H' → Q v H'
theorem ok_due {f fL fT fR : Addr} {fd fdL fdT fdR : FuncData} (F : Fun K "_law_due" "_law_due" sDue f fd) (mlen : mg "len" = none)
    (GL : FnOk P w K mg base CX0 2 fL fdL ["ways_here", "want_here"] spLabels) (FL : Fun K "_law_labels" "_law_labels" sLabels fL fdL) (bL : Binds K fdL ["ways_here", "want_here"] []) (mL : mg "_law_labels" = some (.ref fL))
    (GT : FnOk P w K mg base CX0 1 fT fdT ["labels", "many"] spLTable) (FT : Fun K "_law_table" "_law_table" sLTable fT fdT) (bT : Binds K fdT ["labels", "many"] []) (mT : mg "_law_table" = some (.ref fT))
    (GR : FnOk P w K mg base CX0 1 fR fdR ["table_here", "want_here"] spLParted) (FR : Fun K "_law_parted" "_law_parted" sLParted fR fdR) (bR : Binds K fdR ["table_here", "want_here"] []) (mR : mg "_law_parted" = some (.ref fR)) :
    FnOk P w K mg base CX0 3 f fd ["ways_here", "want_here"] spDue := by
  refine F.ok scDue (fun vs H Q E h => ?_) (fun cdv A outer s H vs Q E hr h => ?_)
  · obtain ⟨dl, ds, n, ts, z, rfl, _⟩ := h
    rfl
  · obtain ⟨dl, ds, n, ts, z, rfl, dr, wk, n4, hz, k⟩ := h
    have hr2 : Room 2 _ := hr
    have hr1 : Room 1 _ := hr.mono (by decide)
    refine ⟨_, (C8.pss_cut (ps_set (i := 2) scDue.nd rfl (.inl rfl) (pe_call GT hr1 (by rfl) mT FT.kp bT .nil pass0 (pa_cons (pe_call GL hr2 (by rfl) mL FL.kp bL .nil pass0 (pa_cons (pv 0) (pa_cons (pv 1) pa_nil))) (pa_cons (pe_callB call_len_seq (by rfl) mlen PySem.boot_len (pa_cons (pv 0) pa_nil)) pa_nil)))) (pss_one (ps_ret (pe_ifExp (pt_val (pe_call GR hr1 (by rfl) mR FR.kp bR .nil pass0 (pa_cons (pv 2) (pa_cons (pv 1) pa_nil)))) (pv 2) pe_non)))), ?_⟩
    refine ⟨fun σ H' => Same H H' ∧ ∃ (t : Addr) (qs : List (Addr × List Nat)), H' t = some (.tup (refs qs)) ∧ At natsV H' qs ∧ Tab n (Cl n ts) (qs.map (·.2)) ∧ σ = [some (.ref dl), some (.str z), some (.ref t)], ?_, ?_⟩
    · refine ⟨_, rfl, _, rfl, dl, ds, n, ts, z, rfl, dr, wk, n4, hz, fun d f H1 s1 hd lab iff => ⟨_, rfl, dl, _, rfl, .inl (SqL.of (dr.same s1).hl), d, n, f, ?_, hd, by omega, lab, fun t qs H2 s2 ht hA eT => ⟨s1.trans s2, t, qs, ht, hA, ?_, rfl⟩⟩⟩
      · rw [List.length_map, dr.len]
        rfl
      · rw [eT]
        exact (tblF_tab n f).congr fun p q hp hq => iff p q hp hq
    rintro σ H1 ⟨s1, t, qs, ht, hA, tab, rfl⟩
    refine ⟨_, rfl, _, rfl, t, z, n, qs, Cl n ts, rfl, by omega, ht, hA, tab, fun b H2 s2 hb => ⟨b, rfl, ?_⟩⟩
    cases b with
    | true => exact ⟨_, rfl, k _ H2 (s1.trans s2) (.inr ⟨t, qs, rfl, s2 _ _ ht, hA.same s2, tab, hb.mp rfl⟩)⟩
    | false => exact k _ H2 (s1.trans s2) (.inl ⟨rfl, Classical.byContradiction fun z => by cases hb.mpr z⟩)
end
end Wh

namespace Wh
open PySem L2
abbrev sGood : Stmt := topS 62
theorem scGood : FnScope ["cup", "most", "told", "kind", "many", "letters", "ring_here", "tie", "spot"] ["cup", "most"] (defScope sGood) := ⟨rfl, rfl, rfl, by decide +kernel, rfl, by decide +kernel, by decide +kernel⟩
section
variable {P : Program} {w : World} {K : PySem.W.Frag} {mg : Str → Option Value} {base : Heap}
def spGood (K : PySem.W.Frag) : Sp := fun vs H Q _ => ∃ (c : Addr) (most : Nat), vs = [.ref c, .int (most : Int)] ∧ Cup H c ∧ 2 ≤ most ∧ most ≤ 8 ∧
  ∀ (tl : Addr) (ts : List (Addr × Tie)) (n : Nat) (H' : Hp), But c H H' → Cup H' c → H' tl = some (.lst (refs ts)) → At tieV H' ts → Told n (ts.map (·.2)) → n ≤ most → Q (.ref tl) H'
set_option maxHeartbeats 2000000 in
theorem ok_good {f fD fS : Addr} {fd fdD fdS : FuncData} (F : Fun K "_law_good" "_law_good" sGood f fd) (mint : mg "int" = none) (mmax : mg "max" = none) (menum : mg "enumerate" = none) (mrange : mg "range" = none) (msorted : mg "sorted" = none)
    (GD : FnOk P w K mg base CX0 3 fD fdD ["cup", "most"] (spDrawn K)) (FD : Fun K "_law_drawn" "_law_drawn" sDrawn fD fdD) (bD : Binds K fdD ["cup", "most"] []) (mD : mg "_law_drawn" = some (.ref fD))
    (GS : FnOk P w K mg base CX0 1 fS fdS ["cup", "top"] spSip) (FS : Fun K "_law_sip" "_law_sip" sSip fS fdS) (bS : Binds K fdS ["cup", "top"] []) (mS : mg "_law_sip" = some (.ref fS)) :
    FnOk P w K mg base CX0 4 f fd ["cup", "most"] (spGood K) := by
  refine F.ok scGood (fun vs H Q E h => ?_) (fun cdv A outer s H vs Q E hr h => ?_)
  · obtain ⟨c, most, rfl, _⟩ := h
    rfl
  · obtain ⟨c, most, rfl, hc, m2, m8, k⟩ := h
    have hr3 : Room 3 _ := hr
    have hr1 : Room 1 _ := hr.mono (by decide)
    refine ⟨_, (C8.pss_cut (ps_par (i := 2) (j := 3) (by rfl) scGood.nd rfl rfl (by decide) rfl rfl (pa_cons (pe_call GD hr3 (by rfl) mD FD.kp bD .nil pass0 (pa_cons (pv 0) (pa_cons (pv 1) pa_nil))) (pa_cons (pe_call GS hr1 (by rfl) mS FS.kp bS .nil pass0 (pa_cons (pv 0) (pa_cons pe_int pa_nil))) pa_nil)) (by rfl)) (C8.pss_cut (ps_set (i := 4) scGood.nd rfl (.inr rfl) (pe_op op_add pe_int (pe_callB (cr_max rfl) (by rfl) mmax (by decide +kernel) (pa_cons (pe_lc (own := [("tie", 7)]) (g := gName 7) (tt := tYes) rfl scGood.nd (pi_list (pv 2)) (blkOk_by (N := ["cup", "most", "told", "kind", "many", "letters", "ring_here", "tie", "spot"]) (own := [("tie", 7)]) (sc := defScope sGood) (by decide +kernel)) (fun _ _ _ _ _ => (pg_name (i := 7) scGood.nd rfl (.inl rfl))) (fun _ _ _ _ _ => pts_nil) (fun _ _ _ _ _ => (pe_ix (ix_tupK K rfl) (pv 7) pe_int (fun _ _ => rfl)))) pa_nil)))) (C8.pss_cut (ps_if (pt_cmpR op_eq (pv 3) pe_int (nomark _)) (C8.pss_cut (ps_set (i := 5) scGood.nd rfl (.inr rfl) pe_str) (pss_one (ps_ret (pe_lc (own := [("tie", 7)]) (g := gName 7) (tt := tYes) rfl scGood.nd (pi_list (pv 2)) (blkOk_by (N := ["cup", "most", "told", "kind", "many", "letters", "ring_here", "tie", "spot"]) (own := [("tie", 7)]) (sc := defScope sGood) (by decide +kernel)) (fun _ _ _ _ _ => (pg_name (i := 7) scGood.nd rfl (.inl rfl))) (fun _ _ _ _ _ => pts_nil) (fun _ _ _ _ _ => (pe_tup (pa_cons (pe_ix (ix_tupK K rfl) (pv 7) pe_int (fun _ _ => rfl)) (pa_cons (pe_ix ix_str (pv 5) (pe_op op_sub (pe_op op_mod (pe_callTy call_int1 (by rfl) mint (by decide +kernel) (pa_cons (pe_op op_sub (pe_ix (ix_tupK K rfl) (pv 7) pe_int (fun _ _ => rfl)) (pe_ix (ix_tupK K rfl) (pv 7) pe_int (fun _ _ => rfl))) pa_nil)) (pv 4)) pe_int) (fun _ _ => rfl)) (pa_cons (pe_ix (ix_tupK K rfl) (pv 7) pe_int (fun _ _ => rfl)) (pa_cons (pe_ix ix_str (pv 5) (pe_op op_sub (pe_op op_mod (pe_callTy call_int1 (by rfl) mint (by decide +kernel) (pa_cons (pe_op op_sub (pe_ix (ix_tupK K rfl) (pv 7) pe_int (fun _ _ => rfl)) (pe_ix (ix_tupK K rfl) (pv 7) pe_int (fun _ _ => rfl))) pa_nil)) (pv 4)) pe_int) (fun _ _ => rfl)) pa_nil)))))))))) pss_nil) (C8.pss_cut (ps_if (pt_cmpR op_eq (pv 3) pe_int (nomark _)) (pss_one (ps_ret (pe_lc (own := [("spot", 8), ("tie", 7)]) (tt := tYes) rfl scGood.nd (pi_enum (by rfl) menum (pa_cons (pv 2) pa_nil)) (blkOk_by (N := ["cup", "most", "told", "kind", "many", "letters", "ring_here", "tie", "spot"]) (own := [("spot", 8), ("tie", 7)]) (sc := defScope sGood) (by decide +kernel)) (fun _ _ _ _ _ => (pg_tupK K 2 rfl (by rfl) (pgs_cons (pg_name (i := 8) scGood.nd rfl (.inl rfl)) (pgs_cons (pg_name (i := 7) scGood.nd rfl (.inl rfl)) pgs_nil)))) (fun _ _ _ _ _ => pts_nil) (fun _ _ _ _ _ => (pe_tup (pa_cons (pe_ix (ix_tupK K rfl) (pv 7) pe_int (fun _ _ => rfl)) (pa_cons (pe_ix ix_str pe_str (pv 8) (fun _ _ => rfl)) (pa_cons (pe_ix (ix_tupK K rfl) (pv 7) pe_int (fun _ _ => rfl)) (pa_cons (pe_ix ix_str pe_str (pv 8) (fun _ _ => rfl)) pa_nil))))))))) pss_nil) (C8.pss_cut (ps_if (PW.pt (pw_and (pt_cmpR op_eq (pv 3) pe_int (nomark _)) (pw_and1 (pt_cmpR op_gt (pv 4) pe_int (nomark _))))) (C8.pss_cut (ps_setLc (i := 6) (own := [("spot", 8)]) (g := gName 8) (tt := tYes) rfl scGood.nd rfl rfl (sw_true rfl rfl rfl (by decide +kernel)) (pi_range1 (by rfl) mrange (pa_cons (pe_op op_sub (pv 4) pe_int) pa_nil)) (blkOk_by (N := ["cup", "most", "told", "kind", "many", "letters", "ring_here", "tie", "spot"]) (own := [("spot", 8)]) (sc := defScope sGood) (by decide +kernel)) (fun _ _ _ _ _ => (pg_name (i := 8) scGood.nd rfl (.inl rfl))) (fun _ _ _ _ _ => pts_nil) (fun _ _ _ _ _ => (pe_tup (pa_cons (pv 8) (pa_cons pe_str (pa_cons (pe_op op_add (pv 8) pe_int) (pa_cons pe_str pa_nil))))))) (pss_one (ps_ret (pe_callB (cr_sortD hr.units) (by rfl) msorted (by decide +kernel) (pa_cons (pe_op op_cat (pv 6) (pe_lst (pa_cons (pe_tup (pa_cons pe_int (pa_cons pe_str (pa_cons (pe_op op_sub (pv 4) pe_int) (pa_cons pe_str pa_nil))))) pa_nil))) pa_nil))))) pss_nil) (pss_one (ps_ret (pv 2)))))))), ?_⟩
    refine ⟨fun σ H' => But c H H' ∧ Cup H' c ∧ ∃ (tl : Addr) (ts : List (Addr × Tie)) (n : Nat) (kd : Int), H' tl = some (.lst (refs ts)) ∧ At tieV H' ts ∧ Told n (ts.map (·.2)) ∧ n ≤ most ∧ σ = [some (.ref c), some (.int (most : Int)), some (.ref tl), some (.int kd), none, none, none, none, none], ?_, ?_⟩
    · refine ⟨_, rfl, _, rfl, c, most, rfl, hc, m2, m8, fun tl ts n H1 b1 c1 ntl htl hA told le => ?_⟩
      have ntc : tl ≠ c := fun z => by
        obtain ⟨x, y, e⟩ := hc
        rw [z, e] at ntl
        cases ntl
      refine ⟨_, rfl, c, _, rfl, c1, by decide, by decide, fun r H2 b2 c2 r0 r5 => ?_⟩
      refine ⟨_, _, rfl, b1.trans b2, c2, tl, ts, n, r, b2 _ _ htl ntc, hA.but c1 b2, told, le, rfl⟩
    rintro σ H1 ⟨b1, c1, tl, ts, n, kd, htl, hA, told, le, rfl⟩
    have wk := told.ok
    have n2 := told.n2
    have n8 := told.n8
    have tlen : ts.length ≤ 9 := by have := told.len; rwa [List.length_map] at this
    refine ⟨fun σ H' => Same H1 H' ∧ σ = [some (.ref c), some (.int (most : Int)), some (.ref tl), some (.int kd), some (.int (n : Int)), none, none, none, none], ?_, ?_⟩
    · refine ⟨_, rfl, tl, rfl, ⟨_, SqL.of htl⟩, fun D nD => ?_⟩
      refine lc_list (K := K) (a := tl) (xs := refs ts) (fun i H' => Same H1 H' ∧ H' D = some (.lst (((ts.map fun p => (p.2.b : Int)).take i).map V.int))) ⟨same_upd nD, upd_same⟩ (fun i H' _ ⟨s, _⟩ => SqL.of (s _ _ htl)) ?_ ?_
      · rintro i x H2 hx ⟨s2, hD⟩
        obtain ⟨⟨p, t⟩, hk, rfl⟩ := refs_get hx
        have hp : H2 p = some (.tup (tieV t)) := s2 _ _ (hA _ (List.mem_of_getElem? hk))
        refine ⟨rfl, _, rfl, p, _, _, _, rfl, rfl, SqT.of hp, rfl, _, hD, ?_, s2.own nD, ?_⟩
        · rw [List.length_map, List.length_take, List.length_map]
          exact small1000 (by omega)
        · rw [upd_same, List.take_succ, List.getElem?_map, hk, List.map_append]
          rfl
      · rintro H2 ⟨s2, hD⟩
        rw [refs_len, List.take_of_length_le (by rw [List.length_map]; exact Nat.le_refl _)] at hD
        refine ⟨D, _, rfl, SqL.of hD, ?_, fun m hm hle => ?_⟩
        · have := wk.ne
          rw [List.length_map]
          exact List.length_pos_iff.mpr fun e => this (by rw [e]; rfl)
        · refine ⟨_, _, rfl, rfl, ?_⟩
          have e : (1 : Int) + m = (n : Int) := by rw [Int.add_comm]; exact max_top wk hm hle
          exact ⟨s2, congrArg (fun z : Int => ([some (V.ref c), some (V.int (most : Int)), some (V.ref tl), some (V.int kd), some (V.int z), none, none, none, none] : L2.St)) e⟩
    rintro σ H2 ⟨s2, rfl⟩
    have htl2 := s2 _ _ htl
    have hA2 := hA.same s2
    have b2 : But c H H2 := b1.trans s2.but
    have c2 := c1.same s2
    have told2 : ∀ {us : List (Addr × Tie)} {D : Addr} {H3 : Hp}, Same H2 H3 → H3 D = some (.lst (refs us)) → At tieV H3 us → Told n (us.map (·.2)) → Q (.ref D) H3 := fun {us D H3} s3 h1 h2 h3 => k D us n H3 (b2.trans s3.but) (c2.same s3) h1 h2 h3 le
    refine ⟨fun σ H' => H2 = H' ∧ σ = [some (.ref c), some (.int (most : Int)), some (.ref tl), some (.int kd), some (.int (n : Int)), none, none, none, none], ?_, ?_⟩
    · refine ⟨_, rfl, rfl, _, rfl, ite2 (fun _ => ?_) (fun _ => ⟨rfl, rfl⟩)⟩
      refine ⟨fun σ H' => H2 = H' ∧ σ = [some (.ref c), some (.int (most : Int)), some (.ref tl), some (.int kd), some (.int (n : Int)), some (.str "abcdefghijkl"), none, none, none], ⟨rfl, rfl⟩, ?_⟩
      rintro σ H3 ⟨rfl, rfl⟩
      refine ⟨_, rfl, tl, rfl, ⟨_, SqL.of htl2⟩, fun D nD => ?_⟩
      refine lc_list (K := K) (a := tl) (xs := refs ts) (fun i H' => Same H2 H' ∧ ∃ us : List (Addr × Tie), H' D = some (.lst (refs us)) ∧ At tieV H' us ∧ us.map (·.2) = ((ts.map (·.2)).take i).map (Num.numT n)) ⟨same_upd nD, [], upd_same, (fun p hp => by cases hp), rfl⟩ (fun i H' _ ⟨s, _⟩ => SqL.of (s _ _ htl2)) ?_ ?_
      · rintro i x H4 hx ⟨s4, us, hD, hU, hu⟩
        obtain ⟨⟨p, t⟩, hk, rfl⟩ := refs_get hx
        have hp : H4 p = some (.tup (tieV t)) := s4 _ _ (hA2 _ (List.mem_of_getElem? hk))
        have hkt : (ts.map (·.2))[i]? = some t := by rw [List.getElem?_map, hk]; rfl
        obtain ⟨l1, l2⟩ := wk.lt t (List.mem_of_getElem? hkt)
        have ulen : us.length ≤ 9 := by
          have e := congrArg List.length hu
          rw [List.length_map, List.length_map, List.length_take, List.length_map] at e
          omega
        have k1 : atI ("abcdefghijkl" : Str).cps.toList (((t.b : Int) - (t.a : Int)) % (n : Int) - 1) = some (97 + (t.b - t.a - 1)) := by
          rw [Int.emod_eq_of_lt (by omega) (by omega), show ((t.b : Int) - (t.a : Int) - 1) = ((t.b - t.a - 1 : Nat) : Int) by omega]
          exact atI_nat (Num.letter_at _ (by omega)).1
        have k2 : atI ("abcdefghijkl" : Str).cps.toList (((t.a : Int) - (t.b : Int)) % (n : Int) - 1) = some (97 + (n - 1 - (t.b - t.a))) := by
          rw [← Int.add_emod_right, Int.emod_eq_of_lt (by omega) (by omega), show ((t.a : Int) - (t.b : Int) + (n : Int) - 1) = ((n - 1 - (t.b - t.a) : Nat) : Int) by omega]
          exact atI_nat (Num.letter_at _ (by omega)).1
        refine ⟨rfl, _, rfl, p, _, _, _, rfl, rfl, SqT.of hp, rfl, _, rfl, _, rfl, p, _, _, _, rfl, rfl, SqT.of hp, rfl, _, rfl, p, _, _, _, rfl, rfl, SqT.of hp, rfl, _, _, rfl, rfl, .inl ⟨_, rfl, _, rfl, _, _, rfl, rfl, (by show (0 : Int) < (n : Int); omega), _, _, rfl, rfl, _, _, 97 + (t.b - t.a - 1), rfl, rfl, Num.abc_len, k1, ?_⟩⟩
        refine ⟨_, rfl, p, _, _, _, rfl, rfl, SqT.of hp, rfl, _, rfl, _, rfl, p, _, _, _, rfl, rfl, SqT.of hp, rfl, _, rfl, p, _, _, _, rfl, rfl, SqT.of hp, rfl, _, _, rfl, rfl, .inl ⟨_, rfl, _, rfl, _, _, rfl, rfl, (by show (0 : Int) < (n : Int); omega), _, _, rfl, rfl, _, _, 97 + (n - 1 - (t.b - t.a)), rfl, rfl, Num.abc_len, k2, (by show 4 ≤ sizeLine; decide), fun q nq => ?_⟩⟩
        have hD5 := put_old hD nq (u := HO.tup (tieV (Num.numT n t)))
        refine ⟨_, hD5, ?_, ((s4.put nq).own nD), us ++ [(q, Num.numT n t)], ?_, ?_, ?_⟩
        · rw [refs_len]
          exact small1000 (by omega)
        · rw [upd_same, refs_app]
          rfl
        · exact At.snoc ((hU.same (same_upd nq)).mono (upd_tup hD5)) (put_ne upd_same (ne_of_none hD nq).symm)
        · rw [List.map_append, hu, List.take_succ, hkt, List.map_append]
          rfl
      · rintro H4 ⟨s4, us, hD, hU, hu⟩
        rw [refs_len, List.take_of_length_le (by rw [List.length_map]; exact Nat.le_refl _)] at hu
        exact told2 s4 hD hU (by rw [hu]; exact Num.num_told told)
    rintro σ H3 ⟨rfl, rfl⟩
    refine ⟨fun σ H' => H2 = H' ∧ σ = [some (.ref c), some (.int (most : Int)), some (.ref tl), some (.int kd), some (.int (n : Int)), none, none, none, none], ?_, ?_⟩
    · refine ⟨_, rfl, rfl, _, rfl, ite2 (fun _ => ?_) (fun _ => ⟨rfl, rfl⟩)⟩
      refine ⟨_, rfl, tl, _, rfl, SqL.of htl2, fun D nD => ?_⟩
      refine lc_it (walk_enum (K := K) (a := tl) (xs := refs ts)) (fun i H' => Same H2 H' ∧ ∃ us : List (Addr × Tie), H' D = some (.lst (refs us)) ∧ At tieV H' us ∧ us.map (·.2) = ((ts.map (·.2)).mapIdx Num.oneT).take i) ⟨same_upd nD, [], upd_same, (fun p hp => by cases hp), rfl⟩ (fun i H' _ ⟨s, _⟩ => SqL.of (s _ _ htl2)) ?_ ?_
      · rintro i x H4 H5 hi ⟨s4, us, hD, hU, hu⟩ ⟨TT, x1, y1, rfl, nT, rfl, e1, e2⟩
        obtain rfl := Option.some.inj e1
        obtain ⟨⟨p, t⟩, hk, rfl⟩ := refs_get e2
        have hp4 : H4 p = some (.tup (tieV t)) := s4 _ _ (hA2 _ (List.mem_of_getElem? hk))
        have hp := put_old hp4 nT (u := HO.tup [.int (i : Int), .ref p])
        have hkt : ((ts.map (·.2)).mapIdx Num.oneT)[i]? = some (Num.oneT i t) := by
          rw [List.getElem?_mapIdx, List.getElem?_map, hk]
          rfl
        have hi9 : i < 9 := by
          have := (List.getElem?_eq_some_iff.mp hk).1
          omega
        have ulen : us.length ≤ 9 := by
          have e := congrArg List.length hu
          rw [List.length_map, List.length_take, List.length_mapIdx, List.length_map] at e
          omega
        have hD5 := put_old hD nT (u := HO.tup [.int (i : Int), .ref p])
        have k1 : atI ("bcadefghijkl" : Str).cps.toList (i : Int) = some (Num.oneM i) := atI_nat (Num.one_at i (by omega)).1
        refine ⟨TT, _, rfl, SqT.of upd_same, rfl, _, _, rfl, _, _, rfl, rfl, rfl, _, rfl, p, _, _, _, rfl, rfl, SqT.of hp, rfl, _, rfl, _, _, Num.oneM i, rfl, rfl, Num.one_len, k1, _, rfl, p, _, _, _, rfl, rfl, SqT.of hp, rfl, _, rfl, _, _, Num.oneM i, rfl, rfl, Num.one_len, k1, (by show 4 ≤ sizeLine; decide), fun q nq => ?_⟩
        have hD6 := put_old hD5 nq (u := HO.tup (tieV (Num.oneT i t)))
        refine ⟨_, hD6, ?_, (((s4.put nT).put nq).own nD), us ++ [(q, Num.oneT i t)], ?_, ?_, ?_⟩
        · rw [refs_len]
          exact small1000 (by omega)
        · rw [upd_same, refs_app]
          rfl
        · exact At.snoc (((hU.same (same_upd nT)).same (same_upd nq)).mono (upd_tup hD6)) (put_ne upd_same (ne_of_none hD5 nq).symm)
        · rw [List.map_append, hu, List.take_succ, hkt]
          rfl
      · rintro H4 ⟨s4, us, hD, hU, hu⟩
        rw [refs_len, List.take_of_length_le (by rw [List.length_mapIdx, List.length_map]; exact Nat.le_refl _)] at hu
        exact told2 s4 hD hU (by rw [hu]; exact Num.one_told told)
    rintro σ H3 ⟨rfl, rfl⟩
    have ea : (Str.ofString "a") = sgn 97 := by decide +kernel
    have eb : (Str.ofString "b") = sgn 98 := by decide +kernel
    refine ⟨fun σ H' => H2 = H' ∧ σ = [some (.ref c), some (.int (most : Int)), some (.ref tl), some (.int kd), some (.int (n : Int)), none, none, none, none], ?_, ?_⟩
    · refine ⟨_, rfl, rfl, _, rfl, ite2 (fun _ => ?_) (fun _ => iteF ⟨rfl, rfl⟩)⟩
      refine ⟨_, rfl, _, _, rfl, rfl, _, rfl, ite2 (fun z => ?_) (fun _ => ⟨rfl, rfl⟩)⟩
      have n3 : 3 ≤ n := by
        have := of_decide_eq_true z
        omega
      refine ⟨fun σ H' => Same H2 H' ∧ ∃ (r : Addr) (us : List (Addr × Tie)), H' r = some (.lst (refs us)) ∧ At tieV H' us ∧ us.map (·.2) = (List.range (n - 1)).map Num.ringRow ∧ σ = [some (.ref c), some (.int (most : Int)), some (.ref tl), some (.int kd), some (.int (n : Int)), none, some (.ref r), none, none], ?_, ?_⟩
      · refine ⟨_, rfl, _, _, rfl, rfl, ((n - 1 : Nat) : Int), by show [V.int ((n : Int) - 1)] = _; rw [show ((n : Int) - 1) = ((n - 1 : Nat) : Int) by omega], by omega, by omega, fun D nD => ?_⟩
        rw [show (((n - 1 : Nat) : Int)).toNat = n - 1 from Int.toNat_natCast _]
        refine lc_range (lo := 0) (n := n - 1) (fun i H' => Same H2 H' ∧ ∃ us : List (Addr × Tie), H' D = some (.lst (refs us)) ∧ At tieV H' us ∧ us.map (·.2) = (List.range i).map Num.ringRow) ⟨same_upd nD, [], upd_same, (fun p hp => by cases hp), rfl⟩ ?_ ?_
        · rintro i H4 hi ⟨s4, us, hD, hU, hu⟩
          rw [show (0 : Int) + (i : Int) = (i : Int) from Int.zero_add _]
          have ulen : us.length = i := by
            have e := congrArg List.length hu
            rw [List.length_map, List.length_map, List.length_range] at e
            exact e
          refine ⟨rfl, _, rfl, _, rfl, _, _, rfl, rfl, (by show 4 ≤ sizeLine; decide), fun q nq => ?_⟩
          rw [ea, eb]
          have hD6 := put_old hD nq (u := HO.tup (tieV (Num.ringRow i)))
          refine ⟨_, hD6, ?_, ((s4.put nq).own nD), us ++ [(q, Num.ringRow i)], ?_, ?_, ?_⟩
          · rw [refs_len]
            exact small1000 (by omega)
          · rw [upd_same, refs_app]
            rfl
          · exact At.snoc ((hU.same (same_upd nq)).mono (upd_tup hD6)) (put_ne upd_same (ne_of_none hD nq).symm)
          · rw [List.map_append, hu, List.range_succ, List.map_append]
            rfl
        · rintro H4 ⟨s4, us, hD, hU, hu⟩
          exact ⟨s4, D, us, hD, hU, hu, rfl⟩
      rintro σ H3 ⟨s3, r, us, hr3', hU, hu, rfl⟩
      have ulen : us.length = n - 1 := by
        have e := congrArg List.length hu
        rw [List.length_map, List.length_map, List.length_range] at e
        exact e
      refine ⟨_, rfl, _, rfl, _, _, rfl, rfl, (by show 4 ≤ sizeLine; decide), fun q nq => ⟨(by show 1 ≤ sizeLine; decide), fun l nl => ?_⟩⟩
      have eo : HO.tup [V.int 0, V.str (Str.ofString "b"), (fun i j : Int => V.int (i - j)) (n : Int) 1, V.str (Str.ofString "a")] = HO.tup (tieV ⟨0, 98, n - 1, 97⟩) := by
        show HO.tup [V.int 0, V.str (Str.ofString "b"), V.int ((n : Int) - 1), V.str (Str.ofString "a")] = _
        rw [ea, eb, show ((n : Int) - 1) = ((n - 1 : Nat) : Int) by omega]
        rfl
      rw [eo] at nl ⊢
      have hr4 := put_old (put_old hr3' nq (u := HO.tup (tieV ⟨0, 98, n - 1, 97⟩))) nl (u := HO.lst [V.ref q])
      have hq4 : upd (upd H3 q (.tup (tieV ⟨0, 98, n - 1, 97⟩))) l (.lst [V.ref q]) q = some (.tup (tieV ⟨0, 98, n - 1, 97⟩)) := put_old upd_same nl
      have hU4 := (hU.same (same_upd nq (o := HO.tup (tieV ⟨0, 98, n - 1, 97⟩)))).same (same_upd nl (o := HO.lst [V.ref q]))
      refine ⟨r, l, _, _, rfl, rfl, hr4, upd_same, ?_, fun z nz => ?_⟩
      · rw [refs_len]
        show us.length + 1 ≤ _
        exact Nat.le_of_lt (small1000 (by omega))
      have s4 : Same H2 (upd (upd (upd H3 q (.tup (tieV ⟨0, 98, n - 1, 97⟩))) l (.lst [V.ref q])) z (.lst (refs us ++ [V.ref q]))) := ((s3.put nq).put nl).put nz
      have hU5 : At tieV (upd (upd (upd H3 q (.tup (tieV ⟨0, 98, n - 1, 97⟩))) l (.lst [V.ref q])) z (.lst (refs us ++ [V.ref q]))) (us ++ [(q, ⟨0, 98, n - 1, 97⟩)]) := At.snoc (hU4.same (same_upd nz)) (put_old hq4 nz)
      have hz5 : upd (upd (upd H3 q (.tup (tieV ⟨0, 98, n - 1, 97⟩))) l (.lst [V.ref q])) z (.lst (refs us ++ [V.ref q])) z = some (.lst (refs (us ++ [(q, ⟨0, 98, n - 1, 97⟩)]))) := by
        rw [upd_same, refs_app]
        rfl
      have told5 := Num.ring_told n3 n8
      have pm : ((us ++ [(q, (⟨0, 98, n - 1, 97⟩ : Tie))]).map (·.2)).Perm (Num.ringL n) := by
        rw [List.map_append, hu]
        exact Num.ring_perm n n3 n8
      have hnb : ∀ p ∈ us ++ [(q, (⟨0, 98, n - 1, 97⟩ : Tie))], (tieV p.2).all nb = true := fun p hp => by
        have hm := pm.mem_iff.mp (List.mem_map_of_mem (f := (·.2)) hp)
        exact tieV_nb (told5.let_ _ hm).1 (told5.let_ _ hm).2
      have hs : rSortD K [.ref z] _ Q := sort_rows2 tieV (SqL.of hz5) hU5 hnb tie_alike (fun x => ⟨_, _, rfl⟩) fun y qs hp hw ny => by
        have e : qs.map (·.2) = Num.ringL n := ties_uniq (ties_srt hw) (Num.ring_srt n n3 n8) ((hp.map (·.2)).trans pm)
        exact told2 (s4.put ny) upd_same ((hU5.same (same_upd ny)).perm hp.symm) (by rw [e]; exact told5)
      exact hs
    rintro σ H3 ⟨rfl, rfl⟩
    exact ⟨_, rfl, told2 (Same.refl _) htl2 hA2 told⟩
end
end Wh

namespace Wh
open PySem L2
/-! ### x in t, t a tuple of data -/
def rInTD (K : PySem.W.Frag) : R2 := fun x y H Q => ∃ d ds, Dp K H x d ∧ Dp K H y (.tuple ds) ∧ d.plain = true ∧ PyData.plainAll ds = true ∧ min (PyData.depthAll ds) d.depth ≤ 60 ∧ Q (.bl (ds.any fun z => PyData.eqv z d)) H
theorem op_inTD {X : Cx} (K : PySem.W.Frag) (h : X.K = K) (hu : X.A.units + 64 < cLine) : OpR X (compareOp .In) (rInTD K) := by
  subst h
  intro pins s σ H x y v u Q I rx ry h
  obtain ⟨d, ds, hd, he, pd, pds, hdep, q⟩ := h
  obtain ⟨as, r1⟩ := Dp.reads I d x v hd rx
  obtain ⟨bs, r2⟩ := Dp.reads I (.tuple ds) y u he ry
  exact SeqAt.in_tuple_data r2 r1 pds pd (by omega) ⟨.bl _, H, I, rfl, q⟩
/-! ### webs that stand there -/
/-- one round over the ties: which houses are come to -/
def grow (ts : List Tie) (rs : List Nat) : List Nat := ts.foldl (fun r t => if t.a ∈ r then (if t.b ∈ r then r else t.b :: r) else if t.b ∈ r then t.a :: r else r) rs
def growN (ts : List Tie) : Nat → List Nat → List Nat
  | 0, rs => rs
  | k + 1, rs => growN ts k (grow ts rs)
def hangB (n : Nat) (ts : List Tie) : Bool := (List.range n).all fun h => decide (h ∈ growN ts n [0])
theorem grow_in {S : Nat → Prop} : ∀ {ts : List Tie} {rs : List Nat}, (∀ t ∈ ts, S t.a ↔ S t.b) → (∀ x ∈ rs, S x) → ∀ x ∈ grow ts rs, S x
  | [], _, _, h => h
  | t :: ts, rs, cl, h => by
    refine grow_in (ts := ts) (fun u hu => cl u (List.mem_cons_of_mem _ hu)) ?_
    have c := cl t List.mem_cons_self
    intro x hx
    by_cases ha : t.a ∈ rs
    · by_cases hb : t.b ∈ rs
      · simp only [ha, hb, if_true] at hx
        exact h x hx
      · simp only [ha, hb, if_true, if_false, List.mem_cons] at hx
        rcases hx with rfl | hx
        · exact c.mp (h _ ha)
        · exact h x hx
    · by_cases hb : t.b ∈ rs
      · simp only [ha, hb, if_true, if_false, List.mem_cons] at hx
        rcases hx with rfl | hx
        · exact c.mpr (h _ hb)
        · exact h x hx
      · simp only [ha, hb, if_false] at hx
        exact h x hx
theorem growN_in {S : Nat → Prop} {ts : List Tie} (cl : ∀ t ∈ ts, S t.a ↔ S t.b) : ∀ (k : Nat) {rs : List Nat}, (∀ x ∈ rs, S x) → ∀ x ∈ growN ts k rs, S x
  | 0, _, h => h
  | k + 1, _, h => growN_in cl k (grow_in cl h)
theorem hang_of {n : Nat} {ts : List Tie} (h : hangB n ts = true) : ∀ S : Nat → Prop, S 0 → (∀ t ∈ ts, S t.a ↔ S t.b) → ∀ k, k < n → S k := fun S s0 cl k hk =>
  growN_in cl n (rs := [0]) (fun x hx => by rw [List.mem_singleton.mp hx]; exact s0) k (of_decide_eq_true (List.all_eq_true.mp h k (List.mem_range.mpr hk)))
def webB (n : Nat) (ts : List Tie) : Bool := decide (2 ≤ n) && decide (n ≤ 10) && (ts.all fun t => decide (t.a < t.b) && decide (t.b < n)) && hangB n ts &&
  decide ((ts.map Tie.pr).Nodup) && (ts.all fun t => decide (t.m ∈ letters) && decide (t.o ∈ letters)) && ((List.range n).all fun h => decide ((marksAt h ts).Nodup)) && decide (ts.length ≤ 100)
theorem marks_out {n h : Nat} : ∀ {ts : List Tie}, (∀ t ∈ ts, t.a < t.b ∧ t.b < n) → n ≤ h → marksAt h ts = []
  | [], _, _ => rfl
  | t :: ts, lt, hn => by
    have l := lt t List.mem_cons_self
    show endsAt h t ++ marksAt h ts = []
    rw [marks_out (fun u hu => lt u (List.mem_cons_of_mem _ hu)) hn, List.append_nil]
    unfold endsAt
    rw [if_neg (by omega), if_neg (by omega)]
    rfl
theorem webOk_of {n : Nat} {ts : List Tie} (h : webB n ts = true) : WebOk n ts := by
  unfold webB at h
  simp only [Bool.and_eq_true, decide_eq_true_eq, List.all_eq_true, List.mem_range] at h
  obtain ⟨⟨⟨⟨⟨⟨⟨h1, h2⟩, h3⟩, h4⟩, h5⟩, h6⟩, h7⟩, h8⟩ := h
  refine ⟨h1, h2, h3, hang_of h4, h5, h6, fun k => ?_, h8⟩
  by_cases c : k < n
  · exact h7 k c
  · rw [marks_out h3 (by omega)]
    exact List.nodup_nil
/-! ### classes bound behind in a given web -/
def upStepB (n : Nat) (ts : List Tie) (T : List (List Nat)) : Bool := letters.all fun m => (List.range n).all fun y => match door y m ts with
  | none => true
  | some y' => (List.range n).all fun v => match door v m ts with
    | none => true
    | some v' => (List.range n).all fun x => (List.range n).all fun u => !(cell T (x, y) == cell T (u, v)) || cell T (x, y') == cell T (u, v')
theorem Bh.inN {n : Nat} {ts : List Tie} (wk : WebOk n ts) {p q : Pr} (h : Bh n ts p q) : InN n p ↔ InN n q := by
  induction h with
  | cl c => exact c.inN
  | @step x y u v z w m h h1 h2 ih =>
    have x1 := door_lt wk h1
    have x2 := door_lt wk h2
    have z1 := door_here wk h1
    have z2 := door_here wk h2
    unfold InN at ih ⊢
    exact ⟨fun q => ⟨(ih.mp ⟨q.1, z1⟩).1, x2⟩, fun q => ⟨(ih.mpr ⟨q.1, z2⟩).1, x1⟩⟩
  | symm _ ih => exact ih.symm
  | trans _ _ i1 i2 => exact i1.trans i2
theorem upBh {n : Nat} {ts : List Tie} {T : List (List Nat)} (w : WebOk n ts) (h : upCl n ts T = true) (h2 : upStepB n ts T = true) {p q : Pr} (c : Bh n ts p q) : InN n p → cell T p = cell T q := by
  induction c with
  | cl c => exact fun _ => upCl_cl w h c
  | @step x y u v y' v' m c d1 d2 ih =>
    intro hp
    have hp0 : InN n (x, y) := ⟨hp.1, door_here w d1⟩
    have hq := (c.inN w).mp hp0
    have e := ih hp0
    have hm : m ∈ letters := by
      have := door_mem d1
      have : m ∈ marksAt y ts := by
        rw [← doorsAt_fst]
        exact List.mem_map_of_mem (f := (·.1)) this
      exact marks_let w y m this
    have a := List.all_eq_true.mp h2 m hm
    have b := List.all_eq_true.mp a y (List.mem_range.mpr hp0.2)
    rw [d1] at b
    have c := List.all_eq_true.mp b v (List.mem_range.mpr hq.2)
    rw [d2] at c
    have d := List.all_eq_true.mp c x (List.mem_range.mpr hp0.1)
    have f := List.all_eq_true.mp d u (List.mem_range.mpr hq.1)
    rw [e] at f
    simp only [beq_self_eq_true, Bool.not_true, Bool.false_or, beq_iff_eq] at f
    exact f
  | symm c ih => exact fun hp => (ih ((c.inN w).mpr hp)).symm
  | trans c _ i1 i2 => exact fun hp => (i1 hp).trans (i2 ((c.inN w).mp hp))
def fairE (n : Nat) (T : List (List Nat)) : Bool := (List.range n).all fun a => (List.range n).all fun b => (List.range n).all fun c => a == b || !(cell T (a, c) == cell T (b, c))
theorem fairE_of {n : Nat} {T : List (List Nat)} {R : Pr → Pr → Prop} (h : fairE n T = true) (up : ∀ p q, InN n p → R p q → cell T p = cell T q) : ¬ UnfairE n R := by
  rintro ⟨a, b, c, h1, h2, ne, r⟩
  have x := List.all_eq_true.mp h a (List.mem_range.mpr h1.1)
  have y := List.all_eq_true.mp x b (List.mem_range.mpr h2.1)
  have z := List.all_eq_true.mp y c (List.mem_range.mpr h2.2)
  have e := up _ _ h1 r
  simp only [Bool.or_eq_true, beq_iff_eq, Bool.not_eq_true'] at z
  rcases z with z | z
  · exact ne z
  · rw [beq_eq_false_iff_ne] at z
    exact z e
/-- a table that shows that a web has what is wanted, for each of the four -/
def hasB (z : Str) (n : Nat) (ts : List Tie) (T : List (List Nat)) : Bool := webB n ts && upCl n ts T && (if z = "hand" then upStep n ts T else if z = "behind" then upStepB n ts T else true) && (if z = "code" ∨ z = "hand" then fairT n T else fairE n T)
end Wh

namespace Wh
open PySem L2
/-! ### tables shown; tables of a concrete web -/
theorem two_shown {d : PyData} (h1 : d.showable = true) (h2 : d.hasDict = false) (h3 : d.depth ≤ 50) (h4 : d.shown.length ≤ 100000) : (PyData.list [d, d]).showable = true ∧ (PyData.list [d, d]).hasDict = false ∧ (PyData.list [d, d]).depth ≤ 60 ∧ (PyData.list [d, d]).shown.length ≤ sizeLine := by
  refine ⟨?_, ?_, ?_, ?_⟩
  · rw [PyData.showable, PyData.showableAll, PyData.showableAll, PyData.showableAll, h1]
    rfl
  · rw [PyData.hasDict, PyData.hasDictAll, PyData.hasDictAll, PyData.hasDictAll, h2]
    rfl
  · simp only [PyData.depth, PyData.depthAll]
    omega
  · rw [PyData.shown]
    have := PySem.listText_len_le (PyData.shownAll [d, d])
    rw [PyData.shownAll, PyData.shownAll, PyData.shownAll] at this ⊢
    simp only [List.map_cons, List.map_nil, List.sum_cons, List.sum_nil, List.length_cons, List.length_nil] at this
    exact Nat.le_trans this (Nat.le_trans (by omega : _ ≤ 300000) (by decide))
theorem tblF_len (n : Nat) (f : Pr → Nat) : (tblF n f).length = n := by unfold tblF; rw [List.length_map, List.length_range]
theorem tblF_good {n : Nat} {f : Pr → Nat} (h : n ≤ 10) : ∀ r ∈ tblF n f, (∀ k ∈ r, k < 200) ∧ r.length ≤ 20 := fun r hr => by
  obtain ⟨a, _, rfl⟩ := List.mem_map.mp hr
  have nn : n * n ≤ 100 := Nat.mul_le_mul h h
  have hl : (headsF n f).length ≤ n * n := by
    have := (firsts_mem (rowsF n f).flatten).2
    rw [flat_len (rowsF_row n f), rowsF_len] at this
    exact this
  refine ⟨fun k hk => ?_, by rw [List.length_map, List.length_range]; omega⟩
  obtain ⟨b, _, rfl⟩ := List.mem_map.mp hk
  have := List.idxOf_le_length (a := f (a, b)) (l := headsF n f)
  omega
open Classical in
/-- a table, or None -/
noncomputable def dU (U : Prop) (T : List (List Nat)) : PyData := if U then .none else tabD T
theorem dU_shown {U : Prop} {T : List (List Nat)} (h : ∀ r ∈ T, (∀ k ∈ r, k < 200) ∧ r.length ≤ 20) (few : T.length ≤ 20) : (dU U T).showable = true ∧ (dU U T).hasDict = false ∧ (dU U T).depth ≤ 60 ∧ (dU U T).shown.length ≤ sizeLine := by
  unfold dU
  split
  · exact ⟨rfl, rfl, by decide, Nat.le_trans (by decide +kernel : (PyData.shown .none).length ≤ 100) (by decide)⟩
  · obtain ⟨a, b, c, d⟩ := tabD_shown h few
    exact ⟨a, b, by omega, Nat.le_trans d (by decide)⟩
theorem dU_two {U : Prop} {T : List (List Nat)} (h : ∀ r ∈ T, (∀ k ∈ r, k < 200) ∧ r.length ≤ 20) (few : T.length ≤ 20) : (PyData.list [dU U T, dU U T]).showable = true ∧ (PyData.list [dU U T, dU U T]).hasDict = false ∧ (PyData.list [dU U T, dU U T]).depth ≤ 60 ∧ (PyData.list [dU U T, dU U T]).shown.length ≤ sizeLine := by
  unfold dU
  split
  · exact two_shown rfl rfl (by decide) (Nat.le_trans (by decide +kernel : (PyData.shown .none).length ≤ 100) (by decide))
  · obtain ⟨a, b, c, d⟩ := tabD_shown h few
    exact two_shown a b (by omega) (by omega)
/-- pairs with one number, led by one word of these -/
def loCl (n : Nat) (ts : List Tie) (T : List (List Nat)) (ws : List (List Nat)) : Bool := (PL n).all fun p => (PL n).all fun q => !(cell T p == cell T q) || decide (p = q) || ws.any fun w => !w.isEmpty && decide (walk2 ts (p.1, q.1) w = some (p.2, q.2))
theorem loCl_cl {n : Nat} {ts : List Tie} {T : List (List Nat)} {ws : List (List Nat)} (h : loCl n ts T ws = true) {p q : Pr} (hp : InN n p) (hq : InN n q) (e : cell T p = cell T q) : Cl n ts p q := by
  have h1 := List.all_eq_true.mp (List.all_eq_true.mp h p (PL_mem.mpr hp)) q (PL_mem.mpr hq)
  rw [beq_iff_eq.mpr e] at h1
  rcases Bool.or_eq_true_iff.mp h1 with h1 | h1
  · rcases Bool.or_eq_true_iff.mp h1 with h1 | h1
    · cases h1
    · rw [of_decide_eq_true h1]
      exact .refl _
  · obtain ⟨w, _, hw⟩ := List.any_eq_true.mp h1
    obtain ⟨a, b⟩ := Bool.and_eq_true_iff.mp hw
    refine .step hp hq ⟨w, fun z => ?_, of_decide_eq_true b⟩
    rw [z] at a
    cases a
def conT (n : Nat) (ts : List Tie) (T : List (List Nat)) (ws : List (List Nat)) : Bool := webB n ts && upCl n ts T && loCl n ts T ws && decide (T.length = n) && (T.all fun r => decide (r.length = n)) && decide (firsts T.flatten = List.range (firsts T.flatten).length)
theorem con_tab {n : Nat} {ts : List Tie} {T : List (List Nat)} {ws : List (List Nat)} (h : conT n ts T ws = true) : WebOk n ts ∧ Tab n (Cl n ts) T ∧ ∀ p q, Cl n ts p q → cell T p = cell T q := by
  unfold conT at h
  rw [Bool.and_eq_true, Bool.and_eq_true, Bool.and_eq_true, Bool.and_eq_true, Bool.and_eq_true] at h
  obtain ⟨⟨⟨⟨⟨h1, h2⟩, h3⟩, h4⟩, h5⟩, h6⟩ := h
  have w := webOk_of h1
  refine ⟨w, ⟨of_decide_eq_true h4, fun r hr => of_decide_eq_true (List.all_eq_true.mp h5 r hr), fun p q hp hq => ⟨fun e => loCl_cl h3 hp hq e, fun c => upCl_cl w h2 c⟩, of_decide_eq_true h6⟩, fun p q c => upCl_cl w h2 c⟩
theorem con_fair {n : Nat} {ts : List Tie} {T : List (List Nat)} {ws : List (List Nat)} (h : conT n ts T ws = true) (f : fairT n T = true) : ¬ UnfairR n (Cl n ts) := fair_of f fun p q _ c => (con_tab h).2.2 p q c
theorem con_fairE {n : Nat} {ts : List Tie} {T : List (List Nat)} {ws : List (List Nat)} (h : conT n ts T ws = true) (f : fairE n T = true) : ¬ UnfairE n (Cl n ts) := fairE_of f fun p q _ c => (con_tab h).2.2 p q c
theorem cl_word {n : Nat} {ts : List Tie} {p q : Pr} (w : List Nat) (h : (decide (p.1 < n ∧ p.2 < n) && decide (q.1 < n ∧ q.2 < n) && !w.isEmpty && decide (walk2 ts (p.1, q.1) w = some (p.2, q.2))) = true) : Cl n ts p q := by
  rw [Bool.and_eq_true, Bool.and_eq_true, Bool.and_eq_true] at h
  obtain ⟨⟨⟨h1, h2⟩, h3⟩, h4⟩ := h
  refine .step (show InN n p from of_decide_eq_true (p := p.1 < n ∧ p.2 < n) h1) (show InN n q from of_decide_eq_true (p := q.1 < n ∧ q.2 < n) h2) ⟨w, fun z => ?_, of_decide_eq_true h4⟩
  rw [z] at h3
  cases h3
end Wh

namespace Wh
open PySem L2
abbrev sRight : Stmt := topS 63
theorem scRight : FnScope ["cup", "turn", "told", "web", "ways_here", "due", "met", "step", "letters", "spot", "end", "number", "letter"] ["cup"] (defScope sRight) := ⟨rfl, rfl, rfl, by decide +kernel, rfl, by decide +kernel, by decide +kernel⟩
/-- keywords alone, told backwards -/
def revG {α : Type} : List α → List α → List α
  | [], ws => ws.reverse
  | _, _ => []
theorem vals_snoc : ∀ {vs : List V} {us : List Value} {v : V} {u : Value}, Vals vs us → RelV v u → Vals (vs ++ [v]) (us ++ [u])
  | _, _, _, _, .nil, r => .cons r .nil
  | _, _, _, _, .cons r1 rs, r => .cons r1 (vals_snoc rs r)
theorem vals_rev : ∀ {vs : List V} {us : List Value}, Vals vs us → Vals vs.reverse us.reverse
  | _, _, .nil => .nil
  | _, _, .cons r1 rs => by
    rw [List.reverse_cons, List.reverse_cons]
    exact vals_snoc (vals_rev rs) r1
theorem revG_rel {vs zs : List V} {us ws : List Value} (r : Vals vs us) (q : Vals zs ws) : Vals (revG vs zs) (revG us ws) := by
  cases r with
  | nil => exact vals_rev q
  | cons _ _ => exact .nil
set_option maxHeartbeats 2000000 in
theorem kb_bco {K : PySem.W.Frag} {f : Addr} {fd : FuncData} (F : Fun K "back_codes" "back_codes" sBCodes f fd) : KBinds K fd ["web"] ["web"] revG revG := by
  refine ⟨fun s us ws _ hl => ?_, fun r q => revG_rel r q⟩
  obtain ⟨oc, od, kV, doc, pm, an, cdv, ct, osl, rfl, lk, hcd⟩ := F.ex
  match us, ws, hl with
  | [], [a], _ => exact .of_eq (by kernel_rfl)
  | _ :: _, _, hl => exact absurd hl (by simp [revG])
  | [], [], hl => exact absurd hl (by simp [revG])
  | [], _ :: _ :: _, hl => exact absurd hl (by simp [revG])
set_option maxHeartbeats 2000000 in
theorem kb_hab {K : PySem.W.Frag} {f : Addr} {fd : FuncData} (F : Fun K "has_back" "has_back" sHasB f fd) : KBinds K fd ["web"] ["web"] revG revG := by
  refine ⟨fun s us ws _ hl => ?_, fun r q => revG_rel r q⟩
  obtain ⟨oc, od, kV, doc, pm, an, cdv, ct, osl, rfl, lk, hcd⟩ := F.ex
  match us, ws, hl with
  | [], [a], _ => exact .of_eq (by kernel_rfl)
  | _ :: _, _, hl => exact absurd hl (by simp [revG])
  | [], [], hl => exact absurd hl (by simp [revG])
  | [], _ :: _ :: _, hl => exact absurd hl (by simp [revG])
/-- all that _law_right stands on -/
structure RF (P : Program) (w : World) (K : PySem.W.Frag) (mg : Str → Option Value) (base : Heap) where
  (C : Addr)
  cW : WebC K C
  (fSip fPick fGood fText fWays fWalk fDue fBco fHab fIni gMar pMar0 gHou pHou0 : Addr)
  (fdSip fdPick fdGood fdText fdWays fdWalk fdDue fdBco fdHab fdIni fdMar fdHou : FuncData)
  GSip : FnOk P w K mg base CX0 1 fSip fdSip ["cup", "top"] spSip
  bSip : Binds K fdSip ["cup", "top"] []
  mSip : mg "_law_sip" = some (.ref fSip)
  kSip : PySem.W.keepIn K (.ref fSip) = true
  GPick : FnOk P w K mg base CX0 2 fPick fdPick ["cup", "things"] spPick
  bPick : Binds K fdPick ["cup", "things"] []
  mPick : mg "_law_pick" = some (.ref fPick)
  kPick : PySem.W.keepIn K (.ref fPick) = true
  GGood : FnOk P w K mg base CX0 4 fGood fdGood ["cup", "most"] (spGood K)
  bGood : Binds K fdGood ["cup", "most"] []
  mGood : mg "_law_good" = some (.ref fGood)
  kGood : PySem.W.keepIn K (.ref fGood) = true
  GText : FnOk P w K mg base CX0 1 fText fdText ["told"] (spText K)
  bText : Binds K fdText ["told"] []
  mText : mg "_law_text" = some (.ref fText)
  kText : PySem.W.keepIn K (.ref fText) = true
  GWays : FnOk P w K mg base CX0 1 fWays fdWays ["told"] (spDoors K)
  bWays : Binds K fdWays ["told"] []
  mWays : mg "_law_ways" = some (.ref fWays)
  kWays : PySem.W.keepIn K (.ref fWays) = true
  GWalk : FnOk P w K mg base CX0 1 fWalk fdWalk ["ways_here", "start", "letters"] spWalk
  bWalk : Binds K fdWalk ["ways_here", "start", "letters"] []
  mWalk : mg "_law_walk" = some (.ref fWalk)
  kWalk : PySem.W.keepIn K (.ref fWalk) = true
  GDue : FnOk P w K mg base CX0 3 fDue fdDue ["ways_here", "want_here"] spDue
  bDue : Binds K fdDue ["ways_here", "want_here"] []
  mDue : mg "_law_due" = some (.ref fDue)
  kDue : PySem.W.keepIn K (.ref fDue) = true
  GBco : FnOk P w K mg base CX0 5 fBco fdBco ["web"] (spTabW C Cl UnfairE)
  bBco : Binds K fdBco ["web"] []
  mBco : mg "back_codes" = some (.ref fBco)
  kBco : PySem.W.keepIn K (.ref fBco) = true
  GHab : FnOk P w K mg base CX0 6 fHab fdHab ["web"] (spHasW C Cl UnfairE)
  bHab : Binds K fdHab ["web"] []
  mHab : mg "has_back" = some (.ref fHab)
  kHab : PySem.W.keepIn K (.ref fHab) = true
  GIni : FnOk P w K mg base CX0 6 fIni fdIni ["self", "text"] (spInit C)
  bIni : Binds K fdIni ["self", "text"] []
  MIni : Mk K C fIni
  mIni : mg "Web" = some (.ref C)
  GMar : FnOk P w K mg base CX0 1 gMar fdMar ["self"] (spWMarks C)
  bMar : Binds K fdMar ["self"] []
  pMar : PropOf K C "marks" pMar0 gMar
  GHou : FnOk P w K mg base CX0 1 gHou fdHou ["self"] (spWHouses C)
  bHou : Binds K fdHou ["self"] []
  pHou : PropOf K C "houses" pHou0 gHou
  mrange : mg "range" = none
  mrepr : mg "repr" = none
  mlist : mg "list" = none
  kbBco : KBinds K fdBco ["web"] ["web"] revG revG
  kbHab : KBinds K fdHab ["web"] ["web"] revG revG
end Wh

namespace Wh
open PySem L2
theorem TabV.dp {K : PySem.W.Frag} {n : Nat} {R : Pr → Pr → Prop} {U : Prop} {T : List (List Nat)} {v : V} {H : Hp} (tab : Tab n R T) (h : TabV n R U v H) : Dp K H v (dU U T) := by
  unfold dU
  rcases h with ⟨rfl, u⟩ | ⟨t, qs, rfl, ht, hA, tb, nu⟩
  · rw [if_pos u]
    exact .non
  · rw [if_neg nu, ← tb.uniq tab]
    exact tabD_dp ht hA
theorem TabV.non {n : Nat} {R : Pr → Pr → Prop} {U : Prop} {v : V} {H : Hp} (h : TabV n R U v H) : (v = .non ↔ U) ∧ (v = .non ∨ ∃ a, v = .ref a) := by
  rcases h with ⟨rfl, u⟩ | ⟨t, qs, rfl, _, _, _, nu⟩
  · exact ⟨⟨fun _ => u, fun _ => rfl⟩, .inl rfl⟩
  · exact ⟨⟨fun e => (by cases e), fun u => absurd u nu⟩, .inr ⟨t, rfl⟩⟩
theorem tab_good {n : Nat} {R : Pr → Pr → Prop} {T : List (List Nat)} (tab : Tab n R T) (h : n ≤ 10) : (∀ r ∈ T, (∀ k ∈ r, k < 200) ∧ r.length ≤ 20) ∧ T.length ≤ 20 := by
  have nn : n * n ≤ 100 := Nat.mul_le_mul h h
  refine ⟨fun r hr => ⟨fun k hk => ?_, by rw [tab.row r hr]; omega⟩, by rw [tab.len]; omega⟩
  have hm : k ∈ T.flatten := List.mem_flatten.mpr ⟨r, hr, hk⟩
  obtain ⟨h1, h2⟩ := firsts_mem T.flatten
  have hk2 := (h1 k).mpr hm
  rw [tab.num] at hk2
  have := List.mem_range.mp hk2
  rw [flat_len tab.row, tab.len] at h2
  omega
theorem TabV.data {K : PySem.W.Frag} {n : Nat} {R : Pr → Pr → Prop} {U : Prop} {v : V} {H : Hp} (h : TabV n R U v H) (n10 : n ≤ 10) : ∃ T, ((∀ r ∈ T, (∀ k ∈ r, k < 200) ∧ r.length ≤ 20) ∧ T.length ≤ 20) ∧ ∀ (v' : V) (H' : Hp), TabV n R U v' H' → Dp K H' v' (dU U T) := by
  rcases h with ⟨_, u⟩ | ⟨t, qs, _, _, _, tb, nu⟩
  · refine ⟨[], ⟨fun r hr => (by cases hr), Nat.zero_le _⟩, fun v' H' h' => ?_⟩
    unfold dU
    rw [if_pos u]
    rcases h' with ⟨rfl, _⟩ | ⟨_, _, _, _, _, _, nu⟩
    · exact .non
    · exact absurd u nu
  · exact ⟨_, tab_good tb n10, fun v' H' h' => h'.dp tb⟩
/-- a truth value twice -/
def bb2 (b : Bool) : PyData := .list [.bool b, .bool b]
theorem bb2_ok (b : Bool) : SeqAt.shaped (bb2 b) = true ∧ PyData.eqv (bb2 b) (bb2 b) = true := by cases b <;> decide +kernel
structure StW (C c : Addr) (H H' : Hp) (x : Addr) (n : Nat) (ts : List Tie) : Prop where
  keep : Kp c H H'
  cup : Cup H' c
  web : WebAt C H' x n ts
theorem StW.step {C c : Addr} {H H1 H2 : Hp} {x : Addr} {n : Nat} {ts : List Tie} (s : StW C c H H1 x n ts) (k : Kp c H1 H2) (cu : Cup H2 c) : StW C c H H2 x n ts := ⟨s.keep.trans k, cu, s.web.kp k s.cup⟩
theorem StW.same {C c : Addr} {H H1 H2 : Hp} {x : Addr} {n : Nat} {ts : List Tie} (s : StW C c H H1 x n ts) (e : Same H1 H2) : StW C c H H2 x n ts := s.step e.kp (s.cup.same e)
theorem StW.but {C c : Addr} {H H1 H2 : Hp} {x : Addr} {n : Nat} {ts : List Tie} (s : StW C c H H1 x n ts) (e : But c H1 H2) (cu : Cup H2 c) : StW C c H H2 x n ts := s.step e.kp cu
def WordOk (ms : List Nat) : Prop := (∀ m ∈ ms, m ∈ letters) ∧ 1 ≤ ms.length ∧ ms.length ≤ 200
theorem marks_few12 {n : Nat} {ts : List Tie} {ks : List Nat} (w : WebOk n ts) (nd : ks.Nodup) (mem : ∀ m, m ∈ ks ↔ ∃ h, h < n ∧ m ∈ marksAt h ts) : ks.length ≤ 12 := by
  have hs : ∀ m ∈ ks, m ∈ letters := fun m hm => by
    obtain ⟨h, _, h2⟩ := (mem m).mp hm
    exact marks_let w h m h2
  exact nd_sub_len nd hs
theorem marks_some {n : Nat} {ts : List Tie} {ks : List Nat} (w : WebOk n ts) (mem : ∀ m, m ∈ ks ↔ ∃ h, h < n ∧ m ∈ marksAt h ts) : 1 ≤ ks.length := by
  have n2 := w.n2
  have p := marks_pos w (h := 0) (by omega)
  obtain ⟨m, hm⟩ := List.exists_mem_of_length_pos p
  exact List.length_pos_of_mem ((mem m).mpr ⟨0, by omega, hm⟩)
/-- what has been met: where a word with this number that ends here began -/
def MetOk (n : Nat) (T : List (List Nat)) (kvs : List (List L2.Key × V)) : Prop := ∀ (e k : Nat) (y : V), valV kvs (pk (e, k)) = some y → ∃ s : Nat, y = .int (s : Int) ∧ s < n ∧ e < n ∧ k = cell T (s, e)
theorem MetOk.nil (n : Nat) (T : List (List Nat)) : MetOk n T [] := fun e k y h => by cases h
theorem MetOk.put {n : Nat} {T : List (List Nat)} {kvs : List (List L2.Key × V)} (m : MetOk n T kvs) {s e : Nat} (hs : s < n) (he : e < n) : MetOk n T (putK kvs (pk (e, cell T (s, e))) (.int (s : Int))) := fun e' k y h => by
  rw [valV_put] at h
  split at h
  · rename_i c
    have := pk_inj c
    injection this with h1 h2
    subst h1
    exact ⟨s, (Option.some.inj h).symm, hs, he, h2⟩
  · exact m e' k y h
theorem MetOk.same {n : Nat} {ts : List Tie} {T : List (List Nat)} {kvs : List (List L2.Key × V)} (m : MetOk n T kvs) (tab : Tab n (Cl n ts) T) (fair : ¬ UnfairE n (Cl n ts)) {s e : Nat} (hs : s < n) (he : e < n) : (valV kvs (pk (e, cell T (s, e)))).getD (.int (s : Int)) = .int (s : Int) := by
  cases h : valV kvs (pk (e, cell T (s, e))) with
  | none => rfl
  | some y =>
    obtain ⟨s', rfl, hs', _, hk⟩ := m _ _ _ h
    show V.int (s' : Int) = V.int (s : Int)
    by_cases c : s' = s
    · rw [c]
    · exact absurd ⟨s', s, e, ⟨hs', he⟩, ⟨hs, he⟩, c, (tab.iff (s', e) (s, e) ⟨hs', he⟩ ⟨hs, he⟩).mp hk.symm⟩ fair
section
variable {P : Program} {w : World} {K : PySem.W.Frag} {mg : Str → Option Value} {base : Heap}
def spRight : Sp := fun vs H Q _ => ∃ c : Addr, vs = [.ref c] ∧ Cup H c ∧ ∀ H', Kp c H H' → Cup H' c → Q (.bl true) H'
set_option maxHeartbeats 8000000 in
theorem ok_right (F : RF P w K mg base) {f : Addr} {fd : FuncData} (FR : Fun K "_law_right" "_law_right" sRight f fd) : FnG P w K mg base 10 f fd ["cup"] spRight := by
  refine fnG_of FR scRight (fun vs H Q E h => ?_) (fun cdv A outer st0 H vs Q E G h => ?_)
  · obtain ⟨c, rfl, _⟩ := h
    rfl
  · obtain ⟨c, rfl, cu, k⟩ := h
    have hr9 : Room 9 _ := G.room
    have hr6 : Room 6 _ := hr9.mono (by decide)
    have hr7 : Room 7 _ := hr9.mono (by decide)
    have hr5 : Room 5 _ := hr9.mono (by decide)
    have hr4 : Room 4 _ := hr9.mono (by decide)
    have hr3 : Room 3 _ := hr9.mono (by decide)
    have hr2 : Room 2 _ := hr9.mono (by decide)
    have hr1 : Room 1 _ := hr9.mono (by decide)
    refine ⟨_, (pss_cons (ps_for PassesOwn.never rfl (pi_range1 (by rfl) F.mrange (pa_cons pe_int pa_nil)) (pg_name (i := 1) scRight.nd rfl (.inl rfl)) (by exact (C8.pss_cut (ps_set (i := 2) scRight.nd rfl (.inl rfl) (pe_call F.GGood hr4 (by rfl) F.mGood F.kGood F.bGood .nil pass0 (pa_cons (pv 0) (pa_cons pe_int pa_nil)))) (C8.pss_cut (ps_asg (pe_tup (pa_cons (pe_make F.MIni F.GIni hr7 rfl F.mIni F.bIni .nil pass0 (pa_cons (pe_call F.GText hr1 (by rfl) F.mText F.kText F.bText .nil pass0 (pa_cons (pv 2) pa_nil)) pa_nil)) (pa_cons (pe_call F.GWays hr1 (by rfl) F.mWays F.kWays F.bWays .nil pass0 (pa_cons (pv 2) pa_nil)) pa_nil))) (pg_tup (by rfl) (pgs_cons (pg_name (i := 3) scRight.nd rfl (.inr rfl)) (pgs_cons (pg_name (i := 4) scRight.nd rfl (.inl rfl)) pgs_nil)))) (C8.pss_cut (ps_set (i := 5) scRight.nd rfl (.inl rfl) (pe_call F.GDue hr3 (by rfl) F.mDue F.kDue F.bDue .nil pass0 (pa_cons (pv 4) (pa_cons pe_str pa_nil)))) (C8.pss_cut (ps_if (PW.pt (pw_or (pt_cmpR op_ne (pe_callB (call_repr_D G.idle hr9.units) (by rfl) F.mrepr (by decide +kernel) (pa_cons (pe_lst (pa_cons (pe_call F.GBco hr5 (by rfl) F.mBco F.kBco F.bBco .nil pass0 (pa_cons (pv 3) pa_nil)) (pa_cons (pe_callK0 F.GBco hr5 (by rfl) F.mBco F.kBco F.kbBco pass0 (pk_cons (pv 3) pk_nil)) pa_nil))) pa_nil)) (pe_callB (call_repr_D G.idle hr9.units) (by rfl) F.mrepr (by decide +kernel) (pa_cons (pe_lst (pa_cons (pv 5) (pa_cons (pv 5) pa_nil))) pa_nil)) (nomark _)) (pw_or1 (pt_cmpR (op_neD hr9.units) (pe_lst (pa_cons (pe_call F.GHab hr6 (by rfl) F.mHab F.kHab F.bHab .nil pass0 (pa_cons (pv 3) pa_nil)) (pa_cons (pe_callK0 F.GHab hr6 (by rfl) F.mHab F.kHab F.kbHab pass0 (pk_cons (pv 3) pk_nil)) pa_nil))) (pe_op op_rep (pe_lst (pa_cons (pe_cmpR op_notN (pv 5) pe_non (nomark _)) pa_nil)) pe_int) (nomark _))))) pss_never pss_nil) (pss_one (ps_if (pt_cmpR op_notN (pv 5) pe_non (nomark _)) (C8.pss_cut (ps_set (i := 6) scRight.nd rfl (.inl rfl) pe_dnewT) (pss_one (ps_for PassesOwn.never rfl (pi_range1 (by rfl) F.mrange (pa_cons pe_int pa_nil)) (pg_name (i := 7) scRight.nd rfl (.inl rfl)) (by exact (C8.pss_cut (ps_set (i := 8) scRight.nd rfl (.inl rfl) (pe_joinK K rfl pe_str (pe_lc (own := [("letter", 12)]) (g := gName 12) (tt := tYes) rfl scRight.nd (pi_range1 (by rfl) F.mrange (pa_cons (pe_op op_add pe_int (pe_call F.GSip hr1 (by rfl) F.mSip F.kSip F.bSip .nil pass0 (pa_cons (pv 0) (pa_cons pe_int pa_nil)))) pa_nil)) (blkOk_by (N := ["cup", "turn", "told", "web", "ways_here", "due", "met", "step", "letters", "spot", "end", "number", "letter"]) (own := [("letter", 12)]) (sc := defScope sRight) (by decide +kernel)) (fun _ _ _ _ _ => (pg_name (i := 12) scRight.nd rfl (.inl rfl))) (fun _ _ _ _ _ => pts_nil) (fun _ _ _ _ _ => (pe_call F.GPick hr2 (by rfl) F.mPick F.kPick F.bPick .nil pass0 (pa_cons (pv 0) (pa_cons (pe_callTy (call_list_S rfl) (by rfl) F.mlist (by decide +kernel) (pa_cons (pe_prop (pv 3) F.cW.c F.pMar F.GMar hr2 F.bMar .nil pass0 rfl) pa_nil)) pa_nil))))))) (pss_one (ps_for PassesOwn.never rfl (pi_range1 (by rfl) F.mrange (pa_cons (pe_prop (pv 3) F.cW.c F.pHou F.GHou hr2 F.bHou .nil pass0 rfl) pa_nil)) (pg_name (i := 9) scRight.nd rfl (.inl rfl)) (by exact (C8.pss_cut (ps_set (i := 10) scRight.nd rfl (.inl rfl) (pe_call F.GWalk hr1 (by rfl) F.mWalk F.kWalk F.bWalk .nil pass0 (pa_cons (pv 4) (pa_cons (pv 9) (pa_cons (pv 8) pa_nil))))) (pss_one (ps_if (pt_cmpR op_notN (pv 10) pe_non (nomark _)) (C8.pss_cut (ps_set (i := 11) scRight.nd rfl (.inl rfl) (pe_ix ix_tup (pe_ix ix_tup (pe_call F.GBco hr5 (by rfl) F.mBco F.kBco F.bBco .nil pass0 (pa_cons (pv 3) pa_nil)) (pv 9) (fun _ _ => rfl)) (pv 10) (fun _ _ => rfl))) (C8.pss_cut (ps_if (pt_cmpR op_ne (pe_dget2 (hu_of hr9) (pv 6) (pe_tup (pa_cons (pv 10) (pa_cons (pv 11) pa_nil))) (pv 9) ⟨rfl, rfl, rfl, rfl⟩) (pv 9) (nomark _)) pss_never pss_nil) (pss_one (ps_dput (hu_of hr9) (pv 6) (pe_tup (pa_cons (pv 10) (pa_cons (pv 11) pa_nil))) (pv 9) rfl)))) pss_nil))))))))))) pss_nil)))))))) (pss_one (ps_ret pe_bl))), ?_⟩
    have z2 : 2 ≤ sizeLine := by decide
    have z1 : 1 ≤ sizeLine := by decide
    refine ⟨4, rfl, by decide, by decide, for_range (lo := 0) (n := 4) (fun i σ H' => Kp c H H' ∧ Cup H' c ∧ ∃ w1 w2 w3 w4 w5 w6 w7 w8 w9 w10 w11 : Option V, σ = [some (.ref c), w1, w2, w3, w4, w5, w6, w7, w8, w9, w10, w11, none])
      ⟨Kp.refl c H, cu, none, none, none, none, none, none, none, none, none, none, none, rfl⟩ ?_ ?_⟩
    · rintro i σ H1 _ ⟨kp1, cu1, w1, w2, w3, w4, w5, w6, w7, w8, w9, w10, w11, rfl⟩
      refine ⟨fun σ H' => Kp c H H' ∧ Cup H' c ∧ ∃ (tl : Addr) (ps : List (Addr × Tie)) (n : Nat), H' tl = some (.lst (refs ps)) ∧ At tieV H' ps ∧ Told n (ps.map (·.2)) ∧ n ≤ 4 ∧ σ = [some (.ref c), some (.int (0 + (i : Int))), some (.ref tl), w3, w4, w5, w6, w7, w8, w9, w10, w11, none], ?_, ?_⟩
      · exact ⟨_, rfl, c, 4, rfl, cu1, by decide, by decide, fun tl ps n H2 b2 cu2 hl hA told n4 => ⟨kp1.trans b2.kp, cu2, tl, ps, n, hl, hA, told, n4, rfl⟩⟩
      rintro σ H2 ⟨kp2, cu2, tl, ps, n, hl, hA, told, n4, rfl⟩
      have wk : WebOk n (ps.map (·.2)) := told.ok
      refine ⟨fun σ H' => Kp c H H' ∧ Cup H' c ∧ ∃ (x dl : Addr) (ds : List Addr), WebAt F.C H' x n (ps.map (·.2)) ∧ Dr H' dl ds n (ps.map (·.2)) ∧ σ = [some (.ref c), some (.int (0 + (i : Int))), some (.ref tl), some (.ref x), some (.ref dl), w5, w6, w7, w8, w9, w10, w11, none], ?_, ?_⟩
      · refine ⟨_, rfl, tl, ps, rfl, hl, hA, (fun p hp => ?_), ?_, fun H3 s3 x dx nx nd ne => ⟨x, dx, _, ps.map (·.2), n, rfl, upd_same, (by rw [nrm_map fun t ht => (wk.lt t ht).1]), wk, told.srt, fun H4 b4 wb _ => ⟨rfl, ?_⟩⟩⟩
        · have := wk.lt _ (List.mem_map_of_mem hp)
          have := wk.n10
          omega
        · have := wk.len
          rw [List.length_map] at this
          exact this
        · have s4 : Same H2 H4 := Same.trans s3 (make_same b4 nx nd)
          refine ⟨_, rfl, tl, ps, n, rfl, s4 _ _ hl, hA.same s4, wk, fun dl ds H5 s5 dr _ _ => ⟨z2, fun q nq => ⟨q, _, rfl, SqT.of upd_same, rfl, _, _, rfl, _, _, rfl, rfl, ?_⟩⟩⟩
          have s45 := (s4.trans s5).put nq (o := .tup [.ref x, .ref dl])
          exact ⟨kp2.trans s45.kp, cu2.same s45, x, dl, ds, (wb.same s5).same (same_upd nq), dr.same (same_upd nq), rfl⟩
      rintro σ H3 ⟨kp3, cu3, x, dl, ds, wb, dr, rfl⟩
      generalize hts : ps.map (·.2) = ts at *
      refine ⟨fun σ H' => Same H3 H' ∧ ∃ v : V, TabV n (Cl n ts) (UnfairE n (Cl n ts)) v H' ∧ σ = [some (.ref c), some (.int (0 + (i : Int))), some (.ref tl), some (.ref x), some (.ref dl), some v, w6, w7, w8, w9, w10, w11, none], ?_, ?_⟩
      · refine ⟨_, rfl, dl, ds, n, ts, "back", rfl, dr, wk, n4, by decide +kernel, fun v H6 s6 tv => ?_⟩
        have e : UnfS "back" n (Cl n ts) = UnfairE n (Cl n ts) := if_pos (by decide +kernel)
        rw [e] at tv
        exact ⟨s6, v, tv, rfl⟩
      rintro σ H4 ⟨s34, v, tv, rfl⟩
      have kp4 := kp3.trans s34.kp
      have cu4 := cu3.same s34
      have wb4 := wb.same s34
      have dr4 := dr.same s34
      obtain ⟨T, ⟨good, few⟩, dat⟩ := tv.data (K := K) (by have := wk.n10; omega)
      obtain ⟨e1, e2, e3, e4⟩ := dU_two (U := UnfairE n (Cl n ts)) good few
      refine ⟨fun σ H' => Same H4 H' ∧ σ = [some (.ref c), some (.int (0 + (i : Int))), some (.ref tl), some (.ref x), some (.ref dl), some v, w6, w7, w8, w9, w10, w11, none], ?_, ?_⟩
      · refine ⟨_, rfl, x, n, ts, rfl, wb4, tabsp_of fun v1 K4 s4 t1 => ⟨_, rfl, x, n, ts, rfl, wb4.same s4, tabsp_of fun v2 K5 s5 t2 => ⟨z2, fun L nL => ?_⟩⟩⟩
        have s6 := same_upd nL (o := .lst [v1, v2])
        refine ⟨L, .list [dU (UnfairE n (Cl n ts)) T, dU (UnfairE n (Cl n ts)) T], rfl, .lst (SqL.of upd_same) (.cons (dat _ _ ((t1.same s5).same s6)) (.cons (dat _ _ (t2.same s6)) .nil)), e1, e2, e3, e4, ?_⟩
        refine ⟨_, rfl, _, rfl, z2, fun M nM => ?_⟩
        have s7 := same_upd nM (o := .lst [v, v])
        have hv7 := dat _ _ ((((tv.same s4).same s5).same s6).same s7)
        refine ⟨M, .list [dU (UnfairE n (Cl n ts)) T, dU (UnfairE n (Cl n ts)) T], rfl, .lst (SqL.of upd_same) (.cons hv7 (.cons hv7 .nil)), e1, e2, e3, e4, rfl, _, rfl, ?_⟩
        rw [decide_eq_true rfl]
        refine iteF ?_
        have s47 := Same.trans s4 (Same.trans s5 (Same.trans s6 s7))
        have wb7 := wb4.same s47
        have key : ∀ b : Bool, (b = true ↔ ¬ UnfairE n (Cl n ts)) → b = !decide (v = .non) := fun b e => by
          have h1 := tv.non.1
          rw [Bool.eq_iff_iff, e, Bool.not_eq_true', decide_eq_false_iff_not, h1]
        refine ⟨_, rfl, x, n, ts, rfl, wb7, fun b1 K8 s8 q1 => ⟨_, rfl, x, n, ts, rfl, wb7.same s8, fun b2 K9 s9 q2 => ⟨z2, fun L2' nL2 => ?_⟩⟩⟩
        obtain rfl := key b1 q1
        obtain rfl := key b2 q2
        refine ⟨_, rfl, rfl, z1, fun M1 nM1 => ⟨M1, 2, _, rfl, rfl, upd_same, by decide, by decide, by show 2 ≤ sizeLine; decide, fun M2 nM2 => ?_⟩⟩
        refine ⟨bb2 (!decide (v = V.non)), bb2 (!decide (v = V.non)), .lst (SqL.of (put_old (put_old upd_same nM1) nM2)) (.cons (.bl _) (.cons (.bl _) .nil)), .lst (SqL.of upd_same) (.cons (.bl _) (.cons (.bl _) .nil)), (bb2_ok _).1, (bb2_ok _).1, _, rfl, ?_⟩
        rw [(bb2_ok _).2]
        have sx := (((same_upd nL2 (o := .lst [V.bl (!decide (v = .non)), V.bl (!decide (v = .non))])).put nM1 (o := .lst [V.bl (!decide (v = .non))])).put nM2 (o := .lst (List.replicate (2 : Int).toNat [V.bl (!decide (v = .non))]).flatten))
        exact iteF ⟨Same.trans s47 (Same.trans s8 (Same.trans s9 sx)), rfl⟩
      rintro σ H5 ⟨s45, rfl⟩
      have kp5 := kp4.trans s45.kp
      have cu5 := cu4.same s45
      have wb5 := wb4.same s45
      have dr5 := dr4.same s45
      refine ⟨_, rfl, rfl, _, rfl, ?_⟩
      rcases tv with ⟨rfl, _⟩ | ⟨t, qs, rfl, _, _, tab, nu⟩
      · rw [decide_eq_true rfl]
        exact iteF ⟨kp5, cu5, _, _, _, _, _, _, _, _, _, _, _, rfl⟩
      refine iteT ?_
      generalize qs.map (·.2) = T0 at tab
      have n2 := wk.n2
      refine ⟨fun σ H' => Same H5 H' ∧ ∃ md : Addr, H5 md = none ∧ H' md = some (.dT []) ∧ σ = [some (.ref c), some (.int (0 + (i : Int))), some (.ref tl), some (.ref x), some (.ref dl), some (.ref t), some (.ref md), w7, w8, w9, w10, w11, none], ?_, ?_⟩
      · exact fun md nmd => ⟨same_upd nmd, md, nmd, upd_same, rfl⟩
      rintro σ H6 ⟨s56, md, nmd, hmd, rfl⟩
      have mc : md ≠ c := (cu5.ne nmd).symm
      let Inv : Nat → Hp → Prop := fun b H' => But c H5 H' ∧ Cup H' c ∧ ∃ kvs : List (List L2.Key × V), H' md = some (.dT kvs) ∧ MetOk n T0 kvs ∧ kvs.length ≤ b
      refine ⟨20, rfl, by decide, by decide, ?_⟩
      rw [show ((20 : Int)).toNat = 20 from rfl]
      refine for_range (lo := 0) (n := 20) (fun q σ H' => Inv (4 * q) H' ∧ ∃ w7 w8 w9 w10 w11 : Option V, σ = [some (.ref c), some (.int (0 + (i : Int))), some (.ref tl), some (.ref x), some (.ref dl), some (.ref t), some (.ref md), w7, w8, w9, w10, w11, none]) ⟨⟨s56.but, cu5.same s56, [], hmd, MetOk.nil n T0, Nat.zero_le _⟩, w7, w8, w9, w10, w11, rfl⟩ ?_ ?_
      · rintro q σ H7 hq ⟨⟨b7, cu7, kvs, hm, mok, ml⟩, w7, w8, w9, w10, w11, rfl⟩
        refine ⟨fun σ H' => Inv (4 * q) H' ∧ ∃ ms : List Nat, σ = [some (.ref c), some (.int (0 + (i : Int))), some (.ref tl), some (.ref x), some (.ref dl), some (.ref t), some (.ref md), some (.int (0 + (q : Int))), some (.str (sS ms)), w9, w10, w11, none], ?_, ?_⟩
        · refine ⟨⟨_, rfl⟩, _, rfl, c, 3, rfl, cu7, by decide, by decide, fun r K1 b1 cu1 r0 r1 => ⟨1, r, rfl, rfl, 1 + r, rfl, by omega, by omega, fun D nD => ?_⟩⟩
          have nc : c ≠ D := cu1.ne nD
          have b71 := b7.trans b1
          refine lc_range (lo := 0) (n := (1 + r).toNat) (fun j H' => But c K1 H' ∧ Cup H' c ∧ ∃ ms : List Nat, H' D = some (.lst ((ms.map sgn).map V.str)) ∧ ms.length = j) ⟨(But.refl c K1).put nD, cu1.put nD, [], upd_same, rfl⟩ ?_ ?_
          · rintro j K2 hj ⟨b2, cu2, us, hD, len⟩
            have wbK := wb5.kp (b71.trans b2).kp cu5
            obtain ⟨dx, _, _, _, _, _, hx, _⟩ := wbK.ex
            refine ⟨rfl, _, rfl, _, rfl, x, dx, _, rfl, hx, x, n, ts, rfl, wbK, fun ks K3 s3 nd srt mem => ⟨sS ks, rfl, ?_, fun t nt => ?_⟩⟩
            · have few := marks_few12 wk nd mem
              rw [sS_len]
              exact Nat.le_of_lt (small1000 (by omega))
            · have cu3 := (cu2.same s3).put nt (o := .lst (((sS ks).cps.toList).map fun c => V.str (sgn c)))
              have pos : 1 ≤ ks.length := marks_some wk mem
              have few := marks_few12 wk nd mem
              refine ⟨c, t, _, rfl, cu3, ((cu2.same s3).ne nt).symm, upd_same, ?_, ?_, fun i v K4 b4 cu4 hv => ?_⟩
              · rw [List.length_map, sS_cps]
                exact pos
              · rw [List.length_map, sS_cps]
                exact Nat.lt_of_le_of_lt few (by decide)
              · rw [List.getElem?_map, sS_cps] at hv
                obtain ⟨m, hm, rfl⟩ := Option.map_eq_some_iff.mp hv
                have hD4 : K4 D = some (.lst ((us.map sgn).map V.str)) := b4 _ _ (put_old (s3 _ _ hD) nt) nc.symm
                refine ⟨_, hD4, ?_, ((b2.trans (s3.put nt).but).trans b4).own nD, cu4.of_lst nc, us ++ [m], ?_, ?_⟩
                · rw [List.length_map, List.length_map]
                  exact small1000 (by omega)
                · rw [upd_same, List.map_append, List.map_append]
                  rfl
                · rw [List.length_append, len]
                  rfl
          · rintro K2 ⟨b2, cu2, us, hD, len⟩
            refine ⟨_, _, _, rfl, rfl, .inl (SqL.of hD), ?_, ?_⟩
            · have e0 : ("" : Str).length = 0 := by decide +kernel
              rw [sgn_sum, e0]
              show us.length + us.length * 0 ≤ 16777216
              omega
            · rw [join_sgn]
              exact ⟨⟨b71.trans b2, cu2, kvs, (b1.trans b2) _ _ hm mc, mok, ml⟩, us, rfl⟩
        rintro σ H8 ⟨⟨b8, cu8, kvs, hm, mok, ml⟩, ms, rfl⟩
        have wb8 := wb5.kp b8.kp cu5
        obtain ⟨dx, fs, hx⟩ := wb8.isI
        refine ⟨_, rfl, x, dx, fs, rfl, hx, x, n, ts, rfl, wb8, (n : Int), rfl, by omega, by omega, ?_⟩
        rw [show ((n : Int)).toNat = n from Int.toNat_natCast n]
        refine for_range (lo := 0) (n := n) (fun j σ H' => Inv (4 * q + j) H' ∧ ∃ w9 w10 w11 : Option V, σ = [some (.ref c), some (.int (0 + (i : Int))), some (.ref tl), some (.ref x), some (.ref dl), some (.ref t), some (.ref md), some (.int (0 + (q : Int))), some (.str (sS ms)), w9, w10, w11, none]) ⟨⟨b8, cu8, kvs, hm, mok, ml⟩, _, _, _, rfl⟩ ?_ ?_
        · rintro j σ H9 hj ⟨⟨b9, cu9, kvs, hm, mok, ml⟩, w9, w10, w11, rfl⟩
          rw [show (0 : Int) + (j : Int) = (j : Int) from Int.zero_add _]
          have wb9 := wb5.kp b9.kp cu5
          have dr9 := dr5.kp b9.kp cu5
          refine ⟨fun σ H' => H' = H9 ∧ σ = [some (.ref c), some (.int (0 + (i : Int))), some (.ref tl), some (.ref x), some (.ref dl), some (.ref t), some (.ref md), some (.int (0 + (q : Int))), some (.str (sS ms)), some (.int (j : Int)), some (walkV (walkN ts j ms)), w11, none], ?_, ?_⟩
          · exact ⟨_, rfl, _, rfl, _, rfl, dl, ds, n, ts, j, ms, rfl, dr9, wk, hj, rfl, rfl⟩
          rintro σ H' ⟨rfl, rfl⟩
          refine ⟨_, rfl, rfl, _, rfl, ?_⟩
          cases hw : walkN ts j ms with
          | none => exact iteF ⟨⟨b9, cu9, kvs, hm, mok, by omega⟩, _, _, _, rfl⟩
          | some e =>
            refine iteT ?_
            have he := walkN_lt wk hj hw
            refine ⟨fun σ K => Same H' K ∧ σ = [some (.ref c), some (.int (0 + (i : Int))), some (.ref tl), some (.ref x), some (.ref dl), some (.ref t), some (.ref md), some (.int (0 + (q : Int))), some (.str (sS ms)), some (.int (j : Int)), some (.int (e : Int)), some (.int (cell T0 (j, e) : Int)), none], ?_, ?_⟩
            · refine ⟨_, rfl, x, n, ts, rfl, wb9, tabsp_of fun v' K k' t' => ?_⟩
              rcases t' with ⟨_, u⟩ | ⟨t2, qs2, rfl, ht2, hA2, tab2, _⟩
              · exact absurd u nu
              · obtain ⟨r1, ns1, g1, a1, h1, l1, c1⟩ := tab_row hA2 tab2 j hj
                rw [← tab2.uniq tab]
                exact ⟨_, rfl, t2, _, _, _, rfl, rfl, SqT.of ht2, a1, _, rfl, r1, _, _, _, rfl, rfl, SqT.of h1, atI_nat (c1 e he), k', rfl⟩
            rintro σ K ⟨s10, rfl⟩
            have hm10 := s10 _ _ hm
            refine ⟨fun σ K2 => Same K K2 ∧ σ = [some (.ref c), some (.int (0 + (i : Int))), some (.ref tl), some (.ref x), some (.ref dl), some (.ref t), some (.ref md), some (.int (0 + (q : Int))), some (.str (sS ms)), some (.int (j : Int)), some (.int (e : Int)), some (.int (cell T0 (j, e) : Int)), none], ?_, ?_⟩
            · refine ⟨_, rfl, md, rfl, .inr ⟨kvs, .inl hm10⟩, _, rfl, _, rfl, z2, fun q1 nq1 => ⟨_, rfl, _, DGet.t (k := pk (e, cell T0 (j, e))) (put_old hm10 nq1) upd_same, ?_⟩⟩
              rw [mok.same tab nu hj he]
              refine ⟨_, rfl, rfl, _, rfl, ?_⟩
              rw [decide_eq_true rfl]
              exact iteF ⟨same_upd nq1, rfl⟩
            rintro σ K2 ⟨s11, rfl⟩
            have hm11 := s11 _ _ hm10
            have few : kvs.length < sizeLine := small1000 (by omega)
            refine ⟨_, rfl, _, rfl, _, rfl, _, rfl, z2, fun q2 nq2 => ⟨md, _, rfl, DPut.t (k := pk (e, cell T0 (j, e))) (put_old hm11 nq2) upd_same few, ?_⟩⟩
            have sK := ((s10.trans s11).put nq2 (o := .tup [.int (e : Int), .int (cell T0 (j, e) : Int)]))
            have lp := length_putK kvs (pk (e, cell T0 (j, e))) (.int (j : Int))
            exact ⟨⟨(b9.trans sK.but).own nmd, (by obtain ⟨a, b, h⟩ := cu9.same sK; exact ⟨a, b, by rw [upd_ne mc.symm]; exact h⟩), _, upd_same, mok.put hj he, by omega⟩, _, _, _, rfl⟩
        · rintro σ H9 ⟨⟨b9, cu9, kvs, hm, mok, ml⟩, w9, w10, w11, rfl⟩
          exact ⟨⟨b9, cu9, kvs, hm, mok, by omega⟩, _, _, _, _, _, rfl⟩
      · rintro σ H7 ⟨⟨b7, cu7, _⟩, w7, w8, w9, w10, w11, rfl⟩
        exact ⟨kp5.trans b7.kp, cu7, _, _, _, _, _, _, _, _, _, _, _, rfl⟩
    · rintro σ H1 ⟨kp1, cu1, w1, w2, w3, w4, w5, w6, w7, w8, w9, w10, w11, rfl⟩
      exact k H1 kp1 cu1
end
end Wh

namespace Wh
open PySem L2
/-! ### tables of a concrete web, pairs with one number linked by way of a third -/
def dirB (ts : List Tie) (ws : List (List Nat)) (p q : Pr) : Bool := decide (p = q) || ws.any fun w => !w.isEmpty && decide (walk2 ts (p.1, q.1) w = some (p.2, q.2))
theorem dirB_cl {n : Nat} {ts : List Tie} {ws : List (List Nat)} {p q : Pr} (h : dirB ts ws p q = true) (hp : InN n p) (hq : InN n q) : Cl n ts p q := by
  rcases Bool.or_eq_true_iff.mp h with h1 | h1
  · rw [of_decide_eq_true h1]
    exact .refl _
  · obtain ⟨w, _, hw⟩ := List.any_eq_true.mp h1
    obtain ⟨a, b⟩ := Bool.and_eq_true_iff.mp hw
    refine .step hp hq ⟨w, fun z => ?_, of_decide_eq_true b⟩
    rw [z] at a
    cases a
def loCl2 (n : Nat) (ts : List Tie) (T : List (List Nat)) (ws : List (List Nat)) : Bool := (PL n).all fun p => (PL n).all fun q => !(cell T p == cell T q) || (PL n).any fun r => dirB ts ws p r && dirB ts ws r q
theorem loCl2_cl {n : Nat} {ts : List Tie} {T : List (List Nat)} {ws : List (List Nat)} (h : loCl2 n ts T ws = true) {p q : Pr} (hp : InN n p) (hq : InN n q) (e : cell T p = cell T q) : Cl n ts p q := by
  have h1 := List.all_eq_true.mp (List.all_eq_true.mp h p (PL_mem.mpr hp)) q (PL_mem.mpr hq)
  rw [beq_iff_eq.mpr e] at h1
  rcases Bool.or_eq_true_iff.mp h1 with h1 | h1
  · cases h1
  · obtain ⟨r, hr, h2⟩ := List.any_eq_true.mp h1
    obtain ⟨a, b⟩ := Bool.and_eq_true_iff.mp h2
    exact .trans (dirB_cl a hp (PL_mem.mp hr)) (dirB_cl b (PL_mem.mp hr) hq)
def conT2 (n : Nat) (ts : List Tie) (T : List (List Nat)) (ws : List (List Nat)) : Bool := webB n ts && upCl n ts T && loCl2 n ts T ws && decide (T.length = n) && (T.all fun r => decide (r.length = n)) && decide (firsts T.flatten = List.range (firsts T.flatten).length)
theorem con_tab2 {n : Nat} {ts : List Tie} {T : List (List Nat)} {ws : List (List Nat)} (h : conT2 n ts T ws = true) : WebOk n ts ∧ Tab n (Cl n ts) T ∧ ∀ p q, Cl n ts p q → cell T p = cell T q := by
  unfold conT2 at h
  rw [Bool.and_eq_true, Bool.and_eq_true, Bool.and_eq_true, Bool.and_eq_true, Bool.and_eq_true] at h
  obtain ⟨⟨⟨⟨⟨h1, h2⟩, h3⟩, h4⟩, h5⟩, h6⟩ := h
  have w := webOk_of h1
  exact ⟨w, ⟨of_decide_eq_true h4, fun r hr => of_decide_eq_true (List.all_eq_true.mp h5 r hr), fun p q hp hq => ⟨fun e => loCl2_cl h3 hp hq e, fun c => upCl_cl w h2 c⟩, of_decide_eq_true h6⟩, fun p q c => upCl_cl w h2 c⟩
theorem con_fairE2 {n : Nat} {ts : List Tie} {T : List (List Nat)} {ws : List (List Nat)} (h : conT2 n ts T ws = true) (f : fairE n T = true) : ¬ UnfairE n (Cl n ts) := fairE_of f fun p q _ c => (con_tab2 h).2.2 p q c
end Wh

namespace Wh
open PySem L2
abbrev sLaw : Stmt := topS 64
theorem scLaw : FnScope ["script", "spot"] ["script"] (defScope sLaw) := ⟨rfl, rfl, rfl, by decide +kernel, rfl, by decide +kernel, by decide +kernel⟩
/-! ### the webs of the law -/
def tsP : List Tie := [⟨0, 97, 1, 97⟩, ⟨1, 98, 2, 97⟩]
def rsR : List Tie := [⟨0, 97, 1, 98⟩, ⟨1, 97, 2, 98⟩, ⟨2, 97, 0, 98⟩]
def tsR : List Tie := [⟨0, 97, 1, 98⟩, ⟨0, 98, 2, 97⟩, ⟨1, 97, 2, 98⟩]
def tsS : List Tie := [⟨0, 97, 1, 97⟩, ⟨1, 98, 2, 98⟩]
theorem tsP_str : webS tsP = ("0 a 1 a\n1 b 2 a" : Str) := by decide +kernel
theorem rsR_str : webS rsR = ("0 a 1 b\n1 a 2 b\n2 a 0 b" : Str) := by decide +kernel
theorem tsS_str : webS tsS = ("0 a 1 a\n1 b 2 b" : Str) := by decide +kernel
theorem tsP_srt : (tsP.map Tie.pr).Pairwise PrLt := by simp [tsP, Tie.pr, PrLt]
theorem tsR_srt : (tsR.map Tie.pr).Pairwise PrLt := by simp [tsR, Tie.pr, PrLt]
theorem tsS_srt : (tsS.map Tie.pr).Pairwise PrLt := by simp [tsS, Tie.pr, PrLt]
theorem rsR_perm : (rsR.map nrm).Perm tsR := List.Perm.cons _ (List.Perm.swap _ _ _)
def tbR : List (List Nat) := [[0, 1, 2], [2, 0, 1], [1, 2, 0]]
def tbS : List (List Nat) := [[0, 1, 2], [1, 0, 3], [4, 3, 0]]
def w12 : List (List Nat) := [[97], [98], [97, 97], [97, 98], [98, 97], [98, 98]]
theorem conR : conT2 3 tsR tbR w12 = true := by decide +kernel
theorem conS : conT2 3 tsS tbS w12 = true := by decide +kernel
theorem tsP_ok : WebOk 3 tsP := webOk_of (by decide +kernel)
theorem fairR : ¬ UnfairE 3 (Cl 3 tsR) := con_fairE2 conR (by decide +kernel)
theorem fairS : ¬ UnfairE 3 (Cl 3 tsS) := con_fairE2 conS (by decide +kernel)
theorem unfP : UnfairE 3 (Cl 3 tsP) := ⟨0, 2, 1, ⟨by decide, by decide⟩, ⟨by decide, by decide⟩, by decide, cl_word [97] (by decide +kernel)⟩
theorem TabV.tab {K : PySem.W.Frag} {n : Nat} {R : Pr → Pr → Prop} {U : Prop} {T : List (List Nat)} {v : V} {H : Hp} (tab : Tab n R T) (nu : ¬ U) (h : TabV n R U v H) : Dp K H v (tabD T) := by
  have := h.dp (K := K) tab
  unfold dU at this
  rwa [if_neg nu] at this
section
variable {P : Program} {w : World} {K : PySem.W.Frag} {mg : Str → Option Value} {base : Heap}
def spLaw (K : PySem.W.Frag) : Sp := fun vs H Q _ => ∃ (a : Addr) (ns : List Int), vs = [.ref a] ∧ SqL K H a (ns.map V.int) ∧ ∀ H', Q (.bl true) H'
theorem sq_own {K : PySem.W.Frag} {H : Hp} {a D : Addr} {xs : List V} (h : SqL K H a xs) (n : H D = none) : (∀ H', SqL K H' a xs) ∨ a ≠ D := by
  rcases h with (h | ⟨o, h⟩) | h
  · exact .inr (ne_of_none h n)
  · exact .inr (ne_of_none h n)
  · exact .inl fun _ => .inr h
theorem sq_upd {K : PySem.W.Frag} {H : Hp} {a D : Addr} {xs : List V} {o : HO} (d : (∀ H', SqL K H' a xs) ∨ a ≠ D) (h : SqL K H a xs) : SqL K (upd H D o) a xs := by
  rcases d with d | d
  · exact d _
  · rcases h with (h | ⟨o, h⟩) | h
    · exact .inl (.inl (put_ne h d))
    · exact .inl (.inr ⟨o, put_ne h d⟩)
    · exact .inr h
theorem sq_kp {K : PySem.W.Frag} {H H1 : Hp} {a c : Addr} {xs : List V} (h : SqL K H a xs) (k : Kp c H H1) (n : H c = none) : SqL K H1 a xs := by
  rcases h with (h | ⟨o, h⟩) | h
  · exact .inl (.inl (k _ _ h (ne_of_none h n) (fun ps z => by cases z)))
  · exact .inl (.inr ⟨o, k _ _ h (ne_of_none h n) (fun ps z => by cases z)⟩)
  · exact .inr h
set_option maxHeartbeats 8000000 in
theorem ok_law (F : RF P w K mg base) {f fR fC : Addr} {fd fdR fdC : FuncData} (FL : Fun K "law" "law" sLaw f fd) (GRight : FnG P w K mg base 10 fR fdR ["cup"] spRight) (bRight : Binds K fdR ["cup"] []) (mRight : mg "_law_right" = some (.ref fR)) (kRight : PySem.W.keepIn K (.ref fR) = true)
    (GCup : FnOk P w K mg base CX0 1 fC fdC ["script", "spot"] (spCup K)) (bCup : Binds K fdC ["script", "spot"] []) (mCup : mg "_law_cup" = some (.ref fC)) (kCup : PySem.W.keepIn K (.ref fC) = true) (mall : mg "all" = none) (mmax : mg "max" = none) (mmin : mg "min" = none) (mlen : mg "len" = none) :
    FnG P w K mg base 11 f fd ["script"] (spLaw K) := by
  refine fnG_of FL scLaw (fun vs H Q E h => ?_) (fun cdv A outer s H vs Q E hg10 h => ?_)
  · obtain ⟨a, ns, rfl, _⟩ := h
    rfl
  · obtain ⟨a, ns, rfl, ha, k⟩ := h
    have hr10 : Room 10 _ := hg10.room
    have hr9 : Room 9 _ := hr10.mono (by decide)
    have hr7 : Room 7 _ := hr10.mono (by decide)
    have hr1 : Room 1 _ := hr10.mono (by decide)
    have hr5 : Room 5 _ := hr10.mono (by decide)
    have hr4 : Room 4 _ := hr10.mono (by decide)
    have hr6 : Room 6 _ := hr10.mono (by decide)
    refine ⟨_, (C8.pss_cut (ps_if (PW.pt (pw_or (pt_val (pe_call F.GHab hr6 (by rfl) F.mHab F.kHab F.bHab .nil pass0 (pa_cons (pe_make F.MIni F.GIni hr7 rfl F.mIni F.bIni .nil pass0 (pa_cons pe_str pa_nil)) pa_nil))) (pw_or1 (pt_cmpR (op_neD hr10.units) (pe_call F.GBco hr5 (by rfl) F.mBco F.kBco F.bBco .nil pass0 (pa_cons (pe_make F.MIni F.GIni hr7 rfl F.mIni F.bIni .nil pass0 (pa_cons pe_str pa_nil)) pa_nil)) (pe_tup (pa_cons (pe_tup (pa_cons pe_int (pa_cons pe_int (pa_cons pe_int pa_nil)))) (pa_cons (pe_tup (pa_cons pe_int (pa_cons pe_int (pa_cons pe_int pa_nil)))) (pa_cons (pe_tup (pa_cons pe_int (pa_cons pe_int (pa_cons pe_int pa_nil)))) pa_nil)))) (nomark _))))) pss_never pss_nil) (C8.pss_cut (ps_if (pt_cmpR (op_neD hr10.units) (pe_call F.GBco hr5 (by rfl) F.mBco F.kBco F.bBco .nil pass0 (pa_cons (pe_make F.MIni F.GIni hr7 rfl F.mIni F.bIni .nil pass0 (pa_cons pe_str pa_nil)) pa_nil)) (pe_tup (pa_cons (pe_tup (pa_cons pe_int (pa_cons pe_int (pa_cons pe_int pa_nil)))) (pa_cons (pe_tup (pa_cons pe_int (pa_cons pe_int (pa_cons pe_int pa_nil)))) (pa_cons (pe_tup (pa_cons pe_int (pa_cons pe_int (pa_cons pe_int pa_nil)))) pa_nil)))) (nomark _)) pss_never pss_nil) (pss_one (ps_ret (pe_callB (cr_all rfl) (by rfl) mall (by decide +kernel) (pa_cons (pe_lc (own := [("spot", 1)]) (g := gName 1) (tt := tYes) rfl scLaw.nd (pi_range1 (by rfl) F.mrange (pa_cons (pe_callB (call_max2 rfl) (by rfl) mmax (by decide +kernel) (pa_cons pe_int (pa_cons (pe_callB (call_min2 rfl) (by rfl) mmin (by decide +kernel) (pa_cons (pe_callB call_len_seq (by rfl) mlen PySem.boot_len (pa_cons (pv 0) pa_nil)) (pa_cons pe_int pa_nil))) pa_nil))) pa_nil)) (blkOk_by (N := ["script", "spot"]) (own := [("spot", 1)]) (sc := defScope sLaw) (by decide +kernel)) (fun _ _ _ _ _ => (pg_name (i := 1) scLaw.nd rfl (.inl rfl))) (fun _ _ _ _ _ => pts_nil) (fun _ _ _ _ _ => (pe_callG GRight hg10 (by rfl) mRight kRight bRight pass0 (pa_cons (pe_call GCup hr1 (by rfl) mCup kCup bCup .nil pass0 (pa_cons (pv 0) (pa_cons (pv 1) pa_nil))) pa_nil)))) pa_nil)))))), ?_⟩
    have z3 : 3 ≤ sizeLine := by decide
    refine ⟨fun σ H' => Same H H' ∧ σ = [some (.ref a), none], ?_, ?_⟩
    · refine fun x dx nx nd ne => ⟨x, dx, tsP, tsP, 3, by rw [tsP_str]; rfl, upd_same, (by rw [nrm_map fun t ht => (tsP_ok.lt t ht).1]), tsP_ok, tsP_srt, fun H3 b3 wb _ => ⟨rfl, x, 3, tsP, rfl, wb, fun b H4 s4 hb => ⟨b, rfl, ?_⟩⟩⟩
      cases b with
      | true => exact absurd unfP (hb.mp rfl)
      | false =>
        refine iteF ?_
        refine fun x2 dx2 nx2 nd2 ne2 => ⟨x2, dx2, rsR, tsR, 3, by rw [rsR_str]; rfl, upd_same, rsR_perm, (con_tab2 conR).1, tsR_srt, fun H5 b5 wb2 _ => ⟨rfl, x2, 3, tsR, rfl, wb2, tabsp_of fun v2 H6 s6 t2 => ?_⟩⟩
        refine ⟨z3, fun q1 n1 => ⟨z3, fun q2 n2 => ⟨z3, fun q3 n3 => ⟨z3, fun q4 n4 => ?_⟩⟩⟩⟩
        have st := (((same_upd n1 (o := .tup [.int 0, .int 1, .int 2])).put n2 (o := .tup [.int 2, .int 0, .int 1])).put n3 (o := .tup [.int 1, .int 2, .int 0])).put n4 (o := .tup [.ref q1, .ref q2, .ref q3])
        refine ⟨tabD tbR, tabD tbR, (t2.same st).tab (con_tab2 conR).2.1 fairR, ?_, by decide +kernel, by decide +kernel, _, rfl, ?_⟩
        · exact .tup (SqT.of upd_same) (.cons (.tup (SqT.of (put_old (put_old (put_old upd_same n2) n3) n4)) (.cons (.int _) (.cons (.int _) (.cons (.int _) .nil)))) (.cons (.tup (SqT.of (put_old (put_old upd_same n3) n4)) (.cons (.int _) (.cons (.int _) (.cons (.int _) .nil)))) (.cons (.tup (SqT.of (put_old upd_same n4)) (.cons (.int _) (.cons (.int _) (.cons (.int _) .nil)))) .nil)))
        rw [show PyData.eqv (tabD tbR) (tabD tbR) = true by decide +kernel]
        exact iteF ⟨Same.trans (make_same b3 nx nd) (Same.trans s4 (Same.trans (make_same b5 nx2 nd2) (Same.trans s6 st))), rfl⟩
    rintro σ H2 ⟨s2, rfl⟩
    refine ⟨fun σ H' => Same H H' ∧ σ = [some (.ref a), none], ?_, ?_⟩
    · refine fun x dx nx nd ne => ⟨x, dx, tsS, tsS, 3, by rw [tsS_str]; rfl, upd_same, (by rw [nrm_map fun t ht => ((con_tab2 conS).1.lt t ht).1]), (con_tab2 conS).1, tsS_srt, fun H5 b5 wb2 _ => ⟨rfl, x, 3, tsS, rfl, wb2, tabsp_of fun v2 H6 s6 t2 => ?_⟩⟩
      refine ⟨z3, fun q1 n1 => ⟨z3, fun q2 n2 => ⟨z3, fun q3 n3 => ⟨z3, fun q4 n4 => ?_⟩⟩⟩⟩
      have st := (((same_upd n1 (o := .tup [.int 0, .int 1, .int 2])).put n2 (o := .tup [.int 1, .int 0, .int 3])).put n3 (o := .tup [.int 4, .int 3, .int 0])).put n4 (o := .tup [.ref q1, .ref q2, .ref q3])
      refine ⟨tabD tbS, tabD tbS, (t2.same st).tab (con_tab2 conS).2.1 fairS, ?_, by decide +kernel, by decide +kernel, _, rfl, ?_⟩
      · exact .tup (SqT.of upd_same) (.cons (.tup (SqT.of (put_old (put_old (put_old upd_same n2) n3) n4)) (.cons (.int _) (.cons (.int _) (.cons (.int _) .nil)))) (.cons (.tup (SqT.of (put_old (put_old upd_same n3) n4)) (.cons (.int _) (.cons (.int _) (.cons (.int _) .nil)))) (.cons (.tup (SqT.of (put_old upd_same n4)) (.cons (.int _) (.cons (.int _) (.cons (.int _) .nil)))) .nil)))
      rw [show PyData.eqv (tabD tbS) (tabD tbS) = true by decide +kernel]
      exact iteF ⟨Same.trans s2 (Same.trans (make_same b5 nx nd) (Same.trans s6 st)), rfl⟩
    rintro σ H4 ⟨s4, rfl⟩
    have ha4 := s4.seq ha
    refine ⟨_, rfl, a, _, rfl, .inl ha4, _, _, rfl, _, _, rfl, ?_⟩
    have hb : ∀ L : Int, 0 ≤ L → 0 ≤ (if (if 5 < L then 5 else L) > 2 then (if 5 < L then 5 else L) else 2) ∧ (if (if 5 < L then 5 else L) > 2 then (if 5 < L then 5 else L) else 2) ≤ 6 := fun L h => by
      split <;> split <;> omega
    have hb1 := hb ((ns.map V.int).length : Int) (by omega)
    refine ⟨_, rfl, ?_, ?_, fun D nD => ?_⟩
    · exact Int.le_trans (by decide) hb1.1
    · exact Int.lt_of_le_of_lt hb1.2 (by decide)
    have hb2 : (if (if 5 < ((ns.map V.int).length : Int) then 5 else ((ns.map V.int).length : Int)) > 2 then (if 5 < ((ns.map V.int).length : Int) then 5 else ((ns.map V.int).length : Int)) else 2).toNat ≤ 6 := by omega
    have own := sq_own ha4 nD
    refine lc_range (lo := 0) (n := _) (fun j H' => SqL K H' a (ns.map V.int) ∧ H' D = some (.lst ((List.replicate j true).map V.bl))) ⟨(same_upd nD).seq ha4, upd_same⟩ ?_ ?_
    · rintro j H3 hj ⟨ha3, hD⟩
      rw [show (0 : Int) + (j : Int) = (j : Int) from Int.zero_add _]
      refine ⟨rfl, _, rfl, _, rfl, a, ns, j, rfl, ha3, by omega, fun c H4 s4 nc cu4 => ⟨c, rfl, cu4, fun H5 kp5 cu5 => ?_⟩⟩
      have kk : Kp c H3 H5 := s4.kp.trans kp5
      have hD5 : H5 D = some (.lst ((List.replicate j true).map V.bl)) := kk _ _ hD (ne_of_none hD nc) (fun ps z => by cases z)
      refine ⟨_, hD5, ?_, ?_, ?_⟩
      · rw [List.length_map, List.length_replicate]
        exact small1000 (by omega)
      · exact sq_upd own (sq_kp ha3 kk nc)
      · rw [upd_same, List.replicate_succ', List.map_append]
        rfl
    · rintro H3 ⟨ha3, hD⟩
      refine ⟨D, _, rfl, SqL.of hD, ?_⟩
      rw [show (List.replicate _ true).all id = true from List.all_eq_true.mpr fun b hb => (List.mem_replicate.mp hb).2]
      exact k H3
end
end Wh

namespace Wh
open PySem PySem.Spec PyProof.Rows L2

theorem kit_ref {K : PySem.W.Frag} {A C : Addr} {b : Bool} (h : (Value.ref A == Value.ref C) = false) (hdct : PySem.W.hasDictIn K C = true) (ht : PySem.W.typeIn K (.ref C) = some (.type "type")) (hs : PySem.W.subIn K (.ref A) (.ref C) = some b) : PySem.W.kitOne K (.ref A) (.ref C) = some b := by
  obtain ⟨cd, hc, _⟩ := PySem.W.any_some hdct
  have e2 : ((PySem.W.clsIn K C).isSome && PySem.W.typeIn K (.ref C) == some (.type "type")) = true := by rw [hc, ht] <;> rfl
  show (if (Value.ref A == Value.ref C) = true then some true else if ((PySem.W.clsIn K C).isSome && PySem.W.typeIn K (.ref C) == some (.type "type")) = true then PySem.W.subIn K (.ref A) (.ref C) else none) = some b
  rw [h, if_neg Bool.false_ne_true, if_pos e2]
  exact hs
theorem kit_self {K : PySem.W.Frag} {A : Addr} : PySem.W.kitOne K (.ref A) (.ref A) = some true := by
  show (if (Value.ref A == Value.ref A) = true then some true else _) = some true
  rw [if_pos (by simp)]
theorem exm4 {K : PySem.W.Frag} {cls c1 c2 c3 c4 : Value} (h1 : PySem.W.exmOne K cls c1 = some false) (h2 : PySem.W.exmOne K cls c2 = some false) (h3 : PySem.W.exmOne K cls c3 = some true) (h4 : PySem.W.exmOne K cls c4 = some false) : PySem.W.exmAny K cls [c1, c2, c3, c4] = some true := by
  simp [PySem.W.exmAny, h1, h2, h3, h4]

set_option maxHeartbeats 8000000 in
theorem all_mk {l : PySem.W.OpenLaw} {w : World} {K : PySem.W.Frag} {h : Heap} {mg : Str → Option Value} {fa : Addr} (X : K.In h) (G : h.Ns mainGlobals mg) (hfa : mg "law" = some (.ref fa))
    {f_law_cup f_law_sip f_law_pick f_law_drawn f_law_text f_law_ways f_law_right f_law f_read_ties f_read_torn f_read_line f_may_be_mark f_read_house f_are_apart f_hang_together f_count_houses f_plain_text f_is_integer f_is_house f_is_mark f_doors_of f_read_number f_tie_between f_is_count f_is_index f_law_walk f_check_web f_head_of f_unite f_ends_beside f_parts_ends f_renumbered f_linked_table f_doors_back f_turned f_linked_back f_back_codes f_has_back f_law_good f_law_maps f_law_merged f_law_bound f_law_labels f_law_table f_law_parted f_law_due C f_Winit f_Wcheck_house p_Whouses f_Whouses p_Wmarks f_Wmarks p_Wties f_Wties : Addr}
    {od_law_cup an_law_cup : Option Addr} {sl_law_cup : Array (Option Value)} {kV_law_cup dc_law_cup pm_law_cup ct_law_cup cd_law_cup : Value}
    {od_law_sip an_law_sip : Option Addr} {sl_law_sip : Array (Option Value)} {kV_law_sip dc_law_sip pm_law_sip ct_law_sip cd_law_sip : Value}
    {od_law_pick an_law_pick : Option Addr} {sl_law_pick : Array (Option Value)} {kV_law_pick dc_law_pick pm_law_pick ct_law_pick cd_law_pick : Value}
    {od_law_drawn an_law_drawn : Option Addr} {sl_law_drawn : Array (Option Value)} {kV_law_drawn dc_law_drawn pm_law_drawn ct_law_drawn cd_law_drawn : Value}
    {od_law_text an_law_text : Option Addr} {sl_law_text : Array (Option Value)} {kV_law_text dc_law_text pm_law_text ct_law_text cd_law_text : Value}
    {od_law_ways an_law_ways : Option Addr} {sl_law_ways : Array (Option Value)} {kV_law_ways dc_law_ways pm_law_ways ct_law_ways cd_law_ways : Value}
    {od_law_right an_law_right : Option Addr} {sl_law_right : Array (Option Value)} {kV_law_right dc_law_right pm_law_right ct_law_right cd_law_right : Value}
    {od_law an_law : Option Addr} {sl_law : Array (Option Value)} {kV_law dc_law pm_law ct_law cd_law : Value}
    {od_read_ties an_read_ties : Option Addr} {sl_read_ties : Array (Option Value)} {kV_read_ties dc_read_ties pm_read_ties ct_read_ties cd_read_ties : Value}
    {od_read_torn an_read_torn : Option Addr} {sl_read_torn : Array (Option Value)} {kV_read_torn dc_read_torn pm_read_torn ct_read_torn cd_read_torn : Value}
    {od_read_line an_read_line : Option Addr} {sl_read_line : Array (Option Value)} {kV_read_line dc_read_line pm_read_line ct_read_line cd_read_line : Value}
    {od_may_be_mark an_may_be_mark : Option Addr} {sl_may_be_mark : Array (Option Value)} {kV_may_be_mark dc_may_be_mark pm_may_be_mark ct_may_be_mark cd_may_be_mark : Value}
    {od_read_house an_read_house : Option Addr} {sl_read_house : Array (Option Value)} {kV_read_house dc_read_house pm_read_house ct_read_house cd_read_house : Value}
    {od_are_apart an_are_apart : Option Addr} {sl_are_apart : Array (Option Value)} {kV_are_apart dc_are_apart pm_are_apart ct_are_apart cd_are_apart : Value}
    {od_hang_together an_hang_together : Option Addr} {sl_hang_together : Array (Option Value)} {kV_hang_together dc_hang_together pm_hang_together ct_hang_together cd_hang_together : Value}
    {od_count_houses an_count_houses : Option Addr} {sl_count_houses : Array (Option Value)} {kV_count_houses dc_count_houses pm_count_houses ct_count_houses cd_count_houses : Value}
    {od_plain_text an_plain_text : Option Addr} {sl_plain_text : Array (Option Value)} {kV_plain_text dc_plain_text pm_plain_text ct_plain_text cd_plain_text : Value}
    {od_is_integer an_is_integer : Option Addr} {sl_is_integer : Array (Option Value)} {kV_is_integer dc_is_integer pm_is_integer ct_is_integer cd_is_integer : Value}
    {od_is_house an_is_house : Option Addr} {sl_is_house : Array (Option Value)} {kV_is_house dc_is_house pm_is_house ct_is_house cd_is_house : Value}
    {od_is_mark an_is_mark : Option Addr} {sl_is_mark : Array (Option Value)} {kV_is_mark dc_is_mark pm_is_mark ct_is_mark cd_is_mark : Value}
    {od_doors_of an_doors_of : Option Addr} {sl_doors_of : Array (Option Value)} {kV_doors_of dc_doors_of pm_doors_of ct_doors_of cd_doors_of : Value}
    {od_read_number an_read_number : Option Addr} {sl_read_number : Array (Option Value)} {kV_read_number dc_read_number pm_read_number ct_read_number cd_read_number : Value}
    {od_tie_between an_tie_between : Option Addr} {sl_tie_between : Array (Option Value)} {kV_tie_between dc_tie_between pm_tie_between ct_tie_between cd_tie_between : Value}
    {od_is_count an_is_count : Option Addr} {sl_is_count : Array (Option Value)} {kV_is_count dc_is_count pm_is_count ct_is_count cd_is_count : Value}
    {od_is_index an_is_index : Option Addr} {sl_is_index : Array (Option Value)} {kV_is_index dc_is_index pm_is_index ct_is_index cd_is_index : Value}
    {od_law_walk an_law_walk : Option Addr} {sl_law_walk : Array (Option Value)} {kV_law_walk dc_law_walk pm_law_walk ct_law_walk cd_law_walk : Value}
    {od_check_web an_check_web : Option Addr} {sl_check_web : Array (Option Value)} {kV_check_web dc_check_web pm_check_web ct_check_web cd_check_web : Value}
    {od_head_of an_head_of : Option Addr} {sl_head_of : Array (Option Value)} {kV_head_of dc_head_of pm_head_of ct_head_of cd_head_of : Value}
    {od_unite an_unite : Option Addr} {sl_unite : Array (Option Value)} {kV_unite dc_unite pm_unite ct_unite cd_unite : Value}
    {od_ends_beside an_ends_beside : Option Addr} {sl_ends_beside : Array (Option Value)} {kV_ends_beside dc_ends_beside pm_ends_beside ct_ends_beside cd_ends_beside : Value}
    {od_parts_ends an_parts_ends : Option Addr} {sl_parts_ends : Array (Option Value)} {kV_parts_ends dc_parts_ends pm_parts_ends ct_parts_ends cd_parts_ends : Value}
    {od_renumbered an_renumbered : Option Addr} {sl_renumbered : Array (Option Value)} {kV_renumbered dc_renumbered pm_renumbered ct_renumbered cd_renumbered : Value}
    {od_linked_table an_linked_table : Option Addr} {sl_linked_table : Array (Option Value)} {kV_linked_table dc_linked_table pm_linked_table ct_linked_table cd_linked_table : Value}
    {od_doors_back an_doors_back : Option Addr} {sl_doors_back : Array (Option Value)} {kV_doors_back dc_doors_back pm_doors_back ct_doors_back cd_doors_back : Value}
    {od_turned an_turned : Option Addr} {sl_turned : Array (Option Value)} {kV_turned dc_turned pm_turned ct_turned cd_turned : Value}
    {od_linked_back an_linked_back : Option Addr} {sl_linked_back : Array (Option Value)} {kV_linked_back dc_linked_back pm_linked_back ct_linked_back cd_linked_back : Value}
    {od_back_codes an_back_codes : Option Addr} {sl_back_codes : Array (Option Value)} {kV_back_codes dc_back_codes pm_back_codes ct_back_codes cd_back_codes : Value}
    {od_has_back an_has_back : Option Addr} {sl_has_back : Array (Option Value)} {kV_has_back dc_has_back pm_has_back ct_has_back cd_has_back : Value}
    {od_law_good an_law_good : Option Addr} {sl_law_good : Array (Option Value)} {kV_law_good dc_law_good pm_law_good ct_law_good cd_law_good : Value}
    {od_law_maps an_law_maps : Option Addr} {sl_law_maps : Array (Option Value)} {kV_law_maps dc_law_maps pm_law_maps ct_law_maps cd_law_maps : Value}
    {od_law_merged an_law_merged : Option Addr} {sl_law_merged : Array (Option Value)} {kV_law_merged dc_law_merged pm_law_merged ct_law_merged cd_law_merged : Value}
    {od_law_bound an_law_bound : Option Addr} {sl_law_bound : Array (Option Value)} {kV_law_bound dc_law_bound pm_law_bound ct_law_bound cd_law_bound : Value}
    {od_law_labels an_law_labels : Option Addr} {sl_law_labels : Array (Option Value)} {kV_law_labels dc_law_labels pm_law_labels ct_law_labels cd_law_labels : Value}
    {od_law_table an_law_table : Option Addr} {sl_law_table : Array (Option Value)} {kV_law_table dc_law_table pm_law_table ct_law_table cd_law_table : Value}
    {od_law_parted an_law_parted : Option Addr} {sl_law_parted : Array (Option Value)} {kV_law_parted dc_law_parted pm_law_parted ct_law_parted cd_law_parted : Value}
    {od_law_due an_law_due : Option Addr} {sl_law_due : Array (Option Value)} {kV_law_due dc_law_due pm_law_due ct_law_due cd_law_due : Value}
    {od_Winit an_Winit : Option Addr} {sl_Winit : Array (Option Value)} {kV_Winit dc_Winit pm_Winit ct_Winit cd_Winit : Value}
    {od_Wcheck_house an_Wcheck_house : Option Addr} {sl_Wcheck_house : Array (Option Value)} {kV_Wcheck_house dc_Wcheck_house pm_Wcheck_house ct_Wcheck_house cd_Wcheck_house : Value}
    {rs_Whouses : List Value}
    {od_Whouses an_Whouses : Option Addr} {sl_Whouses : Array (Option Value)} {kV_Whouses dc_Whouses pm_Whouses ct_Whouses cd_Whouses : Value}
    {rs_Wmarks : List Value}
    {od_Wmarks an_Wmarks : Option Addr} {sl_Wmarks : Array (Option Value)} {kV_Wmarks dc_Wmarks pm_Wmarks ct_Wmarks cd_Wmarks : Value}
    {rs_Wties : List Value}
    {od_Wties an_Wties : Option Addr} {sl_Wties : Array (Option Value)} {kV_Wties dc_Wties pm_Wties ct_Wties cd_Wties : Value}
    {tk_MOST_HOUSES : Tok}
    {tk_MARKS : Tok}
    {tk_UNREAD : Tok}
    (a_law_cup : PySem.W.nsIn K mainGlobals "_law_cup" = some (some (.ref f_law_cup)))
    (l_law_cup : K.lookup f_law_cup = some ⟨.type "function", od_law_cup, .func (PySem.W.fnOf "_law_cup" "_law_cup" (defArgs sCup) (defBody sCup) (defScope sCup) .none kV_law_cup dc_law_cup pm_law_cup an_law_cup cd_law_cup ct_law_cup), sl_law_cup⟩)
    (c_law_cup : PySem.W.codeIn K cd_law_cup "_law_cup" = true)
    (k_law_cup : PySem.W.keepIn K (.ref f_law_cup) = true)
    (a_law_sip : PySem.W.nsIn K mainGlobals "_law_sip" = some (some (.ref f_law_sip)))
    (l_law_sip : K.lookup f_law_sip = some ⟨.type "function", od_law_sip, .func (PySem.W.fnOf "_law_sip" "_law_sip" (defArgs sSip) (defBody sSip) (defScope sSip) .none kV_law_sip dc_law_sip pm_law_sip an_law_sip cd_law_sip ct_law_sip), sl_law_sip⟩)
    (c_law_sip : PySem.W.codeIn K cd_law_sip "_law_sip" = true)
    (k_law_sip : PySem.W.keepIn K (.ref f_law_sip) = true)
    (a_law_pick : PySem.W.nsIn K mainGlobals "_law_pick" = some (some (.ref f_law_pick)))
    (l_law_pick : K.lookup f_law_pick = some ⟨.type "function", od_law_pick, .func (PySem.W.fnOf "_law_pick" "_law_pick" (defArgs sPick) (defBody sPick) (defScope sPick) .none kV_law_pick dc_law_pick pm_law_pick an_law_pick cd_law_pick ct_law_pick), sl_law_pick⟩)
    (c_law_pick : PySem.W.codeIn K cd_law_pick "_law_pick" = true)
    (k_law_pick : PySem.W.keepIn K (.ref f_law_pick) = true)
    (a_law_drawn : PySem.W.nsIn K mainGlobals "_law_drawn" = some (some (.ref f_law_drawn)))
    (l_law_drawn : K.lookup f_law_drawn = some ⟨.type "function", od_law_drawn, .func (PySem.W.fnOf "_law_drawn" "_law_drawn" (defArgs sDrawn) (defBody sDrawn) (defScope sDrawn) .none kV_law_drawn dc_law_drawn pm_law_drawn an_law_drawn cd_law_drawn ct_law_drawn), sl_law_drawn⟩)
    (c_law_drawn : PySem.W.codeIn K cd_law_drawn "_law_drawn" = true)
    (k_law_drawn : PySem.W.keepIn K (.ref f_law_drawn) = true)
    (a_law_text : PySem.W.nsIn K mainGlobals "_law_text" = some (some (.ref f_law_text)))
    (l_law_text : K.lookup f_law_text = some ⟨.type "function", od_law_text, .func (PySem.W.fnOf "_law_text" "_law_text" (defArgs sText) (defBody sText) (defScope sText) .none kV_law_text dc_law_text pm_law_text an_law_text cd_law_text ct_law_text), sl_law_text⟩)
    (c_law_text : PySem.W.codeIn K cd_law_text "_law_text" = true)
    (k_law_text : PySem.W.keepIn K (.ref f_law_text) = true)
    (a_law_ways : PySem.W.nsIn K mainGlobals "_law_ways" = some (some (.ref f_law_ways)))
    (l_law_ways : K.lookup f_law_ways = some ⟨.type "function", od_law_ways, .func (PySem.W.fnOf "_law_ways" "_law_ways" (defArgs sWays) (defBody sWays) (defScope sWays) .none kV_law_ways dc_law_ways pm_law_ways an_law_ways cd_law_ways ct_law_ways), sl_law_ways⟩)
    (c_law_ways : PySem.W.codeIn K cd_law_ways "_law_ways" = true)
    (k_law_ways : PySem.W.keepIn K (.ref f_law_ways) = true)
    (a_law_right : PySem.W.nsIn K mainGlobals "_law_right" = some (some (.ref f_law_right)))
    (l_law_right : K.lookup f_law_right = some ⟨.type "function", od_law_right, .func (PySem.W.fnOf "_law_right" "_law_right" (defArgs sRight) (defBody sRight) (defScope sRight) .none kV_law_right dc_law_right pm_law_right an_law_right cd_law_right ct_law_right), sl_law_right⟩)
    (c_law_right : PySem.W.codeIn K cd_law_right "_law_right" = true)
    (k_law_right : PySem.W.keepIn K (.ref f_law_right) = true)
    (a_law : PySem.W.nsIn K mainGlobals "law" = some (some (.ref f_law)))
    (l_law : K.lookup f_law = some ⟨.type "function", od_law, .func (PySem.W.fnOf "law" "law" (defArgs sLaw) (defBody sLaw) (defScope sLaw) .none kV_law dc_law pm_law an_law cd_law ct_law), sl_law⟩)
    (c_law : PySem.W.codeIn K cd_law "law" = true)
    (k_law : PySem.W.keepIn K (.ref f_law) = true)
    (a_read_ties : PySem.W.nsIn K mainGlobals "read_ties" = some (some (.ref f_read_ties)))
    (l_read_ties : K.lookup f_read_ties = some ⟨.type "function", od_read_ties, .func (PySem.W.fnOf "read_ties" "read_ties" (defArgs sTies) (defBody sTies) (defScope sTies) .none kV_read_ties dc_read_ties pm_read_ties an_read_ties cd_read_ties ct_read_ties), sl_read_ties⟩)
    (c_read_ties : PySem.W.codeIn K cd_read_ties "read_ties" = true)
    (k_read_ties : PySem.W.keepIn K (.ref f_read_ties) = true)
    (a_read_torn : PySem.W.nsIn K mainGlobals "read_torn" = some (some (.ref f_read_torn)))
    (l_read_torn : K.lookup f_read_torn = some ⟨.type "function", od_read_torn, .func (PySem.W.fnOf "read_torn" "read_torn" (defArgs sTorn) (defBody sTorn) (defScope sTorn) .none kV_read_torn dc_read_torn pm_read_torn an_read_torn cd_read_torn ct_read_torn), sl_read_torn⟩)
    (c_read_torn : PySem.W.codeIn K cd_read_torn "read_torn" = true)
    (k_read_torn : PySem.W.keepIn K (.ref f_read_torn) = true)
    (a_read_line : PySem.W.nsIn K mainGlobals "read_line" = some (some (.ref f_read_line)))
    (l_read_line : K.lookup f_read_line = some ⟨.type "function", od_read_line, .func (PySem.W.fnOf "read_line" "read_line" (defArgs sLine) (defBody sLine) (defScope sLine) .none kV_read_line dc_read_line pm_read_line an_read_line cd_read_line ct_read_line), sl_read_line⟩)
    (c_read_line : PySem.W.codeIn K cd_read_line "read_line" = true)
    (k_read_line : PySem.W.keepIn K (.ref f_read_line) = true)
    (a_may_be_mark : PySem.W.nsIn K mainGlobals "may_be_mark" = some (some (.ref f_may_be_mark)))
    (l_may_be_mark : K.lookup f_may_be_mark = some ⟨.type "function", od_may_be_mark, .func (PySem.W.fnOf "may_be_mark" "may_be_mark" (defArgs sMay) (defBody sMay) (defScope sMay) .none kV_may_be_mark dc_may_be_mark pm_may_be_mark an_may_be_mark cd_may_be_mark ct_may_be_mark), sl_may_be_mark⟩)
    (c_may_be_mark : PySem.W.codeIn K cd_may_be_mark "may_be_mark" = true)
    (k_may_be_mark : PySem.W.keepIn K (.ref f_may_be_mark) = true)
    (a_read_house : PySem.W.nsIn K mainGlobals "read_house" = some (some (.ref f_read_house)))
    (l_read_house : K.lookup f_read_house = some ⟨.type "function", od_read_house, .func (PySem.W.fnOf "read_house" "read_house" (defArgs sRHouse) (defBody sRHouse) (defScope sRHouse) .none kV_read_house dc_read_house pm_read_house an_read_house cd_read_house ct_read_house), sl_read_house⟩)
    (c_read_house : PySem.W.codeIn K cd_read_house "read_house" = true)
    (k_read_house : PySem.W.keepIn K (.ref f_read_house) = true)
    (a_are_apart : PySem.W.nsIn K mainGlobals "are_apart" = some (some (.ref f_are_apart)))
    (l_are_apart : K.lookup f_are_apart = some ⟨.type "function", od_are_apart, .func (PySem.W.fnOf "are_apart" "are_apart" (defArgs sApart) (defBody sApart) (defScope sApart) .none kV_are_apart dc_are_apart pm_are_apart an_are_apart cd_are_apart ct_are_apart), sl_are_apart⟩)
    (c_are_apart : PySem.W.codeIn K cd_are_apart "are_apart" = true)
    (k_are_apart : PySem.W.keepIn K (.ref f_are_apart) = true)
    (a_hang_together : PySem.W.nsIn K mainGlobals "hang_together" = some (some (.ref f_hang_together)))
    (l_hang_together : K.lookup f_hang_together = some ⟨.type "function", od_hang_together, .func (PySem.W.fnOf "hang_together" "hang_together" (defArgs sHang) (defBody sHang) (defScope sHang) .none kV_hang_together dc_hang_together pm_hang_together an_hang_together cd_hang_together ct_hang_together), sl_hang_together⟩)
    (c_hang_together : PySem.W.codeIn K cd_hang_together "hang_together" = true)
    (k_hang_together : PySem.W.keepIn K (.ref f_hang_together) = true)
    (a_count_houses : PySem.W.nsIn K mainGlobals "count_houses" = some (some (.ref f_count_houses)))
    (l_count_houses : K.lookup f_count_houses = some ⟨.type "function", od_count_houses, .func (PySem.W.fnOf "count_houses" "count_houses" (defArgs sCount) (defBody sCount) (defScope sCount) .none kV_count_houses dc_count_houses pm_count_houses an_count_houses cd_count_houses ct_count_houses), sl_count_houses⟩)
    (c_count_houses : PySem.W.codeIn K cd_count_houses "count_houses" = true)
    (k_count_houses : PySem.W.keepIn K (.ref f_count_houses) = true)
    (a_plain_text : PySem.W.nsIn K mainGlobals "plain_text" = some (some (.ref f_plain_text)))
    (l_plain_text : K.lookup f_plain_text = some ⟨.type "function", od_plain_text, .func (PySem.W.fnOf "plain_text" "plain_text" (defArgs sPlain) (defBody sPlain) (defScope sPlain) .none kV_plain_text dc_plain_text pm_plain_text an_plain_text cd_plain_text ct_plain_text), sl_plain_text⟩)
    (c_plain_text : PySem.W.codeIn K cd_plain_text "plain_text" = true)
    (k_plain_text : PySem.W.keepIn K (.ref f_plain_text) = true)
    (a_is_integer : PySem.W.nsIn K mainGlobals "is_integer" = some (some (.ref f_is_integer)))
    (l_is_integer : K.lookup f_is_integer = some ⟨.type "function", od_is_integer, .func (PySem.W.fnOf "is_integer" "is_integer" (defArgs sInt) (defBody sInt) (defScope sInt) .none kV_is_integer dc_is_integer pm_is_integer an_is_integer cd_is_integer ct_is_integer), sl_is_integer⟩)
    (c_is_integer : PySem.W.codeIn K cd_is_integer "is_integer" = true)
    (k_is_integer : PySem.W.keepIn K (.ref f_is_integer) = true)
    (a_is_house : PySem.W.nsIn K mainGlobals "is_house" = some (some (.ref f_is_house)))
    (l_is_house : K.lookup f_is_house = some ⟨.type "function", od_is_house, .func (PySem.W.fnOf "is_house" "is_house" (defArgs sHouse) (defBody sHouse) (defScope sHouse) .none kV_is_house dc_is_house pm_is_house an_is_house cd_is_house ct_is_house), sl_is_house⟩)
    (c_is_house : PySem.W.codeIn K cd_is_house "is_house" = true)
    (k_is_house : PySem.W.keepIn K (.ref f_is_house) = true)
    (a_is_mark : PySem.W.nsIn K mainGlobals "is_mark" = some (some (.ref f_is_mark)))
    (l_is_mark : K.lookup f_is_mark = some ⟨.type "function", od_is_mark, .func (PySem.W.fnOf "is_mark" "is_mark" (defArgs sMark) (defBody sMark) (defScope sMark) .none kV_is_mark dc_is_mark pm_is_mark an_is_mark cd_is_mark ct_is_mark), sl_is_mark⟩)
    (c_is_mark : PySem.W.codeIn K cd_is_mark "is_mark" = true)
    (k_is_mark : PySem.W.keepIn K (.ref f_is_mark) = true)
    (a_doors_of : PySem.W.nsIn K mainGlobals "doors_of" = some (some (.ref f_doors_of)))
    (l_doors_of : K.lookup f_doors_of = some ⟨.type "function", od_doors_of, .func (PySem.W.fnOf "doors_of" "doors_of" (defArgs sDoors) (defBody sDoors) (defScope sDoors) .none kV_doors_of dc_doors_of pm_doors_of an_doors_of cd_doors_of ct_doors_of), sl_doors_of⟩)
    (c_doors_of : PySem.W.codeIn K cd_doors_of "doors_of" = true)
    (k_doors_of : PySem.W.keepIn K (.ref f_doors_of) = true)
    (a_read_number : PySem.W.nsIn K mainGlobals "read_number" = some (some (.ref f_read_number)))
    (l_read_number : K.lookup f_read_number = some ⟨.type "function", od_read_number, .func (PySem.W.fnOf "read_number" "read_number" (defArgs sRNum) (defBody sRNum) (defScope sRNum) .none kV_read_number dc_read_number pm_read_number an_read_number cd_read_number ct_read_number), sl_read_number⟩)
    (c_read_number : PySem.W.codeIn K cd_read_number "read_number" = true)
    (k_read_number : PySem.W.keepIn K (.ref f_read_number) = true)
    (a_tie_between : PySem.W.nsIn K mainGlobals "tie_between" = some (some (.ref f_tie_between)))
    (l_tie_between : K.lookup f_tie_between = some ⟨.type "function", od_tie_between, .func (PySem.W.fnOf "tie_between" "tie_between" (defArgs sBetw) (defBody sBetw) (defScope sBetw) .none kV_tie_between dc_tie_between pm_tie_between an_tie_between cd_tie_between ct_tie_between), sl_tie_between⟩)
    (c_tie_between : PySem.W.codeIn K cd_tie_between "tie_between" = true)
    (k_tie_between : PySem.W.keepIn K (.ref f_tie_between) = true)
    (a_is_count : PySem.W.nsIn K mainGlobals "is_count" = some (some (.ref f_is_count)))
    (l_is_count : K.lookup f_is_count = some ⟨.type "function", od_is_count, .func (PySem.W.fnOf "is_count" "is_count" (defArgs sCountK) (defBody sCountK) (defScope sCountK) .none kV_is_count dc_is_count pm_is_count an_is_count cd_is_count ct_is_count), sl_is_count⟩)
    (c_is_count : PySem.W.codeIn K cd_is_count "is_count" = true)
    (k_is_count : PySem.W.keepIn K (.ref f_is_count) = true)
    (a_is_index : PySem.W.nsIn K mainGlobals "is_index" = some (some (.ref f_is_index)))
    (l_is_index : K.lookup f_is_index = some ⟨.type "function", od_is_index, .func (PySem.W.fnOf "is_index" "is_index" (defArgs sIndex) (defBody sIndex) (defScope sIndex) .none kV_is_index dc_is_index pm_is_index an_is_index cd_is_index ct_is_index), sl_is_index⟩)
    (c_is_index : PySem.W.codeIn K cd_is_index "is_index" = true)
    (k_is_index : PySem.W.keepIn K (.ref f_is_index) = true)
    (a_law_walk : PySem.W.nsIn K mainGlobals "_law_walk" = some (some (.ref f_law_walk)))
    (l_law_walk : K.lookup f_law_walk = some ⟨.type "function", od_law_walk, .func (PySem.W.fnOf "_law_walk" "_law_walk" (defArgs sWalk) (defBody sWalk) (defScope sWalk) .none kV_law_walk dc_law_walk pm_law_walk an_law_walk cd_law_walk ct_law_walk), sl_law_walk⟩)
    (c_law_walk : PySem.W.codeIn K cd_law_walk "_law_walk" = true)
    (k_law_walk : PySem.W.keepIn K (.ref f_law_walk) = true)
    (a_check_web : PySem.W.nsIn K mainGlobals "check_web" = some (some (.ref f_check_web)))
    (l_check_web : K.lookup f_check_web = some ⟨.type "function", od_check_web, .func (PySem.W.fnOf "check_web" "check_web" (defArgs sCkWeb) (defBody sCkWeb) (defScope sCkWeb) .none kV_check_web dc_check_web pm_check_web an_check_web cd_check_web ct_check_web), sl_check_web⟩)
    (c_check_web : PySem.W.codeIn K cd_check_web "check_web" = true)
    (k_check_web : PySem.W.keepIn K (.ref f_check_web) = true)
    (a_head_of : PySem.W.nsIn K mainGlobals "head_of" = some (some (.ref f_head_of)))
    (l_head_of : K.lookup f_head_of = some ⟨.type "function", od_head_of, .func (PySem.W.fnOf "head_of" "head_of" (defArgs sHead) (defBody sHead) (defScope sHead) .none kV_head_of dc_head_of pm_head_of an_head_of cd_head_of ct_head_of), sl_head_of⟩)
    (c_head_of : PySem.W.codeIn K cd_head_of "head_of" = true)
    (k_head_of : PySem.W.keepIn K (.ref f_head_of) = true)
    (a_unite : PySem.W.nsIn K mainGlobals "unite" = some (some (.ref f_unite)))
    (l_unite : K.lookup f_unite = some ⟨.type "function", od_unite, .func (PySem.W.fnOf "unite" "unite" (defArgs sUnite) (defBody sUnite) (defScope sUnite) .none kV_unite dc_unite pm_unite an_unite cd_unite ct_unite), sl_unite⟩)
    (c_unite : PySem.W.codeIn K cd_unite "unite" = true)
    (k_unite : PySem.W.keepIn K (.ref f_unite) = true)
    (a_ends_beside : PySem.W.nsIn K mainGlobals "ends_beside" = some (some (.ref f_ends_beside)))
    (l_ends_beside : K.lookup f_ends_beside = some ⟨.type "function", od_ends_beside, .func (PySem.W.fnOf "ends_beside" "ends_beside" (defArgs sEnds) (defBody sEnds) (defScope sEnds) .none kV_ends_beside dc_ends_beside pm_ends_beside an_ends_beside cd_ends_beside ct_ends_beside), sl_ends_beside⟩)
    (c_ends_beside : PySem.W.codeIn K cd_ends_beside "ends_beside" = true)
    (k_ends_beside : PySem.W.keepIn K (.ref f_ends_beside) = true)
    (a_parts_ends : PySem.W.nsIn K mainGlobals "parts_ends" = some (some (.ref f_parts_ends)))
    (l_parts_ends : K.lookup f_parts_ends = some ⟨.type "function", od_parts_ends, .func (PySem.W.fnOf "parts_ends" "parts_ends" (defArgs sParts) (defBody sParts) (defScope sParts) .none kV_parts_ends dc_parts_ends pm_parts_ends an_parts_ends cd_parts_ends ct_parts_ends), sl_parts_ends⟩)
    (c_parts_ends : PySem.W.codeIn K cd_parts_ends "parts_ends" = true)
    (k_parts_ends : PySem.W.keepIn K (.ref f_parts_ends) = true)
    (a_renumbered : PySem.W.nsIn K mainGlobals "renumbered" = some (some (.ref f_renumbered)))
    (l_renumbered : K.lookup f_renumbered = some ⟨.type "function", od_renumbered, .func (PySem.W.fnOf "renumbered" "renumbered" (defArgs sRenum) (defBody sRenum) (defScope sRenum) .none kV_renumbered dc_renumbered pm_renumbered an_renumbered cd_renumbered ct_renumbered), sl_renumbered⟩)
    (c_renumbered : PySem.W.codeIn K cd_renumbered "renumbered" = true)
    (k_renumbered : PySem.W.keepIn K (.ref f_renumbered) = true)
    (a_linked_table : PySem.W.nsIn K mainGlobals "linked_table" = some (some (.ref f_linked_table)))
    (l_linked_table : K.lookup f_linked_table = some ⟨.type "function", od_linked_table, .func (PySem.W.fnOf "linked_table" "linked_table" (defArgs sLinked) (defBody sLinked) (defScope sLinked) .none kV_linked_table dc_linked_table pm_linked_table an_linked_table cd_linked_table ct_linked_table), sl_linked_table⟩)
    (c_linked_table : PySem.W.codeIn K cd_linked_table "linked_table" = true)
    (k_linked_table : PySem.W.keepIn K (.ref f_linked_table) = true)
    (a_doors_back : PySem.W.nsIn K mainGlobals "doors_back" = some (some (.ref f_doors_back)))
    (l_doors_back : K.lookup f_doors_back = some ⟨.type "function", od_doors_back, .func (PySem.W.fnOf "doors_back" "doors_back" (defArgs sDBack) (defBody sDBack) (defScope sDBack) .none kV_doors_back dc_doors_back pm_doors_back an_doors_back cd_doors_back ct_doors_back), sl_doors_back⟩)
    (c_doors_back : PySem.W.codeIn K cd_doors_back "doors_back" = true)
    (k_doors_back : PySem.W.keepIn K (.ref f_doors_back) = true)
    (a_turned : PySem.W.nsIn K mainGlobals "turned" = some (some (.ref f_turned)))
    (l_turned : K.lookup f_turned = some ⟨.type "function", od_turned, .func (PySem.W.fnOf "turned" "turned" (defArgs sTurned) (defBody sTurned) (defScope sTurned) .none kV_turned dc_turned pm_turned an_turned cd_turned ct_turned), sl_turned⟩)
    (c_turned : PySem.W.codeIn K cd_turned "turned" = true)
    (k_turned : PySem.W.keepIn K (.ref f_turned) = true)
    (a_linked_back : PySem.W.nsIn K mainGlobals "linked_back" = some (some (.ref f_linked_back)))
    (l_linked_back : K.lookup f_linked_back = some ⟨.type "function", od_linked_back, .func (PySem.W.fnOf "linked_back" "linked_back" (defArgs sLBack) (defBody sLBack) (defScope sLBack) .none kV_linked_back dc_linked_back pm_linked_back an_linked_back cd_linked_back ct_linked_back), sl_linked_back⟩)
    (c_linked_back : PySem.W.codeIn K cd_linked_back "linked_back" = true)
    (k_linked_back : PySem.W.keepIn K (.ref f_linked_back) = true)
    (a_back_codes : PySem.W.nsIn K mainGlobals "back_codes" = some (some (.ref f_back_codes)))
    (l_back_codes : K.lookup f_back_codes = some ⟨.type "function", od_back_codes, .func (PySem.W.fnOf "back_codes" "back_codes" (defArgs sBCodes) (defBody sBCodes) (defScope sBCodes) .none kV_back_codes dc_back_codes pm_back_codes an_back_codes cd_back_codes ct_back_codes), sl_back_codes⟩)
    (c_back_codes : PySem.W.codeIn K cd_back_codes "back_codes" = true)
    (k_back_codes : PySem.W.keepIn K (.ref f_back_codes) = true)
    (a_has_back : PySem.W.nsIn K mainGlobals "has_back" = some (some (.ref f_has_back)))
    (l_has_back : K.lookup f_has_back = some ⟨.type "function", od_has_back, .func (PySem.W.fnOf "has_back" "has_back" (defArgs sHasB) (defBody sHasB) (defScope sHasB) .none kV_has_back dc_has_back pm_has_back an_has_back cd_has_back ct_has_back), sl_has_back⟩)
    (c_has_back : PySem.W.codeIn K cd_has_back "has_back" = true)
    (k_has_back : PySem.W.keepIn K (.ref f_has_back) = true)
    (a_law_good : PySem.W.nsIn K mainGlobals "_law_good" = some (some (.ref f_law_good)))
    (l_law_good : K.lookup f_law_good = some ⟨.type "function", od_law_good, .func (PySem.W.fnOf "_law_good" "_law_good" (defArgs sGood) (defBody sGood) (defScope sGood) .none kV_law_good dc_law_good pm_law_good an_law_good cd_law_good ct_law_good), sl_law_good⟩)
    (c_law_good : PySem.W.codeIn K cd_law_good "_law_good" = true)
    (k_law_good : PySem.W.keepIn K (.ref f_law_good) = true)
    (a_law_maps : PySem.W.nsIn K mainGlobals "_law_maps" = some (some (.ref f_law_maps)))
    (l_law_maps : K.lookup f_law_maps = some ⟨.type "function", od_law_maps, .func (PySem.W.fnOf "_law_maps" "_law_maps" (defArgs sMaps) (defBody sMaps) (defScope sMaps) .none kV_law_maps dc_law_maps pm_law_maps an_law_maps cd_law_maps ct_law_maps), sl_law_maps⟩)
    (c_law_maps : PySem.W.codeIn K cd_law_maps "_law_maps" = true)
    (k_law_maps : PySem.W.keepIn K (.ref f_law_maps) = true)
    (a_law_merged : PySem.W.nsIn K mainGlobals "_law_merged" = some (some (.ref f_law_merged)))
    (l_law_merged : K.lookup f_law_merged = some ⟨.type "function", od_law_merged, .func (PySem.W.fnOf "_law_merged" "_law_merged" (defArgs sMerged) (defBody sMerged) (defScope sMerged) .none kV_law_merged dc_law_merged pm_law_merged an_law_merged cd_law_merged ct_law_merged), sl_law_merged⟩)
    (c_law_merged : PySem.W.codeIn K cd_law_merged "_law_merged" = true)
    (k_law_merged : PySem.W.keepIn K (.ref f_law_merged) = true)
    (a_law_bound : PySem.W.nsIn K mainGlobals "_law_bound" = some (some (.ref f_law_bound)))
    (l_law_bound : K.lookup f_law_bound = some ⟨.type "function", od_law_bound, .func (PySem.W.fnOf "_law_bound" "_law_bound" (defArgs sLBound) (defBody sLBound) (defScope sLBound) .none kV_law_bound dc_law_bound pm_law_bound an_law_bound cd_law_bound ct_law_bound), sl_law_bound⟩)
    (c_law_bound : PySem.W.codeIn K cd_law_bound "_law_bound" = true)
    (k_law_bound : PySem.W.keepIn K (.ref f_law_bound) = true)
    (a_law_labels : PySem.W.nsIn K mainGlobals "_law_labels" = some (some (.ref f_law_labels)))
    (l_law_labels : K.lookup f_law_labels = some ⟨.type "function", od_law_labels, .func (PySem.W.fnOf "_law_labels" "_law_labels" (defArgs sLabels) (defBody sLabels) (defScope sLabels) .none kV_law_labels dc_law_labels pm_law_labels an_law_labels cd_law_labels ct_law_labels), sl_law_labels⟩)
    (c_law_labels : PySem.W.codeIn K cd_law_labels "_law_labels" = true)
    (k_law_labels : PySem.W.keepIn K (.ref f_law_labels) = true)
    (a_law_table : PySem.W.nsIn K mainGlobals "_law_table" = some (some (.ref f_law_table)))
    (l_law_table : K.lookup f_law_table = some ⟨.type "function", od_law_table, .func (PySem.W.fnOf "_law_table" "_law_table" (defArgs sLTable) (defBody sLTable) (defScope sLTable) .none kV_law_table dc_law_table pm_law_table an_law_table cd_law_table ct_law_table), sl_law_table⟩)
    (c_law_table : PySem.W.codeIn K cd_law_table "_law_table" = true)
    (k_law_table : PySem.W.keepIn K (.ref f_law_table) = true)
    (a_law_parted : PySem.W.nsIn K mainGlobals "_law_parted" = some (some (.ref f_law_parted)))
    (l_law_parted : K.lookup f_law_parted = some ⟨.type "function", od_law_parted, .func (PySem.W.fnOf "_law_parted" "_law_parted" (defArgs sLParted) (defBody sLParted) (defScope sLParted) .none kV_law_parted dc_law_parted pm_law_parted an_law_parted cd_law_parted ct_law_parted), sl_law_parted⟩)
    (c_law_parted : PySem.W.codeIn K cd_law_parted "_law_parted" = true)
    (k_law_parted : PySem.W.keepIn K (.ref f_law_parted) = true)
    (a_law_due : PySem.W.nsIn K mainGlobals "_law_due" = some (some (.ref f_law_due)))
    (l_law_due : K.lookup f_law_due = some ⟨.type "function", od_law_due, .func (PySem.W.fnOf "_law_due" "_law_due" (defArgs sDue) (defBody sDue) (defScope sDue) .none kV_law_due dc_law_due pm_law_due an_law_due cd_law_due ct_law_due), sl_law_due⟩)
    (c_law_due : PySem.W.codeIn K cd_law_due "_law_due" = true)
    (k_law_due : PySem.W.keepIn K (.ref f_law_due) = true)
    (aC : PySem.W.nsIn K mainGlobals "Web" = some (some (.ref C)))
    (a_Winit : PySem.W.findIn K (.ref C) "__init__" = some (some (.ref f_Winit)))
    (i_Winit : PySem.W.isFn K (.ref f_Winit) = true)
    (l_Winit : K.lookup f_Winit = some ⟨.type "function", od_Winit, .func (PySem.W.fnOf "__init__" "Web.__init__" (defArgs sInit) (defBody sInit) (defScope sInit) .none kV_Winit dc_Winit pm_Winit an_Winit cd_Winit ct_Winit), sl_Winit⟩)
    (c_Winit : PySem.W.codeIn K cd_Winit "Web.__init__" = true)
    (k_Winit : PySem.W.keepIn K (.ref f_Winit) = true)
    (a_Wcheck_house : PySem.W.findIn K (.ref C) "_check_house" = some (some (.ref f_Wcheck_house)))
    (i_Wcheck_house : PySem.W.isFn K (.ref f_Wcheck_house) = true)
    (l_Wcheck_house : K.lookup f_Wcheck_house = some ⟨.type "function", od_Wcheck_house, .func (PySem.W.fnOf "_check_house" "Web._check_house" (defArgs sWCheck) (defBody sWCheck) (defScope sWCheck) .none kV_Wcheck_house dc_Wcheck_house pm_Wcheck_house an_Wcheck_house cd_Wcheck_house ct_Wcheck_house), sl_Wcheck_house⟩)
    (c_Wcheck_house : PySem.W.codeIn K cd_Wcheck_house "Web._check_house" = true)
    (k_Wcheck_house : PySem.W.keepIn K (.ref f_Wcheck_house) = true)
    (a_Whouses : PySem.W.findIn K (.ref C) "houses" = some (some (.ref p_Whouses)))
    (g_Whouses : PySem.W.specialIn K (.ref p_Whouses) "__get__" = some (some (.builtin "property.__get__")))
    (t_Whouses : PySem.W.takesIn K (.ref p_Whouses) = some true)
    (r_Whouses : PySem.W.recIn K p_Whouses "property" = some (.ref f_Whouses :: rs_Whouses))
    (l_Whouses : K.lookup f_Whouses = some ⟨.type "function", od_Whouses, .func (PySem.W.fnOf "houses" "Web.houses" (defArgs sWHouses) (defBody sWHouses) (defScope sWHouses) .none kV_Whouses dc_Whouses pm_Whouses an_Whouses cd_Whouses ct_Whouses), sl_Whouses⟩)
    (c_Whouses : PySem.W.codeIn K cd_Whouses "Web.houses" = true)
    (k_Whouses : PySem.W.keepIn K (.ref f_Whouses) = true)
    (a_Wmarks : PySem.W.findIn K (.ref C) "marks" = some (some (.ref p_Wmarks)))
    (g_Wmarks : PySem.W.specialIn K (.ref p_Wmarks) "__get__" = some (some (.builtin "property.__get__")))
    (t_Wmarks : PySem.W.takesIn K (.ref p_Wmarks) = some true)
    (r_Wmarks : PySem.W.recIn K p_Wmarks "property" = some (.ref f_Wmarks :: rs_Wmarks))
    (l_Wmarks : K.lookup f_Wmarks = some ⟨.type "function", od_Wmarks, .func (PySem.W.fnOf "marks" "Web.marks" (defArgs sWMarks) (defBody sWMarks) (defScope sWMarks) .none kV_Wmarks dc_Wmarks pm_Wmarks an_Wmarks cd_Wmarks ct_Wmarks), sl_Wmarks⟩)
    (c_Wmarks : PySem.W.codeIn K cd_Wmarks "Web.marks" = true)
    (k_Wmarks : PySem.W.keepIn K (.ref f_Wmarks) = true)
    (a_Wties : PySem.W.findIn K (.ref C) "ties" = some (some (.ref p_Wties)))
    (g_Wties : PySem.W.specialIn K (.ref p_Wties) "__get__" = some (some (.builtin "property.__get__")))
    (t_Wties : PySem.W.takesIn K (.ref p_Wties) = some true)
    (r_Wties : PySem.W.recIn K p_Wties "property" = some (.ref f_Wties :: rs_Wties))
    (l_Wties : K.lookup f_Wties = some ⟨.type "function", od_Wties, .func (PySem.W.fnOf "ties" "Web.ties" (defArgs sWTies) (defBody sWTies) (defScope sWTies) .none kV_Wties dc_Wties pm_Wties an_Wties cd_Wties ct_Wties), sl_Wties⟩)
    (c_Wties : PySem.W.codeIn K cd_Wties "Web.ties" = true)
    (k_Wties : PySem.W.keepIn K (.ref f_Wties) = true)
    (pg : PySem.W.plainGet K C Str.empty = true)
    (hd : PySem.W.hasDictIn K C = true)
    (po : PySem.W.plainOver K C = true)
    (sa : PySem.W.findIn K (.ref C) "__setattr__" = some (some (.builtin "object.__setattr__")))
    (n0 : PySem.W.findIn K (.ref C) "_text" = some none)
    (n1 : PySem.W.findIn K (.ref C) "_plain" = some none)
    (n2 : PySem.W.findIn K (.ref C) "_ties" = some none)
    (n3 : PySem.W.findIn K (.ref C) "_doors" = some none)
    (mk : PySem.W.makesIn K C = true)
    (kC : PySem.W.keepIn K (.ref C) = true)
    (wha : PySem.W.findIn K (.ref C) "__class__" = some (some (.builtin "object.__class__")))
    (whn : PySem.W.specialIn K (.builtin "object.__class__") "__get__" = some (some (.builtin "getset_descriptor.__get__")))
    (wht : PySem.W.takesIn K (.builtin "object.__class__") = some true)
    (whm : PySem.W.mroIn K C (.type "object") = some true)
    (z_isinstance : PySem.W.nsIn K mainGlobals "isinstance" = some none)
    (z_str : PySem.W.nsIn K mainGlobals "str" = some none)
    (z_sorted : PySem.W.nsIn K mainGlobals "sorted" = some none)
    (z_range : PySem.W.nsIn K mainGlobals "range" = some none)
    (z_len : PySem.W.nsIn K mainGlobals "len" = some none)
    (z_max : PySem.W.nsIn K mainGlobals "max" = some none)
    (z_min : PySem.W.nsIn K mainGlobals "min" = some none)
    (z_int : PySem.W.nsIn K mainGlobals "int" = some none)
    (z_bool : PySem.W.nsIn K mainGlobals "bool" = some none)
    (z_tuple : PySem.W.nsIn K mainGlobals "tuple" = some none)
    (z_divmod : PySem.W.nsIn K mainGlobals "divmod" = some none)
    (z_abs : PySem.W.nsIn K mainGlobals "abs" = some none)
    (z_list : PySem.W.nsIn K mainGlobals "list" = some none)
    (z_all : PySem.W.nsIn K mainGlobals "all" = some none)
    (z_set : PySem.W.nsIn K mainGlobals "set" = some none)
    (z_zip : PySem.W.nsIn K mainGlobals "zip" = some none)
    (z_enumerate : PySem.W.nsIn K mainGlobals "enumerate" = some none)
    (z_repr : PySem.W.nsIn K mainGlobals "repr" = some none)
    (z_dict : PySem.W.nsIn K mainGlobals "dict" = some none)
    (v_MOST_HOUSES : PySem.W.nsIn K mainGlobals "MOST_HOUSES" = some (some (.int 10 tk_MOST_HOUSES)))
    (v_MARKS : PySem.W.nsIn K mainGlobals "MARKS" = some (some (.str "abcdefghijkl" tk_MARKS)))
    (v_UNREAD : PySem.W.nsIn K mainGlobals "UNREAD" = some (some (.str "?" tk_UNREAD)))
     :
    LawAtG l w K 11 63 "script" mg fa := by
  have e2 : f_law = fa := by
    have e := hfa.symm.trans (PySem.W.mg_of X G a_law)
    injection e with e
    injection e with e
    exact e.symm
  subst e2
  have y_isinstance : mg "isinstance" = none := PySem.W.mg_none_of X G z_isinstance
  have y_str : mg "str" = none := PySem.W.mg_none_of X G z_str
  have y_sorted : mg "sorted" = none := PySem.W.mg_none_of X G z_sorted
  have y_range : mg "range" = none := PySem.W.mg_none_of X G z_range
  have y_len : mg "len" = none := PySem.W.mg_none_of X G z_len
  have y_max : mg "max" = none := PySem.W.mg_none_of X G z_max
  have y_min : mg "min" = none := PySem.W.mg_none_of X G z_min
  have y_int : mg "int" = none := PySem.W.mg_none_of X G z_int
  have y_bool : mg "bool" = none := PySem.W.mg_none_of X G z_bool
  have y_tuple : mg "tuple" = none := PySem.W.mg_none_of X G z_tuple
  have y_divmod : mg "divmod" = none := PySem.W.mg_none_of X G z_divmod
  have y_abs : mg "abs" = none := PySem.W.mg_none_of X G z_abs
  have y_list : mg "list" = none := PySem.W.mg_none_of X G z_list
  have y_all : mg "all" = none := PySem.W.mg_none_of X G z_all
  have y_set : mg "set" = none := PySem.W.mg_none_of X G z_set
  have y_zip : mg "zip" = none := PySem.W.mg_none_of X G z_zip
  have y_enumerate : mg "enumerate" = none := PySem.W.mg_none_of X G z_enumerate
  have y_repr : mg "repr" = none := PySem.W.mg_none_of X G z_repr
  have y_dict : mg "dict" = none := PySem.W.mg_none_of X G z_dict
  have mc_MOST_HOUSES : mg "MOST_HOUSES" = some (.int 10 tk_MOST_HOUSES) := PySem.W.mg_of X G v_MOST_HOUSES
  have mc_MARKS : mg "MARKS" = some (.str "abcdefghijkl" tk_MARKS) := PySem.W.mg_of X G v_MARKS
  have mc_UNREAD : mg "UNREAD" = some (.str "?" tk_UNREAD) := PySem.W.mg_of X G v_UNREAD
  have m_law_cup : mg "_law_cup" = some (.ref f_law_cup) := PySem.W.mg_of X G a_law_cup
  have F_law_cup := fun_mk (st := sCup) l_law_cup c_law_cup k_law_cup
  have b_law_cup := F_law_cup.binds (ps := ["script", "spot"]) fun _ _ _ _ _ _ us hl => match us, hl with | [_, _], _ => rfl
  have m_law_sip : mg "_law_sip" = some (.ref f_law_sip) := PySem.W.mg_of X G a_law_sip
  have F_law_sip := fun_mk (st := sSip) l_law_sip c_law_sip k_law_sip
  have b_law_sip := F_law_sip.binds (ps := ["cup", "top"]) fun _ _ _ _ _ _ us hl => match us, hl with | [_, _], _ => rfl
  have m_law_pick : mg "_law_pick" = some (.ref f_law_pick) := PySem.W.mg_of X G a_law_pick
  have F_law_pick := fun_mk (st := sPick) l_law_pick c_law_pick k_law_pick
  have b_law_pick := F_law_pick.binds (ps := ["cup", "things"]) fun _ _ _ _ _ _ us hl => match us, hl with | [_, _], _ => rfl
  have m_law_drawn : mg "_law_drawn" = some (.ref f_law_drawn) := PySem.W.mg_of X G a_law_drawn
  have F_law_drawn := fun_mk (st := sDrawn) l_law_drawn c_law_drawn k_law_drawn
  have b_law_drawn := F_law_drawn.binds (ps := ["cup", "most"]) fun _ _ _ _ _ _ us hl => match us, hl with | [_, _], _ => rfl
  have m_law_text : mg "_law_text" = some (.ref f_law_text) := PySem.W.mg_of X G a_law_text
  have F_law_text := fun_mk (st := sText) l_law_text c_law_text k_law_text
  have b_law_text := F_law_text.binds (ps := ["told"]) fun _ _ _ _ _ _ us hl => match us, hl with | [_], _ => rfl
  have m_law_ways : mg "_law_ways" = some (.ref f_law_ways) := PySem.W.mg_of X G a_law_ways
  have F_law_ways := fun_mk (st := sWays) l_law_ways c_law_ways k_law_ways
  have b_law_ways := F_law_ways.binds (ps := ["told"]) fun _ _ _ _ _ _ us hl => match us, hl with | [_], _ => rfl
  have m_law_right : mg "_law_right" = some (.ref f_law_right) := PySem.W.mg_of X G a_law_right
  have F_law_right := fun_mk (st := sRight) l_law_right c_law_right k_law_right
  have b_law_right := F_law_right.binds (ps := ["cup"]) fun _ _ _ _ _ _ us hl => match us, hl with | [_], _ => rfl
  have m_law : mg "law" = some (.ref f_law) := PySem.W.mg_of X G a_law
  have F_law := fun_mk (st := sLaw) l_law c_law k_law
  have b_law := F_law.binds (ps := ["script"]) fun _ _ _ _ _ _ us hl => match us, hl with | [_], _ => rfl
  have m_read_ties : mg "read_ties" = some (.ref f_read_ties) := PySem.W.mg_of X G a_read_ties
  have F_read_ties := fun_mk (st := sTies) l_read_ties c_read_ties k_read_ties
  have b_read_ties := F_read_ties.binds (ps := ["text"]) fun _ _ _ _ _ _ us hl => match us, hl with | [_], _ => rfl
  have m_read_torn : mg "read_torn" = some (.ref f_read_torn) := PySem.W.mg_of X G a_read_torn
  have F_read_torn := fun_mk (st := sTorn) l_read_torn c_read_torn k_read_torn
  have b_read_torn := F_read_torn.binds (ps := ["text"]) fun _ _ _ _ _ _ us hl => match us, hl with | [_], _ => rfl
  have m_read_line : mg "read_line" = some (.ref f_read_line) := PySem.W.mg_of X G a_read_line
  have F_read_line := fun_mk (st := sLine) l_read_line c_read_line k_read_line
  have b_read_line := F_read_line.binds (ps := ["line"]) fun _ _ _ _ _ _ us hl => match us, hl with | [_], _ => rfl
  have m_may_be_mark : mg "may_be_mark" = some (.ref f_may_be_mark) := PySem.W.mg_of X G a_may_be_mark
  have F_may_be_mark := fun_mk (st := sMay) l_may_be_mark c_may_be_mark k_may_be_mark
  have b_may_be_mark := F_may_be_mark.binds (ps := ["part"]) fun _ _ _ _ _ _ us hl => match us, hl with | [_], _ => rfl
  have m_read_house : mg "read_house" = some (.ref f_read_house) := PySem.W.mg_of X G a_read_house
  have F_read_house := fun_mk (st := sRHouse) l_read_house c_read_house k_read_house
  have b_read_house := F_read_house.binds (ps := ["part"]) fun _ _ _ _ _ _ us hl => match us, hl with | [_], _ => rfl
  have m_are_apart : mg "are_apart" = some (.ref f_are_apart) := PySem.W.mg_of X G a_are_apart
  have F_are_apart := fun_mk (st := sApart) l_are_apart c_are_apart k_are_apart
  have b_are_apart := F_are_apart.binds (ps := ["ties"]) fun _ _ _ _ _ _ us hl => match us, hl with | [_], _ => rfl
  have m_hang_together : mg "hang_together" = some (.ref f_hang_together) := PySem.W.mg_of X G a_hang_together
  have F_hang_together := fun_mk (st := sHang) l_hang_together c_hang_together k_hang_together
  have b_hang_together := F_hang_together.binds (ps := ["ties"]) fun _ _ _ _ _ _ us hl => match us, hl with | [_], _ => rfl
  have m_count_houses : mg "count_houses" = some (.ref f_count_houses) := PySem.W.mg_of X G a_count_houses
  have F_count_houses := fun_mk (st := sCount) l_count_houses c_count_houses k_count_houses
  have b_count_houses := F_count_houses.binds (ps := ["ties"]) fun _ _ _ _ _ _ us hl => match us, hl with | [_], _ => rfl
  have m_plain_text : mg "plain_text" = some (.ref f_plain_text) := PySem.W.mg_of X G a_plain_text
  have F_plain_text := fun_mk (st := sPlain) l_plain_text c_plain_text k_plain_text
  have b_plain_text := F_plain_text.binds (ps := ["ties"]) fun _ _ _ _ _ _ us hl => match us, hl with | [_], _ => rfl
  have m_is_integer : mg "is_integer" = some (.ref f_is_integer) := PySem.W.mg_of X G a_is_integer
  have F_is_integer := fun_mk (st := sInt) l_is_integer c_is_integer k_is_integer
  have b_is_integer := F_is_integer.binds (ps := ["value"]) fun _ _ _ _ _ _ us hl => match us, hl with | [_], _ => rfl
  have m_is_house : mg "is_house" = some (.ref f_is_house) := PySem.W.mg_of X G a_is_house
  have F_is_house := fun_mk (st := sHouse) l_is_house c_is_house k_is_house
  have b_is_house := F_is_house.binds (ps := ["value", "houses"]) fun _ _ _ _ _ _ us hl => match us, hl with | [_, _], _ => rfl
  have m_is_mark : mg "is_mark" = some (.ref f_is_mark) := PySem.W.mg_of X G a_is_mark
  have F_is_mark := fun_mk (st := sMark) l_is_mark c_is_mark k_is_mark
  have b_is_mark := F_is_mark.binds (ps := ["value"]) fun _ _ _ _ _ _ us hl => match us, hl with | [_], _ => rfl
  have m_doors_of : mg "doors_of" = some (.ref f_doors_of) := PySem.W.mg_of X G a_doors_of
  have F_doors_of := fun_mk (st := sDoors) l_doors_of c_doors_of k_doors_of
  have b_doors_of := F_doors_of.binds (ps := ["ties"]) fun _ _ _ _ _ _ us hl => match us, hl with | [_], _ => rfl
  have m_read_number : mg "read_number" = some (.ref f_read_number) := PySem.W.mg_of X G a_read_number
  have F_read_number := fun_mk (st := sRNum) l_read_number c_read_number k_read_number
  have b_read_number := F_read_number.binds (ps := ["part", "most"]) fun _ _ _ _ _ _ us hl => match us, hl with | [_, _], _ => rfl
  have m_tie_between : mg "tie_between" = some (.ref f_tie_between) := PySem.W.mg_of X G a_tie_between
  have F_tie_between := fun_mk (st := sBetw) l_tie_between c_tie_between k_tie_between
  have b_tie_between := F_tie_between.binds (ps := ["house", "mark", "other", "back"]) fun _ _ _ _ _ _ us hl => match us, hl with | [_, _, _, _], _ => rfl
  have m_is_count : mg "is_count" = some (.ref f_is_count) := PySem.W.mg_of X G a_is_count
  have F_is_count := fun_mk (st := sCountK) l_is_count c_is_count k_is_count
  have b_is_count := F_is_count.binds (ps := ["value"]) fun _ _ _ _ _ _ us hl => match us, hl with | [_], _ => rfl
  have m_is_index : mg "is_index" = some (.ref f_is_index) := PySem.W.mg_of X G a_is_index
  have F_is_index := fun_mk (st := sIndex) l_is_index c_is_index k_is_index
  have b_is_index := F_is_index.binds (ps := ["value", "many"]) fun _ _ _ _ _ _ us hl => match us, hl with | [_, _], _ => rfl
  have m_law_walk : mg "_law_walk" = some (.ref f_law_walk) := PySem.W.mg_of X G a_law_walk
  have F_law_walk := fun_mk (st := sWalk) l_law_walk c_law_walk k_law_walk
  have b_law_walk := F_law_walk.binds (ps := ["ways_here", "start", "letters"]) fun _ _ _ _ _ _ us hl => match us, hl with | [_, _, _], _ => rfl
  have m_check_web : mg "check_web" = some (.ref f_check_web) := PySem.W.mg_of X G a_check_web
  have F_check_web := fun_mk (st := sCkWeb) l_check_web c_check_web k_check_web
  have b_check_web := F_check_web.binds (ps := ["web"]) fun _ _ _ _ _ _ us hl => match us, hl with | [_], _ => rfl
  have m_head_of : mg "head_of" = some (.ref f_head_of) := PySem.W.mg_of X G a_head_of
  have F_head_of := fun_mk (st := sHead) l_head_of c_head_of k_head_of
  have b_head_of := F_head_of.binds (ps := ["heads", "place"]) fun _ _ _ _ _ _ us hl => match us, hl with | [_, _], _ => rfl
  have m_unite : mg "unite" = some (.ref f_unite) := PySem.W.mg_of X G a_unite
  have F_unite := fun_mk (st := sUnite) l_unite c_unite k_unite
  have b_unite := F_unite.binds (ps := ["heads", "place", "other"]) fun _ _ _ _ _ _ us hl => match us, hl with | [_, _, _], _ => rfl
  have m_ends_beside : mg "ends_beside" = some (.ref f_ends_beside) := PySem.W.mg_of X G a_ends_beside
  have F_ends_beside := fun_mk (st := sEnds) l_ends_beside c_ends_beside k_ends_beside
  have b_ends_beside := F_ends_beside.binds (ps := ["doors", "house", "other"]) fun _ _ _ _ _ _ us hl => match us, hl with | [_, _, _], _ => rfl
  have m_parts_ends : mg "parts_ends" = some (.ref f_parts_ends) := PySem.W.mg_of X G a_parts_ends
  have F_parts_ends := fun_mk (st := sParts) l_parts_ends c_parts_ends k_parts_ends
  have b_parts_ends := F_parts_ends.binds (ps := ["rows"]) fun _ _ _ _ _ _ us hl => match us, hl with | [_], _ => rfl
  have m_renumbered : mg "renumbered" = some (.ref f_renumbered) := PySem.W.mg_of X G a_renumbered
  have F_renumbered := fun_mk (st := sRenum) l_renumbered c_renumbered k_renumbered
  have b_renumbered := F_renumbered.binds (ps := ["rows"]) fun _ _ _ _ _ _ us hl => match us, hl with | [_], _ => rfl
  have m_linked_table : mg "linked_table" = some (.ref f_linked_table) := PySem.W.mg_of X G a_linked_table
  have F_linked_table := fun_mk (st := sLinked) l_linked_table c_linked_table k_linked_table
  have b_linked_table := F_linked_table.binds (ps := ["doors"]) fun _ _ _ _ _ _ us hl => match us, hl with | [_], _ => rfl
  have m_doors_back : mg "doors_back" = some (.ref f_doors_back) := PySem.W.mg_of X G a_doors_back
  have F_doors_back := fun_mk (st := sDBack) l_doors_back c_doors_back k_doors_back
  have b_doors_back := F_doors_back.binds (ps := ["doors"]) fun _ _ _ _ _ _ us hl => match us, hl with | [_], _ => rfl
  have m_turned : mg "turned" = some (.ref f_turned) := PySem.W.mg_of X G a_turned
  have F_turned := fun_mk (st := sTurned) l_turned c_turned k_turned
  have b_turned := F_turned.binds (ps := ["table"]) fun _ _ _ _ _ _ us hl => match us, hl with | [_], _ => rfl
  have m_linked_back : mg "linked_back" = some (.ref f_linked_back) := PySem.W.mg_of X G a_linked_back
  have F_linked_back := fun_mk (st := sLBack) l_linked_back c_linked_back k_linked_back
  have b_linked_back := F_linked_back.binds (ps := ["doors"]) fun _ _ _ _ _ _ us hl => match us, hl with | [_], _ => rfl
  have m_back_codes : mg "back_codes" = some (.ref f_back_codes) := PySem.W.mg_of X G a_back_codes
  have F_back_codes := fun_mk (st := sBCodes) l_back_codes c_back_codes k_back_codes
  have b_back_codes := F_back_codes.binds (ps := ["web"]) fun _ _ _ _ _ _ us hl => match us, hl with | [_], _ => rfl
  have m_has_back : mg "has_back" = some (.ref f_has_back) := PySem.W.mg_of X G a_has_back
  have F_has_back := fun_mk (st := sHasB) l_has_back c_has_back k_has_back
  have b_has_back := F_has_back.binds (ps := ["web"]) fun _ _ _ _ _ _ us hl => match us, hl with | [_], _ => rfl
  have m_law_good : mg "_law_good" = some (.ref f_law_good) := PySem.W.mg_of X G a_law_good
  have F_law_good := fun_mk (st := sGood) l_law_good c_law_good k_law_good
  have b_law_good := F_law_good.binds (ps := ["cup", "most"]) fun _ _ _ _ _ _ us hl => match us, hl with | [_, _], _ => rfl
  have m_law_maps : mg "_law_maps" = some (.ref f_law_maps) := PySem.W.mg_of X G a_law_maps
  have F_law_maps := fun_mk (st := sMaps) l_law_maps c_law_maps k_law_maps
  have b_law_maps := F_law_maps.binds (ps := ["ways_here"]) fun _ _ _ _ _ _ us hl => match us, hl with | [_], _ => rfl
  have m_law_merged : mg "_law_merged" = some (.ref f_law_merged) := PySem.W.mg_of X G a_law_merged
  have F_law_merged := fun_mk (st := sMerged) l_law_merged c_law_merged k_law_merged
  have b_law_merged := F_law_merged.binds (ps := ["labels", "one", "two"]) fun _ _ _ _ _ _ us hl => match us, hl with | [_, _, _], _ => rfl
  have m_law_bound : mg "_law_bound" = some (.ref f_law_bound) := PySem.W.mg_of X G a_law_bound
  have F_law_bound := fun_mk (st := sLBound) l_law_bound c_law_bound k_law_bound
  have b_law_bound := F_law_bound.binds (ps := ["ways_here", "labels", "want_here"]) fun _ _ _ _ _ _ us hl => match us, hl with | [_, _, _], _ => rfl
  have m_law_labels : mg "_law_labels" = some (.ref f_law_labels) := PySem.W.mg_of X G a_law_labels
  have F_law_labels := fun_mk (st := sLabels) l_law_labels c_law_labels k_law_labels
  have b_law_labels := F_law_labels.binds (ps := ["ways_here", "want_here"]) fun _ _ _ _ _ _ us hl => match us, hl with | [_, _], _ => rfl
  have m_law_table : mg "_law_table" = some (.ref f_law_table) := PySem.W.mg_of X G a_law_table
  have F_law_table := fun_mk (st := sLTable) l_law_table c_law_table k_law_table
  have b_law_table := F_law_table.binds (ps := ["labels", "many"]) fun _ _ _ _ _ _ us hl => match us, hl with | [_, _], _ => rfl
  have m_law_parted : mg "_law_parted" = some (.ref f_law_parted) := PySem.W.mg_of X G a_law_parted
  have F_law_parted := fun_mk (st := sLParted) l_law_parted c_law_parted k_law_parted
  have b_law_parted := F_law_parted.binds (ps := ["table_here", "want_here"]) fun _ _ _ _ _ _ us hl => match us, hl with | [_, _], _ => rfl
  have m_law_due : mg "_law_due" = some (.ref f_law_due) := PySem.W.mg_of X G a_law_due
  have F_law_due := fun_mk (st := sDue) l_law_due c_law_due k_law_due
  have b_law_due := F_law_due.binds (ps := ["ways_here", "want_here"]) fun _ _ _ _ _ _ us hl => match us, hl with | [_, _], _ => rfl
  have mWeb : mg "Web" = some (.ref C) := PySem.W.mg_of X G aC
  have F_Winit := fun_mk (st := sInit) l_Winit c_Winit k_Winit
  have b_Winit := F_Winit.binds (ps := ["self", "text"]) fun _ _ _ _ _ _ us hl => match us, hl with | [_, _], _ => rfl
  have F_Wcheck_house := fun_mk (st := sWCheck) l_Wcheck_house c_Wcheck_house k_Wcheck_house
  have b_Wcheck_house := F_Wcheck_house.binds (ps := ["self", "house"]) fun _ _ _ _ _ _ us hl => match us, hl with | [_, _], _ => rfl
  have m_Wcheck_house : Meth K C "_check_house" f_Wcheck_house := ⟨a_Wcheck_house, i_Wcheck_house, k_Wcheck_house⟩
  have F_Whouses := fun_mk (st := sWHouses) l_Whouses c_Whouses k_Whouses
  have b_Whouses := F_Whouses.binds (ps := ["self"]) fun _ _ _ _ _ _ us hl => match us, hl with | [_], _ => rfl
  have q_Whouses : PropOf K C "houses" p_Whouses f_Whouses := ⟨a_Whouses, g_Whouses, t_Whouses, ⟨_, r_Whouses⟩⟩
  have F_Wmarks := fun_mk (st := sWMarks) l_Wmarks c_Wmarks k_Wmarks
  have b_Wmarks := F_Wmarks.binds (ps := ["self"]) fun _ _ _ _ _ _ us hl => match us, hl with | [_], _ => rfl
  have q_Wmarks : PropOf K C "marks" p_Wmarks f_Wmarks := ⟨a_Wmarks, g_Wmarks, t_Wmarks, ⟨_, r_Wmarks⟩⟩
  have F_Wties := fun_mk (st := sWTies) l_Wties c_Wties k_Wties
  have b_Wties := F_Wties.binds (ps := ["self"]) fun _ _ _ _ _ _ us hl => match us, hl with | [_], _ => rfl
  have q_Wties : PropOf K C "ties" p_Wties f_Wties := ⟨a_Wties, g_Wties, t_Wties, ⟨_, r_Wties⟩⟩
  have cW : WebC K C := ⟨⟨pg, hd, po, sa⟩, n0, n1, n2, n3⟩
  have wi : WebI K C := ⟨wha, whn, wht, whm, kit_self⟩
  have MW : Mk K C f_Winit := ⟨mk, a_Winit, i_Winit, kC⟩
  have TS : TSip mg := ⟨y_int, y_divmod, y_len, y_abs⟩
  have TD : TDrawn mg := { TS with range := y_range, sorted := y_sorted }
  have RFb : ∀ base : Heap, RF l.prog w K mg base := fun base => by

    have GCount : FnOk l.prog w K mg base CX0 1 _ _ ["ties"] (spCount K) := ok_count F_count_houses y_max
    have GDoors : FnOk l.prog w K mg base CX0 2 _ _ ["ties"] (spDoors K) := ok_doors F_doors_of y_max y_range F_count_houses b_count_houses m_count_houses
    have GInt : FnOk l.prog w K mg base CX0 1 _ _ ["value"] spInt := ok_isint F_is_integer y_isinstance y_int y_bool
    have GCnt : FnOk l.prog w K mg base CX0 2 _ _ ["value"] spCountK := ok_iscount F_is_count GInt F_is_integer b_is_integer m_is_integer
    have GIdx : FnOk l.prog w K mg base CX0 3 _ _ ["value", "many"] spIndex := ok_isindex F_is_index GCnt F_is_count b_is_count m_is_count
    have GIsM : FnOk l.prog w K mg base CX0 1 _ _ ["value"] spMark := ok_ismark F_is_mark y_isinstance y_str y_len mc_MARKS
    have GIsH : FnOk l.prog w K mg base CX0 4 _ _ ["value", "houses"] spHouse := ok_ishouse F_is_house GIdx F_is_index b_is_index m_is_index
    have GMay : FnOk l.prog w K mg base CX0 2 _ _ ["part"] spMay := ok_may F_may_be_mark mc_UNREAD GIsM F_is_mark b_is_mark m_is_mark
    have GRNu : FnOk l.prog w K mg base CX0 1 _ _ ["part", "most"] spRNum := ok_rnum F_read_number y_range y_str
    have GRHo : FnOk l.prog w K mg base CX0 2 _ _ ["part"] spRHouse := ok_rhouse F_read_house mc_MOST_HOUSES GRNu F_read_number b_read_number m_read_number
    have GBtw : FnOk l.prog w K mg base CX0 1 _ _ ["house", "mark", "other", "back"] spBetw := ok_betw F_tie_between
    have GLine : FnOk l.prog w K mg base CX0 3 _ _ ["line"] (spLine K) := ok_line F_read_line y_len GRHo F_read_house b_read_house m_read_house GMay F_may_be_mark b_may_be_mark m_may_be_mark GBtw F_tie_between b_tie_between m_tie_between
    have GApart : FnOk l.prog w K mg base CX0 1 _ _ ["ties"] (spApart K) := ok_apart F_are_apart mc_UNREAD
    have GHang : FnOk l.prog w K mg base CX0 2 _ _ ["ties"] (spApart K) := ok_hang F_hang_together y_len y_max F_count_houses b_count_houses m_count_houses
    have GTorn : FnOk l.prog w K mg base CX0 4 _ _ ["text"] (spTies K) := ok_torn F_read_torn y_sorted GLine F_read_line b_read_line m_read_line GApart F_are_apart b_are_apart m_are_apart GHang F_hang_together b_hang_together m_hang_together
    have GTies : FnOk l.prog w K mg base CX0 5 _ _ ["text"] (spTies K) := ok_ties F_read_ties y_isinstance y_str mc_UNREAD GTorn F_read_torn b_read_torn m_read_torn
    have GPlT : FnOk l.prog w K mg base CX0 1 _ _ ["ties"] (spPlain K) := ok_plain F_plain_text y_sorted
    have GIni : FnOk l.prog w K mg base CX0 6 _ _ ["self", "text"] (spInit C) := ok_init F_Winit cW y_tuple GTies F_read_ties b_read_ties m_read_ties GPlT F_plain_text b_plain_text m_plain_text GDoors F_doors_of b_doors_of m_doors_of
    have GChk : FnOk l.prog w K mg base CX0 5 _ _ ["self", "house"] (spWCheck C) := ok_wcheck F_Wcheck_house cW y_len GIsH F_is_house b_is_house m_is_house
    have GSip : FnOk l.prog w K mg base CX0 1 _ _ ["cup", "top"] spSip := ok_sip F_law_sip TS
    have GPick : FnOk l.prog w K mg base CX0 2 _ _ ["cup", "things"] spPick := ok_pick F_law_pick TS F_law_sip b_law_sip m_law_sip
    have GDra : FnOk l.prog w K mg base CX0 3 _ _ ["cup", "most"] (spDrawn K) := ok_drawn F_law_drawn TD F_law_sip b_law_sip m_law_sip F_law_pick b_law_pick m_law_pick
    have GText : FnOk l.prog w K mg base CX0 1 _ _ ["told"] (spText K) := ok_text F_law_text y_str
    have GWay : FnOk l.prog w K mg base CX0 1 _ _ ["told"] (spDoors K) := ok_ways F_law_ways y_max y_range

    have GHo : FnOk l.prog w K mg base CX0 1 _ _ ["self"] (spWHouses C) := ok_whouses F_Whouses cW y_len
    have GCkWeb : FnOk l.prog w K mg base CX0 1 _ _ ["web"] (spCkWeb C) := ok_ckweb F_check_web cW wi y_isinstance mWeb

    have GHead : FnOk l.prog w K mg base CX0 1 _ _ ["heads", "place"] spHead := ok_head F_head_of
    have GUni : FnOk l.prog w K mg base CX0 2 _ _ ["heads", "place", "other"] spUnite := ok_unite F_unite GHead F_head_of b_head_of m_head_of y_max y_min
    have GEnds : FnOk l.prog w K mg base CX0 1 _ _ ["doors", "house", "other"] spEnds := ok_ends F_ends_beside
    have GPart : FnOk l.prog w K mg base CX0 1 _ _ ["rows"] spParts := ok_parts F_parts_ends y_all y_len y_set
    have GRen : FnOk l.prog w K mg base CX0 1 _ _ ["rows"] spRenum := ok_renum F_renumbered y_tuple y_len
    have GLnk : FnOk l.prog w K mg base CX0 3 _ _ ["doors"] spLinked := ok_linked F_linked_table y_len y_list y_range GHead F_head_of b_head_of m_head_of GUni F_unite b_unite m_unite GEnds F_ends_beside b_ends_beside m_ends_beside GPart F_parts_ends b_parts_ends m_parts_ends GRen F_renumbered b_renumbered m_renumbered
    have GDoT : FnOk l.prog w K mg base CX0 2 _ _ ["ties"] (spDoorsT K) := ok_doorsT F_doors_of y_max y_range F_count_houses b_count_houses m_count_houses
    have GWTi : FnOk l.prog w K mg base CX0 1 _ _ ["self"] (spWTies C) := ok_wties F_Wties cW

    have GRenT : FnOk l.prog w K mg base CX0 1 _ _ ["rows"] spRenumT := ok_renumT F_renumbered y_tuple y_len
    have GDBk : FnOk l.prog w K mg base CX0 1 _ _ ["doors"] spDBack := ok_dback F_doors_back y_len y_range
    have GTur : FnOk l.prog w K mg base CX0 2 _ _ ["table"] spTurned := ok_turned F_turned y_list y_zip GRenT F_renumbered b_renumbered m_renumbered
    have GLBk : FnOk l.prog w K mg base CX0 4 _ _ ["doors"] spLBack := ok_lback F_linked_back GDBk F_doors_back b_doors_back m_doors_back GLnk F_linked_table b_linked_table m_linked_table GTur F_turned b_turned m_turned
    have GBCo : FnOk l.prog w K mg base CX0 5 _ _ ["web"] (spTabW C Cl UnfairE) := ok_bcodes F_back_codes cW GCkWeb F_check_web b_check_web m_check_web GDoT F_doors_of b_doors_of m_doors_of GLBk F_linked_back b_linked_back m_linked_back GWTi b_Wties q_Wties

    have GGood : FnOk l.prog w K mg base CX0 4 _ _ ["cup", "most"] (spGood K) := ok_good F_law_good y_int y_max y_enumerate y_range y_sorted GDra F_law_drawn b_law_drawn m_law_drawn GSip F_law_sip b_law_sip m_law_sip

    have GMaps : FnOk l.prog w K mg base CX0 1 _ _ ["ways_here"] (spMaps l.prog w) := ok_maps F_law_maps y_len y_tuple y_range
    have GMrg : FnOk l.prog w K mg base CX0 1 _ _ ["labels", "one", "two"] spMerged := ok_merged F_law_merged y_min y_max y_dict
    have GNev : FnOk l.prog w K mg base CX0 1 _ _ ["ways_here", "labels", "want_here"] spNever := ok_never F_law_bound
    have GLab : FnOk l.prog w K mg base CX0 2 _ _ ["ways_here", "want_here"] spLabels := ok_labels F_law_labels y_len y_range GMaps F_law_maps b_law_maps m_law_maps GMrg F_law_merged b_law_merged m_law_merged GNev F_law_bound b_law_bound m_law_bound
    have GDue : FnOk l.prog w K mg base CX0 3 _ _ ["ways_here", "want_here"] spDue := ok_due F_law_due y_len GLab F_law_labels b_law_labels m_law_labels (ok_ltable F_law_table y_range y_tuple y_sorted y_set) F_law_table b_law_table m_law_table (ok_lparted F_law_parted y_range y_len y_set) F_law_parted b_law_parted m_law_parted

    exact {
      C := C, cW := cW
      fSip := f_law_sip, fdSip := _
      fPick := f_law_pick, fdPick := _
      fGood := f_law_good, fdGood := _
      fText := f_law_text, fdText := _
      fWays := f_law_ways, fdWays := _
      fWalk := f_law_walk, fdWalk := _
      fDue := f_law_due, fdDue := _
      fBco := f_back_codes, fdBco := _
      fHab := f_has_back, fdHab := _
      gMar := f_Wmarks, pMar0 := p_Wmarks, fdMar := _
      gHou := f_Whouses, pHou0 := p_Whouses, fdHou := _
      fIni := f_Winit, fdIni := _
      GSip := GSip, bSip := b_law_sip, mSip := m_law_sip, kSip := k_law_sip
      GPick := GPick, bPick := b_law_pick, mPick := m_law_pick, kPick := k_law_pick
      GGood := GGood, bGood := b_law_good, mGood := m_law_good, kGood := k_law_good
      GText := GText, bText := b_law_text, mText := m_law_text, kText := k_law_text
      GWays := GWay, bWays := b_law_ways, mWays := m_law_ways, kWays := k_law_ways
      GWalk := ok_walk F_law_walk, bWalk := b_law_walk, mWalk := m_law_walk, kWalk := k_law_walk
      GDue := GDue, bDue := b_law_due, mDue := m_law_due, kDue := k_law_due
      GBco := GBCo, bBco := b_back_codes, mBco := m_back_codes, kBco := k_back_codes
      GHab := ok_hasb F_has_back GBCo F_back_codes b_back_codes m_back_codes, bHab := b_has_back, mHab := m_has_back, kHab := k_has_back
      GMar := ok_wmarks F_Wmarks cW y_sorted, bMar := b_Wmarks, pMar := q_Wmarks
      GHou := GHo, bHou := b_Whouses, pHou := q_Whouses

      GIni := GIni, bIni := b_Winit, MIni := MW, mIni := mWeb
      mrange := y_range, mrepr := y_repr, mlist := y_list, kbBco := kb_bco F_back_codes, kbHab := kb_hab F_has_back }
  refine ⟨PySem.W.fnOf "law" "law" (defArgs sLaw) (defBody sLaw) (defScope sLaw) .none kV_law dc_law pm_law an_law cd_law ct_law, spLaw K, fun s u => .of_eq rfl, fun H a ns _ _ hS => ⟨a, ns, rfl, hS, fun _ => rfl⟩, fun base KB GB => ?_⟩
  exact ok_law (RFb base) F_law (ok_right (RFb base) F_law_right) b_law_right m_law_right k_law_right (ok_cup F_law_cup TS) b_law_cup m_law_cup k_law_cup y_all y_max y_min y_len

end Wh

open PySem PySem.W PyProof.Rows
set_option maxRecDepth 100000 in
set_option maxHeartbeats 0 in
theorem PySem.Challenge.cw_whichhouse_k13_whole_back_codes_holds : PySem.Challenge.rw_whichhouse_k13_whole_back_codes.Holds := by
  w_on; o_law; k_head; (case hw => w_witness2)
  k_fill
  refine Wh.walkG (n := 63) (k := 11) (x := "script") rfl (by decide) rfl ⟨rfl, by decide, by decide⟩ (fun w h Y => PySem.W.kIn_of Y) ?F
  case F =>
    intro w mg fa h Y KX G hmg
    refine' Wh.all_mk KX G hmg ?a_law_cup ?l_law_cup ?c_law_cup ?k_law_cup ?a_law_sip ?l_law_sip ?c_law_sip ?k_law_sip ?a_law_pick ?l_law_pick ?c_law_pick ?k_law_pick ?a_law_drawn ?l_law_drawn ?c_law_drawn ?k_law_drawn ?a_law_text ?l_law_text ?c_law_text ?k_law_text ?a_law_ways ?l_law_ways ?c_law_ways ?k_law_ways ?a_law_right ?l_law_right ?c_law_right ?k_law_right ?a_law ?l_law ?c_law ?k_law ?a_read_ties ?l_read_ties ?c_read_ties ?k_read_ties ?a_read_torn ?l_read_torn ?c_read_torn ?k_read_torn ?a_read_line ?l_read_line ?c_read_line ?k_read_line ?a_may_be_mark ?l_may_be_mark ?c_may_be_mark ?k_may_be_mark ?a_read_house ?l_read_house ?c_read_house ?k_read_house ?a_are_apart ?l_are_apart ?c_are_apart ?k_are_apart ?a_hang_together ?l_hang_together ?c_hang_together ?k_hang_together ?a_count_houses ?l_count_houses ?c_count_houses ?k_count_houses ?a_plain_text ?l_plain_text ?c_plain_text ?k_plain_text ?a_is_integer ?l_is_integer ?c_is_integer ?k_is_integer ?a_is_house ?l_is_house ?c_is_house ?k_is_house ?a_is_mark ?l_is_mark ?c_is_mark ?k_is_mark ?a_doors_of ?l_doors_of ?c_doors_of ?k_doors_of ?a_read_number ?l_read_number ?c_read_number ?k_read_number ?a_tie_between ?l_tie_between ?c_tie_between ?k_tie_between ?a_is_count ?l_is_count ?c_is_count ?k_is_count ?a_is_index ?l_is_index ?c_is_index ?k_is_index ?a_law_walk ?l_law_walk ?c_law_walk ?k_law_walk ?a_check_web ?l_check_web ?c_check_web ?k_check_web ?a_head_of ?l_head_of ?c_head_of ?k_head_of ?a_unite ?l_unite ?c_unite ?k_unite ?a_ends_beside ?l_ends_beside ?c_ends_beside ?k_ends_beside ?a_parts_ends ?l_parts_ends ?c_parts_ends ?k_parts_ends ?a_renumbered ?l_renumbered ?c_renumbered ?k_renumbered ?a_linked_table ?l_linked_table ?c_linked_table ?k_linked_table ?a_doors_back ?l_doors_back ?c_doors_back ?k_doors_back ?a_turned ?l_turned ?c_turned ?k_turned ?a_linked_back ?l_linked_back ?c_linked_back ?k_linked_back ?a_back_codes ?l_back_codes ?c_back_codes ?k_back_codes ?a_has_back ?l_has_back ?c_has_back ?k_has_back ?a_law_good ?l_law_good ?c_law_good ?k_law_good ?a_law_maps ?l_law_maps ?c_law_maps ?k_law_maps ?a_law_merged ?l_law_merged ?c_law_merged ?k_law_merged ?a_law_bound ?l_law_bound ?c_law_bound ?k_law_bound ?a_law_labels ?l_law_labels ?c_law_labels ?k_law_labels ?a_law_table ?l_law_table ?c_law_table ?k_law_table ?a_law_parted ?l_law_parted ?c_law_parted ?k_law_parted ?a_law_due ?l_law_due ?c_law_due ?k_law_due ?aC ?a_Winit ?i_Winit ?l_Winit ?c_Winit ?k_Winit ?a_Wcheck_house ?i_Wcheck_house ?l_Wcheck_house ?c_Wcheck_house ?k_Wcheck_house ?a_Whouses ?g_Whouses ?t_Whouses ?r_Whouses ?l_Whouses ?c_Whouses ?k_Whouses ?a_Wmarks ?g_Wmarks ?t_Wmarks ?r_Wmarks ?l_Wmarks ?c_Wmarks ?k_Wmarks ?a_Wties ?g_Wties ?t_Wties ?r_Wties ?l_Wties ?c_Wties ?k_Wties ?pg ?hd ?po ?sa ?n0 ?n1 ?n2 ?n3 ?mk ?kC ?wha ?whn ?wht ?whm ?z_isinstance ?z_str ?z_sorted ?z_range ?z_len ?z_max ?z_min ?z_int ?z_bool ?z_tuple ?z_divmod ?z_abs ?z_list ?z_all ?z_set ?z_zip ?z_enumerate ?z_repr ?z_dict ?v_MOST_HOUSES ?v_MARKS ?v_UNREAD
    (case a_law_cup => k_is)
    (case l_law_cup => k_is)
    (case c_law_cup => k_is)
    (case k_law_cup => k_is)
    (case a_law_sip => k_is)
    (case l_law_sip => k_is)
    (case c_law_sip => k_is)
    (case k_law_sip => k_is)
    (case a_law_pick => k_is)
    (case l_law_pick => k_is)
    (case c_law_pick => k_is)
    (case k_law_pick => k_is)
    (case a_law_drawn => k_is)
    (case l_law_drawn => k_is)
    (case c_law_drawn => k_is)
    (case k_law_drawn => k_is)
    (case a_law_text => k_is)
    (case l_law_text => k_is)
    (case c_law_text => k_is)
    (case k_law_text => k_is)
    (case a_law_ways => k_is)
    (case l_law_ways => k_is)
    (case c_law_ways => k_is)
    (case k_law_ways => k_is)
    (case a_law_right => k_is)
    (case l_law_right => k_is)
    (case c_law_right => k_is)
    (case k_law_right => k_is)
    (case a_law => k_is)
    (case l_law => k_is)
    (case c_law => k_is)
    (case k_law => k_is)
    (case a_read_ties => k_is)
    (case l_read_ties => k_is)
    (case c_read_ties => k_is)
    (case k_read_ties => k_is)
    (case a_read_torn => k_is)
    (case l_read_torn => k_is)
    (case c_read_torn => k_is)
    (case k_read_torn => k_is)
    (case a_read_line => k_is)
    (case l_read_line => k_is)
    (case c_read_line => k_is)
    (case k_read_line => k_is)
    (case a_may_be_mark => k_is)
    (case l_may_be_mark => k_is)
    (case c_may_be_mark => k_is)
    (case k_may_be_mark => k_is)
    (case a_read_house => k_is)
    (case l_read_house => k_is)
    (case c_read_house => k_is)
    (case k_read_house => k_is)
    (case a_are_apart => k_is)
    (case l_are_apart => k_is)
    (case c_are_apart => k_is)
    (case k_are_apart => k_is)
    (case a_hang_together => k_is)
    (case l_hang_together => k_is)
    (case c_hang_together => k_is)
    (case k_hang_together => k_is)
    (case a_count_houses => k_is)
    (case l_count_houses => k_is)
    (case c_count_houses => k_is)
    (case k_count_houses => k_is)
    (case a_plain_text => k_is)
    (case l_plain_text => k_is)
    (case c_plain_text => k_is)
    (case k_plain_text => k_is)
    (case a_is_integer => k_is)
    (case l_is_integer => k_is)
    (case c_is_integer => k_is)
    (case k_is_integer => k_is)
    (case a_is_house => k_is)
    (case l_is_house => k_is)
    (case c_is_house => k_is)
    (case k_is_house => k_is)
    (case a_is_mark => k_is)
    (case l_is_mark => k_is)
    (case c_is_mark => k_is)
    (case k_is_mark => k_is)
    (case a_doors_of => k_is)
    (case l_doors_of => k_is)
    (case c_doors_of => k_is)
    (case k_doors_of => k_is)
    (case a_read_number => k_is)
    (case l_read_number => k_is)
    (case c_read_number => k_is)
    (case k_read_number => k_is)
    (case a_tie_between => k_is)
    (case l_tie_between => k_is)
    (case c_tie_between => k_is)
    (case k_tie_between => k_is)
    (case a_is_count => k_is)
    (case l_is_count => k_is)
    (case c_is_count => k_is)
    (case k_is_count => k_is)
    (case a_is_index => k_is)
    (case l_is_index => k_is)
    (case c_is_index => k_is)
    (case k_is_index => k_is)
    (case a_law_walk => k_is)
    (case l_law_walk => k_is)
    (case c_law_walk => k_is)
    (case k_law_walk => k_is)
    (case a_check_web => k_is)
    (case l_check_web => k_is)
    (case c_check_web => k_is)
    (case k_check_web => k_is)
    (case a_head_of => k_is)
    (case l_head_of => k_is)
    (case c_head_of => k_is)
    (case k_head_of => k_is)
    (case a_unite => k_is)
    (case l_unite => k_is)
    (case c_unite => k_is)
    (case k_unite => k_is)
    (case a_ends_beside => k_is)
    (case l_ends_beside => k_is)
    (case c_ends_beside => k_is)
    (case k_ends_beside => k_is)
    (case a_parts_ends => k_is)
    (case l_parts_ends => k_is)
    (case c_parts_ends => k_is)
    (case k_parts_ends => k_is)
    (case a_renumbered => k_is)
    (case l_renumbered => k_is)
    (case c_renumbered => k_is)
    (case k_renumbered => k_is)
    (case a_linked_table => k_is)
    (case l_linked_table => k_is)
    (case c_linked_table => k_is)
    (case k_linked_table => k_is)
    (case a_doors_back => k_is)
    (case l_doors_back => k_is)
    (case c_doors_back => k_is)
    (case k_doors_back => k_is)
    (case a_turned => k_is)
    (case l_turned => k_is)
    (case c_turned => k_is)
    (case k_turned => k_is)
    (case a_linked_back => k_is)
    (case l_linked_back => k_is)
    (case c_linked_back => k_is)
    (case k_linked_back => k_is)
    (case a_back_codes => k_is)
    (case l_back_codes => k_is)
    (case c_back_codes => k_is)
    (case k_back_codes => k_is)
    (case a_has_back => k_is)
    (case l_has_back => k_is)
    (case c_has_back => k_is)
    (case k_has_back => k_is)
    (case a_law_good => k_is)
    (case l_law_good => k_is)
    (case c_law_good => k_is)
    (case k_law_good => k_is)
    (case a_law_maps => k_is)
    (case l_law_maps => k_is)
    (case c_law_maps => k_is)
    (case k_law_maps => k_is)
    (case a_law_merged => k_is)
    (case l_law_merged => k_is)
    (case c_law_merged => k_is)
    (case k_law_merged => k_is)
    (case a_law_bound => k_is)
    (case l_law_bound => k_is)
    (case c_law_bound => k_is)
    (case k_law_bound => k_is)
    (case a_law_labels => k_is)
    (case l_law_labels => k_is)
    (case c_law_labels => k_is)
    (case k_law_labels => k_is)
    (case a_law_table => k_is)
    (case l_law_table => k_is)
    (case c_law_table => k_is)
    (case k_law_table => k_is)
    (case a_law_parted => k_is)
    (case l_law_parted => k_is)
    (case c_law_parted => k_is)
    (case k_law_parted => k_is)
    (case a_law_due => k_is)
    (case l_law_due => k_is)
    (case c_law_due => k_is)
    (case k_law_due => k_is)
    (case aC => k_is)
    (case a_Winit => k_is)
    (case i_Winit => k_is)
    (case l_Winit => k_is)
    (case c_Winit => k_is)
    (case k_Winit => k_is)
    (case a_Wcheck_house => k_is)
    (case i_Wcheck_house => k_is)
    (case l_Wcheck_house => k_is)
    (case c_Wcheck_house => k_is)
    (case k_Wcheck_house => k_is)
    (case a_Whouses => k_is)
    (case g_Whouses => k_is)
    (case t_Whouses => k_is)
    (case r_Whouses => k_is)
    (case l_Whouses => k_is)
    (case c_Whouses => k_is)
    (case k_Whouses => k_is)
    (case a_Wmarks => k_is)
    (case g_Wmarks => k_is)
    (case t_Wmarks => k_is)
    (case r_Wmarks => k_is)
    (case l_Wmarks => k_is)
    (case c_Wmarks => k_is)
    (case k_Wmarks => k_is)
    (case a_Wties => k_is)
    (case g_Wties => k_is)
    (case t_Wties => k_is)
    (case r_Wties => k_is)
    (case l_Wties => k_is)
    (case c_Wties => k_is)
    (case k_Wties => k_is)
    (case pg => k_is)
    (case hd => k_is)
    (case po => k_is)
    (case sa => k_is)
    (case n0 => k_is)
    (case n1 => k_is)
    (case n2 => k_is)
    (case n3 => k_is)
    (case mk => k_is)
    (case kC => k_is)
    (case wha => k_is)
    (case whn => k_is)
    (case wht => k_is)
    (case whm => k_is)
    (case z_isinstance => k_is)
    (case z_str => k_is)
    (case z_sorted => k_is)
    (case z_range => k_is)
    (case z_len => k_is)
    (case z_max => k_is)
    (case z_min => k_is)
    (case z_int => k_is)
    (case z_bool => k_is)
    (case z_tuple => k_is)
    (case z_divmod => k_is)
    (case z_abs => k_is)
    (case z_list => k_is)
    (case z_all => k_is)
    (case z_set => k_is)
    (case z_zip => k_is)
    (case z_enumerate => k_is)
    (case z_repr => k_is)
    (case z_dict => k_is)
    (case v_MOST_HOUSES => k_is)
    (case v_MARKS => k_is)
    (case v_UNREAD => k_is)
