import PyProof.Rows.All
import Wide.All
import OpenK.AllK
import Wide.FinOn
import PyProof.EqAt
import PyProof.EqKinds
import PyProof.TupleCall
import HandS.ForMost
import HandS.ExcInit
import HandS.ExcField
import HandS.ExcIs
import HandS.ExcValue
import HandS.IsInst
import HandS.Deep
import HandS.Flow
import HandS.Evl
import HandS.Walk
import HandS.SetKeys
import HandS.TupAny
import HandS.Rev
import HandS.RevTup
import HandS.Conv
import PyProof.Rows.TupDisplay
import PyProof.ExcAttrAll.LookupError
import KE.KExcInit
import KE.KExcIs
import PyProof.ReprRoads
import HandS.DictComp
import HandS.WordsDict
import PyProof.Rows.SeqCalls
import KE.GoesMore
import HandS.Iter
import HandS.Zip0
import HandS.Style
import HandS.Small
import HandS.RaiseMore
import PyProof.P3Eq
import PyProof.ReprBulk
import HandS.Strs
import PyProof.FactsAll.tuple_2
import HandS.List
import HandS.OwnEq
import HandS.NamedTupSort
import PyProof.InstNe
import HandS.SortOrd
import HandS.SortRule
import PyProof.Rows.SortKeyStr
import HandS.More
import KE.KMinKey
import PyProof.Rows.CallKwBuiltin
import PyProof.SumWalkG
import PyProof.DictWalks
import HandS.TryOnly
import HandS.TupSets
import HandS.Lambda
import HandS.EndTab
import KE.KNest
import HandS.DictEq
import PyProof.NeKinds
import KE.SortData
import KE.KDictSum
import KE.KDictCopyH
import KE.GoesEnum
import PyProof.AutoSeq1
import PyProof.ListStr
import PySem.Challenge.RW_takenout_k45_whole_least_sayings
import HandS.Wide
set_option Elab.async false
set_option linter.all false
set_option maxRecDepth 100000
set_option maxHeartbeats 2000000
/-! # X3: new tuples, each told with its object, which has no dict -/
namespace X3
open PySem PySem.Spec PyProof.Rows L2
def tupObj (us : List Value) : Obj := { cls := .type "tuple", data := .seq us.toArray }
theorem tupObj_ok {P : Program} {w : World} {H : Hp} {hp : Heap} {l : Addr} {vs : List V} {us : List Value} (few : vs.length ≤ sizeLine) (rel : Vals vs us) (at_ : hp.get? l = some (tupObj us)) : ObjOk P w H hp l (.frz (tupObj us) (.tup vs)) :=
  ⟨at_, few, us, rel, ⟨_, at_, rfl, _, rfl⟩⟩
/-- what a new tuple is told as -/
def NewT (H : Hp) (vs : List V) (Q : VK) : Prop := ∀ (l : Addr) (ob : Obj), H l = none → ob.dict = none → Q (.ref l) (upd H l (.frz ob (.tup vs)))
section
variable {X : Cx} {pins : List (Addr × Obj)} {σ : L2.St} {H : Hp} {st : Shared} {Q : VK} {vs : List V} {us : List Value}
theorem newT_ends (I : Inv X pins σ H st) (few : vs.length ≤ sizeLine) (rel : Vals vs us) (q : NewT H vs Q) : EP X pins σ Q (.ref st.heap.objs.size) { st with heap := st.heap.push (tupObj us) } := by
  have fr : H st.heap.objs.size = none := I.hok.fresh (Nat.le_refl _)
  exact ⟨.ref st.heap.objs.size, _, I.laid (t' := st.toks) (o := .frz (tupObj us) (.tup vs)) (fun c ob z => Heap.get?_push_of_some _ z) (Nat.le_refl _) (tupObj_ok few rel (Heap.get?_push_size _ rfl)), rfl, q _ _ fr rfl⟩
/-- (e, ..) -/
def tTupN (ta : TA) : TE := fun σ H Q => ta σ H fun vs H1 => vs.length ≤ sizeLine ∧ NewT H1 vs Q
theorem pe_tupN {es : List Expr} {ta : TA} {pos : Pos} {x1} (ha : PA X es ta) : PE X (.Tuple es x1 pos) (tTupN ta) := ⟨fun pins st σ H Q I want =>
  wpAny_Tuple_spliced (thn (ha.run pos pins st σ H _ I want) fun us s1 ⟨vs, H1, I1, rel, few, q⟩ => ⟨by rw [← rel.length]; exact few, newT_ends I1 few rel q⟩)⟩
/-- tuple(x) of a list, of a tuple -/
def rTupN (K : PySem.W.Frag) : List V → Hp → VK → Prop := fun xs H Q => ∃ p vs, xs = [.ref p] ∧ ((SqL K H p vs ∧ NewT H vs Q) ∨ (SqT K H p vs ∧ Q (.ref p) H))
theorem call_tupN : CallR X (.type "tuple") (rTupN X.K) := by
  rintro pins st σ H xs us Q I rel ⟨p, vs, rfl, want⟩
  obtain ⟨u, rfl, ru⟩ := vals1 rel
  cases ru
  rcases want with ⟨at_, q⟩ | ⟨at_, q⟩
  · obtain ⟨its, rv, whole, few⟩ := I.list at_
    have same := rv.length
    refine call_tuple_list whole.isList (fun h' keep => ?_) (by rw [List.size_toArray]; omega)
    exact newT_ends (st := { st with heap := h' }) (I.kept (t' := st.toks) keep) few rv q
  · obtain ⟨its, rv, whole, few⟩ := I.tuple at_
    exact call_tuple_same whole ⟨.ref p, H, I, rfl, q⟩
/-- t + u -/
def rCatN (K : PySem.W.Frag) : R2 := fun x y H Q => ∃ a b vs ws, x = .ref a ∧ y = .ref b ∧ SqT K H a vs ∧ SqT K H b ws ∧ vs.length + ws.length ≤ sizeLine ∧ (vs = [] → Q (.ref b) H) ∧ (ws = [] → Q (.ref a) H) ∧ NewT H (vs ++ ws) Q
theorem op_catN : OpR X (binaryOp .Add) (rCatN X.K) := by
  rintro pins st σ H x y v u Q I rx ry ⟨a, b, vs, ws, rfl, rfl, ha, hb, few, q0, q1, q2⟩
  cases rx
  cases ry
  obtain ⟨us, rv, pa, _⟩ := I.tuple ha
  obtain ⟨ys, rw', pb, _⟩ := I.tuple hb
  by_cases e : us = []
  · subst e
    exact L2.cat_tup0 pa pb ⟨.ref b, H, I, rfl, q0 (rv.nil_iff.mp rfl)⟩
  · refine HT.cat_tup pa pb e (fun z => ⟨.ref a, H, I, rfl, q1 (rw'.nil_iff.mp z)⟩) (fun _ => ?_) (by rw [← rv.length, ← rw'.length]; exact few)
    exact newT_ends I (by rw [List.length_append]; exact few) (rv.append rw') q2
/-- t[lo:hi] -/
def rSlN (K : PySem.W.Frag) : V → Option Int → Option Int → Hp → VK → Prop := fun x lo hi H Q => ∃ a vs, x = .ref a ∧ SqT K H a vs ∧ (HT.sIx vs.length 0 lo = 0 ∧ HT.sIx vs.length vs.length hi = vs.length → Q (.ref a) H) ∧ NewT H (cutV vs lo hi) Q
theorem sl_tupN : SlR X (rSlN X.K) := by
  rintro pins st σ H x v vl vu lo hi sl Q I rx hs pl pu ⟨a, vs, rfl, at_, q1, q2⟩
  cases rx
  obtain ⟨us, rel, whole, few⟩ := I.tuple at_
  have same : us.toArray.size = vs.length := by rw [List.size_toArray, rel.length]
  refine ⟨"tuple", _, PyProof.Rows.slot_tuple_getitem.lookup, whole.typeIs, ?_⟩
  by_cases all : HT.sIx vs.length 0 lo = 0 ∧ HT.sIx vs.length vs.length hi = vs.length
  · exact L2.getItem_tuple_whole whole hs pl pu (by rw [same]; exact all) ⟨.ref a, H, I, rfl, q1 all⟩
  · refine HT.getItem_tuple_cut whole hs pl pu (by rw [same]; exact all) ?_ (by rw [same]; exact few)
    rw [same]
    exact newT_ends I (Nat.le_trans (cutV_length vs lo hi) few) ((rel.drop _).take _) q2
/-- tuple(reversed(x)), x a list -/
def tTupRevN (K : PySem.W.Frag) (te : TE) : TE := fun σ H Q => te σ H fun v H1 => ∃ (a : Addr) (vs : List V), v = .ref a ∧ SqL K H1 a vs ∧ NewT H1 vs.reverse Q
theorem pe_tupRevN {e : Expr} {te : TE} {pa pb qa qb : Pos} (calm : X.calm = true) (ga : Gl X "tuple") (ma : X.mg "tuple" = none) (gb : Gl X "reversed") (mb : X.mg "reversed" = none) (he : PE X e te)
    (one : starEach [e] X.env = (false, eval e X.env) :: starEach [] X.env := by rfl)
    (two : starEach [.Call (.Name "reversed" pb) [e] [] qb] X.env = (false, eval (.Call (.Name "reversed" pb) [e] [] qb) X.env) :: starEach [] X.env := by rfl) :
    PE X (.Call (.Name "tuple" pa) [.Call (.Name "reversed" pb) [e] [] qb] [] qa) (tTupRevN X.K te) := by
  constructor
  intro pins st σ H Q I want
  refine Call_ (ld_blt I ga ma boot_tuple (callWith_type1 (args_cons (Call_ (ld_blt I gb mb boot_reversed (callWith_type1 (args_cons (thn (he.run pins st σ H _ I want) fun u s1 z => args_nil ?_) one) one rfl))) two) two rfl))
  obtain ⟨v, H1, I1, rv, a, vs, rfl, at_, q⟩ := z
  cases rv
  obtain ⟨us, rel, whole, few⟩ := I1.list at_
  refine call_reversed_list whole.isList (args_nil ?_)
  have grow : ∀ b o, s1.heap.get? b = some o → (s1.heap.push (revObj a ((us.toArray.size : Int) - 1))).get? b = some o := fun b o z => Heap.get?_push_of_some _ z
  have I2 : Inv X pins σ H1 { s1 with heap := s1.heap.push (revObj a ((us.toArray.size : Int) - 1)) } := I1.kept (t' := s1.toks) grow
  obtain ⟨f0, f1, f2, f3, f4, f5⟩ := I1.fpOk (H' := H1) (b := s1.heap.objs.size) (Nat.le_refl _) (I1.hok.fresh (Nat.le_refl _))
  have apart : a ≠ s1.heap.objs.size := by
    obtain ⟨ob, z, _⟩ := whole.isList
    exact Nat.ne_of_lt (Heap.lt_size z)
  have small : us.toArray.size ≤ sizeLine := by rw [List.size_toArray, ← rel.length]; exact few
  refine RT.call_tuple_rev (s := { s1 with heap := s1.heap.push (revObj a ((us.toArray.size : Int) - 1)) }) (I1.ok.hd calm) ⟨_, Heap.get?_push_size _ rfl, rfl, rfl⟩ (whole.isList.push _) apart small fun h' tk acc keep made => ?_
  have I3 : Inv X pins σ H1 { s1 with heap := h', toks := tk } := I2.turned (t' := tk) (fun b o ne z => keep b o ne z) f0 f1 f3 f4 f5
  have z := newT_ends I3 (us := acc.toList) (by rw [List.length_reverse]; exact few) (RT.vals_rev rel made) q
  unfold tupObj at z
  rw [Array.toArray_toList] at z
  exact z
end
end X3

set_option Elab.async false
set_option linter.all false
set_option maxRecDepth 100000
set_option maxHeartbeats 2000000
/-! # X3: dicts whose keys are tuples, wherever these stand -/
namespace X3
open PySem PySem.Spec L2 PyProof.Rows
abbrev TEnt := List Key × Addr × V
abbrev TdRel : List TEnt → List (List Key × Addr × Value) → Prop := Paired fun p q => p.1 = q.1 ∧ p.2.1 = q.2.1 ∧ RelV p.2.2 q.2.2
def TdP (P : Program) (w : World) (a : Addr) (kvs : List TEnt) (h : Heap) : Prop :=
  kvs.length ≤ sizeLine ∧ (a == sysModules) = false ∧ ∃ xs : List (List Key × Addr × Value), TdRel kvs xs ∧ ∃ o es ep, h.get? a = some o ∧ o.ExactDict ∧ o.data = .dict es ep ∧ es.toList = xs.map (entryOfKey (tupleKind (mixKind P w))) ∧ (xs.map (·.1)).Nodup
def TdO (P : Program) (w : World) (a : Addr) (kvs : List TEnt) : HO := .ext (TdP P w a kvs)
theorem td_ok {P P' : Program} {w w' : World} {H : Hp} {h : Heap} {a : Addr} {kvs : List TEnt} (t : TdP P w a kvs h) : ObjOk P' w' H h a (TdO P w a kvs) := by
  refine ⟨t, ?_, fun h1 h2 t k => ?_⟩
  · obtain ⟨_, _, xs, _, o, es, ep, ho, _⟩ := t
    exact ⟨o, ho⟩
  · obtain ⟨z, y, xs, r, o, es, ep, ho, q⟩ := t
    exact ⟨z, y, xs, r, o, es, ep, k _ ho, q⟩
def tdGet (kvs : List TEnt) (k : List Key) : Option V := (kvs.find? fun x => decide (x.1 = k)).map (·.2.2)
def tdPut (kvs : List TEnt) (k : List Key) (b : Addr) (v : V) : List TEnt := if (tdGet kvs k).isSome = true then kvs.map fun x => if x.1 = k then (x.1, x.2.1, v) else x else kvs ++ [(k, b, v)]
theorem TdRel.val {kvs : List TEnt} {xs : List (List Key × Addr × Value)} (r : TdRel kvs xs) (k : List Key) : RelO (tdGet kvs k) ((atKey xs k).map (·.2)) := by
  induction r with
  | nil => exact True.intro
  | @cons p q ps qs h t ih =>
    obtain ⟨h1, _, h2⟩ := h
    by_cases e : p.1 = k
    · have e' : q.1 = k := h1.symm.trans e
      have b : atKey (q :: qs) k = some q.2 := by simp [atKey, List.find?_cons, e']
      have c : tdGet (p :: ps) k = some p.2.2 := by simp [tdGet, List.find?_cons, e]
      rw [c, b]
      exact h2
    · have e' : ¬ q.1 = k := fun z => e (h1.trans z)
      have b : atKey (q :: qs) k = atKey qs k := by simp [atKey, List.find?_cons, e']
      have c : tdGet (p :: ps) k = tdGet ps k := by simp [tdGet, List.find?_cons, e]
      rw [c, b]
      exact ih
theorem TdRel.repl {kvs : List TEnt} {xs : List (List Key × Addr × Value)} (r : TdRel kvs xs) (k : List Key) {y : V} {u : Value} (ry : RelV y u) :
    TdRel (kvs.map fun x => if x.1 = k then (x.1, x.2.1, y) else x) (xs.map (putAt k u)) := by
  induction r with
  | nil => exact .nil
  | @cons p q ps qs h t ih =>
    rw [List.map_cons, List.map_cons]
    refine .cons ?_ ih
    obtain ⟨h1, h2, h3⟩ := h
    unfold putAt
    by_cases e : p.1 = k
    · rw [if_pos e, if_pos (h1.symm.trans e)]
      exact ⟨h1, h2, ry⟩
    · rw [if_neg e, if_neg (fun z => e (h1.trans z))]
      exact ⟨h1, h2, h3⟩
theorem TdRel.put {kvs : List TEnt} {xs : List (List Key × Addr × Value)} (r : TdRel kvs xs) (k : List Key) {b : Addr} {y : V} {u : Value} (ry : RelV y u) : TdRel (tdPut kvs k b y) (storedH xs k b u) := by
  have e : (tdGet kvs k).isSome = (atKey xs k).isSome := by
    rw [(r.val k).isSome_eq, Option.isSome_map]
  unfold tdPut storedH
  rw [e]
  by_cases q : (atKey xs k).isSome = true
  · rw [if_pos q, if_pos q]
    exact r.repl k ry
  · rw [if_neg q, if_neg q]
    exact Paired.snoc r ⟨rfl, rfl, ry⟩
theorem tdPut_len (kvs : List TEnt) (k : List Key) (b : Addr) (v : V) : (tdPut kvs k b v).length ≤ kvs.length + 1 := by
  unfold tdPut
  split
  · rw [List.length_map]
    omega
  · rw [List.length_append]
    exact Nat.le_refl _
def KeysAt (K : PySem.W.Frag) (H : Hp) (kvs : List TEnt) : Prop := ∀ p ∈ kvs, SqT K H p.2.1 (p.1.map kV)
section
variable {X : Cx} {pins : List (Addr × Obj)} {σ : L2.St} {H : Hp} {s : Shared} {a b : Addr} {kvs : List TEnt} {k : List Key} {A : Around} {E : Value → Shared → Prop}
theorem td_key (I : Inv X pins σ H s) (h : SqT X.K H b (k.map kV)) : (tupleKind (mixKind X.prog X.w)).is s.heap k b := by
  obtain ⟨its, r, ⟨o, h1, h2, n, h3⟩, _⟩ := I.tuple h
  exact ⟨o, its.toArray, n, h1, h2, h3, by simpa using items_are r⟩
theorem td_at (I : Inv X pins σ H s) (e : H a = some (TdO X.prog X.w a kvs)) (ks : KeysAt X.K H kvs) : kvs.length ≤ sizeLine ∧ (a == sysModules) = false ∧ ∃ xs, TdRel kvs xs ∧ s.heap.DictOfH (tupleKind (mixKind X.prog X.w)) a xs := by
  obtain ⟨⟨z, y, xs, r, o, es, ep, h1, h2, h3, h4, h5⟩, _⟩ := I.hok a _ e
  refine ⟨z, y, xs, r, o, es, ep, h1, h2, h3, h4, fun x hx => ?_, h5⟩
  have all : ∀ {l : List TEnt} {m : List (List Key × Addr × Value)}, TdRel l m → (∀ p ∈ l, SqT X.K H p.2.1 (p.1.map kV)) → ∀ x ∈ m, (tupleKind (mixKind X.prog X.w)).is s.heap x.1 x.2.1 := by
    intro l m q
    induction q with
    | nil =>
      intro _ x hx
      exact nomatch hx
    | @cons p q ps qs hq t ih =>
      intro hk x hx
      rcases List.mem_cons.mp hx with e | hx
      · subst e
        rw [← hq.1, ← hq.2.1]
        exact td_key I (hk p (by simp))
      · exact ih (fun p hp => hk p (List.mem_cons_of_mem _ hp)) x hx
  exact all r ks x hx
/-- what is there -/
theorem td_getItem {v : V} {Q : Value → Shared → Prop} (hu : A.units + 1 < cLine) (I : Inv X pins σ H s) (e : H a = some (TdO X.prog X.w a kvs)) (ks : KeysAt X.K H kvs) (hb : SqT X.K H b (k.map kV)) (g : tdGet kvs k = some v)
    (h : ∀ w' s', Inv X pins σ H s' → RelV v w' → Q w' s') : wpAny (model X.prog X.w) A (getItem (.ref a) (.ref b)) Q E s := by
  obtain ⟨z, hd, xs, rel, dd⟩ := td_at I e ks
  obtain ⟨w', hw, rw'⟩ := RelO.some_of (v := v) (o := (atKey xs k).map (·.2)) (by rw [← g]; exact rel.val k)
  obtain ⟨p, hp, hp2⟩ := Option.map_eq_some_iff.mp hw
  refine wpAny_getItem_heap (tupleKind_room_in1 hu) (td_key I hb) dd hp ?_
  rw [hp2]
  exact h w' _ (I.tok _) rw'
theorem td_in {Q : Value → Shared → Prop} (hu : A.units + 1 < cLine) (I : Inv X pins σ H s) (e : H a = some (TdO X.prog X.w a kvs)) (ks : KeysAt X.K H kvs) (hb : SqT X.K H b (k.map kV))
    (h : ∀ s', Inv X pins σ H s' → Q (.bool (tdGet kvs k).isSome) s') : wpAny (model X.prog X.w) A (compareOp .In (.ref b) (.ref a)) Q E s := by
  obtain ⟨z, hd, xs, rel, dd⟩ := td_at I e ks
  refine wpAny_in_heap (tupleKind_room_in1 hu) (td_key I hb) hd dd ?_
  have q := (rel.val k).isSome_eq
  rw [Option.isSome_map] at q
  rw [← q]
  exact h _ (I.tok _)
theorem td_notIn {Q : Value → Shared → Prop} (hu : A.units + 1 < cLine) (I : Inv X pins σ H s) (e : H a = some (TdO X.prog X.w a kvs)) (ks : KeysAt X.K H kvs) (hb : SqT X.K H b (k.map kV))
    (h : ∀ s', Inv X pins σ H s' → Q (.bool (!(tdGet kvs k).isSome)) s') : wpAny (model X.prog X.w) A (compareOp .NotIn (.ref b) (.ref a)) Q E s := by
  obtain ⟨z, hd, xs, rel, dd⟩ := td_at I e ks
  refine wpAny_notIn_heap (tupleKind_room_in1 hu) (td_key I hb) hd dd ?_
  have q := (rel.val k).isSome_eq
  rw [Option.isSome_map] at q
  rw [← q]
  exact h _ (I.tok _)
theorem td_new {P : Program} {w : World} {h : Heap} {a : Addr} {kvs : List TEnt} {xs : List (List Key × Addr × Value)} (z : kvs.length ≤ sizeLine) (hd : (a == sysModules) = false) (r : TdRel kvs xs) (dd : h.DictOfH (tupleKind (mixKind P w)) a xs) : TdP P w a kvs h := by
  obtain ⟨o, es, ep, h1, h2, h3, h4, _, h5⟩ := dd
  exact ⟨z, hd, xs, r, o, es, ep, h1, h2, h3, h4, h5⟩
theorem td_write {h' : Heap} {t' : Nat} {kvs' : List TEnt} (I : Inv X pins σ H s) (e : H a = some (TdO X.prog X.w a kvs)) (hs : Heap.SameBut a s.heap h') (t : TdP X.prog X.w a kvs' h') :
    Inv X pins σ (upd H a (TdO X.prog X.w a kvs')) { s with heap := h', toks := t' } := by
  refine I.write (x := a) (e := a) (by rw [e]; exact True.intro) (.inl rfl) (fun b q hb z => (hs.2 b hb).trans z) ?_ (td_ok t)
  obtain ⟨_, _, _, _, o, _, _, ho, _⟩ := t
  exact ⟨o, ho⟩
theorem td_setItem {v : V} {r : Value} {Q : Unit → Shared → Prop} (hu : A.units + 1 < cLine) (I : Inv X pins σ H s) (e : H a = some (TdO X.prog X.w a kvs)) (ks : KeysAt X.K H kvs) (hb : SqT X.K H b (k.map kV)) (hl : kvs.length < sizeLine) (rv : RelV v r)
    (h : ∀ s', Inv X pins σ (upd H a (TdO X.prog X.w a (tdPut kvs k b v))) s' → Q () s') : wpAny (model X.prog X.w) A (setItem (.ref a) (.ref b) r) Q E s := by
  obtain ⟨z, hd, xs, rel, dd⟩ := td_at I e ks
  have hz : xs.length ≤ sizeLine := by rw [← Paired.length rel]; exact z
  have hl' : (tdPut kvs k b v).length ≤ sizeLine := by have := tdPut_len kvs k b v; omega
  refine wpAny_setItem_heap (hsz := hz) (tupleKind_room_in1 hu) (td_key I hb) dd fun h' dd' hs => h _ ?_
  exact td_write I e hs (td_new hl' hd (rel.put k rv) dd')
theorem td_store {v : V} {r : Value} {Q : Unit → Shared → Prop} (hu : A.units < cLine) (I : Inv X pins σ H s) (e : H a = some (TdO X.prog X.w a kvs)) (ks : KeysAt X.K H kvs) (hb : SqT X.K H b (k.map kV)) (hl : kvs.length < sizeLine) (rv : RelV v r)
    (h : ∀ s', Inv X pins σ (upd H a (TdO X.prog X.w a (tdPut kvs k b v))) s' → Q () s') : wpAny (model X.prog X.w) A (dictSet a (.ref b) r) Q E s := by
  obtain ⟨z, hd, xs, rel, dd⟩ := td_at I e ks
  have hz : xs.length ≤ sizeLine := by rw [← Paired.length rel]; exact z
  have hl' : (tdPut kvs k b v).length ≤ sizeLine := by have := tdPut_len kvs k b v; omega
  refine wpAny_dictSet_heap (hsz := hz) (knd := tupleKind (mixKind X.prog X.w)) hu (td_key I hb) dd fun h' dd' hs => h _ ?_
  exact td_write I e hs (td_new hl' hd (rel.put k rv) dd')
theorem td_empty {P : Program} {w : World} (h : Heap) (hb : sysModules < h.objs.size) : TdP P w h.objs.size [] (h.push { cls := .type "dict", data := .dict #[] }) :=
  ⟨Nat.zero_le _, beq_eq_false_iff_ne.mpr (Ne.symm (Nat.ne_of_lt hb)), [], .nil, _, #[], 0, Heap.get?_push_size _ rfl, ⟨rfl, rfl, rfl⟩, rfl, rfl, List.nodup_nil⟩
end
/-! ### readings -/
section
variable (P : Program) (w : World) (K : PySem.W.Frag)
def TdAt (H : Hp) (x y : V) (kvs : List TEnt) (k : List Key) : Prop := ∃ a b, x = .ref a ∧ y = .ref b ∧ H a = some (TdO P w a kvs) ∧ KeysAt K H kvs ∧ SqT K H b (k.map kV)
/-- d[y] -/
def tTGet (td ty : TE) : TE := fun σ H Q => td σ H fun x H1 => ty σ H1 fun y H2 => ∃ kvs k v, TdAt P w K H2 x y kvs k ∧ tdGet kvs k = some v ∧ Q v H2
def tTIn (neg : Bool) (ty td : TE) : TE := fun σ H Q => ty σ H fun y H1 => td σ H1 fun x H2 => ∃ kvs k, TdAt P w K H2 x y kvs k ∧ Q (.bl (if neg then !(tdGet kvs k).isSome else (tdGet kvs k).isSome)) H2
/-- d[y] = v -/
def sTPut (td ty tv : TE) : TS := fun D σ H => tv σ H fun v H1 => td σ H1 fun x H2 => ty σ H2 fun y H3 => ∃ a b kvs k, x = .ref a ∧ y = .ref b ∧ H3 a = some (TdO P w a kvs) ∧ KeysAt K H3 kvs ∧ SqT K H3 b (k.map kV) ∧ kvs.length < sizeLine ∧ D.nx σ (upd H3 a (TdO P w a (tdPut kvs k b v)))
/-- {k: v} -/
def tTDisp (tk tv : TE) : TE := fun σ H Q => ∀ p, H p = none → tk σ (upd H p (TdO P w p [])) fun y H1 => tv σ H1 fun v H2 => ∃ b k, y = .ref b ∧ H2 p = some (TdO P w p []) ∧ SqT K H2 b (k.map kV) ∧ Q (.ref p) (upd H2 p (TdO P w p [(k, b, v)]))
end
section
variable {X : Cx} {o i e value : Expr} {pos pos' tpos : Pos} {td ty tv : TE}
theorem pe_tget (hu : X.A.units + 1 < cLine) (ho : PE X o td) (hi : PE X i ty) (hs : NoSl i) : PE X (.Subscript o i pos) (tTGet X.prog X.w X.K td ty) := by
  refine ⟨fun pins s σ H Q I h => ?_⟩
  refine subD_of PySem.F.slot_dict_getitem.lookup hs (thn (ho.run pins s σ H _ I h) fun u s1 ⟨x, H1, I1, rx, q1⟩ => thn (hi.run pins s1 σ H1 _ I1 q1) fun iv s2 ⟨y, H2, I2, ry, kvs, k, v, ⟨a, b, ex, ey, ea, ks, hb⟩, g, q2⟩ => ?_)
  subst ex ey
  obtain rfl : u = Value.ref a := rx
  obtain rfl : iv = Value.ref b := ry
  obtain ⟨_, _, xs, _, dd⟩ := td_at I2 ea ks
  exact ⟨dd.typeIs, td_getItem hu I2 ea ks hb g fun w' s3 I3 rw' => ⟨v, H2, I3, rw', q2⟩⟩
theorem pc_tin (hu : X.A.units + 1 < cLine) (hi : PE X i ty) (ho : PE X o td) : PC X .In i o (tTIn X.prog X.w X.K false ty td) := by
  refine ⟨fun pins s σ H Q I h => ?_⟩
  refine thn (hi.run pins s σ H _ I h) fun iv s1 ⟨y, H1, I1, ry, q1⟩ => thn (ho.run pins s1 σ H1 _ I1 q1) fun u s2 ⟨x, H2, I2, rx, kvs, k, ⟨a, b, ex, ey, ea, ks, hb⟩, q2⟩ => ?_
  subst ex ey
  obtain rfl : u = Value.ref a := rx
  obtain rfl : iv = Value.ref b := ry
  exact td_in hu I2 ea ks hb fun s3 I3 => ⟨.bl (tdGet kvs k).isSome, H2, I3, rfl, q2⟩
theorem pc_tnotin (hu : X.A.units + 1 < cLine) (hi : PE X i ty) (ho : PE X o td) : PC X .NotIn i o (tTIn X.prog X.w X.K true ty td) := by
  refine ⟨fun pins s σ H Q I h => ?_⟩
  refine thn (hi.run pins s σ H _ I h) fun iv s1 ⟨y, H1, I1, ry, q1⟩ => thn (ho.run pins s1 σ H1 _ I1 q1) fun u s2 ⟨x, H2, I2, rx, kvs, k, ⟨a, b, ex, ey, ea, ks, hb⟩, q2⟩ => ?_
  subst ex ey
  obtain rfl : u = Value.ref a := rx
  obtain rfl : iv = Value.ref b := ry
  exact td_notIn hu I2 ea ks hb fun s3 I3 => ⟨.bl (!(tdGet kvs k).isSome), H2, I3, rfl, q2⟩
theorem ps_tput (hu : X.A.units + 1 < cLine) (ho : PE X o td) (hi : PE X i ty) (hv : PE X value tv) (hs : swapsWith value (some (.Subscript o i pos')) pos.line X.env = pure false) :
    PS X (.Assign [.Subscript o i pos'] value pos) (sTPut X.prog X.w X.K td ty tv) := by
  refine ⟨fun pins s σ H D I h => ?_⟩
  refine wpAny_Assign_Subscript (thn (hv.run pins s σ H _ I h) fun r s1 ⟨v, H1, I1, rv, q1⟩ => thn (ho.run pins s1 σ H1 _ I1 q1) fun u s2 ⟨x, H2, I2, rx, q2⟩ => thn (hi.run pins s2 σ H2 _ I2 q2) fun iv s3 ⟨y, H3, I3, ry, a, b, kvs, k, ex, ey, ea, ks, hb, hl, q3⟩ => ?_) hs
  subst ex ey
  obtain rfl : u = Value.ref a := rx
  obtain rfl : iv = Value.ref b := ry
  exact td_setItem hu I3 ea ks hb hl rv fun s4 I4 => ⟨σ, _, I4, q3⟩
theorem td_one {kx vx : Expr} {tk tv : TE} {Q : Value → Shared → Prop} {pins : List (Addr × Obj)} {σ : L2.St} {H : Hp} {s : Shared} {p : Addr} {R : V → Hp → Prop} (hu : X.A.units + 1 < cLine) (hk : PE X kx tk) (hv : PE X vx tv) (I : Inv X pins σ H s)
    (q : tk σ H fun y H1 => tv σ H1 fun v H2 => ∃ b k, y = .ref b ∧ H2 p = some (TdO X.prog X.w p []) ∧ SqT X.K H2 b (k.map kV) ∧ R (.ref p) (upd H2 p (TdO X.prog X.w p [(k, b, v)])))
    (fin : ∀ H3 s3, Inv X pins σ H3 s3 → R (.ref p) H3 → Q (.ref p) s3) :
    wpAny (model X.prog X.w) X.A (evalPairs (pairTrees [some kx] [vx] X.env pos)) (fun vs s₁ => wpAny (model X.prog X.w) X.A (storeAll p vs) (fun _ s₂ => Q (.ref p) s₂) X.xe s₁) X.xe s := by
  refine pairTrees_cons_walk (thn (hk.run pins s σ H _ I q) fun u s1 ⟨x, H1, I1, rx, q1⟩ => thn (hv.run pins s1 σ H1 _ I1 q1) fun w2 s2 ⟨v, H2, I2, rv, b, k, ey, e, hb, q2⟩ => pairTrees_nil_walk ?_)
  subst ey
  obtain rfl : u = Value.ref b := rx
  have hl : ([] : List TEnt).length < sizeLine := by
    show 0 < sizeLine
    rw [sizeLine_eq]
    omega
  have hu' : X.A.units < cLine := Nat.lt_trans (Nat.lt_succ_self _) hu
  unfold storeAll
  rw [List.forIn_cons]
  refine wpAny_bind (wpAny_bind (td_store hu' I2 e (fun p hp => (by cases hp)) hb hl rv fun s3 I3 => wpAny_pure ?_))
  show wpAny _ _ (forIn [] PUnit.unit _) _ _ _
  rw [List.forIn_nil]
  exact wpAny_pure (fin _ _ I3 q2)
theorem pe_tdisp {kx vx : Expr} {tk tv : TE} (hu : X.A.units + 1 < cLine) (hk : PE X kx tk) (hv : PE X vx tv) : PE X (.Dict [some kx] [vx] pos) (tTDisp X.prog X.w X.K tk tv) := by
  refine ⟨fun pins s σ H Q I q => ?_⟩
  have hn := I.hok.fresh (Nat.le_refl s.heap.objs.size)
  have I1 := I.laid (a := s.heap.objs.size) (o := TdO X.prog X.w s.heap.objs.size []) (h' := s.heap.push { cls := .type "dict", data := .dict #[] }) (t' := s.toks) (fun _ _ q => Heap.get?_push_of_some _ q) (Nat.le_refl _) (td_ok (td_empty s.heap I.big))
  have z := q _ hn
  refine wpAny_Dict_any rfl rfl (List.cons_ne_nil _ _) (Nat.le_of_ble_eq_true rfl) ?_
  exact td_one (R := Q) hu hk hv I1 z fun H3 s3 I3 q3 => ⟨.ref s.heap.objs.size, H3, I3, rfl, q3⟩
end
end X3

set_option Elab.async false
set_option linter.all false
set_option maxRecDepth 100000
set_option maxHeartbeats 2000000
/-! # X3: a calculus over data: what expressions and statements do, told without addresses -/
namespace X3
open PySem L2

/-! ### heaps, one within another -/
def Le (G H : Hp) : Prop := ∀ a o, G a = some o → H a = some o
theorem Le.refl (H : Hp) : Le H H := fun _ _ h => h
theorem Le.trans {G H I : Hp} (a : Le G H) (b : Le H I) : Le G I := fun x o h => b x o (a x o h)
theorem Le.new {H : Hp} {p : Addr} {o : HO} (h : H p = none) : Le H (upd H p o) := fun a u e => by
  rw [upd_ne (ne_of_none e h)]
  exact e
theorem Le.none {G H : Hp} (e : Le G H) {p : Addr} (h : H p = none) : G p = none := by
  cases h1 : G p with
  | none => rfl
  | some o =>
    rw [e p o h1] at h
    cases h
theorem le_rd {H H' : Hp} {a : Addr} {u : HO} (e : Le H H') (h : Rd H a u) : Rd H' a u := by
  rcases h with h | ⟨o, h⟩
  · exact Or.inl (e a _ h)
  · exact Or.inr ⟨o, e a _ h⟩
theorem le_l {K : PySem.W.Frag} {H H' : Hp} {a : Addr} {xs : List V} (e : Le H H') (h : SqL K H a xs) : SqL K H' a xs := by
  rcases h with h | h
  · exact Or.inl (le_rd e h)
  · exact Or.inr h
theorem le_t {K : PySem.W.Frag} {H H' : Hp} {a : Addr} {xs : List V} (e : Le H H') (h : SqT K H a xs) : SqT K H' a xs := by
  rcases h with h | h
  · exact Or.inl (le_rd e h)
  · exact Or.inr h

/-! ### data -/
inductive D where
  | non | bl (b : Bool) | int (i : Int) | str (x : Str)
  | list (ds : List D) | tup (ds : List D) | wtup (ds : List D)
  | dict (kvs : List (Key × D))
  | dt (P : Program) (w : World) (kvs : List (List Key × D))
  | fz (kvs : List (Key × D))
  | obj (C : Addr) (fs : List (Str × D))
  | exc (C : Addr) (fs : Option (List (Str × D)))
  | kset (P : Program) (w : World) (S : Key → Bool) (n : Nat)
  | val (v : V)

/-- a tuple whose object has no dict -/
structure TupN (K : PySem.W.Frag) (G : Hp) (a : Addr) (xs : List V) : Prop where
  sq : SqT K G a xs
  slim : (∃ o u, G a = some (.frz o u) ∧ o.dict = none) ∨ ∃ o, K.lookup a = some o ∧ o.dict = none
theorem TupN.mono {K : PySem.W.Frag} {G G' : Hp} {a : Addr} {xs : List V} (e : Le G G') (h : TupN K G a xs) : TupN K G' a xs := ⟨le_t e h.sq, h.slim.imp (fun ⟨o, u, z, d⟩ => ⟨o, u, e _ _ z, d⟩) id⟩
theorem TupN.new {K : PySem.W.Frag} {G : Hp} {a : Addr} {xs : List V} {o : Obj} (d : o.dict = none) : TupN K (upd G a (.frz o (.tup xs))) a xs := ⟨.inl (.inr ⟨o, upd_same⟩), .inl ⟨o, _, upd_same, d⟩⟩
mutual
inductive Dat (K : PySem.W.Frag) (G : Hp) : V → D → Prop
  | non : Dat K G .non .non
  | bl (b : Bool) : Dat K G (.bl b) (.bl b)
  | int (i : Int) : Dat K G (.int i) (.int i)
  | str (x : Str) : Dat K G (.str x) (.str x)
  | list {a : Addr} {xs : List V} {ds : List D} : G a = some (.lst xs) → DatL K G xs ds → Dat K G (.ref a) (.list ds)
  | tup {a : Addr} {xs : List V} {ds : List D} : TupN K G a xs → DatL K G xs ds → Dat K G (.ref a) (.tup ds)
  | wtup {a : Addr} {xs : List V} {ds : List D} : SqT K G a xs → DatL K G xs ds → Dat K G (.ref a) (.wtup ds)
  | dict {a : Addr} {kvs : List (Key × V)} {ds : List (Key × D)} : Rd G a (.dK kvs) → DatK K G kvs ds → Dat K G (.ref a) (.dict ds)
  | dt {a : Addr} {P : Program} {w : World} {ws : List TEnt} {ds : List (List Key × D)} : G a = some (TdO P w a ws) → DatT K G ws ds → Dat K G (.ref a) (.dt P w ds)
  | fz {a : Addr} {o : Obj} {kvs : List (Key × V)} {ds : List (Key × D)} : G a = some (.frz o (.dK kvs)) → DatK K G kvs ds → Dat K G (.ref a) (.fz ds)
  | obj {a C dx : Addr} {fs : List (Str × V)} {ds : List (Str × D)} : G a = some (.ins C dx fs) → DatF K G fs ds → Dat K G (.ref a) (.obj C ds)
  | exc0 {a C : Addr} : G a = some (ExO (.ref C) a) → Dat K G (.ref a) (.exc C none)
  | exc1 {a C d : Addr} {fs : List (Str × V)} {ds : List (Str × D)} : G a = some (exo a C (some d)) → G d = some (exd d fs) → DatF K G fs ds → Dat K G (.ref a) (.exc C (some ds))
  | kset {a : Addr} {P : Program} {w : World} {S : Key → Bool} {n : Nat} : G a = some (SetK P w a S n) → Dat K G (.ref a) (.kset P w S n)
  | val (v : V) : Dat K G v (.val v)
inductive DatL (K : PySem.W.Frag) (G : Hp) : List V → List D → Prop
  | nil : DatL K G [] []
  | cons {v : V} {vs : List V} {d : D} {ds : List D} : Dat K G v d → DatL K G vs ds → DatL K G (v :: vs) (d :: ds)
inductive DatK (K : PySem.W.Frag) (G : Hp) : List (Key × V) → List (Key × D) → Prop
  | nil : DatK K G [] []
  | cons {k : Key} {v : V} {vs : List (Key × V)} {d : D} {ds : List (Key × D)} : Dat K G v d → DatK K G vs ds → DatK K G ((k, v) :: vs) ((k, d) :: ds)
inductive DatT (K : PySem.W.Frag) (G : Hp) : List TEnt → List (List Key × D) → Prop
  | nil : DatT K G [] []
  | cons {k : List Key} {b : Addr} {v : V} {vs : List TEnt} {d : D} {ds : List (List Key × D)} : SqT K G b (k.map kV) → Dat K G v d → DatT K G vs ds → DatT K G ((k, b, v) :: vs) ((k, d) :: ds)
inductive DatF (K : PySem.W.Frag) (G : Hp) : List (Str × V) → List (Str × D) → Prop
  | nil : DatF K G [] []
  | cons {k : Str} {v : V} {vs : List (Str × V)} {d : D} {ds : List (Str × D)} : Dat K G v d → DatF K G vs ds → DatF K G ((k, v) :: vs) ((k, d) :: ds)
end

section
variable {K : PySem.W.Frag} {G G' : Hp}
mutual
theorem Dat.mono (e : Le G G') : ∀ {v : V} {d : D}, Dat K G v d → Dat K G' v d
  | _, _, .non => .non
  | _, _, .bl b => .bl b
  | _, _, .int i => .int i
  | _, _, .str x => .str x
  | _, _, .list h r => .list (e _ _ h) (DatL.mono e r)
  | _, _, .tup h r => .tup (h.mono e) (DatL.mono e r)
  | _, _, .wtup h r => .wtup (le_t e h) (DatL.mono e r)
  | _, _, .dict h r => .dict (le_rd e h) (DatK.mono e r)
  | _, _, .dt h r => .dt (e _ _ h) (DatT.mono e r)
  | _, _, .fz h r => .fz (e _ _ h) (DatK.mono e r)
  | _, _, .obj h r => .obj (e _ _ h) (DatF.mono e r)
  | _, _, .exc0 h => .exc0 (e _ _ h)
  | _, _, .exc1 h h2 r => .exc1 (e _ _ h) (e _ _ h2) (DatF.mono e r)
  | _, _, .kset h => .kset (e _ _ h)
  | _, _, .val v => .val v
theorem DatL.mono (e : Le G G') : ∀ {v : List V} {d : List D}, DatL K G v d → DatL K G' v d
  | _, _, .nil => .nil
  | _, _, .cons h r => .cons (Dat.mono e h) (DatL.mono e r)
theorem DatK.mono (e : Le G G') : ∀ {v : List (Key × V)} {d : List (Key × D)}, DatK K G v d → DatK K G' v d
  | _, _, .nil => .nil
  | _, _, .cons h r => .cons (Dat.mono e h) (DatK.mono e r)
theorem DatT.mono (e : Le G G') : ∀ {v : List TEnt} {d : List (List Key × D)}, DatT K G v d → DatT K G' v d
  | _, _, .nil => .nil
  | _, _, .cons z h r => .cons (le_t e z) (Dat.mono e h) (DatT.mono e r)
theorem DatF.mono (e : Le G G') : ∀ {v : List (Str × V)} {d : List (Str × D)}, DatF K G v d → DatF K G' v d
  | _, _, .nil => .nil
  | _, _, .cons h r => .cons (Dat.mono e h) (DatF.mono e r)
end
theorem DatL.length : ∀ {vs : List V} {ds : List D}, DatL K G vs ds → vs.length = ds.length
  | _, _, .nil => rfl
  | _, _, .cons _ r => congrArg (· + 1) (DatL.length r)
theorem DatL.get : ∀ {vs : List V} {ds : List D} {i : Nat} {d : D}, DatL K G vs ds → ds[i]? = some d → ∃ v, vs[i]? = some v ∧ Dat K G v d
  | _, _, _, _, .nil, e => (by simp at e)
  | _, _, 0, _, .cons h r, e => by simp at e; subst e; exact ⟨_, rfl, h⟩
  | _, _, i + 1, d, .cons h r, e => by
    obtain ⟨v, h1, h2⟩ := DatL.get (i := i) r (by simpa using e)
    exact ⟨v, by simpa using h1, h2⟩
theorem DatL.getV : ∀ {vs : List V} {ds : List D} {i : Nat} {v : V}, DatL K G vs ds → vs[i]? = some v → ∃ d, ds[i]? = some d ∧ Dat K G v d
  | _, _, _, _, .nil, e => (by simp at e)
  | _, _, 0, _, .cons h r, e => by simp at e; subst e; exact ⟨_, rfl, h⟩
  | _, _, i + 1, d, .cons h r, e => by
    obtain ⟨v, h1, h2⟩ := DatL.getV (i := i) r (by simpa using e)
    exact ⟨v, by simpa using h1, h2⟩
theorem DatL.append : ∀ {xs ys : List V} {ds es : List D}, DatL K G xs ds → DatL K G ys es → DatL K G (xs ++ ys) (ds ++ es)
  | _, _, _, _, .nil, s => s
  | _, _, _, _, .cons h r, s => .cons h (DatL.append r s)
theorem DatL.take : ∀ {xs : List V} {ds : List D} (n : Nat), DatL K G xs ds → DatL K G (xs.take n) (ds.take n)
  | _, _, 0, _ => .nil
  | _, _, _ + 1, .nil => .nil
  | _, _, n + 1, .cons h r => .cons h (DatL.take n r)
theorem DatL.drop : ∀ {xs : List V} {ds : List D} (n : Nat), DatL K G xs ds → DatL K G (xs.drop n) (ds.drop n)
  | _, _, 0, r => r
  | _, _, _ + 1, .nil => .nil
  | _, _, n + 1, .cons _ r => DatL.drop n r
theorem DatL.reverse : ∀ {xs : List V} {ds : List D}, DatL K G xs ds → DatL K G xs.reverse ds.reverse
  | _, _, .nil => .nil
  | _, _, .cons h r => by
    rw [List.reverse_cons, List.reverse_cons]
    exact (DatL.reverse r).append (.cons h .nil)
theorem DatL.ints : ∀ {vs : List V} {ns : List Int}, DatL K G vs (ns.map D.int) → vs = ns.map V.int
  | _, [], h => by cases h; rfl
  | _, n :: ns, h => by
    have h' : DatL K G _ (D.int n :: ns.map D.int) := h
    cases h' with
    | cons a r =>
      cases a
      rw [DatL.ints r]
      rfl
theorem DatL.strs : ∀ {vs : List V} {ns : List Str}, DatL K G vs (ns.map D.str) → vs = ns.map V.str
  | _, [], h => by cases h; rfl
  | _, n :: ns, h => by
    have h' : DatL K G _ (D.str n :: ns.map D.str) := h
    cases h' with
    | cons a r =>
      cases a
      rw [DatL.strs r]
      rfl
theorem datL_ints : ∀ (ns : List Int), DatL K G (ns.map V.int) (ns.map D.int)
  | [] => .nil
  | n :: ns => .cons (.int n) (datL_ints ns)
theorem datL_strs : ∀ (ns : List Str), DatL K G (ns.map V.str) (ns.map D.str)
  | [] => .nil
  | n :: ns => .cons (.str n) (datL_strs ns)
end

/-! ### the world: frozen data G within the heap H, a resource beside it -/
structure Res where
  fp : Addr → Prop
  ok : Hp → Prop
  loc : ∀ H H' : Hp, (∀ a, fp a → H a = H' a) → ok H → ok H'
  live : ∀ H, ok H → ∀ a, fp a → H a ≠ none
theorem Res.nfp (S : Res) {H : Hp} (h : S.ok H) {p : Addr} (e : H p = none) : ¬ S.fp p := fun z => S.live H h p z e
def Res.nil : Res := ⟨fun _ => False, fun _ => True, fun _ _ _ h => h, fun _ _ _ h => h.elim⟩

structure Wld (S : Res) (G H : Hp) : Prop where
  le : Le G H
  src : S.ok H
  sep : ∀ a, S.fp a → G a = none
theorem Wld.fresh {S : Res} {G H : Hp} (w : Wld S G H) {p : Addr} (h : H p = none) : G p = none := w.le.none h
theorem Wld.nfp {S : Res} {G H : Hp} (w : Wld S G H) {p : Addr} (h : H p = none) : ¬ S.fp p := fun z => S.live H w.src p z h

structure Stp (S : Res) (G H G' H' : Hp) : Prop where
  gg : Le G G'
  hh : ∀ a o, ¬ S.fp a → H a = some o → H' a = some o
  nw : ∀ a o, G' a = some o → G a = some o ∨ H a = none
  w : Wld S G' H'
theorem Stp.refl {S : Res} {G H : Hp} (w : Wld S G H) : Stp S G H G H := ⟨Le.refl _, fun _ _ _ h => h, fun _ _ h => .inl h, w⟩
theorem Stp.trans {S : Res} {G H G1 H1 G2 H2 : Hp} (a : Stp S G H G1 H1) (b : Stp S G1 H1 G2 H2) : Stp S G H G2 H2 := by
  refine ⟨a.gg.trans b.gg, fun x o n h => b.hh x o n (a.hh x o n h), fun x o h => ?_, b.w⟩
  rcases b.nw x o h with h1 | h1
  · exact a.nw x o h1
  · refine .inr ?_
    cases e : H x with
    | none => rfl
    | some u =>
      by_cases f : S.fp x
      · exact absurd h1 (S.live H1 a.w.src x f)
      · rw [a.hh x u f e] at h1
        cases h1
/-- a new frozen object -/
theorem Stp.new {S : Res} {G H : Hp} {p : Addr} {o : HO} (w : Wld S G H) (h : H p = none) : Stp S G H (upd G p o) (upd H p o) := by
  have hg := w.fresh h
  refine ⟨Le.new hg, fun a u _ e => by rw [upd_ne (ne_of_none e h)]; exact e, fun a u e => ?_, ⟨fun a u e => ?_, ?_, fun a f => ?_⟩⟩
  · by_cases x : a = p
    · rw [x]
      exact .inr h
    · rw [upd_ne x] at e
      exact .inl e
  · by_cases x : a = p
    · subst x
      rw [upd_same] at e ⊢
      exact e
    · rw [upd_ne x] at e ⊢
      exact w.le a u e
  · exact S.loc H _ (fun a f => (upd_ne (fun z : a = p => w.nfp h (by rw [z] at f; exact f))).symm) w.src
  · rw [upd_ne (fun z : a = p => w.nfp h (by rw [z] at f; exact f))]
    exact w.sep a f
/-- new objects that nobody will name -/
theorem Stp.junk {S : Res} {G H H' : Hp} (w : Wld S G H) (e : Le H H') : Stp S G H G H' :=
  ⟨Le.refl _, fun a o _ h => e a o h, fun _ _ h => .inl h, ⟨w.le.trans e, S.loc H H' (fun a f => by
    cases h : H a with
    | none => exact absurd h (S.live H w.src a f)
    | some o => exact (e a o h).symm) w.src, w.sep⟩⟩

/-! ### slots -/
inductive SD where
  | no
  | dat (d : D)
  | own (j : Nat)
abbrev Rho := List SD
structure Slots (K : PySem.W.Frag) (G : Hp) (σ : L2.St) (ρ : Rho) : Prop where
  len : σ.length = ρ.length
  get : ∀ (i : Nat) (d : D), ρ[i]? = some (SD.dat d) → ∃ v, σ[i]? = some (some v) ∧ Dat K G v d
theorem Slots.mono {K : PySem.W.Frag} {G G' : Hp} {σ : L2.St} {ρ : Rho} (e : Le G G') (s : Slots K G σ ρ) : Slots K G' σ ρ := ⟨s.len, fun i d h =>
  let ⟨v, a, b⟩ := s.get i d h
  ⟨v, a, b.mono e⟩⟩
theorem Slots.set {K : PySem.W.Frag} {G : Hp} {σ : L2.St} {ρ : Rho} {i : Nat} {v : V} {d : D} (s : Slots K G σ ρ) (h : Dat K G v d) : Slots K G (σ.set i (some v)) (ρ.set i (.dat d)) := ⟨by rw [List.length_set, List.length_set, s.len], fun j e q => by
  have hl := s.len
  by_cases x : i = j
  · subst x
    by_cases y : i < ρ.length
    · rw [List.getElem?_set_self y] at q
      cases q
      exact ⟨v, by rw [List.getElem?_set_self (by omega)], h⟩
    · rw [List.getElem?_eq_none (by simpa using y)] at q
      cases q
  · rw [List.getElem?_set_ne x] at q ⊢
    exact s.get j e q⟩

/-! ### expressions -/
/-- te gives, whatever the heap beside what is frozen, data of which Q holds -/
def WE (K : PySem.W.Frag) (S : Res) (te : TE) (ρ : Rho) (Q : D → Prop) : Prop :=
  ∀ σ G H (k : VK), Wld S G H → Slots K G σ ρ → (∀ v d G' H', Stp S G H G' H' → Dat K G' v d → Q d → k v H') → te σ H k
def WT (K : PySem.W.Frag) (S : Res) (tt : TT) (ρ : Rho) (Q : Bool → Prop) : Prop :=
  ∀ σ G H (k : Bool → Hp → Prop), Wld S G H → Slots K G σ ρ → (∀ b G' H', Stp S G H G' H' → Q b → k b H') → tt σ H k
def WA (K : PySem.W.Frag) (S : Res) (ta : TA) (ρ : Rho) (Q : List D → Prop) : Prop :=
  ∀ σ G H (k : List V → Hp → Prop), Wld S G H → Slots K G σ ρ → (∀ vs ds G' H', Stp S G H G' H' → DatL K G' vs ds → Q ds → k vs H') → ta σ H k
/-- a two-place operation on values -/
def WR2 (K : PySem.W.Frag) (S : Res) (r : R2) (x y : D) (Q : D → Prop) : Prop :=
  ∀ G H vx vy (k : VK), Wld S G H → Dat K G vx x → Dat K G vy y → (∀ v d G' H', Stp S G H G' H' → Dat K G' v d → Q d → k v H') → r vx vy H k
def WR1 (K : PySem.W.Frag) (S : Res) (r : V → Hp → VK → Prop) (x : D) (Q : D → Prop) : Prop :=
  ∀ G H vx (k : VK), Wld S G H → Dat K G vx x → (∀ v d G' H', Stp S G H G' H' → Dat K G' v d → Q d → k v H') → r vx H k
/-- a call on values -/
def WRC (K : PySem.W.Frag) (S : Res) (r : List V → Hp → VK → Prop) (xs : List D) (Q : D → Prop) : Prop :=
  ∀ G H vs (k : VK), Wld S G H → DatL K G vs xs → (∀ v d G' H', Stp S G H G' H' → Dat K G' v d → Q d → k v H') → r vs H k

section
variable {K : PySem.W.Frag} {S : Res} {ρ : Rho} {ta tb te : TE} {tt tu : TT} {tA : TA} {Q : D → Prop}
theorem WE.imp {Q' : D → Prop} (h : WE K S te ρ Q) (i : ∀ d, Q d → Q' d) : WE K S te ρ Q' := fun σ G H k w s c => h σ G H k w s fun v d G' H' st dt q => c v d G' H' st dt (i d q)
theorem WT.imp {Q Q' : Bool → Prop} (h : WT K S tt ρ Q) (i : ∀ d, Q d → Q' d) : WT K S tt ρ Q' := fun σ G H k w s c => h σ G H k w s fun v G' H' st q => c v G' H' st (i v q)
theorem we_var {i : Nat} {d : D} (h : ρ[i]? = some (.dat d)) (q : Q d) : WE K S (tVar i) ρ Q := fun σ G H k w s c => by
  obtain ⟨v, e, dt⟩ := s.get i d h
  exact ⟨v, e, c v d G H (.refl w) dt q⟩
theorem we_int {i : Int} (q : Q (.int i)) : WE K S (tC (.int i)) ρ Q := fun σ G H k w s c => c _ _ G H (.refl w) (.int i) q
theorem we_bl {i : Bool} (q : Q (.bl i)) : WE K S (tC (.bl i)) ρ Q := fun σ G H k w s c => c _ _ G H (.refl w) (.bl i) q
theorem we_str {i : Str} (q : Q (.str i)) : WE K S (tC (.str i)) ρ Q := fun σ G H k w s c => c _ _ G H (.refl w) (.str i) q
theorem we_non (q : Q .non) : WE K S (tC .non) ρ Q := fun σ G H k w s c => c _ _ G H (.refl w) .non q
/-- a class, a def, a built-in type as a value -/
theorem we_val {v : V} (q : Q (.val v)) : WE K S (tC v) ρ Q := fun σ G H k w s c => c _ _ G H (.refl w) (.val v) q
theorem we_op {r : R2} (h : WE K S ta ρ fun x => WE K S tb ρ fun y => WR2 K S r x y Q) : WE K S (tOp r ta tb) ρ Q := fun σ G H k w s c =>
  h σ G H _ w s fun x dx G1 H1 s1 d1 h1 => h1 σ G1 H1 _ s1.w (s.mono s1.gg) fun y dy G2 H2 s2 d2 h2 =>
    h2 G2 H2 x y k s2.w (d1.mono s2.gg) d2 fun v d G3 H3 s3 d3 q => c v d G3 H3 ((s1.trans s2).trans s3) d3 q
theorem we_un {r : V → Hp → VK → Prop} (h : WE K S ta ρ fun x => WR1 K S r x Q) : WE K S (tUn r ta) ρ Q := fun σ G H k w s c =>
  h σ G H _ w s fun x dx G1 H1 s1 d1 h1 => h1 G1 H1 x k s1.w d1 fun v d G3 H3 s3 d3 q => c v d G3 H3 (s1.trans s3) d3 q
theorem wa_nil {Q : List D → Prop} (q : Q []) : WA K S tNil ρ Q := fun σ G H k w s c => c _ _ G H (.refl w) .nil q
theorem wa_cons {Q : List D → Prop} (h : WE K S te ρ fun x => WA K S tA ρ fun xs => Q (x :: xs)) : WA K S (tCons te tA) ρ Q := fun σ G H k w s c =>
  h σ G H _ w s fun x dx G1 H1 s1 d1 h1 => h1 σ G1 H1 _ s1.w (s.mono s1.gg) fun xs dxs G2 H2 s2 d2 q => c _ _ G2 H2 (s1.trans s2) (.cons (d1.mono s2.gg) d2) q
theorem we_cb {r : List V → Hp → VK → Prop} (h : WA K S tA ρ fun xs => WRC K S r xs Q) : WE K S (tCB r tA) ρ Q := fun σ G H k w s c =>
  h σ G H _ w s fun xs dxs G1 H1 s1 d1 h1 => h1 G1 H1 xs k s1.w d1 fun v d G3 H3 s3 d3 q => c v d G3 H3 (s1.trans s3) d3 q
theorem we_tup (h : WA K S tA ρ fun xs => xs.length ≤ 100000 ∧ Q (.tup xs)) : WE K S (tTupN tA) ρ Q := fun σ G H k w s c =>
  h σ G H _ w s fun xs dxs G1 H1 s1 d1 h1 => ⟨by rw [d1.length]; exact Nat.le_trans h1.1 (by decide), fun p o hp ho =>
    c _ _ _ _ (s1.trans (.new s1.w hp)) (.tup (.new ho) (d1.mono (Le.new (s1.w.fresh hp)))) h1.2⟩
theorem we_lst (h : WA K S tA ρ fun xs => xs.length ≤ 100000 ∧ Q (.list xs)) : WE K S (tLst tA) ρ Q := fun σ G H k w s c =>
  h σ G H _ w s fun xs dxs G1 H1 s1 d1 h1 => ⟨by rw [d1.length]; exact Nat.le_trans h1.1 (by decide), fun p hp =>
    c _ _ _ _ (s1.trans (.new s1.w hp)) (.list upd_same (d1.mono (Le.new (s1.w.fresh hp)))) h1.2⟩

end
end X3

set_option Elab.async false
set_option linter.all false
set_option maxRecDepth 100000
set_option maxHeartbeats 2000000
namespace X3
open PySem L2
section
variable {K : PySem.W.Frag} {S : Res} {ρ : Rho} {ta tb te tc : TE} {tt tu : TT} {tA : TA} {Q : D → Prop}
/-! ### tests -/
theorem wt_test {P : Bool → Prop} (h : WE K S te ρ fun d => ∃ b, d = .bl b ∧ P b) : WT K S (tTest te) ρ P := fun σ G H k w s c =>
  h σ G H _ w s fun v d G' H' st dt q => by
    obtain ⟨b, rfl, q⟩ := q
    cases dt
    exact ⟨b, rfl, c b G' H' st q⟩
theorem wt_b {P : Bool → Prop} (h : WE K S te ρ fun d => ∃ b, d = .bl b ∧ P b) : WT K S (tB te) ρ P := fun σ G H k w s c =>
  h σ G H _ w s fun v d G' H' st dt q => by
    obtain ⟨b, rfl, q⟩ := q
    cases dt
    exact ⟨b, rfl, c b G' H' st q⟩
theorem wt_and {P : Bool → Prop} (h : WT K S tt ρ fun b => if b = true then WT K S tu ρ P else P false) : WT K S (tAnd tt tu) ρ P := fun σ G H k w s c =>
  h σ G H _ w s fun b G' H' st q => by
    cases b with
    | true => exact q σ G' H' k st.w (s.mono st.gg) fun b G2 H2 st2 q2 => c b G2 H2 (st.trans st2) q2
    | false => exact c false G' H' st q
theorem wt_or {P : Bool → Prop} (h : WT K S tt ρ fun b => if b = true then P true else WT K S tu ρ P) : WT K S (tOr tt tu) ρ P := fun σ G H k w s c =>
  h σ G H _ w s fun b G' H' st q => by
    cases b with
    | false => exact q σ G' H' k st.w (s.mono st.gg) fun b G2 H2 st2 q2 => c b G2 H2 (st.trans st2) q2
    | true => exact c true G' H' st q
theorem wt_not {P : Bool → Prop} (h : WT K S tt ρ fun b => P (!b)) : WT K S (tNot tt) ρ P := fun σ G H k w s c => h σ G H _ w s fun b G' H' st q => c _ G' H' st q
/-- the truth of data -/
def TruD : D → Bool → Prop
  | .non, k => k = false
  | .bl b, k => k = b
  | .int i, k => k = (i != 0)
  | .str y, k => y.length ≤ 100000 ∧ k = ((y.length : Int) != 0)
  | .list ds, k => k = !ds.isEmpty
  | .tup ds, k => k = !ds.isEmpty
  | .dict _, _ => False
  | _, _ => False
theorem DatL.isEmpty {G : Hp} : ∀ {vs : List V} {ds : List D}, DatL K G vs ds → vs.isEmpty = ds.isEmpty
  | _, _, .nil => rfl
  | _, _, .cons _ _ => rfl
theorem DatK.isEmpty {G : Hp} : ∀ {vs : List (Key × V)} {ds : List (Key × D)}, DatK K G vs ds → vs.isEmpty = ds.isEmpty
  | _, _, .nil => rfl
  | _, _, .cons _ _ => rfl
theorem tru_of {G H : Hp} {v : V} {d : D} {b : Bool} (e : Le G H) (dt : Dat K G v d) (t : TruD d b) : TruV K v H b := by
  cases dt with
  | non => exact t
  | bl => exact t
  | int => exact t
  | str => exact ⟨Nat.le_trans t.1 (by decide), t.2⟩
  | list h r => exact .inl ⟨_, SqL.of (e _ _ h), by rw [r.isEmpty]; exact t⟩
  | wtup => exact t.elim
  | tup h r => exact .inr (.inl ⟨_, le_t e h.sq, by rw [r.isEmpty]; exact t⟩)
  | dict h r => exact t.elim
  | fz h r => exact t.elim
  | obj => exact t.elim
  | exc0 => exact t.elim
  | exc1 => exact t.elim
  | dt => exact t.elim
  | kset => exact t.elim
  | val => exact t.elim
theorem wt_truth {P : Bool → Prop} (h : WE K S te ρ fun d => ∃ b, TruD d b ∧ P b) : WT K S (fun σ H Q => te σ H fun x H' => ∃ k, TruV K x H' k ∧ Q k H') ρ P := fun σ G H k w s c =>
  h σ G H _ w s fun v d G' H' st dt q => by
    obtain ⟨b, t, q⟩ := q
    exact ⟨b, tru_of st.w.le dt t, c b G' H' st q⟩
theorem we_andV (h : WE K S ta ρ fun x => ∃ c, x = .bl c ∧ if c = true then WE K S tb ρ Q else Q (.bl false)) : WE K S (tAndV ta tb) ρ Q := fun σ G H k w s c =>
  h σ G H _ w s fun v d G' H' st dt q => by
    obtain ⟨b, rfl, q⟩ := q
    cases dt
    refine ⟨b, rfl, ?_⟩
    cases b with
    | true => exact q σ G' H' k st.w (s.mono st.gg) fun v d G2 H2 st2 dt q2 => c v d G2 H2 (st.trans st2) dt q2
    | false => exact c _ _ G' H' st (.bl _) q
theorem we_orV (h : WE K S ta ρ fun x => ∃ c, x = .bl c ∧ if c = true then Q (.bl true) else WE K S tb ρ Q) : WE K S (tOrV ta tb) ρ Q := fun σ G H k w s c =>
  h σ G H _ w s fun v d G' H' st dt q => by
    obtain ⟨b, rfl, q⟩ := q
    cases dt
    refine ⟨b, rfl, ?_⟩
    cases b with
    | false => exact q σ G' H' k st.w (s.mono st.gg) fun v d G2 H2 st2 dt q2 => c v d G2 H2 (st.trans st2) dt q2
    | true => exact c _ _ G' H' st (.bl _) q
theorem we_notV (h : WE K S ta ρ fun x => ∃ c, x = .bl c ∧ Q (.bl (!c))) : WE K S (tNotV ta) ρ Q := fun σ G H k w s c =>
  h σ G H _ w s fun v d G' H' st dt q => by
    obtain ⟨b, rfl, q⟩ := q
    cases dt
    exact ⟨b, rfl, c _ _ G' H' st (.bl _) q⟩
theorem we_if (h : WT K S tt ρ fun b => if b = true then WE K S ta ρ Q else WE K S tb ρ Q) : WE K S (tIf tt ta tb) ρ Q := fun σ G H k w s c =>
  h σ G H _ w s fun b G' H' st q => by
    cases b with
    | true => exact q σ G' H' k st.w (s.mono st.gg) fun v d G2 H2 st2 dt q2 => c v d G2 H2 (st.trans st2) dt q2
    | false => exact q σ G' H' k st.w (s.mono st.gg) fun v d G2 H2 st2 dt q2 => c v d G2 H2 (st.trans st2) dt q2
theorem we_chain {r r' : R2} (h : WE K S ta ρ fun x => WE K S tb ρ fun y => WR2 K S r x y fun z => ∃ c, z = .bl c ∧ if c = true then WE K S tc ρ fun u => WR2 K S r' y u Q else Q (.bl false)) : WE K S (tChain r r' ta tb tc) ρ Q := fun σ G H k w s c =>
  h σ G H _ w s fun x dx G1 H1 s1 d1 h1 => h1 σ G1 H1 _ s1.w (s.mono s1.gg) fun y dy G2 H2 s2 d2 h2 =>
    h2 G2 H2 x y _ s2.w (d1.mono s2.gg) d2 fun v d G3 H3 s3 d3 q => by
      obtain ⟨b, rfl, q⟩ := q
      cases d3
      refine ⟨b, rfl, ?_⟩
      have s13 := (s1.trans s2).trans s3
      cases b with
      | false => exact c _ _ G3 H3 s13 (.bl _) q
      | true => exact q σ G3 H3 _ s3.w (s.mono s13.gg) fun u du G4 H4 s4 d4 h4 => h4 G4 H4 y u k s4.w (d2.mono (s3.gg.trans s4.gg)) d4 fun v d G5 H5 s5 d5 q5 => c v d G5 H5 ((s13.trans s4).trans s5) d5 q5

/-! ### operations on values -/
theorem wr_ii {g : Int → Int → Int} {i j : Int} (q : Q (.int (g i j))) : WR2 K S (rI0 fun i j => .int (g i j)) (.int i) (.int j) Q := fun G H vx vy k w dx dy c => by
  cases dx
  cases dy
  exact ⟨i, j, rfl, rfl, c _ _ G H (.refl w) (.int _) q⟩
theorem wr_ib {g : Int → Int → Bool} {i j : Int} (q : Q (.bl (g i j))) : WR2 K S (rI0 fun i j => .bl (g i j)) (.int i) (.int j) Q := fun G H vx vy k w dx dy c => by
  cases dx
  cases dy
  exact ⟨i, j, rfl, rfl, c _ _ G H (.refl w) (.bl _) q⟩
theorem wr_ci {C : Int → Int → Prop} {g : Int → Int → Int} {i j : Int} (hc : C i j) (q : Q (.int (g i j))) : WR2 K S (rI C fun i j => .int (g i j)) (.int i) (.int j) Q := fun G H vx vy k w dx dy c => by
  cases dx
  cases dy
  exact ⟨i, j, rfl, rfl, hc, c _ _ G H (.refl w) (.int _) q⟩
theorem wr_or1 {r r' : R2} {x y : D} (h : WR2 K S r x y Q) : WR2 K S (fun x y H Q => r x y H Q ∨ r' x y H Q) x y Q := fun G H vx vy k w dx dy c => .inl (h G H vx vy k w dx dy c)
theorem wr_or2 {r r' : R2} {x y : D} (h : WR2 K S r' x y Q) : WR2 K S (fun x y H Q => r x y H Q ∨ r' x y H Q) x y Q := fun G H vx vy k w dx dy c => .inr (h G H vx vy k w dx dy c)
theorem wu_neg {i : Int} (q : Q (.int (-i))) : WR1 K S (rU fun i => .int (-i)) (.int i) Q := fun G H vx k w dx c => by
  cases dx
  exact ⟨i, rfl, c _ _ G H (.refl w) (.int _) q⟩
theorem wr_adds {x y : Str} (hl : x.length + y.length ≤ 100000) (q : Q (.str (x ++ y))) : WR2 K S (fun x y H Q => ∃ i j, x = .str i ∧ y = .str j ∧ i.length + j.length ≤ sizeLine ∧ Q (.str (i ++ j)) H) (.str x) (.str y) Q := fun G H vx vy k w dx dy c => by
  cases dx
  cases dy
  exact ⟨x, y, rfl, rfl, Nat.le_trans hl (by decide), c _ _ G H (.refl w) (.str _) q⟩
/-- is None -/
def isNonD : D → Bool
  | .non => true
  | _ => false
theorem non_of {G : Hp} {v : V} {d : D} (h : Dat K G v d) (hv : ∀ u, d ≠ .val u) : decide (v = .non) = isNonD d := by
  cases h <;> first | rfl | exact absurd rfl (hv _)
theorem wr_isN {x : D} (hv : ∀ u, x ≠ .val u) (q : Q (.bl (isNonD x))) : WR2 K S (fun x y H Q => y = .non ∧ Q (.bl (decide (x = .non))) H) x .non Q := fun G H vx vy k w dx dy c => by
  cases dy
  refine ⟨rfl, ?_⟩
  rw [non_of dx hv]
  exact c _ _ G H (.refl w) (.bl _) q
theorem wr_notN {x : D} (hv : ∀ u, x ≠ .val u) (q : Q (.bl (!isNonD x))) : WR2 K S (fun x y H Q => y = .non ∧ Q (.bl (!decide (x = .non))) H) x .non Q := fun G H vx vy k w dx dy c => by
  cases dy
  refine ⟨rfl, ?_⟩
  rw [non_of dx hv]
  exact c _ _ G H (.refl w) (.bl _) q
/-- lists joined: both parts lists of data -/
theorem wr_cat {xs ys : List D} (hl : xs.length + ys.length ≤ 100000) (q : Q (.list (xs ++ ys))) : WR2 K S rCat (.list xs) (.list ys) Q := fun G H vx vy k w dx dy c => by
  cases dx with
  | list h1 r1 =>
    cases dy with
    | list h2 r2 =>
      refine ⟨_, _, _, _, rfl, rfl, w.le _ _ h1, w.le _ _ h2, ?_, fun p hp => ?_⟩
      · rw [r1.length, r2.length]
        exact Nat.le_trans hl (by decide)
      · exact c _ _ _ _ (.new w hp) (.list upd_same ((r1.append r2).mono (Le.new (w.fresh hp)))) q
theorem DatL.rep {G : Hp} {vs : List V} {ds : List D} (r : DatL K G vs ds) : ∀ n : Nat, DatL K G (List.replicate n vs).flatten (List.replicate n ds).flatten
  | 0 => .nil
  | n + 1 => by
    rw [List.replicate_succ, List.replicate_succ, List.flatten_cons, List.flatten_cons]
    exact r.append (DatL.rep r n)
theorem wr_rep {xs : List D} {n : Int} (h1 : -1000000 ≤ n) (h2 : n ≤ 1000000) (hl : xs.length * n.toNat ≤ 100000) (q : Q (.list (List.replicate n.toNat xs).flatten)) : WR2 K S rRep (.list xs) (.int n) Q := fun G H vx vy k w dx dy c => by
  cases dy
  cases dx with
  | list h r =>
    refine ⟨_, n, _, rfl, rfl, w.le _ _ h, by omega, by omega, by rw [r.length]; exact Nat.le_trans hl (by decide), fun p hp => ?_⟩
    exact c _ _ _ _ (.new w hp) (.list upd_same ((r.rep _).mono (Le.new (w.fresh hp)))) q
/-- an item of a list, a tuple -/
theorem atI_map {G : Hp} {vs : List V} {ds : List D} {i : Int} {d : D} (r : DatL K G vs ds) (h : atI ds i = some d) : ∃ v, atI vs i = some v ∧ Dat K G v d := by
  unfold atI at h ⊢
  rw [r.length]
  cases e : ixN ds.length i with
  | none =>
    rw [e] at h
    cases h
  | some j =>
    rw [e] at h
    exact r.get h
theorem wr_ixL {ds : List D} {i : Int} {d : D} (h : atI ds i = some d) (q : Q d) : WR2 K S (rIx K) (.list ds) (.int i) Q := fun G H vx vy k w dx dy c => by
  cases dy
  cases dx with
  | list h1 r1 =>
    obtain ⟨v, e, dt⟩ := atI_map r1 h
    exact .inl ⟨_, _, _, v, rfl, rfl, SqL.of (w.le _ _ h1), e, c v d G H (.refl w) dt q⟩
theorem wr_ixT {ds : List D} {i : Int} {d : D} (h : atI ds i = some d) (q : Q d) : WR2 K S (rIx K) (.tup ds) (.int i) Q := fun G H vx vy k w dx dy c => by
  cases dy
  cases dx with
  | tup h1 r1 =>
    obtain ⟨v, e, dt⟩ := atI_map r1 h
    exact .inr (.inl ⟨_, _, _, v, rfl, rfl, le_t w.le h1.sq, e, c v d G H (.refl w) dt q⟩)
theorem wr_ixS {x : Str} {i : Int} {ch : Nat} (hl : x.length ≤ 100000) (h : atI x.cps.toList i = some ch) (q : Q (.str ⟨#[ch]⟩)) : WR2 K S (rIx K) (.str x) (.int i) Q := fun G H vx vy k w dx dy c => by
  cases dy
  cases dx
  exact .inr (.inr ⟨x, i, ch, rfl, rfl, Nat.le_trans hl (by decide), h, c _ _ G H (.refl w) (.str _) q⟩)
/-- len -/
def LenD : D → Nat → Prop
  | .str y, n => y.length ≤ 100000 ∧ n = y.length
  | .list ds, n => n = ds.length
  | .tup ds, n => n = ds.length
  | _, _ => False
theorem wc_len {d : D} {n : Nat} (h : LenD d n) (q : Q (.int n)) : WRC K S (fun xs H Q => ∃ x n, xs = [x] ∧ LenV K x H n ∧ Q (.int n) H) [d] Q := fun G H vs k w dx c => by
  cases dx with
  | cons a r =>
    cases r
    refine ⟨_, n, rfl, ?_, c _ _ G H (.refl w) (.int _) q⟩
    cases a with
    | str => exact ⟨Nat.le_trans h.1 (by decide), h.2⟩
    | list h1 r => exact .inl ⟨_, SqL.of (w.le _ _ h1), by rw [r.length]; exact h⟩
    | tup h1 r => exact .inr ⟨_, le_t w.le h1.sq, by rw [r.length]; exact h⟩
    | _ => exact h.elim
/-- tuple(x) -/
theorem wc_tuple {d : D} {ds : List D} (h : d = .list ds ∨ d = .tup ds) (q : Q (.tup ds)) :
    WRC K S (rTupN K) [d] Q := fun G H vs k w dx c => by
  cases dx with
  | cons a r =>
    cases r
    rcases h with rfl | rfl
    · cases a with
      | list h1 r =>
        refine ⟨_, _, rfl, .inl ⟨SqL.of (w.le _ _ h1), fun p o hp ho => ?_⟩⟩
        exact c _ _ _ _ (.new w hp) (.tup (.new ho) (r.mono (Le.new (w.fresh hp)))) q
    · cases a with
      | tup h1 r => exact ⟨_, _, rfl, .inr ⟨le_t w.le h1.sq, c _ _ G H (.refl w) (.tup h1 r) q⟩⟩
/-- list(x) -/
theorem wc_list {d : D} {ds : List D} (h : d = .list ds ∨ d = .tup ds) (q : Q (.list ds)) :
    WRC K S (fun xs H Q => ∃ p ys, xs = [.ref p] ∧ (SqL K H p ys ∨ SqT K H p ys) ∧ ∀ l, H l = none → Q (.ref l) (upd H l (.lst ys))) [d] Q := fun G H vs k w dx c => by
  cases dx with
  | cons a r =>
    cases r
    rcases h with rfl | rfl
    · cases a with
      | list h1 r =>
        refine ⟨_, _, rfl, .inl (SqL.of (w.le _ _ h1)), fun p hp => ?_⟩
        exact c _ _ _ _ (.new w hp) (.list upd_same (r.mono (Le.new (w.fresh hp)))) q
    · cases a with
      | tup h1 r =>
        refine ⟨_, _, rfl, .inr (le_t w.le h1.sq), fun p hp => ?_⟩
        exact c _ _ _ _ (.new w hp) (.list upd_same (r.mono (Le.new (w.fresh hp)))) q
/-- int(x) of an int, a bool -/
theorem wc_int {i : Int} (q : Q (.int i)) : WRC K S (fun xs H Q => (∃ i, xs = [.int i] ∧ Q (.int i) H) ∨ ∃ k, xs = [.bl k] ∧ Q (.int (if k then 1 else 0)) H) [.int i] Q := fun G H vs k w dx c => by
  cases dx with
  | cons a r =>
    cases r
    cases a
    exact .inl ⟨i, rfl, c _ _ G H (.refl w) (.int _) q⟩
theorem wc_intb {i : Bool} (q : Q (.int (if i then 1 else 0))) : WRC K S (fun xs H Q => (∃ i, xs = [.int i] ∧ Q (.int i) H) ∨ ∃ k, xs = [.bl k] ∧ Q (.int (if k then 1 else 0)) H) [.bl i] Q := fun G H vs k w dx c => by
  cases dx with
  | cons a r =>
    cases r
    cases a
    exact .inr ⟨i, rfl, c _ _ G H (.refl w) (.int _) q⟩

/-! ### data as the library's own -/
mutual
def D.pd : D → PyData
  | .non => .none
  | .bl b => .bool b
  | .int i => .int i
  | .str x => .str x
  | .list ds => .list (D.pds ds)
  | .tup ds => .tuple (D.pds ds)
  | .wtup _ => .none
  | .dict _ => .none
  | .dt _ _ _ => .none
  | .fz _ => .none
  | .obj _ _ => .none
  | .exc _ _ => .none
  | .kset _ _ _ _ => .none
  | .val _ => .none
def D.pds : List D → List PyData
  | [] => []
  | d :: ds => D.pd d :: D.pds ds
end
mutual
def D.pure : D → Bool
  | .non => true
  | .bl _ => true
  | .int _ => true
  | .str _ => true
  | .list ds => D.pures ds
  | .tup ds => D.pures ds
  | _ => false
def D.pures : List D → Bool
  | [] => true
  | d :: ds => D.pure d && D.pures ds
end
mutual
theorem Dat.dp {G : Hp} : ∀ {v : V} {d : D}, Dat K G v d → (D.pure d = true → Dp K G v (D.pd d))
  | _, _, .non => fun _ => .non
  | _, _, .bl b => fun _ => .bl b
  | _, _, .int i => fun _ => .int i
  | _, _, .str x => fun _ => .str x
  | _, _, .list h r => fun p => .lst (SqL.of h) (DatL.dp r p)
  | _, _, .wtup _ _ => fun p => absurd p Bool.false_ne_true
  | _, _, .tup h r => fun p => .tup h.sq (DatL.dp r p)
  | _, _, .dict _ _ => fun p => absurd p Bool.false_ne_true
  | _, _, .dt _ _ => fun p => absurd p Bool.false_ne_true
  | _, _, .fz _ _ => fun p => absurd p Bool.false_ne_true
  | _, _, .obj _ _ => fun p => absurd p Bool.false_ne_true
  | _, _, .exc0 _ => fun p => absurd p Bool.false_ne_true
  | _, _, .exc1 _ _ _ => fun p => absurd p Bool.false_ne_true
  | _, _, .kset _ => fun p => absurd p Bool.false_ne_true
  | _, _, .val _ => fun p => absurd p Bool.false_ne_true
theorem DatL.dp {G : Hp} : ∀ {v : List V} {d : List D}, DatL K G v d → (D.pures d = true → DpAll K G v (D.pds d))
  | _, _, .nil => fun _ => .nil
  | _, _, .cons h r => fun p => .cons (Dat.dp h (Bool.and_eq_true_iff.mp p).1) (DatL.dp r (Bool.and_eq_true_iff.mp p).2)
end
mutual
theorem Dp.le {G H : Hp} (e : Le G H) : ∀ {v : V} {d : PyData}, Dp K G v d → Dp K H v d
  | _, _, .non => .non
  | _, _, .bl b => .bl b
  | _, _, .int i => .int i
  | _, _, .str x => .str x
  | _, _, .lst h r => .lst (le_l e h) (DpAll.le e r)
  | _, _, .tup h r => .tup (le_t e h) (DpAll.le e r)
theorem DpAll.le {G H : Hp} (e : Le G H) : ∀ {v : List V} {d : List PyData}, DpAll K G v d → DpAll K H v d
  | _, _, .nil => .nil
  | _, _, .cons h r => .cons (Dp.le e h) (DpAll.le e r)
end
/-- == and != of data -/
def EqOk (x y : D) : Prop := D.pure x = true ∧ D.pure y = true ∧ SeqAt.shaped x.pd = true ∧ SeqAt.shaped y.pd = true
theorem wr_eqD {x y : D} (h : EqOk x y) (q : Q (.bl (PyData.eqv x.pd y.pd))) : WR2 K S (rEqD K) x y Q := fun G H vx vy k w dx dy c =>
  ⟨_, _, Dp.le w.le (dx.dp h.1), Dp.le w.le (dy.dp h.2.1), h.2.2.1, h.2.2.2, c _ _ G H (.refl w) (.bl _) q⟩
theorem wr_neD {x y : D} (h : EqOk x y) (q : Q (.bl (!PyData.eqv x.pd y.pd))) : WR2 K S (rNeD K) x y Q := fun G H vx vy k w dx dy c =>
  ⟨_, _, Dp.le w.le (dx.dp h.1), Dp.le w.le (dy.dp h.2.1), h.2.2.1, h.2.2.2, c _ _ G H (.refl w) (.bl _) q⟩
end
end X3

set_option Elab.async false
set_option linter.all false
set_option maxRecDepth 100000
set_option maxHeartbeats 2000000
/-! # X3: statements -/
namespace X3
open PySem L2
/-- a list, a dict of one's own, that grows -/
inductive M where
  | gone
  | lst (ds : List D)
  | dict (kvs : List (Key × D))
  | dt (P : Program) (w : World) (kvs : List (List Key × D))
  | kset (P : Program) (w : World) (S : Key → Bool) (n : Nat)
  | obj (x C : Addr) (fs : List (Str × D))
abbrev Mu := List M
def CellOk (K : PySem.W.Frag) (G H : Hp) (a : Addr) : M → Prop
  | .gone => True
  | .lst ds => G a = none ∧ ∃ xs, H a = some (.lst xs) ∧ DatL K G xs ds
  | .dict kvs => G a = none ∧ ∃ vs, H a = some (.dK vs) ∧ DatK K G vs kvs
  | .dt P w kvs => G a = none ∧ ∃ vs, H a = some (TdO P w a vs) ∧ DatT K G vs kvs
  | .kset P w S n => G a = none ∧ H a = some (SetK P w a S n)
  | .obj x C fs => a = x ∧ G a = none ∧ ∃ dx vs, H a = some (.ins C dx vs) ∧ DatF K G vs fs
structure RepG (K : PySem.W.Frag) (S : Res) (G0 H0 G : Hp) (σ : L2.St) (H : Hp) (ρ : Rho) (μ : Mu) (as : List Addr) : Prop where
  st : Stp S G0 H0 G H
  sl : Slots K G σ ρ
  alen : as.length = μ.length
  nd : as.Nodup
  own : ∀ (i j : Nat), ρ[i]? = some (SD.own j) → ∃ a, as[j]? = some a ∧ σ[i]? = some (some (.ref a))
  cell : ∀ (j : Nat) (a : Addr) (m : M), as[j]? = some a → μ[j]? = some m → H0 a = none ∧ H a ≠ none ∧ CellOk K G H a m
def Rep (K : PySem.W.Frag) (S : Res) (G0 H0 : Hp) (σ : L2.St) (H : Hp) (ρ : Rho) (μ : Mu) : Prop := ∃ G as, RepG K S G0 H0 G σ H ρ μ as

structure EndsD where
  nx : Rho → Mu → Prop
  rt : D → Prop
  bk : Rho → Mu → Prop := fun _ _ => False
  ct : Rho → Mu → Prop := fun _ _ => False
structure Fits (K : PySem.W.Frag) (S : Res) (G0 H0 : Hp) (E : Ends) (N : EndsD) : Prop where
  nx : ∀ σ H ρ μ, Rep K S G0 H0 σ H ρ μ → N.nx ρ μ → E.nx σ H
  rt : ∀ v d G H, Stp S G0 H0 G H → Dat K G v d → N.rt d → E.rt v H
  bk : ∀ σ H ρ μ, Rep K S G0 H0 σ H ρ μ → N.bk ρ μ → E.bk σ H
  ct : ∀ σ H ρ μ, Rep K S G0 H0 σ H ρ μ → N.ct ρ μ → E.ct σ H
def WS (K : PySem.W.Frag) (S : Res) (ts : TS) (ρ : Rho) (μ : Mu) (N : EndsD) : Prop :=
  ∀ G0 H0 σ H (E : Ends), S.ok H0 → Rep K S G0 H0 σ H ρ μ → Fits K S G0 H0 E N → ts E σ H

def viewD (μ : Mu) : SD → SD
  | .own j => match μ[j]? with
    | some (.lst ds) => .dat (.list ds)
    | some (.dict kvs) => .dat (.dict kvs)
    | some (.dt P w kvs) => .dat (.dt P w kvs)
    | some (.kset P w S n) => .dat (.kset P w S n)
    | some (.obj _ C fs) => .dat (.obj C fs)
    | _ => .no
  | s => s
def view (ρ : Rho) (μ : Mu) : Rho := ρ.map (viewD μ)
/-- values that hold no address -/
def scalD : D → Bool
  | .non => true
  | .bl _ => true
  | .int _ => true
  | .str _ => true
  | .val _ => true
  | _ => false
theorem scal_any {K : PySem.W.Frag} {G G' : Hp} {v : V} {d : D} (h : Dat K G v d) (s : scalD d = true) : Dat K G' v d := by
  cases h with
  | non => exact .non
  | bl => exact .bl _
  | int => exact .int _
  | str => exact .str _
  | val => exact .val _
  | _ => cases s

section
variable {K : PySem.W.Frag} {S : Res} {G0 H0 G H G' H' : Hp} {σ : L2.St} {ρ : Rho} {μ : Mu} {as : List Addr}
theorem RepG.nfp (r : RepG K S G0 H0 G σ H ρ μ as) (w0 : S.ok H0) {a : Addr} (h : a ∈ as) : ¬ S.fp a := by
  obtain ⟨j, hj, e⟩ := List.mem_iff_getElem.mp h
  have hm : j < μ.length := by rw [← r.alen]; exact hj
  exact S.nfp w0 (r.cell j a μ[j] (by rw [List.getElem?_eq_getElem hj, e]) (List.getElem?_eq_getElem hm)).1
theorem CellOk.step {a : Addr} {m : M} (h : CellOk K G H a m) (nf : ¬ S.fp a) (s : Stp S G H G' H') : CellOk K G' H' a m := by
  have ng : H a ≠ none → G a = none → G' a = none := fun h1 h2 => by
    cases e : G' a with
    | none => rfl
    | some o =>
      rcases s.nw a o e with z | z
      · rw [h2] at z
        cases z
      · exact absurd z h1
  cases m with
  | gone => trivial
  | lst ds =>
    obtain ⟨h1, xs, h2, h3⟩ := h
    exact ⟨ng (by rw [h2]; exact fun z => nomatch z) h1, xs, s.hh a _ nf h2, h3.mono s.gg⟩
  | dict ds =>
    obtain ⟨h1, xs, h2, h3⟩ := h
    exact ⟨ng (by rw [h2]; exact fun z => nomatch z) h1, xs, s.hh a _ nf h2, h3.mono s.gg⟩
  | dt P w ds =>
    obtain ⟨h1, xs, h2, h3⟩ := h
    exact ⟨ng (by rw [h2]; exact Option.some_ne_none _) h1, xs, s.hh a _ nf h2, h3.mono s.gg⟩
  | kset P w S n =>
    obtain ⟨h1, h2⟩ := h
    exact ⟨ng (by rw [h2]; exact Option.some_ne_none _) h1, s.hh a _ nf h2⟩
  | obj x C fs =>
    obtain ⟨h0, h1, dx, vs, h2, h3⟩ := h
    exact ⟨h0, ng (by rw [h2]; exact Option.some_ne_none _) h1, dx, vs, s.hh a _ nf h2, h3.mono s.gg⟩
theorem Stp.some {a : Addr} (s : Stp S G H G' H') (nf : ¬ S.fp a) (h : H a ≠ none) : H' a ≠ none := by
  cases e : H a with
  | none => exact absurd e h
  | some o =>
    rw [s.hh a o nf e]
    exact fun z => nomatch z
/-- behind an expression -/
theorem RepG.step (r : RepG K S G0 H0 G σ H ρ μ as) (w0 : S.ok H0) (s : Stp S G H G' H') : RepG K S G0 H0 G' σ H' ρ μ as :=
  ⟨r.st.trans s, r.sl.mono s.gg, r.alen, r.nd, r.own, fun j a m e1 e2 =>
    have nf := r.nfp w0 (List.mem_of_getElem? e1)
    let ⟨h1, h2, h3⟩ := r.cell j a m e1 e2
    ⟨h1, s.some nf h2, h3.step nf s⟩⟩
/-- a slot gets data -/
theorem RepG.set (r : RepG K S G0 H0 G σ H ρ μ as) {i : Nat} {v : V} {d : D} (h : Dat K G v d) : RepG K S G0 H0 G (σ.set i (some v)) H (ρ.set i (.dat d)) μ as :=
  ⟨r.st, r.sl.set h, r.alen, r.nd, fun k j e => by
    by_cases x : i = k
    · subst x
      by_cases y : i < ρ.length
      · rw [List.getElem?_set_self y] at e
        cases e
      · rw [List.getElem?_eq_none (by simpa using y)] at e
        cases e
    · rw [List.getElem?_set_ne x] at e ⊢
      exact r.own k j e, r.cell⟩
/-- all one's own frozen -/
theorem RepG.freeze (r : RepG K S G0 H0 G σ H ρ μ as) (w0 : S.ok H0) : ∃ G1, Le G G1 ∧ Stp S G0 H0 G1 H ∧ Slots K G1 σ (view ρ μ) ∧ ∀ a ∈ as, G1 a = H a := by
  have w := r.st.w
  have h0 : ∀ a ∈ as, H0 a = none := fun a h => by
    obtain ⟨j, hj, e⟩ := List.mem_iff_getElem.mp h
    have hm : j < μ.length := by rw [← r.alen]; exact hj
    exact (r.cell j a μ[j] (by rw [List.getElem?_eq_getElem hj, e]) (List.getElem?_eq_getElem hm)).1
  have le1 : Le G (fun x => if x ∈ as then H x else G x) := fun a o e => by
    by_cases x : a ∈ as
    · show (if a ∈ as then H a else G a) = some o
      rw [if_pos x]
      exact w.le a o e
    · show (if a ∈ as then H a else G a) = some o
      rw [if_neg x]
      exact e
  refine ⟨fun x => if x ∈ as then H x else G x, le1, ⟨r.st.gg.trans le1, r.st.hh, fun a o e => ?_, ⟨fun a o e => ?_, w.src, fun a f => ?_⟩⟩, ⟨by unfold view; rw [List.length_map]; exact r.sl.len, fun i d e => ?_⟩, fun a h => if_pos h⟩
  · by_cases x : a ∈ as
    · exact .inr (h0 a x)
    · rw [if_neg x] at e
      exact r.st.nw a o e
  · by_cases x : a ∈ as
    · rw [if_pos x] at e
      exact e
    · rw [if_neg x] at e
      exact w.le a o e
  · have x : a ∉ as := fun x => r.nfp w0 x f
    show (if a ∈ as then H a else G a) = none
    rw [if_neg x]
    exact w.sep a f
  · unfold view at e
    rw [List.getElem?_map] at e
    cases q : ρ[i]? with
    | none =>
      rw [q] at e
      cases e
    | some s =>
      rw [q] at e
      cases s with
      | no => cases e
      | dat d0 =>
        cases e
        obtain ⟨v, e1, e2⟩ := r.sl.get i _ q
        exact ⟨v, e1, e2.mono le1⟩
      | own j =>
        obtain ⟨a, ha, hs⟩ := r.own i j q
        have e' : viewD μ (.own j) = .dat d := Option.some.inj e
        unfold viewD at e'
        dsimp only at e'
        have ma : a ∈ as := List.mem_of_getElem? ha
        cases hm : μ[j]? with
        | none =>
          rw [hm] at e'
          cases e'
        | some m =>
          rw [hm] at e'
          obtain ⟨_, _, c⟩ := r.cell j a m ha hm
          cases m with
          | gone => cases e'
          | lst ds =>
            cases e'
            obtain ⟨_, xs, h2, h3⟩ := c
            exact ⟨_, hs, .list (by show (if a ∈ as then H a else G a) = _; rw [if_pos ma]; exact h2) (h3.mono le1)⟩
          | dict ds =>
            cases e'
            obtain ⟨_, xs, h2, h3⟩ := c
            exact ⟨_, hs, .dict (.inl (by show (if a ∈ as then H a else G a) = _; rw [if_pos ma]; exact h2)) (h3.mono le1)⟩
          | dt P w ds =>
            cases e'
            obtain ⟨_, xs, h2, h3⟩ := c
            exact ⟨_, hs, .dt (by show (if a ∈ as then H a else G a) = _; rw [if_pos ma]; exact h2) (h3.mono le1)⟩
          | kset P w S n =>
            cases e'
            obtain ⟨_, h2⟩ := c
            exact ⟨_, hs, .kset (by show (if a ∈ as then H a else G a) = _; rw [if_pos ma]; exact h2)⟩
          | obj x C fs =>
            cases e'
            obtain ⟨_, _, dx, vs, h2, h3⟩ := c
            exact ⟨_, hs, .obj (by show (if a ∈ as then H a else G a) = _; rw [if_pos ma]; exact h2) (h3.mono le1)⟩
/-- behind an expression that was read over the frozen world, and whose value holds no address -/
theorem RepG.unfreeze {G1 : Hp} (r : RepG K S G0 H0 G σ H ρ μ as) (w0 : S.ok H0) (le : Le G G1) (fr : ∀ a ∈ as, G1 a = H a) (s : Stp S G1 H G' H') : RepG K S G0 H0 G σ H' ρ μ as := by
  have s1 : Stp S G H G H' := ⟨Le.refl _, s.hh, fun _ _ h => .inl h, ⟨(le.trans s.gg).trans s.w.le, s.w.src, r.st.w.sep⟩⟩
  exact r.step w0 s1

variable {N : EndsD} {te : TE} {tt : TT} {t u : TS} {i : Nat}
theorem ws_imp {N' : EndsD} (h : WS K S t ρ μ N) (h1 : ∀ ρ μ, N.nx ρ μ → N'.nx ρ μ) (h2 : ∀ d, N.rt d → N'.rt d) (h3 : ∀ ρ μ, N.bk ρ μ → N'.bk ρ μ) (h4 : ∀ ρ μ, N.ct ρ μ → N'.ct ρ μ) : WS K S t ρ μ N' :=
  fun G0 H0 σ H E w0 r f => h G0 H0 σ H E w0 r ⟨fun σ H ρ μ a b => f.nx σ H ρ μ a (h1 ρ μ b), fun v d G H a b c => f.rt v d G H a b (h2 d c), fun σ H ρ μ a b => f.bk σ H ρ μ a (h3 ρ μ b), fun σ H ρ μ a b => f.ct σ H ρ μ a (h4 ρ μ b)⟩
theorem ws_next (q : N.nx ρ μ) : WS K S tNext ρ μ N := fun G0 H0 σ H E w0 r f => f.nx σ H ρ μ r q
theorem ws_brk (q : N.bk ρ μ) : WS K S tBreak ρ μ N := fun G0 H0 σ H E w0 r f => f.bk σ H ρ μ r q
theorem ws_ct (q : N.ct ρ μ) : WS K S tCont ρ μ N := fun G0 H0 σ H E w0 r f => f.ct σ H ρ μ r q
theorem ws_seq (h : WS K S t ρ μ { N with nx := fun ρ' μ' => WS K S u ρ' μ' N }) : WS K S (tSeq t u) ρ μ N := fun G0 H0 σ H E w0 r f =>
  h G0 H0 σ H { E with nx := u E } w0 r ⟨fun σ' H' ρ' μ' r' q => q G0 H0 σ' H' E w0 r' f, f.rt, f.bk, f.ct⟩
theorem ws_cut (h : WS K S t ρ μ { N with nx := fun ρ' μ' => WS K S u ρ' μ' N }) : WS K S (Evl.tCut t u) ρ μ N := fun G0 H0 σ H E w0 r f =>
  ⟨u E, h G0 H0 σ H { E with nx := u E } w0 r ⟨fun σ' H' ρ' μ' r' q => q G0 H0 σ' H' E w0 r' f, f.rt, f.bk, f.ct⟩, fun _ _ h => h⟩
theorem ws_asg (h : WE K S te ρ fun d => N.nx (ρ.set i (.dat d)) μ) : WS K S (tAsg te (gName i)) ρ μ N := fun G0 H0 σ H E w0 r f => by
  obtain ⟨G, as, r⟩ := r
  exact h σ G H _ r.st.w r.sl fun v d G' H' s dt q => f.nx _ _ _ _ ⟨G', as, (r.step w0 s).set dt⟩ q
theorem ws_asgv (h : WE K S te (view ρ μ) fun d => scalD d = true ∧ N.nx (ρ.set i (.dat d)) μ) : WS K S (tAsg te (gName i)) ρ μ N := fun G0 H0 σ H E w0 r f => by
  obtain ⟨G, as, r⟩ := r
  obtain ⟨G1, le, s1, sl, fr⟩ := r.freeze w0
  exact h σ G1 H _ s1.w sl fun v d G' H' s dt q => f.nx _ _ _ _ ⟨G, as, (r.unfreeze w0 le fr s).set (scal_any dt q.1)⟩ q.2
theorem ws_drop (h : WE K S te (view ρ μ) fun _ => N.nx ρ μ) : WS K S (tDrop te) ρ μ N := fun G0 H0 σ H E w0 r f => by
  obtain ⟨G, as, r⟩ := r
  obtain ⟨G1, le, s1, sl, fr⟩ := r.freeze w0
  exact h σ G1 H _ s1.w sl fun v d G' H' s dt q => f.nx _ _ _ _ ⟨G, as, r.unfreeze w0 le fr s⟩ q
theorem ws_if (h : WT K S tt (view ρ μ) fun b => if b = true then WS K S t ρ μ N else WS K S u ρ μ N) : WS K S (tIfS tt t u) ρ μ N := fun G0 H0 σ H E w0 r f => by
  obtain ⟨G, as, r⟩ := r
  obtain ⟨G1, le, s1, sl, fr⟩ := r.freeze w0
  refine h σ G1 H _ s1.w sl fun b G' H' s q => ?_
  have r' := r.unfreeze w0 le fr s
  cases b with
  | true => exact q G0 H0 σ H' E w0 ⟨G, as, r'⟩ f
  | false => exact q G0 H0 σ H' E w0 ⟨G, as, r'⟩ f
theorem ws_ret (h : WE K S te (view ρ μ) N.rt) : WS K S (tRet te) ρ μ N := fun G0 H0 σ H E w0 r f => by
  obtain ⟨G, as, r⟩ := r
  obtain ⟨G1, le, s1, sl, fr⟩ := r.freeze w0
  exact h σ G1 H _ s1.w sl fun v d G' H' s dt q => f.rt v d G' H' (s1.trans s) dt q
theorem ws_retN (q : N.rt .non) : WS K S tRetN ρ μ N := fun G0 H0 σ H E w0 r f => by
  obtain ⟨G, as, r⟩ := r
  exact f.rt _ _ G H r.st .non q
/-- all of one's own becomes data -/
theorem ws_freeze (h : WS K S t (view ρ μ) [] N) : WS K S t ρ μ N := fun G0 H0 σ H E w0 r f => by
  obtain ⟨G, as, r⟩ := r
  obtain ⟨G1, le, s1, sl, fr⟩ := r.freeze w0
  refine h G0 H0 σ H E w0 ⟨G1, [], s1, sl, rfl, List.nodup_nil, fun i j e => ?_, fun j a m e _ => by simp at e⟩ f
  unfold view at e
  rw [List.getElem?_map] at e
  cases q : ρ[i]? with
  | none =>
    rw [q] at e
    cases e
  | some s =>
    rw [q] at e
    have e' : viewD μ s = .own j := Option.some.inj e
    cases s with
    | no => cases e'
    | dat d0 => cases e'
    | own k =>
      unfold viewD at e'
      dsimp only at e'
      split at e' <;> cases e'
/-- x = [] -/
theorem ws_new (q : N.nx (ρ.set i (.own μ.length)) (μ ++ [.lst []])) (hi : i < ρ.length) : WS K S (tAsg (tLst tNil) (gName i)) ρ μ N := fun G0 H0 σ H E w0 r f => by
  obtain ⟨G, as, r⟩ := r
  refine ⟨Nat.zero_le _, fun p hp => ?_⟩
  have w := r.st.w
  have nf := w.nfp hp
  have s : Stp S G H G (upd H p (.lst [])) := .junk w (Le.new hp)
  have r1 := r.step w0 s
  have hp0 : H0 p = none := by
    cases e : H0 p with
    | none => rfl
    | some o =>
      rw [r.st.hh p o nf e] at hp
      cases hp
  have pas : p ∉ as := fun z => by
    obtain ⟨j, hj, e⟩ := List.mem_iff_getElem.mp z
    have hm : j < μ.length := by rw [← r.alen]; exact hj
    exact (r.cell j p μ[j] (by rw [List.getElem?_eq_getElem hj, e]) (List.getElem?_eq_getElem hm)).2.1 hp
  refine f.nx _ _ _ _ ⟨G, as ++ [p], r1.st, ⟨by rw [List.length_set, List.length_set]; exact r.sl.len, fun j d e => ?_⟩, by rw [List.length_append, List.length_append, r.alen] <;> rfl, ?_, fun k j e => ?_, fun j a m e1 e2 => ?_⟩ q
  · by_cases x : i = j
    · subst x
      rw [List.getElem?_set_self hi] at e
      cases e
    · rw [List.getElem?_set_ne x] at e ⊢
      exact r1.sl.get j d e
  · exact List.nodup_append.mpr ⟨r.nd, by simp, fun a ha b hb => by
      have : b = p := by simpa using hb
      subst this
      exact fun z => pas (z ▸ ha)⟩
  · by_cases x : i = k
    · subst x
      rw [List.getElem?_set_self hi] at e
      have e' : μ.length = j := SD.own.inj (Option.some.inj e)
      subst e'
      exact ⟨p, by rw [← r.alen]; simp, by rw [List.getElem?_set_self (by rw [r.sl.len]; exact hi)]⟩
    · rw [List.getElem?_set_ne x] at e ⊢
      obtain ⟨a, h1, h2⟩ := r.own k j e
      exact ⟨a, by rw [List.getElem?_append_left (List.getElem?_eq_some_iff.mp h1).1]; exact h1, h2⟩
  · by_cases x : j < μ.length
    · rw [List.getElem?_append_left (by rw [r.alen]; exact x)] at e1
      rw [List.getElem?_append_left x] at e2
      exact r1.cell j a m e1 e2
    · rw [List.getElem?_append_right (by rw [r.alen]; omega)] at e1
      rw [List.getElem?_append_right (by omega)] at e2
      rw [r.alen] at e1
      cases hk : j - μ.length with
      | zero =>
        rw [hk] at e1 e2
        have e1' : some p = some a := e1
        have e2' : some (M.lst []) = some m := e2
        cases e1'
        cases e2'
        have hs : upd H p (.lst []) p = some (.lst []) := upd_same
        exact ⟨hp0, by rw [hs]; exact Option.some_ne_none _, w.fresh hp, [], hs, DatL.nil⟩
      | succ n =>
        rw [hk] at e1
        cases e1
/-- the content of one's own changes -/
theorem RepG.put (r : RepG K S G0 H0 G σ H ρ μ as) (w0 : S.ok H0) {j : Nat} {a : Addr} {m0 m : M} {o : HO} (ha : as[j]? = some a) (hm : μ[j]? = some m0) (hg : G a = none) (ok : CellOk K G (upd H a o) a m) : RepG K S G0 H0 G σ (upd H a o) ρ (μ.set j m) as := by
  have w := r.st.w
  have nf := r.nfp w0 (List.mem_of_getElem? ha)
  obtain ⟨h0, h1, _⟩ := r.cell j a m0 ha hm
  have ne : ∀ {k b m'}, as[k]? = some b → μ[k]? = some m' → k ≠ j → b ≠ a := fun {k b m'} e1 _ hk z => by
    subst z
    obtain ⟨l1, e3⟩ := List.getElem?_eq_some_iff.mp e1
    obtain ⟨l2, e4⟩ := List.getElem?_eq_some_iff.mp ha
    exact hk ((List.getElem_inj r.nd).mp (e3.trans e4.symm))
  refine ⟨⟨r.st.gg, fun b u n e => ?_, r.st.nw, ⟨fun b u e => ?_, ?_, w.sep⟩⟩, r.sl, by rw [List.length_set]; exact r.alen, r.nd, r.own, fun k b m' e1 e2 => ?_⟩
  · by_cases x : b = a
    · subst x
      rw [h0] at e
      cases e
    · rw [upd_ne x]
      exact r.st.hh b u n e
  · by_cases x : b = a
    · subst x
      rw [hg] at e
      cases e
    · rw [upd_ne x]
      exact w.le b u e
  · exact S.loc H _ (fun b f => (upd_ne (fun z : b = a => nf (by rw [z] at f; exact f))).symm) w.src
  · by_cases x : k = j
    · subst x
      rw [ha] at e1
      cases e1
      rw [List.getElem?_set_self (List.getElem?_eq_some_iff.mp hm).1] at e2
      cases e2
      have hs : upd H a o a = some o := upd_same
      exact ⟨h0, by rw [hs]; exact Option.some_ne_none _, ok⟩
    · rw [List.getElem?_set_ne (Ne.symm x)] at e2
      have nb := ne e1 e2 x
      obtain ⟨c1, c2, c3⟩ := r.cell k b m' e1 e2
      refine ⟨c1, by rw [upd_ne nb]; exact c2, ?_⟩
      cases m' with
      | gone => trivial
      | lst ds =>
        obtain ⟨q1, xs, q2, q3⟩ := c3
        exact ⟨q1, xs, by rw [upd_ne nb]; exact q2, q3⟩
      | dict ds =>
        obtain ⟨q1, xs, q2, q3⟩ := c3
        exact ⟨q1, xs, by rw [upd_ne nb]; exact q2, q3⟩
      | dt P w ds =>
        obtain ⟨q1, xs, q2, q3⟩ := c3
        exact ⟨q1, xs, by rw [upd_ne nb]; exact q2, q3⟩
      | kset P w S n =>
        obtain ⟨q1, q2⟩ := c3
        exact ⟨q1, by rw [upd_ne nb]; exact q2⟩
      | obj x C fs =>
        obtain ⟨q0, q1, dx, vs, q2, q3⟩ := c3
        exact ⟨q0, q1, dx, vs, by rw [upd_ne nb]; exact q2, q3⟩
/-- xs.append(e) -/
theorem ws_append {j : Nat} {ds : List D} (hi : ρ[i]? = some (.own j)) (hj : μ[j]? = some (.lst ds)) (hz : ds.length < 100000) (h : WE K S te ρ fun d => N.nx ρ (μ.set j (.lst (ds ++ [d])))) :
    WS K S (tDrop (tBM K "list" rAppend (tVar i) (tCons te tNil))) ρ μ N := fun G0 H0 σ H E w0 r f => by
  obtain ⟨G, as, r⟩ := r
  obtain ⟨a, ha, hs⟩ := r.own i j hi
  obtain ⟨_, _, _, xs, hx, _⟩ := r.cell j a _ ha hj
  refine ⟨_, hs, Or.inl ⟨rfl, _, SqL.of hx⟩, ?_⟩
  refine h σ G H _ r.st.w r.sl fun v d G' H' s dt q => ?_
  have r' := r.step w0 s
  obtain ⟨_, _, hg, ys, hy, hd⟩ := r'.cell j a _ ha hj
  refine ⟨a, ys, v, rfl, rfl, hy, by rw [hd.length]; exact Nat.lt_of_lt_of_le hz (by decide), ?_⟩
  exact f.nx _ _ _ _ ⟨G', as, r'.put (m := .lst (ds ++ [d])) w0 ha hj hg ⟨hg, _, upd_same, hd.append (.cons dt .nil)⟩⟩ q
/-- .. where e reads what is one's own, and holds no address -/
theorem ws_appendv {j : Nat} {ds : List D} (hi : ρ[i]? = some (.own j)) (hj : μ[j]? = some (.lst ds)) (hz : ds.length < 100000) (h : WE K S te (view ρ μ) fun d => scalD d = true ∧ N.nx ρ (μ.set j (.lst (ds ++ [d])))) :
    WS K S (tDrop (tBM K "list" rAppend (tVar i) (tCons te tNil))) ρ μ N := fun G0 H0 σ H E w0 r f => by
  obtain ⟨G, as, r⟩ := r
  obtain ⟨a, ha, hs⟩ := r.own i j hi
  obtain ⟨_, _, _, xs, hx, _⟩ := r.cell j a _ ha hj
  refine ⟨_, hs, Or.inl ⟨rfl, _, SqL.of hx⟩, ?_⟩
  obtain ⟨G1, le, s1, sl, fr⟩ := r.freeze w0
  refine h σ G1 H _ s1.w sl fun v d G' H' s dt q => ?_
  have r' := r.unfreeze w0 le fr s
  obtain ⟨_, _, hg, ys, hy, hd⟩ := r'.cell j a _ ha hj
  refine ⟨a, ys, v, rfl, rfl, hy, by rw [hd.length]; exact Nat.lt_of_lt_of_le hz (by decide), ?_⟩
  exact f.nx _ _ _ _ ⟨G, as, r'.put (m := .lst (ds ++ [d])) w0 ha hj hg ⟨hg, _, upd_same, hd.append (.cons (scal_any dt q.1) .nil)⟩⟩ q.2
end
end X3

set_option Elab.async false
set_option linter.all false
set_option maxRecDepth 100000
set_option maxHeartbeats 2000000
/-! # X3: targets, loops, comprehensions, calls -/
namespace X3
open PySem L2
/-- what a target leaves: the slots at is hold data, the others are as they were -/
structure Tgt (K : PySem.W.Frag) (G : Hp) (is : List Nat) (σ σ' : L2.St) (ρ ρ' : Rho) : Prop where
  sl : Slots K G σ' ρ'
  len : σ'.length = σ.length
  rlen : ρ'.length = ρ.length
  old : ∀ i, i ∉ is → σ'[i]? = σ[i]? ∧ ρ'[i]? = ρ[i]?
  new : ∀ (i j : Nat), i ∈ is → ρ'[i]? ≠ some (SD.own j)
def WG (K : PySem.W.Frag) (is : List Nat) (g : TG) (d : D) (ρ : Rho) (P : Rho → Prop) : Prop :=
  ∀ σ G H v (k : L2.St → Hp → Prop), Le G H → Slots K G σ ρ → Dat K G v d → (∀ σ' ρ', Tgt K G is σ σ' ρ ρ' → P ρ' → k σ' H) → g v σ H k
def WGs (K : PySem.W.Frag) (is : List Nat) (g : TGs) (ds : List D) (ρ : Rho) (P : Rho → Prop) : Prop :=
  ∀ σ G H vs (k : L2.St → Hp → Prop), Le G H → Slots K G σ ρ → DatL K G vs ds → (∀ σ' ρ', Tgt K G is σ σ' ρ ρ' → P ρ' → k σ' H) → g vs σ H k
section
variable {K : PySem.W.Frag} {S : Res} {ρ : Rho} {P : Rho → Prop} {d : D} {ds : List D}
theorem wg_name {i : Nat} (q : P (ρ.set i (.dat d))) : WG K [i] (gName i) d ρ P := fun σ G H v k le sl dt c =>
  c _ _ ⟨sl.set dt, by rw [List.length_set], by rw [List.length_set], fun j hj => by
    have ne : i ≠ j := fun z => hj (by simp [z])
    exact ⟨List.getElem?_set_ne ne, List.getElem?_set_ne ne⟩, fun j m hj e => by
    have z : j = i := by simpa using hj
    subst z
    by_cases y : j < ρ.length
    · rw [List.getElem?_set_self y] at e
      cases e
    · rw [List.getElem?_eq_none (by simpa using y)] at e
      cases e⟩ q
theorem wgs_nil (q : P ρ) : WGs K [] gNil [] ρ P := fun σ G H v k le sl dt c => by
  cases dt
  exact ⟨rfl, c σ ρ ⟨sl, rfl, rfl, fun _ _ => ⟨rfl, rfl⟩, fun _ _ h => by simp at h⟩ q⟩
theorem wgs_cons {is js : List Nat} {g : TG} {gs : TGs} (h : WG K is g d ρ fun ρ' => WGs K js gs ds ρ' P) : WGs K (is ++ js) (gCons g gs) (d :: ds) ρ P := fun σ G H v k le sl dt c => by
  cases dt with
  | cons a r =>
    refine ⟨_, _, rfl, h σ G H _ _ le sl a fun σ1 ρ1 t1 h1 => h1 σ1 G H _ _ le t1.sl r fun σ2 ρ2 t2 q => c σ2 ρ2 ⟨t2.sl, t2.len.trans t1.len, t2.rlen.trans t1.rlen, fun i hi => ?_, fun i j hi => ?_⟩ q⟩
    · have a1 := t1.old i fun z => hi (List.mem_append_left _ z)
      have a2 := t2.old i fun z => hi (List.mem_append_right _ z)
      exact ⟨a2.1.trans a1.1, a2.2.trans a1.2⟩
    · by_cases x : i ∈ js
      · exact t2.new i j x
      · rw [(t2.old i x).2]
        exact t1.new i j ((List.mem_append.mp hi).resolve_right x)
theorem wg_tup {is : List Nat} {g : TGs} {n : Nat} (hn : ds.length = n) (h : WGs K is g ds ρ P) : WG K is (gTup K n g) (.tup ds) ρ P := fun σ G H v k le sl dt c => by
  cases dt with
  | tup h1 r => exact ⟨_, _, rfl, le_t le h1.sq, by rw [r.length]; exact hn, h σ G H _ k le sl r c⟩
/-- a pair that a walk gives -/
theorem wg_wtup {is : List Nat} {g : TGs} {n : Nat} (hn : ds.length = n) (h : WGs K is g ds ρ P) : WG K is (gTup K n g) (.wtup ds) ρ P := fun σ G H v k le sl dt c => by
  cases dt with
  | wtup h1 r => exact ⟨_, _, rfl, le_t le h1, by rw [r.length]; exact hn, h σ G H _ k le sl r c⟩

theorem RepG.tgt {G0 H0 G H : Hp} {σ σ' : L2.St} {ρ' : Rho} {μ : Mu} {as : List Addr} {is : List Nat} (r : RepG K S G0 H0 G σ H ρ μ as) (t : Tgt K G is σ σ' ρ ρ') : RepG K S G0 H0 G σ' H ρ' μ as :=
  ⟨r.st, t.sl, r.alen, r.nd, fun i j e => by
    by_cases x : i ∈ is
    · exact absurd e (t.new i j x)
    · obtain ⟨a1, a2⟩ := t.old i x
      rw [a2] at e
      obtain ⟨a, h1, h2⟩ := r.own i j e
      exact ⟨a, h1, a1.trans h2⟩, r.cell⟩
/-- a target of any form -/
theorem ws_asgT {μ : Mu} {N : EndsD} {te : TE} {g : TG} {is : List Nat} (h : WE K S te ρ fun d => WG K is g d ρ fun ρ' => N.nx ρ' μ) : WS K S (tAsg te g) ρ μ N := fun G0 H0 σ H E w0 r f => by
  obtain ⟨G, as, r⟩ := r
  refine h σ G H _ r.st.w r.sl fun v d G' H' s dt q => ?_
  have r' := r.step w0 s
  exact q σ G' H' v _ s.w.le r'.sl dt fun σ' ρ' t q' => f.nx _ _ _ _ ⟨G', as, r'.tgt t⟩ q'
end

/-! ### what is walked -/
/-- J gives, one after another, the data ds, as long as G stands -/
structure IterOk (K : PySem.W.Frag) (S : Res) (J : It) (G : Hp) (ds : List D) : Prop where
  ex : ∃ (Gd : Hp → Prop) (Y : Nat → Hp → V → Hp → Prop), Walk J ds.length Gd Y ∧ (∀ H, Le G H → Gd H) ∧
    ∀ i H x H' G1, i < ds.length → Le G G1 → Wld S G1 H → Y i H x H' → ∃ d G2, ds[i]? = some d ∧ Stp S G1 H G2 H' ∧ Dat K G2 x d
def WI (K : PySem.W.Frag) (S : Res) (wi : TI) (ρ : Rho) (P : List D → Prop) : Prop :=
  ∀ σ G H (R : It → Hp → Prop), Wld S G H → Slots K G σ ρ → (∀ J ds G' H', Stp S G H G' H' → IterOk K S J G' ds → P ds → R J H') → wi σ H R
section
variable {K : PySem.W.Frag} {S : Res} {ρ : Rho} {te : TE} {tA : TA} {P : List D → Prop}
theorem iter_list {G : Hp} {a : Addr} {xs : List V} {ds : List D} (h : G a = some (.lst xs)) (r : DatL K G xs ds) : IterOk K S (Itl K a) G ds :=
  ⟨_, _, by rw [← r.length]; exact walk_list (xs := xs), fun H le => SqL.of (le _ _ h), fun i H x H' G1 hi le w y => by
    obtain ⟨rfl, e⟩ := y
    obtain ⟨d, e1, e2⟩ := r.getV e
    exact ⟨d, G1, e1, .refl w, e2.mono le⟩⟩
theorem iter_tup {G : Hp} {a : Addr} {xs : List V} {ds : List D} (h : SqT K G a xs) (r : DatL K G xs ds) : IterOk K S (Itt K a) G ds :=
  ⟨_, _, by rw [← r.length]; exact walk_tup (xs := xs), fun H le => le_t le h, fun i H x H' G1 hi le w y => by
    obtain ⟨rfl, e⟩ := y
    obtain ⟨d, e1, e2⟩ := r.getV e
    exact ⟨d, G1, e1, .refl w, e2.mono le⟩⟩
theorem wi_list (h : WE K S te ρ fun d => ∃ ds, d = .list ds ∧ P ds) : WI K S (iList K te) ρ P := fun σ G H R w s c =>
  h σ G H _ w s fun v d G' H' st dt q => by
    obtain ⟨ds, rfl, q⟩ := q
    cases dt with
    | list h1 r => exact ⟨_, rfl, ⟨_, SqL.of (st.w.le _ _ h1)⟩, c _ ds G' H' st (iter_list h1 r) q⟩
theorem wi_tup (h : WE K S te ρ fun d => ∃ ds, d = .tup ds ∧ P ds) : WI K S (iTup K te) ρ P := fun σ G H R w s c =>
  h σ G H _ w s fun v d G' H' st dt q => by
    obtain ⟨ds, rfl, q⟩ := q
    cases dt with
    | tup h1 r => exact ⟨_, rfl, ⟨_, le_t st.w.le h1.sq⟩, c _ ds G' H' st (iter_tup h1.sq r) q⟩
/-- lo, lo + 1 .. -/
def rng (lo : Int) (n : Nat) : List D := (List.range n).map fun i => .int (lo + (i : Nat))
theorem rng_len (lo : Int) (n : Nat) : (rng lo n).length = n := by unfold rng; rw [List.length_map, List.length_range]
theorem rng_get {lo : Int} {n i : Nat} (h : i < n) : (rng lo n)[i]? = some (.int (lo + (i : Nat))) := by
  unfold rng
  rw [List.getElem?_map, List.getElem?_range h]
  rfl
theorem iter_rng {G : Hp} {lo : Int} {n : Nat} : IterOk K S (Itr lo n) G (rng lo n) :=
  ⟨_, _, by rw [rng_len]; exact walk_range, fun _ _ => trivial, fun i H x H' G1 hi le w y => by
    rw [rng_len] at hi
    obtain ⟨rfl, rfl⟩ := y
    exact ⟨_, G1, rng_get hi, .refl w, .int _⟩⟩
theorem wi_rng1 (h : WA K S tA ρ fun vs => ∃ n : Int, vs = [.int n] ∧ -1000000 ≤ n ∧ n ≤ 1000000 ∧ P (rng 0 n.toNat)) : WI K S (iRng1 tA) ρ P := fun σ G H R w s c =>
  h σ G H _ w s fun vs ds G' H' st dt q => by
    obtain ⟨n, rfl, h1, h2, q⟩ := q
    cases dt with
    | cons a r =>
      cases r
      cases a
      exact ⟨n, rfl, by omega, by omega, c _ _ G' H' st iter_rng q⟩
theorem wi_rng2 (h : WA K S tA ρ fun vs => ∃ m n : Int, vs = [.int m, .int n] ∧ (-1000000 ≤ m ∧ m ≤ 1000000 ∧ -1000000 ≤ n ∧ n ≤ 1000000) ∧ P (rng m (n - m).toNat)) : WI K S (iRng2 tA) ρ P := fun σ G H R w s c =>
  h σ G H _ w s fun vs ds G' H' st dt q => by
    obtain ⟨m, n, rfl, ⟨h1, h2, h3, h4⟩, q⟩ := q
    cases dt with
    | cons a r =>
      cases a
      cases r with
      | cons a r =>
        cases r
        cases a
        exact ⟨m, n, rfl, ⟨by omega, by omega, by omega, by omega⟩, c _ _ G' H' st iter_rng q⟩
theorem RepG.rebase {G0 H0 G1 H1 G H : Hp} {σ : L2.St} {ρ : Rho} {μ : Mu} {as : List Addr} (r : RepG K S G1 H0 G σ H ρ μ as) (s : Stp S G0 H0 G1 H1) : RepG K S G0 H0 G σ H ρ μ as :=
  ⟨⟨s.gg.trans r.st.gg, r.st.hh, fun a o e => (r.st.nw a o e).elim (fun z => s.nw a o z) .inr, r.st.w⟩, r.sl, r.alen, r.nd, r.own, r.cell⟩
theorem RepG.debase {G0 H0 G H : Hp} {σ : L2.St} {ρ : Rho} {μ : Mu} {as : List Addr} (r : RepG K S G0 H0 G σ H ρ μ as) : RepG K S G H0 G σ H ρ μ as :=
  ⟨⟨Le.refl _, r.st.hh, fun a o e => .inl e, r.st.w⟩, r.sl, r.alen, r.nd, r.own, r.cell⟩
/-- a for loop: I by what has been walked -/
theorem ws_for {wi : TI} {g : TG} {tb : TS} {μ : Mu} {N : EndsD} {is : List Nat} (I : List D → Rho → Mu → Prop)
    (h : WI K S wi ρ fun ds => I [] ρ μ ∧ (∀ pre d post ρ' μ', ds = pre ++ d :: post → I pre ρ' μ' → WG K is g d ρ' fun ρ2 => WS K S tb ρ2 μ' { N with nx := I (pre ++ [d]), ct := I (pre ++ [d]), bk := N.nx }) ∧ ∀ ρ' μ', I ds ρ' μ' → N.nx ρ' μ') :
    WS K S (tFor wi g tb) ρ μ N := fun G0 H0 σ H E w0 r f => by
  obtain ⟨G, as, r⟩ := r
  refine h σ G H _ r.st.w r.sl fun J ds G' H' s it q => ?_
  obtain ⟨i0, turn, fin⟩ := q
  obtain ⟨Gd, Y, wk, gd, yl⟩ := it.ex
  have r1 := r.step w0 s
  have sb := r1.st
  refine for_it wk (fun i σ H => ∃ ρ' μ' G2 as', RepG K S G' H0 G2 σ H ρ' μ' as' ∧ I (ds.take i) ρ' μ') ⟨ρ, μ, G', as, r1.debase, i0⟩ ?_ ?_ ?_
  · rintro i σ1 H1 _ ⟨ρ', μ', G2, as', r2, _⟩
    exact gd H1 (r2.st.gg.trans r2.st.w.le)
  · rintro i x σ1 H1 H2 hi ⟨ρ', μ', G2, as', r2, iv⟩ y
    obtain ⟨d, G3, e, st3, dt⟩ := yl i H1 x H2 G2 hi r2.st.gg r2.st.w y
    have r3 := r2.step w0 st3
    have ed : ds = ds.take i ++ d :: ds.drop (i + 1) := by
      have e2 := List.getElem?_eq_some_iff.mp e
      obtain ⟨hl, e2⟩ := e2
      rw [← e2, ← List.drop_eq_getElem_cons hl, List.take_append_drop]
    have et : ds.take i ++ [d] = ds.take (i + 1) := by
      rw [List.take_add_one, e]
      rfl
    refine turn (ds.take i) d (ds.drop (i + 1)) ρ' μ' ed iv σ1 G3 H2 x _ r3.st.w.le r3.sl dt fun σ4 ρ4 t4 body => ?_
    refine body G' H0 σ4 H2 { E with nx := _, ct := _, bk := E.nx } w0 ⟨G3, as', r3.tgt t4⟩ ⟨?_, ?_, ?_, ?_⟩
    · rintro σ5 H5 ρ5 μ5 ⟨G5, as5, r5⟩ q5
      exact ⟨ρ5, μ5, G5, as5, r5, by rw [← et]; exact q5⟩
    · intro v d5 G5 H5 s5 dt5 q5
      exact f.rt v d5 G5 H5 ⟨sb.gg.trans s5.gg, s5.hh, fun a o e => (s5.nw a o e).elim (fun z => sb.nw a o z) .inr, s5.w⟩ dt5 q5
    · rintro σ5 H5 ρ5 μ5 ⟨G5, as5, r5⟩ q5
      exact f.nx _ _ _ _ ⟨G5, as5, r5.rebase sb⟩ q5
    · rintro σ5 H5 ρ5 μ5 ⟨G5, as5, r5⟩ q5
      exact ⟨ρ5, μ5, G5, as5, r5, by rw [← et]; exact q5⟩
  · rintro σ1 H1 ⟨ρ', μ', G2, as', r2, iv⟩
    rw [List.take_length] at iv
    exact f.nx _ _ _ _ ⟨G2, as', r2.rebase sb⟩ (fin ρ' μ' iv)
end

/-! ### comprehensions -/
def wipeR (ρ : Rho) : List Nat → Rho
  | [] => ρ
  | v :: vs => (wipeR ρ vs).set v .no
section
variable {K : PySem.W.Frag} {S : Res} {ρ : Rho}
theorem wipeR_len (ρ : Rho) : ∀ vs : List Nat, (wipeR ρ vs).length = ρ.length
  | [] => rfl
  | v :: vs => by unfold wipeR; rw [List.length_set, wipeR_len ρ vs]
theorem slots_wipe {G : Hp} {σ : L2.St} (s : Slots K G σ ρ) : ∀ vs : List Nat, Slots K G (wipe σ vs) (wipeR ρ vs)
  | [] => s
  | v :: vs => ⟨by rw [wipe_length, wipeR_len, s.len], fun i d e => by
    unfold wipeR at e
    unfold wipe
    by_cases x : v = i
    · subst x
      by_cases y : v < (wipeR ρ vs).length
      · rw [List.getElem?_set_self y] at e
        cases e
      · rw [List.getElem?_eq_none (by simpa using y)] at e
        cases e
    · rw [List.getElem?_set_ne x] at e ⊢
      exact (slots_wipe s vs).get i d e⟩
theorem wipe_get {σ : L2.St} {i : Nat} : ∀ {vs : List Nat}, i ∉ vs → (wipe σ vs)[i]? = σ[i]?
  | [], _ => rfl
  | v :: vs, h => by
    have h' := not_or.mp (fun z => h (List.mem_cons.mpr z))
    unfold wipe
    rw [List.getElem?_set_ne (Ne.symm h'.1)]
    exact wipe_get h'.2
theorem wipe_in {σ : L2.St} {i : Nat} (hi : i < σ.length) : ∀ {vs : List Nat}, i ∈ vs → (wipe σ vs)[i]? = some none
  | v :: vs, h => by
    unfold wipe
    by_cases x : v = i
    · subst x
      rw [List.getElem?_set_self (by rw [wipe_length]; exact hi)]
    · rw [List.getElem?_set_ne x]
      exact wipe_in hi ((List.mem_cons.mp h).resolve_left (Ne.symm x))
theorem wipe_eq {σ σ' : L2.St} {vs : List Nat} (hl : σ'.length = σ.length) (h : ∀ i, i ∉ vs → σ'[i]? = (wipe σ vs)[i]?) : wipe σ' vs = wipe σ vs := by
  refine List.ext_getElem? fun i => ?_
  by_cases x : i ∈ vs
  · by_cases y : i < σ.length
    · rw [wipe_in (by rw [hl]; exact y) x, wipe_in y x]
    · rw [List.getElem?_eq_none (by rw [wipe_length]; omega), List.getElem?_eq_none (by rw [wipe_length]; omega)]
  · rw [wipe_get x, h i x]
/-- [te for g in wi if tt]: I by what has been walked and what has been made -/
theorem we_lc {wi : TI} {g : TG} {tt : TT} {te : TE} {vs is : List Nat} {Q : D → Prop} (I : List D → List D → Prop) (hv : ∀ i ∈ is, i ∈ vs)
    (h : WI K S wi ρ fun ds => I [] [] ∧ (∀ pre d post out, ds = pre ++ d :: post → I pre out → WG K is g d (wipeR ρ vs) fun ρ2 => WT K S tt ρ2 fun b =>
      if b = true then WE K S te ρ2 fun y => out.length < 100000 ∧ I (pre ++ [d]) (out ++ [y]) else I (pre ++ [d]) out) ∧ ∀ out, I ds out → Q (.list out)) :
    WE K S (tLc wi g tt te vs) ρ Q := fun σ G H k w sl c => by
  refine h σ G H _ w sl fun J ds G' H' s it q => ?_
  obtain ⟨i0, turn, fin⟩ := q
  obtain ⟨Gd, Y, wk, gd, yl⟩ := it.ex
  have w0 := s.w.src
  intro p hp
  have sl0 : Slots K G' (wipe σ vs) (wipeR ρ vs) := slots_wipe (sl.mono s.gg) vs
  have start : RepG K S G' H' G' [] (upd H' p (.lst [])) [] [.lst []] [p] := by
    refine ⟨.junk s.w (Le.new hp), ⟨rfl, fun i d e => by simp at e⟩, rfl, by simp, fun i j e => by simp at e, fun j a m e1 e2 => ?_⟩
    have hs : upd H' p (.lst []) p = some (.lst []) := upd_same
    cases j with
    | zero =>
      have e1' : some p = some a := e1
      have e2' : some (M.lst []) = some m := e2
      cases e1'
      cases e2'
      exact ⟨hp, by rw [hs]; exact Option.some_ne_none _, s.w.fresh hp, [], hs, DatL.nil⟩
    | succ n => simp at e1
  refine lc_it wk (fun i H => ∃ out G2, RepG K S G' H' G2 [] H [] [.lst out] [p] ∧ I (ds.take i) out) ⟨[], G', start, i0⟩ ?_ ?_ ?_
  · rintro i H1 _ ⟨out, G2, r2, _⟩
    exact gd H1 (r2.st.gg.trans r2.st.w.le)
  · rintro i x H1 H2 hi ⟨out, G2, r2, iv⟩ y
    obtain ⟨d, G3, e, st3, dt⟩ := yl i H1 x H2 G2 hi r2.st.gg r2.st.w y
    have r3 := r2.step w0 st3
    have ed : ds = ds.take i ++ d :: ds.drop (i + 1) := by
      have e2 := List.getElem?_eq_some_iff.mp e
      obtain ⟨hl, e2⟩ := e2
      rw [← e2, ← List.drop_eq_getElem_cons hl, List.take_append_drop]
    have et : ds.take i ++ [d] = ds.take (i + 1) := by
      rw [List.take_add_one, e]
      rfl
    refine turn (ds.take i) d (ds.drop (i + 1)) out ed iv _ G3 H2 x _ r3.st.w.le (sl0.mono r3.st.gg) dt fun σ4 ρ4 t4 body => ?_
    have hw : wipe σ4 vs = wipe σ vs := by
      refine wipe_eq (by rw [t4.len, wipe_length]) fun i hi => ?_
      exact (t4.old i fun z => hi (hv i z)).1
    refine ⟨hw, body σ4 G3 H2 _ r3.st.w t4.sl fun b G4 H4 s4 qb => ?_⟩
    have r4 := r3.step w0 s4
    cases b with
    | false => exact ⟨out, G4, r4, by rw [← et]; exact qb⟩
    | true =>
      refine qb σ4 G4 H4 _ r4.st.w (t4.sl.mono s4.gg) fun v d5 G5 H5 s5 dt5 q5 => ?_
      have r5 := r4.step w0 s5
      obtain ⟨_, _, hg, xs, hx, dx⟩ := r5.cell 0 p _ rfl rfl
      refine ⟨xs, hx, by rw [dx.length]; exact Nat.lt_of_lt_of_le q5.1 (by decide), out ++ [d5], G5, ?_, by rw [← et]; exact q5.2⟩
      exact r5.put (j := 0) (m := .lst (out ++ [d5])) w0 rfl rfl hg ⟨hg, _, upd_same, dx.append (.cons dt5 .nil)⟩
  · rintro H1 ⟨out, G2, r2, iv⟩
    rw [List.take_length] at iv
    obtain ⟨G3, le, s3, _, fr⟩ := r2.freeze w0
    obtain ⟨_, _, _, xs, hx, dx⟩ := r2.cell 0 p _ rfl rfl
    exact c _ _ G3 H1 (s.trans s3) (.list (by rw [fr p (by simp)]; exact hx) (dx.mono le)) (fin out iv)
/-- no test -/
theorem wt_yes {P : Bool → Prop} (q : P true) : WT K S tYes ρ P := fun σ G H k w s c => c true G H (.refl w) q

/-! ### while -/
theorem ws_while {tt : TT} {tb : TS} {μ : Mu} {N : EndsD} (I : Nat → Rho → Mu → Prop) (m0 : Nat) (h0 : I m0 ρ μ)
    (hs : ∀ m ρ' μ', I m ρ' μ' → WT K S tt (view ρ' μ') fun b => if b = true then WS K S tb ρ' μ' { N with nx := fun ρ2 μ2 => ∃ m', m' < m ∧ I m' ρ2 μ2, ct := fun ρ2 μ2 => ∃ m', m' < m ∧ I m' ρ2 μ2, bk := N.nx } else N.nx ρ' μ') :
    WS K S (tWhile tt tb) ρ μ N := fun G0 H0 σ H E w0 r f => by
  refine ⟨fun m σ H => ∃ ρ' μ', Rep K S G0 H0 σ H ρ' μ' ∧ I m ρ' μ', ⟨m0, ρ, μ, r, h0⟩, ?_⟩
  rintro m σ1 H1 ⟨ρ', μ', ⟨G, as, r⟩, iv⟩
  obtain ⟨G1, le, s1, sl, fr⟩ := r.freeze w0
  refine hs m ρ' μ' iv σ1 G1 H1 _ s1.w sl fun b G' H' s q => ?_
  have r' := r.unfreeze w0 le fr s
  cases b with
  | false => exact f.nx _ _ _ _ ⟨G, as, r'⟩ q
  | true =>
    refine ⟨fun σ H => ∃ m', m' < m ∧ ∃ ρ' μ', Rep K S G0 H0 σ H ρ' μ' ∧ I m' ρ' μ', fun σ2 H2 z => ?_, ?_⟩
    · obtain ⟨m', h1, h2⟩ := z
      exact ⟨m', h1, h2⟩
    · refine q G0 H0 σ1 H' { E with nx := _, ct := _, bk := E.nx } w0 ⟨G, as, r'⟩ ⟨?_, f.rt, f.nx, ?_⟩
      · rintro σ2 H2 ρ2 μ2 r2 ⟨m', h1, h2⟩
        exact ⟨m', h1, ρ2, μ2, r2, h2⟩
      · rintro σ2 H2 ρ2 μ2 r2 ⟨m', h1, h2⟩
        exact ⟨m', h1, ρ2, μ2, r2, h2⟩

/-! ### calls -/
/-- a def's promise over data: P says what is asked of the arguments so that what is handed back is in q -/
def spD (K : PySem.W.Frag) (P : Res → List D → (D → Prop) → Prop) : Sp := fun vs H Q _ => ∃ (S : Res) (G : Hp) (ds : List D) (q : D → Prop), Wld S G H ∧ DatL K G vs ds ∧ P S ds q ∧ ∀ v d G' H', Stp S G H G' H' → Dat K G' v d → q d → Q v H'
theorem we_call {P : Res → List D → (D → Prop) → Prop} {tA : TA} {E : XK} {Q : D → Prop} (h : WA K S tA ρ fun ds => P S ds Q) : WE K S (tCall (spD K P) [] E tA) ρ Q := fun σ G H k w sl c =>
  h σ G H _ w sl fun vs ds G' H' s dt q => ⟨S, G', ds, Q, s.w, by rw [List.append_nil]; exact dt, q, fun v d G2 H2 s2 dt2 q2 => c v d G2 H2 (s.trans s2) dt2 q2⟩
/-- a def's slots at its entry -/
def startR (N : List Str) (ds : List D) : Rho := ds.map .dat ++ List.replicate (N.length - ds.length) .no
theorem slots_start {G : Hp} {N : List Str} {vs : List V} {ds : List D} (r : DatL K G vs ds) : Slots K G (L2.start N vs) (startR N ds) := by
  have hl := r.length
  refine ⟨by unfold L2.start startR; simp [hl], fun i d e => ?_⟩
  unfold startR at e
  unfold L2.start
  by_cases x : i < ds.length
  · rw [List.getElem?_append_left (by simpa using x)] at e
    rw [List.getElem?_append_left (by rw [List.length_map, hl]; exact x)]
    rw [List.getElem?_map] at e ⊢
    cases q : ds[i]? with
    | none =>
      rw [q] at e
      cases e
    | some d' =>
      rw [q] at e
      cases e
      obtain ⟨v, h1, h2⟩ := r.get q
      exact ⟨v, by rw [h1]; rfl, h2⟩
  · rw [List.getElem?_append_right (by simpa using x)] at e
    have z := List.mem_of_getElem? e
    have z' := List.eq_of_mem_replicate z
    cases z'
/-- a def's body: the reading of its term, over data -/
theorem body_of {t : TS} {N : List Str} {vs : List V} {ds : List D} {G H : Hp} {Q : VK} {q : D → Prop} (w : Wld S G H) (r : DatL K G vs ds) (c : ∀ v d G' H', Stp S G H G' H' → Dat K G' v d → q d → Q v H')
    (h : WS K S t (startR N ds) [] { nx := fun _ _ => q .non, rt := q }) : t { nx := fun _ H' => Q .non H', rt := Q } (L2.start N vs) H := by
  refine h G H _ H _ w.src ⟨G, [], .refl w, slots_start r, rfl, List.nodup_nil, fun i j e => ?_, fun j a m e1 _ => by simp at e1⟩ ⟨?_, c, fun _ _ _ _ _ z => z, fun _ _ _ _ _ z => z⟩
  · unfold startR at e
    have z := List.mem_of_getElem? e
    rcases List.mem_append.mp z with z | z
    · obtain ⟨d, _, z⟩ := List.mem_map.mp z
      cases z
    · have z' := List.eq_of_mem_replicate z
      cases z'
  · rintro σ H1 ρ μ ⟨G1, as, r1⟩ z
    exact c _ _ G1 H1 r1.st .non z
end
end X3

set_option Elab.async false
set_option linter.all false
set_option maxRecDepth 100000
set_option maxHeartbeats 4000000
/-! # Exceptions of own classes as values: made, their fields read, isinstance -/
namespace X3
open PySem PySem.Calls PySem.Spec PyProof.Rows L2
namespace XEx
open PySem.Builtin PySem.Builtin.ObjectAttr
/-- what is asked of the built-in base at the end of the classes' order -/
structure Tail (B newId initId : String) (tl : List Value) : Prop where
  base : ExcBaseFacts B newId initId tl
  pass : ∀ z, refuseLoop z "__setattr__" tl = pure ()
theorem tailVE : Tail "ValueError" "ValueError.__new__" "ValueError.__init__" HandSPX.veTail :=
  { base := F.excBase_ValueError, pass := F.store_ValueError.passes }
theorem tailLE : Tail "LookupError" "LookupError.__new__" "LookupError.__init__" [.type "LookupError", .type "Exception", .type "BaseException", .type "object"] :=
  { base := F.excBase_LookupError, pass := F.store_LookupError.passes }
end XEx
section
open Builtin Builtin.ObjectAttr
variable {P : Program} {w : World} {K : PySem.W.Frag} {around : Around} {R : Result → Shared → Prop} {st : Shared} {nm : Str} {tok : Tok} {u : Value} {a C : Addr} {ob : Obj} {dc : Option Obj} {cd : ClassData}
/-- object.__setattr__, its classes letting it pass: the store in the own dict is left -/
theorem walk_set (KI : K.In st.heap) (J : PySem.W.InstAt st.heap a ob C dc) (cl : PySem.W.clsIn K C = some cd) (isO : PySem.W.mroIn K C (.type "object") = some true) (ps : ∀ z, refuseLoop z "__setattr__" cd.mro = pure ()) (free : PySem.W.findIn K (.ref C) nm = some none)
    (go : wpAny (model P w) around.in1 (storeInOwnDict (.ref a) (.ref C) (.str nm tok) nm u false) (fun f st' => match f with | .done r => R (.ok r) st' | .again c => c.quiet = true ∧ codeAny (model P w) around c R st') (fun e st' => R (.error e) st') st) :
    codeAny (model P w) around (.call (.builtin "object.__setattr__") { pos := [.ref a, .str nm tok, u] }) R st := by
  have slot := F.store_object
  have ord : PySem.W.Looks (model P w) st.heap (mroOf (.ref C)) cd.mro := PySem.W.Looks.andThen (PySem.W.looks_clsIn KI cl) .now
  have look := PySem.W.looks_findIn (M := model P w) KI free
  refine codeAny_call_builtin slot.slot.plain slot.entry (PySem.W.check_slot (i := "object.__setattr__") (owner := "object") (n := "__setattr__") (self := .ref a) (rest := [.str nm tok, u]) (kw := []) slot.kind slot.split (J.type.andThen (PySem.W.looks_mroIn KI isO)) (slot.args _ _ _) ?_)
  rw [PySem.W.osa_eq, refuse_eq]
  refine wpAny_bind (wpAny_bind ?_)
  refine J.type.at (wpAny_bind (ord.at ?_))
  rw [ps]
  refine wpAny_pure (wpAny_bind ?_)
  refine J.type.at (wpAny_bind (look.at (wpAny_bind ?_)))
  exact PySem.W.Looks.at (r := none) .now go
/-- .. no dict as yet: one is made -/
theorem set_first {vs : Array Value} (KI : K.In st.heap) (at_ : st.heap.get? a = some ⟨.ref C, none, .fields vs, #[]⟩) (cl : PySem.W.clsIn K C = some cd) (hasD : cd.hasDict = true) (isO : PySem.W.mroIn K C (.type "object") = some true) (ps : ∀ z, refuseLoop z "__setattr__" cd.mro = pure ()) (free : PySem.W.findIn K (.ref C) nm = some none)
    (go : ∀ hp tk b, st.heap.objs.size ≤ b → b ≠ a → (∀ y o, y ≠ a → st.heap.get? y = some o → hp.get? y = some o) → hp.get? a = some ⟨.ref C, some b, .fields vs, #[]⟩ → hp.Ns1 b (fun y => if y = nm then some u else none) → R (.ok (.ret .none)) { st with heap := hp, toks := tk }) :
    codeAny (model P w) around (.call (.builtin "object.__setattr__") { pos := [.ref a, .str nm tok, u] }) R st := by
  have J : PySem.W.InstAt st.heap a ⟨.ref C, none, .fields vs, #[]⟩ C none := ⟨at_, rfl, rfl, trivial⟩
  refine walk_set KI J cl isO ps free ?_
  have look := PySem.W.looks_clsIn (M := model P w) KI cl
  have new : a ≠ st.heap.objs.size := fun z => Nat.lt_irrefl _ (z ▸ Heap.lt_size at_)
  obtain ⟨hp, g, dw, t, os⟩ := st
  obtain ⟨c1, c2, c3, c4, c5, c6, c7, c8, c9, c10, c11⟩ := cd
  cases (show c6 = true from hasD)
  unfold storeInOwnDict
  unfold ownDictForStores
  repeat (first | with_reducible refine HandSPX.store_in_new ?_ ?_ | with_reducible refine look.at ?_ | with_reducible refine wpAny_loadPart_at at_ ?_ | wp_step)
  · have there := (Heap.get?_update_ne (hp.push { cls := .type "dict", data := .dict #[] }) _ _ (fun o => { o with dict := some hp.objs.size }) new.symm).trans (Heap.get?_push_at rfl rfl)
    exact ⟨_, _, _, there, rfl, fun _ z => absurd z (by simp), fun _ => rfl⟩
  · intro hp' t' ns sb
    refine go hp' t' _ (Nat.le_refl _) new.symm (fun y o hy ho => ?_) ?_ ns
    · rw [sb.2 y (Nat.ne_of_lt (Heap.lt_size ho)), Heap.get?_update_ne _ _ _ _ hy]
      exact Heap.get?_push_of_some _ ho
    · rw [sb.2 a new]
      exact Heap.get?_update_self _ (Heap.get?_push_of_some _ at_) rfl
/-- .. one more beside others -/
theorem set_next {vs : Array Value} {b : Addr} {m : Str → Option Value} {names : List Str} (KI : K.In st.heap) (at_ : st.heap.get? a = some ⟨.ref C, some b, .fields vs, #[]⟩) (old : st.heap.Ns1 b m) (wi : Within m names) (few : names.length ≤ 1000) (cl : PySem.W.clsIn K C = some cd) (hasD : cd.hasDict = true)
    (isO : PySem.W.mroIn K C (.type "object") = some true) (ps : ∀ z, refuseLoop z "__setattr__" cd.mro = pure ()) (free : PySem.W.findIn K (.ref C) nm = some none)
    (go : ∀ hp tk, (∀ y o, y ≠ b → st.heap.get? y = some o → hp.get? y = some o) → hp.Ns1 b (fun y => if y = nm then some u else m y) → R (.ok (.ret .none)) { st with heap := hp, toks := tk }) :
    codeAny (model P w) around (.call (.builtin "object.__setattr__") { pos := [.ref a, .str nm tok, u] }) R st := by
  obtain ⟨ob, _, _, atb, _, _⟩ := old.count wi
  have J : PySem.W.InstAt st.heap a ⟨.ref C, some b, .fields vs, #[]⟩ C (some ob) := ⟨at_, rfl, rfl, atb⟩
  refine walk_set KI J cl isO ps free ?_
  have look := PySem.W.looks_clsIn (M := model P w) KI cl
  obtain ⟨hp, g, dw, t, os⟩ := st
  obtain ⟨c1, c2, c3, c4, c5, c6, c7, c8, c9, c10, c11⟩ := cd
  cases (show c6 = true from hasD)
  unfold storeInOwnDict
  unfold ownDictForStores
  repeat (first | with_reducible refine OEX.store_in_old old wi few ?_ | with_reducible refine look.at ?_ | with_reducible refine wpAny_loadPart_at at_ ?_ | wp_step)
  exact fun hp' t' ns sb => go hp' t' (fun y o hy ho => by rw [sb.2 y hy]; exact ho) ns
end
/-- what the top has written of a class of exceptions -/
structure ExK (K : PySem.W.Frag) (C : Addr) (newId : String) (tl : List Value) : Prop where
  cls : ∃ nm q N bs bm sn sub ab col dd k0 k1 k2 k3 k5, K.lookup C = some (excClassObj nm q C N bs bm true sn sub ab col dd k0 k1 k2 k3 k5 newId) ∧ PySem.W.excTail tl bm = true
  sa : PySem.W.findIn K (.ref C) "__setattr__" = some (some (.builtin "object.__setattr__"))
  isO : PySem.W.mroIn K C (.type "object") = some true
  kC : PySem.W.keepIn K (.ref C) = true
section
open PySem.Builtin PySem.Builtin.ObjectAttr
variable {K : PySem.W.Frag} {C : Addr} {B newId initId : String} {tl : List Value}
/-- its class record, as object.__setattr__ asks it -/
theorem ExK.told (T : ExK K C newId tl) (TT : XEx.Tail B newId initId tl) : ∃ cd, PySem.W.clsIn K C = some cd ∧ cd.hasDict = true ∧ ∀ z, refuseLoop z "__setattr__" cd.mro = pure () := by
  obtain ⟨nm, q, N, bs, bm, sn, sub, ab, col, dd, k0, k1, k2, k3, k5, lk, tail⟩ := T.cls
  refine ⟨_, by unfold PySem.W.clsIn; rw [lk] <;> rfl, rfl, fun z => ?_⟩
  show refuseLoop z "__setattr__" (.ref C :: bm) = pure ()
  rw [refuseLoop_ref]
  exact PySem.W.excTail_pass z (TT.pass z) bm tail
end
section
variable {X : Cx} {pins : List (Addr × Obj)} {σ : L2.St} {H : Hp} {st : Shared} {a C b : Addr} {f : Str} {y : V} {u : Value} {fs : List (Str × V)} {Q : Unit → Shared → Prop} {E : Value → Shared → Prop} {A : Around} {B newId initId : String} {tl : List Value}
/-- self.f = y ahead of all others: the dict comes, then it is self's -/
theorem put_first (TT : XEx.Tail B newId initId tl) (T : ExK X.K C newId tl) (I : Inv X pins σ H st) (at_ : H a = some (exo a C none)) (free : PySem.W.findIn X.K (.ref C) f = some none) (ry : RelV y u)
    (go : ∀ b st', H b = none → b ≠ a → Inv X pins σ (upd (upd H b (exd b [(f, y)])) a (exo a C (some b))) st' → Q () st') : wpAny (model X.prog X.w) A (setAttr (.ref a) f u) Q E st := by
  obtain ⟨cd, cl, hd, ps⟩ := T.told TT
  obtain ⟨t1, ga⟩ := exo_at I.hok at_
  refine PySem.W.set_plain (od := none) I.kIn ⟨ga, rfl, rfl, trivial⟩ T.sa ?_
  refine set_first (st := { st with toks := st.toks + 1 }) I.kIn ga cl hd T.isO ps free fun hp tk b far ne keep here ns => ?_
  -- between the two: the dict is there, self is as it was
  have back : ∀ z o, st.heap.get? z = some o → (hp.update a fun _ => ⟨.ref C, none, .fields #[.ref t1, .none, .none, .none, .bool false, .none], #[]⟩).get? z = some o := fun z o e => by
    by_cases x : z = a
    · subst x
      rw [ga] at e
      rw [← e]
      exact Heap.get?_update_self _ here rfl
    · rw [Heap.get?_update_ne _ _ _ _ x]
      exact keep z o x e
  have rel : ∀ g, RelO (([(f, y)] : List (Str × V)).lookup g) (if g = f then some u else none) := relO_put (fs := []) (mA := fun _ => none) ry fun _ => True.intro
  have I1 := I.laid (t' := tk) (a := b) (o := exd b [(f, y)]) back far (exd_ok (ns.at fun o e => (Heap.get?_update_ne _ _ _ _ ne).trans e) rel)
  refine go b _ (I.hok.fresh far) ne (I1.write (t' := tk) (x := a) (e := a) (o := exo a C (some b)) ?_ (.inl rfl) (fun z o x e => ?_) ⟨_, here⟩ (exo_ok here))
  · rw [upd_ne ne.symm, at_]
    exact True.intro
  · rw [← e]
    exact (Heap.get?_update_ne _ _ _ _ x).symm
/-- .. beside others -/
theorem put_next (TT : XEx.Tail B newId initId tl) (T : ExK X.K C newId tl) (I : Inv X pins σ H st) (at_ : H a = some (exo a C (some b))) (atb : H b = some (exd b fs)) (few : fs.length ≤ 900) (free : PySem.W.findIn X.K (.ref C) f = some none) (ry : RelV y u)
    (go : ∀ st', Inv X pins σ (upd H b (exd b ((f, y) :: fs))) st' → Q () st') : wpAny (model X.prog X.w) A (setAttr (.ref a) f u) Q E st := by
  obtain ⟨cd, cl, hd, ps⟩ := T.told TT
  obtain ⟨t1, ga⟩ := exo_at I.hok at_
  obtain ⟨m, ns, rel⟩ := exd_at I.hok atb
  have wi := within_of rel
  obtain ⟨ob, _, _, gb, _, _⟩ := ns.count wi
  refine PySem.W.set_plain (od := some ob) I.kIn ⟨ga, rfl, rfl, gb⟩ T.sa ?_
  refine set_next (st := { st with toks := st.toks + 1 }) I.kIn ga ns wi (by rw [List.length_map]; omega) cl hd T.isO ps free fun hp tk keep ns' => go _ ?_
  have some_b : ∃ o, hp.get? b = some o := ns'.ns.elim fun o z => z.elim fun _ z => z.elim fun _ z => ⟨o, z.1⟩
  refine I.write (t' := tk) (x := b) (e := b) (o := exd b ((f, y) :: fs)) ?_ (.inl rfl) keep some_b (exd_ok ns' (relO_put ry rel))
  rw [atb]
  exact True.intro
end
/-- self.f = e, self an exception that is being made -/
def tXst (K : PySem.W.Frag) (newId : String) (tl : List Value) (f : Str) (to te : TE) : TS := fun D σ H => te σ H fun y H1 => to σ H1 fun x H2 => ∃ a C : Addr, x = .ref a ∧ ExK K C newId tl ∧ PySem.W.findIn K (.ref C) f = some none ∧
  ((H2 a = some (exo a C none) ∧ ∀ b, H2 b = none → b ≠ a → D.nx σ (upd (upd H2 b (exd b [(f, y)])) a (exo a C (some b)))) ∨
    ∃ (b : Addr) (fs : List (Str × V)), H2 a = some (exo a C (some b)) ∧ H2 b = some (exd b fs) ∧ fs.length ≤ 900 ∧ D.nx σ (upd H2 b (exd b ((f, y) :: fs))))
/-- C(e, ..) as a value, C's own __init__ keeping sp -/
def tXmk (C : Addr) (sp : Sp) (ta : TA) : TE := fun σ H Q => ta σ H fun vs H1 => vs.length ≤ 1000 ∧ ∀ a, H1 a = none → sp (.ref a :: vs) (upd H1 a (exo a C none)) (fun v H2 => v = .non ∧ Q (.ref a) H2) (fun _ _ _ => False)
section
variable {X : Cx} {o e : Expr} {es : List Expr} {to te : TE} {ta : TA} {f x : Str} {p p' p1 p2 pos : Pos} {B newId initId : String} {tl : List Value}
theorem ps_xst (TT : XEx.Tail B newId initId tl) (ho : PE X o to) (he : PE X e te) (hs : swapsWith e (some (.Attribute o f p')) pos.line X.env = pure false := by rfl) : PS X (.Assign [.Attribute o f p'] e pos) (tXst X.K newId tl f to te) where
  run pins s0 σ H D I h := by
    refine plainObj_wpAny_Assign_Attribute ?_ hs
    refine thn (he.run pins s0 σ H _ I h) fun u s1 ⟨y, H1, I1, ry, h1⟩ => ?_
    refine thn (ho.run pins s1 σ H1 _ I1 h1) fun ua s2 ⟨xa, H2, I2, rx, a, C, xe, T, free, q⟩ => ?_
    cases xe
    cases (show ua = Value.ref a from rx)
    cases q with
    | inl q => exact put_first TT T I2 q.1 free ry fun b st' n ne J => ⟨σ, _, J, q.2 b n ne⟩
    | inr q =>
      obtain ⟨b, fs, at_, atb, few, q⟩ := q
      exact put_next TT T I2 at_ atb few free ry fun st' J => ⟨σ, _, J, q⟩
theorem pe_xmk {C fI : Addr} {k : Nat} {fd : FuncData} {ps : List Str} {sp : Sp} (TT : XEx.Tail B newId initId tl) (T : ExK X.K C newId tl) (iC : PySem.W.findIn X.K (.ref C) "__init__" = some (some (.ref fI))) (tI : PySem.W.typeIn X.K (.ref fI) = some (.type "function"))
    (Fi : FnOk X.prog X.w X.K X.mg X.base CX0 k fI fd ps sp) (room : Room (k + 1) X.A) (bi : Binds X.K fd ps []) (gl : Gl X x) (gm : X.mg x = some (.ref C)) (ha : PA X (e :: es) ta)
    (d1 : (x == ("__debug__" : Str)) = false := by decide) (d2 : starEach (e :: es) X.env = (false, eval e X.env) :: starEach es X.env := by rfl) (d3 : (backTo pos (starEach es X.env)).any (·.1) = false := by rfl) :
    PE X (.Call (.Name x p) (e :: es) [] pos) (tXmk C sp ta) where
  run pins s0 σ H Q I h := by
    obtain ⟨nm, q, N, bs, bm, sn, sub, ab, col, dd, k0, k1, k2, k3, k5, lk, tail⟩ := T.cls
    refine wpAny_Call_Name_kw (ld_glob I gl gm (PySem.W.callWith_K (h₀ := X.base) I.ok.mod.kin T.kC ?_ d2 d3) d1)
    refine thn (ha.run pos pins s0 σ H _ I h) fun us s1 ⟨vs, H1, I1, rs, few, go⟩ => ⟨I1.kIn, ?_⟩
    -- the tuple of its arguments, then self
    have up : s1.heap.objs.size ≤ s1.heap.objs.size + 1 := Nat.le_succ _
    have q := go (s1.heap.objs.size + 1) (I1.hok.fresh up)
    have self : ((s1.heap.push (PySem.W.kdv_tup us)).push (HandSPX.excO C s1.heap.objs.size)).get? (s1.heap.objs.size + 1) = some (HandSPX.excO C s1.heap.objs.size) := by heap_get
    have I2 := I1.laid (t' := s1.toks) (a := s1.heap.objs.size + 1) (o := exo (s1.heap.objs.size + 1) C none) (h' := (s1.heap.push (PySem.W.kdv_tup us)).push (HandSPX.excO C s1.heap.objs.size)) (fun z o y => Heap.get?_push_of_some _ (Heap.get?_push_of_some _ y)) up (exo_ok self)
    have rs2 : Vals (V.ref (s1.heap.objs.size + 1) :: vs) (Value.ref (s1.heap.objs.size + 1) :: us) := .cons rfl rs
    have many : (Value.ref (s1.heap.objs.size + 1) :: us).length = ps.length := rs2.length.symm.trans (Fi.len _ _ _ _ q)
    have bd := bi { s1 with heap := (s1.heap.push (PySem.W.kdv_tup us)).push (HandSPX.excO C s1.heap.objs.size) } _ I2.kIn ((congrArg List.length (List.append_nil _)).trans many)
    rw [List.append_nil] at bd
    have few' : us.length ≤ sizeLine := by
      have := rs.length
      rw [sizeLine_eq]
      omega
    refine wpAny_call (HandSPX.call_own TT.base (fun Y => PySem.W.excTail_contains Y bm tail) (I1.kIn _ _ lk) (PySem.W.looks_findIn I1.kIn iC) (fun z => PySem.W.bind_fn I1.kIn z tI) few' ?_)
    refine codeAny_mono (Fi.run _ X.stack _ _ { pos := Value.ref (s1.heap.objs.size + 1) :: us } _ _ _ (fun _ _ _ => False) (room.make C us []) (I2.env0.make C us []) bd rs2 q) fun r s2 back => ?_
    match r, back with
    | .ok (.ret v), ⟨_, H2, os2, bare2, un2, hok2, rv, ve, q2⟩ =>
      cases ve
      exact ⟨rv, .ref _, H2, I2.call' (ch := []) os2 un2 hok2 bare2 (fun b z => absurd z (by simp)), rfl, q2⟩
    | .error _, back => exact back.elim
    | .ok .next, back => exact back.elim
    | .ok .brk, back => exact back.elim
    | .ok .cont, back => exact back.elim
/-- C() where C has no own __init__ -/
theorem pe_xmk0 {C : Addr} {bmB : List Value} (F : ExcBaseFacts B newId initId bmB) (q : PySem.W.excIn X.K C bmB newId = true) (gC : X.mg x = some (.ref C)) (kC : PySem.W.keepIn X.K (.ref C) = true) (hg : Gl X x)
    (hdb : (x == ("__debug__" : Str)) = false := by decide) : PE X (.Call (.Name x p) [] [] pos) (fun σ H Q => ∀ a, H a = none → Q (.ref a) (upd H a (ExO (.ref C) a))) where
  run pins s0 σ H Q I h := by
    refine wpAny_Call_Name_kw (ld_glob I hg gC (PySem.W.callWith_K0 I.kIn kC ?_) hdb)
    obtain ⟨bm, N, nm, qn, bs, hdct, sn, sub, ab, col, dd, k0, k1, k2, k3, k5, mN, lk, ns, ni, T⟩ := exc_obj I.kIn q
    refine wpAny_call_exc_subT F T lk ns ni (fun hp a made => ?_) (Nat.zero_le _)
    obtain ⟨t1, at_, _, _⟩ := made.there
    exact ⟨.ref a, upd H a (ExO (.ref C) a), I.laidN made.keeps made.new (I.hok.gone made.new) (exO_ok at_ ⟨rfl, rfl⟩ rfl rfl rfl (show 4 < 6 by decide)), rfl, h a (I.hok.gone made.new)⟩
end

/-! ### fields, isinstance -/
/-- e.f, e an exception that has a dict -/
def tXfl (K : PySem.W.Frag) (te : TE) (f : Str) : TE := fun σ H Q => te σ H fun x H1 => ∃ (a C d : Addr) (fs : List (Str × V)) (v : V), x = .ref a ∧ H1 a = some (exo a C (some d)) ∧ H1 d = some (exd d fs) ∧ XfC K C ∧ PySem.W.findIn K (.ref C) f = some none ∧ fs.lookup f = some v ∧ Q v H1
theorem pe_xfl {X : Cx} {e : Expr} {te : TE} {f : Str} {pos : Pos} (he : PE X e te) (hb : attributeBase e f X.env (eval e X.env) = eval e X.env := by rfl) : PE X (.Attribute e f pos) (tXfl X.K te f) where
  run pins s0 σ H Q I h := attr_of hb (thn (he.run pins s0 σ H _ I h) fun ua s1 ⟨x, H1, I1, rx, a, C, d, fs, v, ex, ea, ed, T, free, l, q⟩ => by
    cases ex
    cases (show ua = Value.ref a from rx)
    obtain ⟨m, ns, rel⟩ := exd_at I1.hok ed
    obtain ⟨t1, at_⟩ := exo_at I1.hok ea
    obtain ⟨od, atd, look⟩ := lookIn_ns ns
    have has := rel f
    rw [l] at has
    obtain ⟨z, hz, rz⟩ := RelO.some_of has
    exact HandSPX.exc_get I1.kIn (od := some od) ⟨at_, rfl, rfl, atd⟩ T.ga T.gg T.exC (PySem.W.findObj_own T.hdC free rfl ((look f).trans (congrArg some hz))) (handed_of rz) ⟨v, H1, I1.tok _, rz, q⟩)
end X3
namespace X3
open PySem PySem.Spec PyProof.Rows L2
/-- an exception of the class at D stands at a -/
def ExAt (H : Hp) (a D : Addr) : Prop := H a = some (ExO (.ref D) a) ∨ ∃ d, H a = some (exo a D (some d)) ∧ ∃ fs, H d = some (exd d fs)
theorem exAt_inst {X : Cx} {pins : List (Addr × Obj)} {σ : L2.St} {H : Hp} {s : Shared} {a D : Addr} (I : Inv X pins σ H s) (h : ExAt H a D) : ∃ ox od, PySem.W.InstAt s.heap a ox D od := by
  rcases h with h | ⟨d, h, fs, hd⟩
  · obtain ⟨⟨oe, vs, ho, hz, hd, _⟩, _, _⟩ := I.hok a _ h
    obtain ⟨oc, oda, odt, osl⟩ := oe
    obtain ⟨h1, h2⟩ := hz
    dsimp only at h1 h2 hd
    subst h1 h2 hd
    exact ⟨_, none, ho, rfl, rfl, trivial⟩
  · obtain ⟨t1, ho⟩ := exo_at I.hok h
    obtain ⟨mA, hns, hr⟩ := exd_at I.hok hd
    obtain ⟨od, hod, _⟩ := lookIn_ns hns
    exact ⟨_, some od, ho, rfl, rfl, hod⟩
theorem kit_ex {K : PySem.W.Frag} {a D : Addr} {ox : Obj} {od : Option Obj} (C : ExcC K D) : PySem.W.KitX K (.ref a) (.ref D) (fun h => PySem.W.InstAt h a ox D od) :=
  PySem.W.kitx_exc (by obtain ⟨cd, h, _⟩ := PySem.W.any_some C.hd; rw [h]; rfl) C.hg C.hk C.hs C.ha C.hn C.ht C.hm
/-- isinstance(e, c), isinstance(e, (c, ..)) of an exception -/
def rIsX (K : PySem.W.Frag) : List V → Hp → VK → Prop := fun xs H Q => ∃ (a D : Addr) (c : V) (u : Value) (b : Bool), xs = [.ref a, c] ∧ ExAt H a D ∧ ExcC K D ∧ ClsV c u ∧ PySem.W.kitOne K (.ref D) u = some b ∧ Q (.bl b) H
def rIsXT (K : PySem.W.Frag) : List V → Hp → VK → Prop := fun xs H Q => ∃ (a D tp : Addr) (cs : List V) (us : List Value) (b : Bool), xs = [.ref a, .ref tp] ∧ SqT K H tp cs ∧ Paired ClsV cs us ∧ ExAt H a D ∧ ExcC K D ∧ PySem.W.kitAny K (.ref D) us = some b ∧ Q (.bl b) H
theorem call_isX {X : Cx} : CallR X (.builtin "isinstance") (rIsX X.K) := by
  intro pins st σ H xs us Q I r h
  obtain ⟨a, D, c, u, b, rfl, ea, C, k, e, q⟩ := h
  obtain ⟨ua, uc, rfl, r1, r2⟩ := vals2 r
  have e2 := k.eq r2
  subst e2
  cases (show ua = Value.ref a from r1)
  obtain ⟨ox, od, J⟩ := exAt_inst I ea
  exact PySem.W.kia_one (kit_ex C) I.kIn J e (fun z => nomatch z) fun tk => ⟨.bl b, H, I.tok tk, rfl, q⟩
theorem call_isXT {X : Cx} : CallR X (.builtin "isinstance") (rIsXT X.K) := by
  intro pins st σ H xs us Q I r h
  obtain ⟨a, D, tp, cs, ws, b, rfl, hT, k, ea, C, e, q⟩ := h
  obtain ⟨ua, uc, rfl, r1, r2⟩ := vals2 r
  cases (show uc = Value.ref tp from r2)
  cases (show ua = Value.ref a from r1)
  obtain ⟨its, rv, ⟨o, h1, h2, n, h3⟩, _⟩ := I.tuple hT
  have e3 := ClsV.all k rv
  subst e3
  obtain ⟨oc, od, dt, sl⟩ := o
  simp only at h2 h3
  subst h2 h3
  obtain ⟨ox, od', J⟩ := exAt_inst I ea
  exact PySem.W.kia_tup (kit_ex C) I.kIn J h1 e (fun z => nomatch z) fun tk => ⟨.bl b, H, I.tok tk, rfl, q⟩
/-- .. over data -/
theorem exAt_of {K : PySem.W.Frag} {G H : Hp} {v : V} {D : Addr} {fs : Option (List (Str × X3.D))} (le : Le G H) (h : Dat K G v (.exc D fs)) : ∃ a, v = .ref a ∧ ExAt H a D := by
  cases h with
  | exc0 h => exact ⟨_, rfl, .inl (le _ _ h)⟩
  | exc1 h1 h2 _ => exact ⟨_, rfl, .inr ⟨_, le _ _ h1, _, le _ _ h2⟩⟩
theorem lookup_cons {α : Type} (f g : Str) (y : α) (fs : List (Str × α)) : ((f, y) :: fs).lookup g = if g = f then some y else fs.lookup g := by
  by_cases h : g = f
  · rw [if_pos h, h]
    simp [List.lookup]
  · rw [if_neg h]
    have e : (g == f) = false := by simpa using h
    simp [List.lookup, e]
theorem DatF.lookup {K : PySem.W.Frag} {G : Hp} {f : Str} {y : X3.D} : ∀ {vs : List (Str × V)} {ds : List (Str × X3.D)}, DatF K G vs ds → (ds.lookup f = some y → ∃ u, vs.lookup f = some u ∧ Dat K G u y)
  | _, _, .nil => fun l => by cases l
  | _, _, .cons (k := k) (v := v) h r => fun l => by
    rw [lookup_cons] at l
    by_cases e : f = k
    · rw [if_pos e] at l
      cases l
      exact ⟨v, by rw [lookup_cons, if_pos e], h⟩
    · rw [if_neg e] at l
      obtain ⟨u, h1, h2⟩ := DatF.lookup r l
      exact ⟨u, by rw [lookup_cons, if_neg e]; exact h1, h2⟩
section
variable {K : PySem.W.Frag} {S : Res} {ρ : Rho} {Q : X3.D → Prop}
theorem wc_isX {C : Addr} {fs : Option (List (Str × X3.D))} {c : V} {u : Value} {b : Bool} (hc : ExcC K C) (k : ClsV c u) (e : PySem.W.kitOne K (.ref C) u = some b) (q : Q (.bl b)) : WRC K S (rIsX K) [.exc C fs, .val c] Q := fun G H vs kk w dx cc => by
  cases dx with
  | cons a r =>
    cases r with
    | cons a2 r =>
      cases r
      cases a2
      obtain ⟨p, rfl, ea⟩ := exAt_of w.le a
      exact ⟨p, C, c, u, b, rfl, ea, hc, k, e, cc _ _ G H (.refl w) (.bl b) q⟩
/-- e.f -/
theorem we_xfl {te : TE} {f : Str} (h : WE K S te ρ fun d => ∃ C fs y, d = .exc C (some fs) ∧ XfC K C ∧ PySem.W.findIn K (.ref C) f = some none ∧ fs.lookup f = some y ∧ Q y) : WE K S (tXfl K te f) ρ Q := fun σ G H k w sl c =>
  h σ G H _ w sl fun v d G' H' s dt q => by
    obtain ⟨C, fs, y, rfl, T, hno, l, q⟩ := q
    cases dt with
    | exc1 h1 h2 r =>
      obtain ⟨u, hu, du⟩ := r.lookup l
      exact ⟨_, C, _, _, u, rfl, s.w.le _ _ h1, s.w.le _ _ h2, T, hno, hu, c u y G' H' s du q⟩
/-- C() -/
theorem we_xmk0 {C : Addr} (q : Q (.exc C none)) : WE K S (fun σ H Q => ∀ a, H a = none → Q (.ref a) (upd H a (ExO (.ref C) a))) ρ Q := fun σ G H k w sl c => by
  intro a ha
  exact c _ _ _ _ (.new w ha) (.exc0 upd_same) q
end
end X3

set_option Elab.async false
set_option linter.all false
set_option maxRecDepth 100000
set_option maxHeartbeats 4000000
/-! # The own __init__ of an exception, over data -/
namespace X3
open PySem PySem.Spec PyProof.Rows L2
section
variable {K : PySem.W.Frag} {S : Res} {G Hc G1 H1 : Hp} {a C dx : Addr} {newId : String} {tl : List Value} {Q : VK}
/-- the exception and its dict become data -/
theorem stp_exc {fs : List (Str × V)} (w : Wld S G Hc) (ha : Hc a = none) (s : Stp S G (upd Hc a (exo a C none)) G1 H1) (hd : H1 dx = none) (hne : dx ≠ a) :
    Stp S G Hc (upd (upd G1 dx (exd dx fs)) a (exo a C (some dx))) (upd (upd H1 dx (exd dx fs)) a (exo a C (some dx))) := by
  have na : ¬ S.fp a := w.nfp ha
  have nd : ¬ S.fp dx := s.w.nfp hd
  have ga : G1 a = none := by
    cases e : G1 a with
    | none => rfl
    | some o =>
      rcases s.nw a o e with z | z
      · rw [w.fresh ha] at z
        cases z
      · rw [upd_same] at z
        cases z
  have hdc : Hc dx = none := by
    cases e : Hc dx with
    | none => rfl
    | some o =>
      have z := s.hh dx o nd (by rw [upd_ne hne]; exact e)
      rw [hd] at z
      cases z
  refine ⟨fun b o e => ?_, fun b o nf e => ?_, fun b o e => ?_, ⟨fun b o e => ?_, ?_, fun b f => ?_⟩⟩
  · have e1 := s.gg b o e
    rw [upd_ne (ne_of_none e1 ga), upd_ne (ne_of_none e1 (s.w.fresh hd))]
    exact e1
  · have e1 := s.hh b o nf (by rw [upd_ne (ne_of_none e ha)]; exact e)
    rw [upd_ne (ne_of_none e ha), upd_ne (ne_of_none e1 hd)]
    exact e1
  · by_cases x : b = a
    · exact .inr (by rw [x]; exact ha)
    · rw [upd_ne x] at e
      by_cases y : b = dx
      · exact .inr (by rw [y]; exact hdc)
      · rw [upd_ne y] at e
        rcases s.nw b o e with z | z
        · exact .inl z
        · rw [upd_ne x] at z
          exact .inr z
  · by_cases x : b = a
    · subst x
      rw [upd_same] at e ⊢
      exact e
    · rw [upd_ne x] at e ⊢
      by_cases y : b = dx
      · subst y
        rw [upd_same] at e ⊢
        exact e
      · rw [upd_ne y] at e ⊢
        exact s.w.le b o e
  · refine S.loc H1 _ (fun b f => ?_) s.w.src
    rw [upd_ne (fun z : b = a => na (by rw [← z]; exact f)), upd_ne (fun z : b = dx => nd (by rw [← z]; exact f))]
  · rw [upd_ne (fun z : b = a => na (by rw [← z]; exact f)), upd_ne (fun z : b = dx => nd (by rw [← z]; exact f))]
    exact s.w.sep b f
theorem exo_there (w : Wld S G Hc) (ha : Hc a = none) (s : Stp S G (upd Hc a (exo a C none)) G1 H1) : H1 a = some (exo a C none) := s.hh a _ (w.nfp ha) upd_same
theorem wld_exo (w : Wld S G Hc) (ha : Hc a = none) : Wld S G (upd Hc a (exo a C none)) := (Stp.junk w (Le.new ha)).w
/-- self.f = te, and no more -/
def spX1 (K : PySem.W.Frag) (newId : String) (tl : List Value) (f : Str) (P : X3.D → (X3.D → Prop) → Prop) : Sp := fun vs H Q _ => ∃ (a C : Addr) (v : V) (S : Res) (G Hc : Hp) (d : X3.D) (q : X3.D → Prop),
  vs = [.ref a, v] ∧ Hc a = none ∧ H = upd Hc a (exo a C none) ∧ ExK K C newId tl ∧ PySem.W.findIn K (.ref C) f = some none ∧ Wld S G Hc ∧ Dat K G v d ∧ P d q ∧ ∀ dy G2 H2, Stp S G Hc G2 H2 → Dat K G2 (.ref a) (.exc C (some [(f, dy)])) → q dy → Q .non H2
theorem read_x1 {f : Str} {te : TE} {P : X3.D → (X3.D → Prop) → Prop} {vs : List V} {H : Hp} {E : XK} (h : spX1 K newId tl f P vs H Q E) (ht : ∀ S d q, P d q → WE K S te [.no, .dat d] q) (N : List Str) (hN : N.length = 2) :
    tXst K newId tl f (tVar 0) te { nx := fun _ H' => Q .non H', rt := Q } (L2.start N vs) H := by
  obtain ⟨a, C, v, S, G, Hc, d, q, rfl, ha, rfl, T, hno, w, dt, hp, k⟩ := h
  have hst : L2.start N [.ref a, v] = [some (.ref a), some v] := by
    unfold L2.start
    rw [hN]
    rfl
  rw [hst]
  have sl : Slots K G [some (.ref a), some v] [.no, .dat d] := ⟨rfl, fun i d' e => by
    match i, e with
    | 0, e => cases e
    | 1, e =>
      cases e
      exact ⟨v, rfl, dt⟩⟩
  refine ht S d q hp _ G _ _ (wld_exo w ha) sl fun y dy G1 H1 s dty qy => ?_
  refine ⟨_, rfl, a, C, rfl, T, hno, .inl ⟨exo_there w ha s, fun dx hd hne => ?_⟩⟩
  have le1 : Le G1 (upd (upd G1 dx (exd dx [(f, y)])) a (exo a C (some dx))) := by
    intro b o e
    have x : b ≠ a := fun z => by
      subst z
      rcases s.nw b o e with z | z
      · rw [w.fresh ha] at z
        cases z
      · rw [upd_same] at z
        cases z
    rw [upd_ne x, upd_ne (ne_of_none e (s.w.fresh hd))]
    exact e
  exact k dy _ _ (stp_exc w ha s hd hne) (.exc1 upd_same (by rw [upd_ne hne, upd_same]) (.cons (dty.mono le1) .nil)) qy
/-- C(e) -/
theorem we_x1 {tA : TA} {f : Str} {P : X3.D → (X3.D → Prop) → Prop} {ρ : Rho} {q : X3.D → Prop} (T : ExK K C newId tl) (hno : PySem.W.findIn K (.ref C) f = some none) (h : WA K S tA ρ fun ds => ∃ d, ds = [d] ∧ P d fun dy => q (.exc C (some [(f, dy)]))) :
    WE K S (tXmk C (spX1 K newId tl f P) tA) ρ q := fun σ G H k w sl c => by
  refine h σ G H _ w sl fun vs ds G' H' s dt q' => ?_
  obtain ⟨d, rfl, hp⟩ := q'
  cases dt with
  | cons dv r =>
    cases r
    refine ⟨(by show 1 ≤ 1000; decide), fun a ha => ⟨a, C, _, S, G', H', d, _, rfl, ha, rfl, T, hno, s.w, dv, hp, fun dy G2 H2 s2 d2 q2 => ⟨rfl, ?_⟩⟩⟩
    exact c _ _ G2 H2 (s.trans s2) d2 q2
/-- self.f = a; self.g = b -/
def spX2 (K : PySem.W.Frag) (newId : String) (tl : List Value) (f g : Str) : Sp := fun vs H Q _ => ∃ (a C : Addr) (v1 v2 : V) (S : Res) (G Hc : Hp) (d1 d2 : X3.D),
  vs = [.ref a, v1, v2] ∧ Hc a = none ∧ H = upd Hc a (exo a C none) ∧ ExK K C newId tl ∧ PySem.W.findIn K (.ref C) f = some none ∧ PySem.W.findIn K (.ref C) g = some none ∧ Wld S G Hc ∧ Dat K G v1 d1 ∧ Dat K G v2 d2 ∧ ∀ G2 H2, Stp S G Hc G2 H2 → Dat K G2 (.ref a) (.exc C (some [(g, d2), (f, d1)])) → Q .non H2
theorem read_x2 {f g : Str} {vs : List V} {H : Hp} {E : XK} (h : spX2 K newId tl f g vs H Q E) (N : List Str) (hN : N.length = 3) :
    tSeq (tXst K newId tl f (tVar 0) (tVar 1)) (tXst K newId tl g (tVar 0) (tVar 2)) { nx := fun _ H' => Q .non H', rt := Q } (L2.start N vs) H := by
  obtain ⟨a, C, v1, v2, S, G, Hc, d1, d2, rfl, ha, rfl, T, hf, hg, w, dt1, dt2, k⟩ := h
  have hst : L2.start N [.ref a, v1, v2] = [some (.ref a), some v1, some v2] := by
    unfold L2.start
    rw [hN]
    rfl
  rw [hst]
  have s : Stp S G (upd Hc a (exo a C none)) G (upd Hc a (exo a C none)) := .refl (wld_exo w ha)
  refine ⟨_, rfl, _, rfl, a, C, rfl, T, hf, .inl ⟨upd_same, fun dx hd hne => ?_⟩⟩
  refine ⟨_, rfl, _, rfl, a, C, rfl, T, hg, .inr ⟨dx, [(f, v1)], upd_same, by rw [upd_ne hne, upd_same], (by show 1 ≤ 900; decide), ?_⟩⟩
  have st := stp_exc (fs := [(g, v2), (f, v1)]) w ha s hd hne
  have eq : upd (upd (upd (upd Hc a (exo a C none)) dx (exd dx [(f, v1)])) a (exo a C (some dx))) dx (exd dx [(g, v2), (f, v1)]) = upd (upd (upd Hc a (exo a C none)) dx (exd dx [(g, v2), (f, v1)])) a (exo a C (some dx)) := by
    funext b
    by_cases x : b = dx
    · subst x
      rw [upd_same, upd_ne hne, upd_same]
    · rw [upd_ne x]
      by_cases y : b = a
      · subst y
        rw [upd_same, upd_same]
      · simp only [upd_ne y, upd_ne x]
  rw [eq]
  have le1 : Le G (upd (upd G dx (exd dx [(g, v2), (f, v1)])) a (exo a C (some dx))) := st.gg
  exact k _ _ st (.exc1 upd_same (by rw [upd_ne hne, upd_same]) (.cons (dt2.mono le1) (.cons (dt1.mono le1) .nil)))
theorem we_x2 {tA : TA} {f g : Str} {ρ : Rho} {q : X3.D → Prop} (T : ExK K C newId tl) (hf : PySem.W.findIn K (.ref C) f = some none) (hg : PySem.W.findIn K (.ref C) g = some none) (h : WA K S tA ρ fun ds => ∃ d1 d2, ds = [d1, d2] ∧ q (.exc C (some [(g, d2), (f, d1)]))) :
    WE K S (tXmk C (spX2 K newId tl f g) tA) ρ q := fun σ G H k w sl c => by
  refine h σ G H _ w sl fun vs ds G' H' s dt q' => ?_
  obtain ⟨d1, d2, rfl, hp⟩ := q'
  cases dt with
  | cons dv r =>
    cases r with
    | cons dv2 r =>
      cases r
      refine ⟨(by show 2 ≤ 1000; decide), fun a ha => ⟨a, C, _, _, S, G', H', d1, d2, rfl, ha, rfl, T, hf, hg, s.w, dv, dv2, fun G2 H2 s2 dd => ⟨rfl, ?_⟩⟩⟩
      exact c _ _ G2 H2 (s.trans s2) dd hp
end
end X3

set_option Elab.async false
set_option linter.all false
set_option maxRecDepth 100000
set_option maxHeartbeats 4000000
/-! # Defs that ask repr: promises where no repr runs around; the law's own end -/
namespace X3
open PySem PySem.Spec L2 PyProof.Rows
/-- a def's promise, kept where nothing is being shown (no guard is held) -/
structure FnG (P : Program) (w : World) (K : PySem.W.Frag) (mg : Str → Option Value) (base : Heap) (CX : CXT) (k : Nat) (f : Addr) (fd : FuncData) (ps : List Str) (sp : Sp) : Prop where
  many : ∀ {vs H Q E}, sp vs H Q E → vs.length = ps.length
  keeps : ∀ {A : Around} {out : List Env} {st : Shared} {H : Hp} {us : List Value} {vs : List V} {Q : VK} {E : XK}, A.guards = some [] → Room k A → Env0 P w K mg base A out st H → BindsTo st fd { pos := us } (ps.zip us) → Vals vs us → sp vs H Q E →
    codeAny (model P w) A (.call (.ref f) { pos := us }) (CR CX out P w H st Q E) st
section
variable {P : Program} {w : World} {K : PySem.W.Frag} {mg : Str → Option Value} {base : Heap} {x qual : Str} {dstm : Stmt} {f : Addr} {fd : FuncData} {N ps : List Str} {k : Nat} {sp : Sp}
theorem Fun.okG (F : Fun K x qual dstm f fd) (sc : FnScope N ps (defScope dstm)) (many : ∀ vs H Q E, sp vs H Q E → vs.length = ps.length)
    (body : ∀ (cv : Value) (A : Around) (out : List Env) (st : Shared) (H : Hp) (vs : List V) (Q : VK) (E : XK), A.guards = some [] → Room k (A.deeper (envOfC qual (defScope dstm) st.heap.objs.size f cv)) → sp vs H Q E →
      ∃ t, PSs (cxOf CX0 P w K mg base N qual (defScope dstm) f cv A out st H E).nox (defBody dstm) t ∧ t { nx := fun _ H' => Q .non H', rt := Q } (start N vs) H) : FnG P w K mg base CX0 (k + 1) f fd ps sp where
  many h := many _ _ _ _ h
  keeps {A out st H us vs Q E} guard room e0 bound rs want := by
    obtain ⟨c0, d0, v1, v2, v3, a0, cv, v4, sl, rfl, lk, code⟩ := F.ex
    have here : ∀ b o, base.get? b = some o → st.heap.get? b = some o := fun b o e => (e0.bs b o e).1
    have KH := e0.mod.kin.keeps here
    refine codeAny_call_function (room.depth) (KH _ _ lk) rfl sc.co sc.gen rfl (PySem.W.codeRec_of KH code) (bound _ _ _ _ ?_)
    refine wpAny_newFunctionEnv_cells sc.kind (fun y hy => ?_) fun env same st1 ne => ?_
    · cases sc.par y.1 (List.of_mem_zip (a := y.1) (b := y.2) hy).1 with
      | inl z => exact .inl z
      | inr z => exact .inr ⟨z, PySem.W.cellsFrom_some _ _ _ (.inl z)⟩
    · cases same
      obtain ⟨t, der, rd⟩ := body cv A out st H vs Q E guard (room.deeper _) want
      have lim := (e0.mod.nolimit.keeps here).keeps ne.toInCall.keep
      have at_start := inv_start (CX := CX0) (E := E) sc room.hd e0 (many _ _ _ _ want) rs ne
      refine ⟨lim, codeAny_func (wpAny_mono (der.nox.run [] st1 (start N vs) H _ at_start rd) (fun fl st2 z => ?_) fun _ _ z => z)⟩
      match fl, z with
      | .ret u, ⟨v, _, H2, J, rv, q⟩ => exact ⟨v, H2, J.os, J.bare, J.base, J.hok, rv, q⟩
      | .next, ⟨_, H2, J, q⟩ => exact ⟨.non, H2, J.os, J.bare, J.base, J.hok, rfl, q⟩
      | .brk, ⟨_, _, _, no⟩ => exact (show False from no).elim
      | .cont, ⟨_, _, _, no⟩ => exact (show False from no).elim
end
section
variable {X : Cx} {k : Nat} {f : Addr} {fd : FuncData} {ps : List Str} {sp : Sp} {E : XK} {x : Str} {p pos : Pos} {e : Expr} {es : List Expr} {t : TA}
theorem pe_callG (F : FnG X.prog X.w X.K X.mg X.base CX0 k f fd ps sp) (guard : X.A.guards = some []) (room : Room k X.A) (gl : Gl X x) (gm : X.mg x = some (.ref f)) (kp : PySem.W.keepIn X.K (.ref f) = true) (bi : Binds X.K fd ps []) (ha : PA X (e :: es) t)
    (d1 : (x == ("__debug__" : Str)) = false := by decide) (d2 : starEach (e :: es) X.env = (false, eval e X.env) :: starEach es X.env := by rfl) (d3 : (backTo pos (starEach es X.env)).any (·.1) = false := by rfl) :
    PE X (.Call (.Name x p) (e :: es) [] pos) (tCall sp [] E t) where
  run pins s0 σ H Q I h := by
    refine wpAny_Call_Name_kw (ld_glob I gl gm (PySem.W.callWith_K (h₀ := X.base) I.ok.mod.kin kp ?_ d2 d3) d1)
    refine thn (ha.run pos pins s0 σ H _ I h) fun us s1 ⟨vs, H1, I1, rs, want⟩ => ⟨I1.kIn, ?_⟩
    have want : sp vs H1 Q E := List.append_nil vs ▸ want
    have bd := bi s1 us I1.kIn ((congrArg List.length (List.append_nil us)).trans (rs.length.symm.trans (F.many want)))
    rw [List.append_nil] at bd
    refine wpAny_call (codeAny_mono (F.keeps (out := X.stack) guard room I1.env0 bd rs want) fun r s2 back => ?_)
    match r, back with
    | .ok (.ret _), back => exact I1.after back
    | .error _, no => exact no.elim
    | .ok .next, no => exact no.elim
    | .ok .brk, no => exact no.elim
    | .ok .cont, no => exact no.elim
end
/-- at the address of sys.modules stands a dict -/
def One (h : Heap) : Prop := ∃ o es ep, h.get? sysModules = some o ∧ o.data = .dict es ep
/-- the law's call: the script alone is tracked, and read only -/
theorem law_callG {P : Program} {w : World} {K : PySem.W.Frag} {mg mb : Str → Option Value} {k : Nat} {fa a : Addr} {fd : FuncData} {x : Str} {sp : Sp} {st : Shared} {us : List Value} {ns : List Int}
    (KI : K.In st.heap) (gns : st.heap.Ns mainGlobals mg) (bns : st.heap.Ns builtinsNs mb) (blt : ∀ y : Str, y ≠ "__name__" → mb y = bootBuiltins y) (lim : st.heap.NoLimit) (bare : st.gens = #[]) (at_ : st.heap.get? a = some { cls := .type "list", data := .seq us.toArray })
    (allI : IntsAre us ns) (few : ns.length ≤ sizeLine) (room : Room k callerA) (one : One st.heap) (F : ∀ base : Heap, K.In base → base.Ns mainGlobals mg → One base → FnG P w K mg base CX0 k fa fd [x] sp) (bi : ∀ (s : Shared) (u : Value), BindsTo s fd { pos := [u] } [(x, u)])
    (want : ∀ H : Hp, SqL K H a (ns.map V.int) → sp [.ref a] H (fun v _ => v = .bl true) fun _ _ _ => False) :
    codeAny (model P w) callerA (.call (.ref fa) { pos := [.ref a] }) (fun r s2 => r = .ok (.ret (.bool true)) ∧ OldK st.heap s2.heap ∧ s2.os = st.os ∧ AllBare s2.gens) st := by
  have rs := vals_ints allI
  let ob : Obj := { cls := .type "list", data := .seq us.toArray }
  -- what is told: the script, unless the written part holds it
  let H : Hp := fun b => if b = a ∧ K.lookup a = none then some (.frz ob (.lst (ns.map V.int))) else none
  have told : ∀ {b o}, H b = some o → b = a ∧ K.lookup a = none ∧ o = .frz ob (.lst (ns.map V.int)) := fun {b o} e => by
    have e' : (if b = a ∧ K.lookup a = none then some (HO.frz ob (.lst (ns.map V.int))) else none) = some o := e
    split at e'
    · rename_i c
      exact ⟨c.1, c.2, (Option.some.inj e').symm⟩
    · cases e'
  have sees : SqL K H a (ns.map V.int) := by
    cases lk : K.lookup a with
    | none => exact .inl (.inr ⟨ob, if_pos ⟨rfl, lk⟩⟩)
    | some o =>
      have e := KI a o lk
      have e : ob = o := Option.some.inj (at_.symm.trans e)
      have size : us.toArray.size ≤ sizeLine := by
        rw [List.size_toArray, allI.length]
        exact few
      exact .inr ⟨ob, us.toArray, _, e ▸ lk, rfl, rfl, rfl, size, by simpa using rs⟩
  have okH : HOk P w H st.heap := fun b o e => by
    obtain ⟨z, _, z2⟩ := told e
    rw [z, z2]
    exact ⟨at_, (List.length_map (V.int)).symm ▸ few, us, _, rs, at_⟩
  have untold : ∀ {b o}, st.heap.get? b = some o → o ≠ ob → H b = none := fun {b o} e ne => by
    cases q : H b with
    | none => rfl
    | some z =>
      rw [(told q).1, at_] at e
      exact absurd (Option.some.inj e).symm ne
  have nsH : ∀ {b m}, st.heap.Ns b m → (hidT st.heap H).Ns b m := fun {b m} ⟨o, es, ep, e, dt, r⟩ => ⟨o, es, ep, hidT_get e (untold e fun z => by rw [z] at dt; cases dt), dt, r⟩
  have KB : K.In (hidT st.heap H) := fun b o lk => by
    refine hidT_get (KI b o lk) ?_
    cases q : H b with
    | none => rfl
    | some z =>
      obtain ⟨y, no, _⟩ := told q
      rw [y, no] at lk
      cases lk
  have top : Mod K mg (hidT st.heap H) := ⟨KB, nsH gns, ⟨mb, nsH bns, blt⟩, lim.elim fun m z => ⟨m, nsH z.1, z.2⟩⟩
  have e0 : Env0 P w K mg (hidT st.heap H) callerA [] st H :=
    { frames := rfl, mod := top, bs := fun b o e => of_hidT e, bsz := Nat.le_of_eq (hidT_size _ _), funs := trivial, frf := fun b z => (by cases z), hok := okH, bare := .of_eq bare }
  have one' : One (hidT st.heap H) := by
    obtain ⟨o, es, ep, e, dt⟩ := one
    exact ⟨o, es, ep, hidT_get e (untold e fun z => by rw [z] at dt; cases dt), dt⟩
  refine codeAny_mono ((F _ KB (nsH gns) one').keeps (out := []) rfl room e0 (bi st (.ref a)) (vs := [.ref a]) (.cons rfl .nil) (want H sees)) fun r s2 back => ?_
  match r, back with
  | .error _, no => exact no.elim
  | .ok .next, no => exact no.elim
  | .ok .brk, no => exact no.elim
  | .ok .cont, no => exact no.elim
  | .ok (.ret u), ⟨v, H2, os, bare2, un, ok2, rv, q⟩ =>
    cases (show v = .bl true from q)
    cases (show u = Value.bool true from rv)
    refine ⟨rfl, .of_keep fun b o e => ?_, os, bare2⟩
    cases q2 : H b with
    | none => exact un.keep b o e q2 nofun nofun
    | some z =>
      obtain ⟨y, _, y2⟩ := told q2
      have still := (ok2 b _ (un.frzs b _ _ (y2 ▸ q2))).1
      rw [y] at e still ⊢
      rw [at_] at e
      cases e
      exact still
theorem walk_ofG {l : PySem.W.OpenLaw} {n k : Nat} {q : Program} {loose : List Str} {XP : (Str → Option Value) → Heap → Prop} {YP : World → Heap → Prop} {d : DefRec} {K : Params → PySem.W.Frag} {sp : World → Sp} {x : Str} (imp : importsNone q = true) (most : l.most = some n) (few : n ≤ sizeLine) (plain : d.params.defaults = []) (room : Room k callerA)
    (KI : ∀ (w : World) (h : Heap), YP w h → (K w.params).In h)
    (F : ∀ (w : World) (mg : Str → Option Value) (fa : Addr) (h : Heap), (K w.params).In h → h.Ns mainGlobals mg → mg d.name = some (.ref fa) → ∃ fd : FuncData, (∀ (s : Shared) (u : Value), BindsTo s fd { pos := [u] } [(x, u)]) ∧ ∀ base : Heap, (K w.params).In base → base.Ns mainGlobals mg → One base → FnG l.prog w (K w.params) mg base CX0 k fa fd [x] (sp w))
    (want : ∀ (w : World) (H : Hp) (a : Addr) (ns : List Int), ns.length ≤ n → SqL (K w.params) H a (ns.map V.int) → sp w [.ref a] H (fun v _ => v = .bl true) fun _ _ _ => False) : PySem.W.WalkO q loose XP YP l.row.toRowW d [] (fun f vs => PySem.call f vs) := by
  refine Att.attach_call most plain fun w s0 st mg mb fa o pm cd doc a us ns G Y _ _ _ gm at_ allI len bare => ?_
  have T := G.T
  obtain ⟨fd, bi, F'⟩ := F w mg fa _ (KI w _ Y) T.g gm
  refine law_callG (KI w _ Y) T.g T.b T.builtins T.nolimit bare at_ allI (Nat.le_trans len few) room ?_ F' bi fun H sees => want w H a ns len sees
  obtain ⟨_, ⟨o, es, ep, e, dt, _⟩, _⟩ := (T.seer imp).mods
  exact ⟨o, es, ep, e, dt⟩
end X3

set_option Elab.async false
set_option linter.all false
set_option maxRecDepth 100000
set_option maxHeartbeats 4000000
/-! # repr of data -/
namespace X3
open PySem PySem.Spec PyProof.Rows L2
mutual
/-- data as the library's own, with dicts that are empty or have one text for a key, and an int -/
inductive Rp (K : PySem.W.Frag) (H : Hp) : V → PyData → Prop
  | non : Rp K H .non .none
  | bl (b : Bool) : Rp K H (.bl b) (.bool b)
  | int (i : Int) : Rp K H (.int i) (.int i)
  | str (x : Str) : Rp K H (.str x) (.str x)
  | lst {a : Addr} {xs : List V} {ds : List PyData} : SqL K H a xs → RpL K H xs ds → Rp K H (.ref a) (.list ds)
  | tup {a : Addr} {xs : List V} {ds : List PyData} : SqT K H a xs → RpL K H xs ds → Rp K H (.ref a) (.tuple ds)
  | dict0 {a : Addr} : Rd H a (.dK []) → Rp K H (.ref a) (.dict [])
  | dict1 {a : Addr} {k : Str} {i : Int} : Rd H a (.dK [(.inr k, .int i)]) → Rp K H (.ref a) (.dict [(.str k, .int i)])
  | dictI {a : Addr} {k i : Int} : Rd H a (.dK [(.inl k, .int i)]) → Rp K H (.ref a) (.dict [(.int k, .int i)])
  | dictS {a : Addr} {k x : Str} : Rd H a (.dK [(.inr k, .str x)]) → Rp K H (.ref a) (.dict [(.str k, .str x)])
inductive RpL (K : PySem.W.Frag) (H : Hp) : List V → List PyData → Prop
  | nil : RpL K H [] []
  | cons {v : V} {vs : List V} {d : PyData} {ds : List PyData} : Rp K H v d → RpL K H vs ds → RpL K H (v :: vs) (d :: ds)
end
section
variable {X : Cx} {pins : List (Addr × Obj)} {σ : L2.St} {H : Hp} {s : Shared}
mutual
theorem Rp.reads (I : Inv X pins σ H s) (hn : One X.base) : ∀ {d : PyData} {v : V} {u : Value}, Rp X.K H v d → RelV v u → ∃ as, Reads s.heap u d as ∧ sysModules ∉ as
  | _, _, _, .non, r => by
    cases r
    exact ⟨_, Reads.none, by simp⟩
  | _, _, _, .bl b, r => by
    cases r
    exact ⟨_, Reads.bool b, by simp⟩
  | _, _, _, .int i, r => by
    obtain ⟨t, rfl⟩ := r
    exact ⟨_, Reads.int i t, by simp⟩
  | _, _, _, .str x, r => by
    obtain ⟨t, rfl⟩ := r
    exact ⟨_, Reads.str x t, by simp⟩
  | _, _, _, .lst (a := a) hs ha, r => by
    cases r
    obtain ⟨its, rv, ⟨o, n, ho, hc, _, hd⟩, -⟩ := I.list hs
    obtain ⟨as, hr, hm⟩ := RpL.reads I hn ha rv
    refine ⟨_, Reads.list ho hc hd hr, ?_⟩
    obtain ⟨o2, es, ep, h2, h3⟩ := hn
    have ne : a ≠ sysModules := fun z => by
      have e := I.bk _ _ h2
      rw [← z, ho] at e
      cases e
      rw [hd] at h3
      cases h3
    simp only [List.mem_cons, not_or]
    exact ⟨fun z => ne z.symm, hm⟩
  | _, _, _, .tup hs ha, r => by
    cases r
    obtain ⟨its, rv, ⟨o, ho, hc, n, hd⟩, -⟩ := I.tuple hs
    obtain ⟨as, hr, hm⟩ := RpL.reads I hn ha rv
    exact ⟨_, Reads.tuple ho hc hd hr, hm⟩
  | _, _, _, .dict0 (a := a) h, r => by
    cases r
    obtain ⟨_, hS, vs, rel, o, es, ep, e, ex, ed, kk, pr, _⟩ := dk_rd I.hok h
    have ne : ¬ (a = sysModules) := by simpa using hS
    cases rel
    generalize hl : es.toList = l at pr
    cases pr
    refine ⟨_, Reads.dict (kvs := []) e ex.1 ed (by rw [hl]; exact ReadsAll.nil) (by rw [hl]; exact ReadsAll.nil), ?_⟩
    simp only [List.append_nil, List.mem_cons, List.not_mem_nil, or_false]
    exact fun z => ne z.symm
  | _, _, _, .dict1 (a := a) (k := k0) (i := i0) h, r => by
    cases r
    obtain ⟨_, hS, vs, rel, o, es, ep, e, ex, ed, kk, pr, _⟩ := dk_rd I.hok h
    have ne : ¬ (a = sysModules) := by simpa using hS
    obtain ⟨kv, rfl, rk1, rk2⟩ : ∃ kv, vs = [kv] ∧ Sum.inr k0 = kv.1 ∧ L2.RelV (.int i0) kv.2 := by
      cases rel with
      | cons rk rr =>
        cases rr
        exact ⟨_, rfl, rk.1, rk.2⟩
    obtain ⟨kk0, vv0⟩ := kv
    dsimp only at rk1 rk2
    subst rk1
    obtain ⟨t, rfl⟩ := rk2
    generalize hl : es.toList = l at pr
    cases pr with
    | cons hk hv hp =>
        cases hp
        rename_i en
        dsimp only at hk hv
        obtain ⟨t2, ek⟩ : ∃ t2, en.key = .str k0 t2 := by
          rcases keyIs_shape (show keyIs (.inr k0) en.key = true from hk) with ⟨i, t, q, _⟩ | ⟨x, t, q, e2⟩
          · cases q
          · cases q
            exact ⟨t, e2⟩
        refine ⟨_, Reads.dict (kvs := [(.str k0, .int i0)]) e ex.1 ed (by rw [hl]; simp only [List.map]; rw [ek]; exact ReadsAll.cons (Reads.str k0 t2) ReadsAll.nil) (by rw [hl]; simp only [List.map]; rw [hv]; exact ReadsAll.cons (Reads.int i0 t) ReadsAll.nil), ?_⟩
        simp only [List.append_nil, List.mem_cons, List.not_mem_nil, or_false]
        exact fun z => ne z.symm
  | _, _, _, .dictI (a := a) (k := k0) (i := i0) h, r => by
    cases r
    obtain ⟨_, hS, vs, rel, o, es, ep, e, ex, ed, kk, pr, _⟩ := dk_rd I.hok h
    have ne : ¬ (a = sysModules) := by simpa using hS
    obtain ⟨kv, rfl, rk1, rk2⟩ : ∃ kv, vs = [kv] ∧ Sum.inl k0 = kv.1 ∧ L2.RelV (.int i0) kv.2 := by
      cases rel with
      | cons rk rr =>
        cases rr
        exact ⟨_, rfl, rk.1, rk.2⟩
    obtain ⟨kk0, vv0⟩ := kv
    dsimp only at rk1 rk2
    subst rk1
    obtain ⟨t, rfl⟩ := rk2
    generalize hl : es.toList = l at pr
    cases pr with
    | cons hk hv hp =>
        cases hp
        rename_i en
        dsimp only at hk hv
        obtain ⟨t2, ek⟩ : ∃ t2, en.key = .int k0 t2 := by
          rcases keyIs_shape (show keyIs (.inl k0) en.key = true from hk) with ⟨i, t, q, e2⟩ | ⟨x, t, q, _⟩
          · cases q
            exact ⟨t, e2⟩
          · cases q
        refine ⟨_, Reads.dict (kvs := [(.int k0, .int i0)]) e ex.1 ed (by rw [hl]; simp only [List.map]; rw [ek]; exact ReadsAll.cons (Reads.int k0 t2) ReadsAll.nil) (by rw [hl]; simp only [List.map]; rw [hv]; exact ReadsAll.cons (Reads.int i0 t) ReadsAll.nil), ?_⟩
        simp only [List.append_nil, List.mem_cons, List.not_mem_nil, or_false]
        exact fun z => ne z.symm
  | _, _, _, .dictS (a := a) (k := k0) (x := i0) h, r => by
    cases r
    obtain ⟨_, hS, vs, rel, o, es, ep, e, ex, ed, kk, pr, _⟩ := dk_rd I.hok h
    have ne : ¬ (a = sysModules) := by simpa using hS
    obtain ⟨kv, rfl, rk1, rk2⟩ : ∃ kv, vs = [kv] ∧ Sum.inr k0 = kv.1 ∧ L2.RelV (.str i0) kv.2 := by
      cases rel with
      | cons rk rr =>
        cases rr
        exact ⟨_, rfl, rk.1, rk.2⟩
    obtain ⟨kk0, vv0⟩ := kv
    dsimp only at rk1 rk2
    subst rk1
    obtain ⟨t, rfl⟩ := rk2
    generalize hl : es.toList = l at pr
    cases pr with
    | cons hk hv hp =>
        cases hp
        rename_i en
        dsimp only at hk hv
        obtain ⟨t2, ek⟩ : ∃ t2, en.key = .str k0 t2 := by
          rcases keyIs_shape (show keyIs (.inr k0) en.key = true from hk) with ⟨i, t, q, _⟩ | ⟨x, t, q, e2⟩
          · cases q
          · cases q
            exact ⟨t, e2⟩
        refine ⟨_, Reads.dict (kvs := [(.str k0, .str i0)]) e ex.1 ed (by rw [hl]; simp only [List.map]; rw [ek]; exact ReadsAll.cons (Reads.str k0 t2) ReadsAll.nil) (by rw [hl]; simp only [List.map]; rw [hv]; exact ReadsAll.cons (Reads.str i0 t) ReadsAll.nil), ?_⟩
        simp only [List.append_nil, List.mem_cons, List.not_mem_nil, or_false]
        exact fun z => ne z.symm
theorem RpL.reads (I : Inv X pins σ H s) (hn : One X.base) : ∀ {ds : List PyData} {vs : List V} {us : List Value}, RpL X.K H vs ds → Vals vs us → ∃ as, ReadsAll s.heap us ds as ∧ sysModules ∉ as
  | _, _, _, .nil, r => by
    cases r
    exact ⟨_, ReadsAll.nil, by simp⟩
  | _, _, _, .cons h1 h2, r => by
    cases r with
    | cons r1 r2 =>
      obtain ⟨as, q1, m1⟩ := Rp.reads I hn h1 r1
      obtain ⟨bs, q2, m2⟩ := RpL.reads I hn h2 r2
      exact ⟨_, ReadsAll.cons q1 q2, fun z => (List.mem_append.mp z).elim m1 m2⟩
end
end
/-- repr(x): x told as data -/
def rRepr (K : PySem.W.Frag) : List V → Hp → VK → Prop := fun xs H Q => ∃ (x : V) (d : PyData), xs = [x] ∧ (∃ a, x = .ref a) ∧ Rp K H x d ∧ d.showable = true ∧ d.depth ≤ 60 ∧ d.shown.length ≤ sizeLine ∧ Q (.str d.shown) H
theorem call_repr {X : Cx} (hg : X.A.guards = some []) (hu : X.A.units + 64 < cLine) (hn : One X.base) : CallR X (.builtin "repr") (rRepr X.K) := by
  intro pins st σ H xs us Q I r h
  obtain ⟨x, d, rfl, ⟨a, rfl⟩, rp, hs, hd, hz, q⟩ := h
  obtain ⟨u, rfl, ru⟩ := vals1 r
  cases (show u = Value.ref a from ru)
  obtain ⟨as, hr, hm⟩ := Rp.reads I hn rp rfl
  exact repr_of_reads' hr hs (fun _ => hm) hg (by omega) (fun _ _ e => e) (fun h' u tk hk => ⟨.str d.shown, H, I.kept hk, ⟨_, rfl⟩, q⟩) hz
mutual
/-- data as the library's own -/
def D.rp : X3.D → PyData
  | .non => .none
  | .bl b => .bool b
  | .int i => .int i
  | .str x => .str x
  | .list ds => .list (D.rps ds)
  | .tup ds => .tuple (D.rps ds)
  | .dict [(.inr k, .int i)] => .dict [(.str k, .int i)]
  | .dict [(.inl k, .int i)] => .dict [(.int k, .int i)]
  | .dict [(.inr k, .str x)] => .dict [(.str k, .str x)]
  | _ => .dict []
def D.rps : List X3.D → List PyData
  | [] => []
  | d :: ds => D.rp d :: D.rps ds
end
mutual
def D.shw : X3.D → Bool
  | .non => true
  | .bl _ => true
  | .int i => decide (i.natAbs.log2 < 1920)
  | .str _ => true
  | .list ds => D.shws ds
  | .tup ds => D.shws ds
  | .dict [] => true
  | .dict [(.inr _, .int i)] => decide (i.natAbs.log2 < 1920)
  | .dict [(.inl k, .int i)] => decide (k.natAbs.log2 < 1920) && decide (i.natAbs.log2 < 1920)
  | .dict [(.inr _, .str _)] => true
  | _ => false
def D.shws : List X3.D → Bool
  | [] => true
  | d :: ds => D.shw d && D.shws ds
end
section
variable {K : PySem.W.Frag} {G : Hp}
mutual
theorem Dat.rp : ∀ {v : V} {d : X3.D}, Dat K G v d → (D.shw d = true → Rp K G v (D.rp d))
  | _, _, .non => fun _ => .non
  | _, _, .bl b => fun _ => .bl b
  | _, _, .int i => fun _ => .int i
  | _, _, .str x => fun _ => .str x
  | _, _, .list h r => fun p => .lst (SqL.of h) (DatL.rp r p)
  | _, _, .wtup _ _ => fun p => absurd p Bool.false_ne_true
  | _, _, .tup h r => fun p => .tup h.sq (DatL.rp r p)
  | _, _, .dict h r => fun p => by
    cases r with
    | nil => exact .dict0 h
    | cons hd r =>
      cases r with
      | nil =>
        rename_i k v d
        cases k with
        | inl k =>
          cases hd with
          | int i => exact .dictI h
          | _ => cases p
        | inr k =>
          cases hd with
          | int i => exact .dict1 h
          | str x => exact .dictS h
          | _ => cases p
      | cons hd2 r2 =>
        rename_i k v d k2 vs v2 d2 ds
        cases k <;> cases d <;> cases p
  | _, _, .dt _ _ => fun p => absurd p Bool.false_ne_true
  | _, _, .fz _ _ => fun p => absurd p Bool.false_ne_true
  | _, _, .obj _ _ => fun p => absurd p Bool.false_ne_true
  | _, _, .exc0 _ => fun p => absurd p Bool.false_ne_true
  | _, _, .exc1 _ _ _ => fun p => absurd p Bool.false_ne_true
  | _, _, .kset _ => fun p => absurd p Bool.false_ne_true
  | _, _, .val _ => fun p => absurd p Bool.false_ne_true
theorem DatL.rp : ∀ {v : List V} {d : List X3.D}, DatL K G v d → (D.shws d = true → RpL K G v (D.rps d))
  | _, _, .nil => fun _ => .nil
  | _, _, .cons h r => fun p => .cons (Dat.rp h (Bool.and_eq_true_iff.mp p).1) (DatL.rp r (Bool.and_eq_true_iff.mp p).2)
end
mutual
theorem Rp.le {H : Hp} (e : Le G H) : ∀ {v : V} {d : PyData}, Rp K G v d → Rp K H v d
  | _, _, .non => .non
  | _, _, .bl b => .bl b
  | _, _, .int i => .int i
  | _, _, .str x => .str x
  | _, _, .lst h r => .lst (le_l e h) (RpL.le e r)
  | _, _, .tup h r => .tup (le_t e h) (RpL.le e r)
  | _, _, .dict0 h => .dict0 (le_rd e h)
  | _, _, .dict1 h => .dict1 (le_rd e h)
  | _, _, .dictI h => .dictI (le_rd e h)
  | _, _, .dictS h => .dictS (le_rd e h)
theorem RpL.le {H : Hp} (e : Le G H) : ∀ {v : List V} {d : List PyData}, RpL K G v d → RpL K H v d
  | _, _, .nil => .nil
  | _, _, .cons h r => .cons (Rp.le e h) (RpL.le e r)
end
end
/-- what may be shown -/
structure ShwOk (d : X3.D) : Prop where
  shw : D.shw d = true
  able : (D.rp d).showable = true
  deep : (D.rp d).depth ≤ 60
  size : (D.rp d).shown.length ≤ sizeLine
theorem wc_repr {K : PySem.W.Frag} {S : Res} {Q : X3.D → Prop} {d : X3.D} (hr : (∃ ds, d = .list ds) ∨ ∃ ds, d = .tup ds) (ok : ShwOk d) (q : Q (.str (D.rp d).shown)) : WRC K S (rRepr K) [d] Q := fun G H vs k w dx c => by
  cases dx with
  | cons a r =>
    cases r
    refine ⟨_, _, rfl, ?_, Rp.le w.le (Dat.rp a ok.shw), ok.able, ok.deep, ok.size, c _ _ G H (.refl w) (.str _) q⟩
    rcases hr with ⟨ds, rfl⟩ | ⟨ds, rfl⟩
    · cases a
      exact ⟨_, rfl⟩
    · cases a
      exact ⟨_, rfl⟩
end X3

set_option Elab.async false
set_option linter.all false
set_option maxRecDepth 100000
set_option maxHeartbeats 4000000
/-! # X3: more operations -/
namespace X3
open PySem PySem.Spec PyProof.Rows L2
section
variable {K : PySem.W.Frag} {S : Res} {ρ : Rho} {Q : X3.D → Prop}
/-- == and != of texts, of ints -/
theorem wr_eqS {x y : Str} (q : Q (.bl (decide (x = y)))) : WR2 K S rEq (.str x) (.str y) Q := fun G H vx vy k w dx dy c => by
  cases dx
  cases dy
  refine ⟨rfl, ?_⟩
  rw [show decide (V.str x = V.str y) = decide (x = y) from decide_eq_decide.mpr ⟨V.str.inj, fun e => by rw [e]⟩]
  exact c _ _ G H (.refl w) (.bl _) q
theorem wr_neS {x y : Str} (q : Q (.bl (!decide (x = y)))) : WR2 K S rNe (.str x) (.str y) Q := fun G H vx vy k w dx dy c => by
  cases dx
  cases dy
  refine ⟨rfl, ?_⟩
  rw [show decide (V.str x = V.str y) = decide (x = y) from decide_eq_decide.mpr ⟨V.str.inj, fun e => by rw [e]⟩]
  exact c _ _ G H (.refl w) (.bl _) q
theorem wr_eqI {x y : Int} (q : Q (.bl (decide (x = y)))) : WR2 K S rEq (.int x) (.int y) Q := fun G H vx vy k w dx dy c => by
  cases dx
  cases dy
  refine ⟨rfl, ?_⟩
  rw [show decide (V.int x = V.int y) = decide (x = y) from decide_eq_decide.mpr ⟨V.int.inj, fun e => by rw [e]⟩]
  exact c _ _ G H (.refl w) (.bl _) q
theorem wr_neI {x y : Int} (q : Q (.bl (!decide (x = y)))) : WR2 K S rNe (.int x) (.int y) Q := fun G H vx vy k w dx dy c => by
  cases dx
  cases dy
  refine ⟨rfl, ?_⟩
  rw [show decide (V.int x = V.int y) = decide (x = y) from decide_eq_decide.mpr ⟨V.int.inj, fun e => by rw [e]⟩]
  exact c _ _ G H (.refl w) (.bl _) q
/-- {} -/
theorem we_dnew (q : Q (.dict [])) : WE K S tDNewK ρ Q := fun σ G H k w sl c => fun p hp => c _ _ _ _ (.new w hp) (.dict (.inl upd_same) .nil) q
/-- {'a': e} -/
theorem we_disp1 {k : Str} {te : TE} (h : WE K S te ρ fun d => Q (.dict [(.inr k, d)])) : WE K S (tDisp [(tC (.str k), te)]) ρ Q := fun σ G H kk w sl c => by
  intro p hp
  have w1 : Wld S G (upd H p (.dK [])) := (Stp.junk w (Le.new hp)).w
  refine h σ G _ _ w1 sl fun v d G' H' s dt q => ?_
  have nf := w.nfp hp
  have hp' : H' p = some (.dK []) := s.hh p _ nf upd_same
  refine ⟨hp', [(.inr k, v)], rfl, (by show 1 ≤ 15; decide), ?_⟩
  have gp : G' p = none := by
    cases e : G' p with
    | none => rfl
    | some o =>
      rcases s.nw p o e with z | z
      · rw [w.fresh hp] at z
        cases z
      · rw [upd_same] at z
        cases z
  have em : mergeK [] [(.inr k, v)] = [((.inr k : Key), v)] := rfl
  rw [em]
  refine c _ _ (upd G' p (.dK [(.inr k, v)])) _ ⟨fun b o e => ?_, fun b o n e => ?_, fun b o e => ?_, ⟨fun b o e => ?_, ?_, fun b f => ?_⟩⟩ (.dict (.inl upd_same) (.cons (dt.mono (Le.new gp)) .nil)) q
  · have e1 := s.gg b o e
    rw [upd_ne (ne_of_none e1 gp)]
    exact e1
  · have ne := ne_of_none e hp
    rw [upd_ne ne]
    exact s.hh b o n (by rw [upd_ne ne]; exact e)
  · by_cases x : b = p
    · exact .inr (by rw [x]; exact hp)
    · rw [upd_ne x] at e
      rcases s.nw b o e with z | z
      · exact .inl z
      · rw [upd_ne x] at z
        exact .inr z
  · by_cases x : b = p
    · subst x
      rw [upd_same] at e ⊢
      exact e
    · rw [upd_ne x] at e ⊢
      exact s.w.le b o e
  · exact S.loc H' _ (fun b f => (upd_ne (fun z : b = p => nf (by rw [← z]; exact f))).symm) s.w.src
  · rw [upd_ne (fun z : b = p => nf (by rw [← z]; exact f))]
    exact s.w.sep b f
/-- any item of a list -/
theorem wr_ixAny {ds : List X3.D} {i : Int} (h0 : 0 ≤ i) (h1 : i < ds.length) (q : ∀ d ∈ ds, Q d) : WR2 K S (rIx K) (.list ds) (.int i) Q := by
  have hi : i.toNat < ds.length := by omega
  have e : atI ds i = some ds[i.toNat] := by
    unfold atI ixN
    simp [h0, h1, hi]
  exact wr_ixL e (q _ (List.getElem_mem hi))
/-- isinstance of an exception: a tuple of built-in classes -/
theorem wc_isXT {C : Addr} {fs : Option (List (Str × X3.D))} {ts : List String} {b : Bool} (hc : ExcC K C) (e : PySem.W.kitAny K (.ref C) (ts.map Value.type) = some b) (q : Q (.bl b)) :
    WRC K S (rIsXT K) [.exc C fs, .tup (ts.map fun t => .val (.ty t))] Q := fun G H vs kk w dx cc => by
  cases dx with
  | cons a r =>
    cases r with
    | cons a2 r =>
      cases r
      obtain ⟨p, rfl, ea⟩ := exAt_of w.le a
      cases a2 with
      | tup h1 r2 =>
        have ev : ∀ {vs : List V} {us : List String}, DatL K G vs (us.map fun t => X3.D.val (.ty t)) → vs = us.map V.ty := fun {vs us} => by
          induction us generalizing vs with
          | nil =>
            intro h
            cases h
            rfl
          | cons u us ih =>
            intro h
            cases h with
            | cons a r =>
              cases a
              rw [ih r]
              rfl
        have pc : ∀ us : List String, Paired ClsV (us.map V.ty) (us.map Value.type) := fun us => by
          induction us with
          | nil => exact .nil
          | cons u us ih => exact .cons (.ty u) ih
        have e2 := ev r2
        exact ⟨p, C, _, _, _, b, rfl, le_t w.le h1.sq, by rw [e2]; exact pc ts, ea, hc, e, cc _ _ G H (.refl w) (.bl b) q⟩
/-- int(text) -/
theorem wc_intS {x : Str} {n : Int} (h : PySem.intText? x = some n) (hl : x.length ≤ 640) (q : Q (.int n)) : WRC K S (fun xs H Q => ∃ a n, xs = [.str a] ∧ PySem.intText? a = some n ∧ a.length ≤ 640 ∧ Q (.int n) H) [.str x] Q := fun G H vs kk w dx cc => by
  cases dx with
  | cons a r =>
    cases r
    cases a
    exact ⟨x, n, rfl, h, hl, cc _ _ G H (.refl w) (.int n) q⟩
end
section
variable {X : Cx}
/-- a text times a written number -/
def strRep (z : Str) (n : Int) : Str := ⟨(List.replicate n.toNat z.cps).foldl (· ++ ·) #[]⟩
structure StrRepOk (z : Str) (n : Int) : Prop where
  low : 1 < n
  high : n < 1000000
  some : (z.length == 0) = false
  fit : (z.length : Int) * n ≤ 1000000
  long : Builtin.Str.tooLong (z.length * n.toNat) = false
  size : (strRep z n).length ≤ sizeLine
def rStrRep : R2 := fun x y H Q => ∃ z n, x = .str z ∧ y = .int n ∧ StrRepOk z n ∧ Q (.str (strRep z n)) H
theorem op_strRep : OpR X (binaryOp .Mult) rStrRep := by
  intro pins st σ H x y v u Q I rx ry h
  obtain ⟨z, n, rfl, rfl, ok, q⟩ := h
  obtain ⟨t, rfl⟩ := rx
  obtain ⟨t', rfl⟩ := ry
  have l := ok.low
  have hh := ok.high
  have e1 : (n == 1 || z.length == 0) = false := by
    rw [ok.some, Bool.or_false]
    simp
    omega
  refine PySem.P.mul_str (by
    have h1 : ¬ n < -2 ^ 63 := by omega
    have h2 : ¬ (2 : Int) ^ 63 ≤ n := by omega
    simp
    omega) (fun _ _ => ?_) (fun _ _ => ok.long) ?_
  · have hf := ok.fit
    have : (z.length : Int) ≤ (2 ^ 63 - 1) / n := (Int.le_ediv_iff_mul_le (by omega)).mpr (by omega)
    omega
  · rw [if_neg (by omega : ¬ n < 1), e1, if_neg Bool.false_ne_true]
    exact ⟨ok.size, ⟨.str (strRep z n), H, I.tok _, ⟨_, rfl⟩, q⟩⟩
end
theorem wr_strRep {K : PySem.W.Frag} {S : Res} {Q : X3.D → Prop} {z : Str} {n : Int} (ok : StrRepOk z n) (q : Q (.str (strRep z n))) : WR2 K S rStrRep (.str z) (.int n) Q := fun G H vx vy k w dx dy c => by
  cases dx
  cases dy
  exact ⟨z, n, rfl, rfl, ok, c _ _ G H (.refl w) (.str _) q⟩
end X3

set_option Elab.async false
set_option linter.all false
set_option maxRecDepth 100000
set_option maxHeartbeats 4000000
/-! # X3: operations that go by the data; steps in one word -/
namespace X3
open PySem PySem.Spec PyProof.Rows L2
def rOr (r r' : R2) : R2 := fun x y H Q => r x y H Q ∨ r' x y H Q
abbrev rAddI : R2 := rI0 fun i j => .int (i + j)
abbrev rAddS : R2 := fun x y H Q => ∃ i j, x = .str i ∧ y = .str j ∧ i.length + j.length ≤ sizeLine ∧ Q (.str (i ++ j)) H
def rPlus : R2 := rOr rAddI (rOr rCat rAddS)
def rTimes : R2 := rOr (rI CMul fun i j => .int (i * j)) (rOr rRep rStrRep)
def rEqA (K : PySem.W.Frag) : R2 := rOr rEq (rEqD K)
def rNeA (K : PySem.W.Frag) : R2 := rOr rNe (rNeD K)
abbrev rTup (K : PySem.W.Frag) : List V → Hp → VK → Prop := rTupN K
def rCount (K : PySem.W.Frag) : List V → Hp → VK → Prop := fun vs H Q => ∃ x m, vs = [x] ∧ LenV K x H m ∧ Q (.int m) H
def rIntS : List V → Hp → VK → Prop := fun xs H Q => ∃ a n, xs = [.str a] ∧ PySem.intText? a = some n ∧ a.length ≤ 640 ∧ Q (.int n) H
section
variable {K : PySem.W.Frag} {S : Res} {ρ : Rho} {Q : X3.D → Prop}
theorem wc_tupleR {d : X3.D} {ds : List X3.D} (h : d = .list ds ∨ d = .tup ds) (q : Q (.tup ds)) : WRC K S (rTupN K) [d] Q := wc_tuple h q
theorem wc_lenR {d : X3.D} {n : Nat} (h : LenD d n) (q : Q (.int n)) : WRC K S (rCount K) [d] Q := wc_len h q
theorem wc_intR {x : Str} {n : Int} (h : PySem.intText? x = some n) (hl : x.length ≤ 640) (q : Q (.int n)) : WRC K S rIntS [.str x] Q := wc_intS h hl q
end
section
variable {X : Cx}
theorem op_plus : OpR X (binaryOp .Add) rPlus := op_add.or (op_cat.or op_add_str)
theorem op_times : OpR X (binaryOp .Mult) rTimes := op_mul.or (op_rep.or op_strRep)
theorem op_eqA (hu : X.A.units + 64 < cLine) : OpR X (compareOp .Eq) (rEqA X.K) := op_eq.or (op_eqD hu)
theorem op_neA (hu : X.A.units + 64 < cLine) : OpR X (compareOp .NotEq) (rNeA X.K) := op_ne.or (op_neD hu)
theorem hu64 {A : Around} {k : Nat} (hr : Room k A) : A.units + 64 < cLine := by
  have := hr.un
  omega
end
section
variable {K : PySem.W.Frag} {S : Res} {ρ : Rho} {Q : X3.D → Prop}
theorem wp_i {i j : Int} (q : Q (.int (i + j))) : WR2 K S rPlus (.int i) (.int j) Q := wr_or1 (wr_ii (g := fun i j => i + j) q)
theorem wp_l {xs ys : List X3.D} (hl : xs.length + ys.length ≤ 100000) (q : Q (.list (xs ++ ys))) : WR2 K S rPlus (.list xs) (.list ys) Q := wr_or2 (wr_or1 (wr_cat hl q))
theorem wp_s {x y : Str} (hl : x.length + y.length ≤ 100000) (q : Q (.str (x ++ y))) : WR2 K S rPlus (.str x) (.str y) Q := wr_or2 (wr_or2 (wr_adds hl q))
theorem wt_l {xs : List X3.D} {n : Int} (h1 : -1000000 ≤ n) (h2 : n ≤ 1000000) (hl : xs.length * n.toNat ≤ 100000) (q : Q (.list (List.replicate n.toNat xs).flatten)) : WR2 K S rTimes (.list xs) (.int n) Q := wr_or2 (wr_or1 (wr_rep h1 h2 hl q))
theorem wt_s {z : Str} {n : Int} (ok : StrRepOk z n) (q : Q (.str (strRep z n))) : WR2 K S rTimes (.str z) (.int n) Q := wr_or2 (wr_or2 (wr_strRep ok q))
theorem we_eqS {x y : Str} (q : Q (.bl (decide (x = y)))) : WR2 K S (rEqA K) (.str x) (.str y) Q := wr_or1 (wr_eqS q)
theorem we_neS {x y : Str} (q : Q (.bl (!decide (x = y)))) : WR2 K S (rNeA K) (.str x) (.str y) Q := wr_or1 (wr_neS q)
theorem we_eqI {x y : Int} (q : Q (.bl (decide (x = y)))) : WR2 K S (rEqA K) (.int x) (.int y) Q := wr_or1 (wr_eqI q)
theorem we_neI {x y : Int} (q : Q (.bl (!decide (x = y)))) : WR2 K S (rNeA K) (.int x) (.int y) Q := wr_or1 (wr_neI q)
theorem we_eqD {x y : X3.D} (h : EqOk x y) (q : Q (.bl (PyData.eqv x.pd y.pd))) : WR2 K S (rEqA K) x y Q := wr_or2 (wr_eqD h q)
theorem we_neD {x y : X3.D} (h : EqOk x y) (q : Q (.bl (!PyData.eqv x.pd y.pd))) : WR2 K S (rNeA K) x y Q := wr_or2 (wr_neD h q)
theorem rng_split {lo : Int} {n : Nat} {pre post : List X3.D} {d : X3.D} (h : rng lo n = pre ++ d :: post) : pre.length < n ∧ d = .int (lo + (pre.length : Nat)) ∧ pre = rng lo pre.length ∧ pre ++ [d] = rng lo (pre.length + 1) := by
  have hl : pre.length < n := by
    have := congrArg List.length h
    rw [rng_len] at this
    simp at this
    omega
  have e1 : (rng lo n)[pre.length]? = some d := by rw [h]; simp
  rw [rng_get hl] at e1
  have e1 := Option.some.inj e1
  have e2 : pre = rng lo pre.length := by
    have a := congrArg (List.take pre.length) h
    rw [List.take_left] at a
    rw [← a]
    refine List.ext_getElem? fun i => ?_
    rw [List.getElem?_take]
    by_cases x : i < pre.length
    · rw [if_pos x, rng_get (by omega), rng_get (by rw [List.length_take, rng_len]; omega)]
    · rw [if_neg x, List.getElem?_eq_none (by rw [rng_len, List.length_take, rng_len]; omega)]
  refine ⟨hl, e1.symm, e2, ?_⟩
  have e3 : rng lo (pre.length + 1) = rng lo pre.length ++ [.int (lo + (pre.length : Nat))] := by
    unfold rng
    rw [List.range_succ, List.map_append]
    rfl
  rw [e3, ← e2, e1]
end
/-- the frozen world ahead of which nothing is frozen -/
theorem ws_first {K : PySem.W.Frag} {S : Res} {t : TS} {σ : L2.St} {ρ : Rho} {H : Hp} {Q : VK} {q : X3.D → Prop} (ok : S.ok H) (hl : σ.length = ρ.length) (hs : ∀ (i : Nat) (d : X3.D), ρ[i]? = some (SD.dat d) → ∃ v, σ[i]? = some (some v) ∧ ∀ G, Dat K G v d)
    (no : ∀ (i j : Nat), ρ[i]? ≠ some (SD.own j)) (c : ∀ v d G H', Dat K G v d → q d → Q v H') (h : WS K S t ρ [] { nx := fun _ _ => q .non, rt := q }) : t { nx := fun _ H' => Q .non H', rt := Q } σ H := by
  have w : Wld S (fun _ => none) H := ⟨fun a o e => (by cases e), ok, fun _ _ => rfl⟩
  refine h (fun _ => none) H σ H _ ok ⟨fun _ => none, [], .refl w, ⟨hl, fun i d e => ?_⟩, rfl, List.nodup_nil, fun i j e => absurd e (no i j), fun j a m e1 _ => by simp at e1⟩ ⟨?_, fun v d G H' _ dt z => c v d G H' dt z, fun _ _ _ _ _ z => z.elim, fun _ _ _ _ _ z => z.elim⟩
  · obtain ⟨v, e1, e2⟩ := hs i d e
    exact ⟨v, e1, e2 _⟩
  · rintro σ H1 ρ μ ⟨G1, as, r1⟩ z
    exact c _ _ G1 H1 .non z
end X3

set_option Elab.async false
set_option linter.all false
set_option maxRecDepth 100000
set_option maxHeartbeats 4000000
/-! # X3: types, dicts, sets, slices, objects -/
namespace X3
open PySem PySem.Spec PyProof.Rows L2
/-! ### isinstance of data -/
/-- the built-in type of data -/
def tyD : X3.D → Option String
  | .non => some "NoneType"
  | .bl _ => some "bool"
  | .int _ => some "int"
  | .str _ => some "str"
  | .list _ => some "list"
  | .tup _ => some "tuple"
  | .dict _ => some "dict"
  | _ => none
theorem tyx_of {K : PySem.W.Frag} {G H : Hp} {v : V} {d : X3.D} {t : String} (le : Le G H) (dt : Dat K G v d) (h : tyD d = some t) : TyX K H v (.type t) := by
  cases dt with
  | non => cases h; exact .base .non
  | bl => cases h; exact .base (.bl _)
  | int => cases h; exact .base (.int _)
  | str => cases h; exact .base (.str _)
  | list a r => cases h; exact .base (.lst (le _ _ a))
  | dict a r =>
    cases h
    rcases le_rd le a with z | ⟨o, z⟩
    · exact .base (.dK z)
    · exact .fDict z
  | tup a r =>
    cases h
    rcases le_t le a.sq with (z | ⟨o, z⟩) | ⟨o, _, _, lk, c, _⟩
    · exact .base (.tup z)
    · exact .fTuple z
    · exact .kTuple lk c
  | _ => cases h
/-- isinstance(x, (c, ..)) of any data, the tuple wherever it lies -/
def rIsS (K : PySem.W.Frag) : List V → Hp → VK → Prop := fun xs H Q => ∃ (x : V) (tp : Addr) (cs : List V) (us : List Value) (t : Value) (b : Bool), xs = [x, .ref tp] ∧ SqT K H tp cs ∧ Paired ClsV cs us ∧ TyX K H x t ∧ PySem.W.kitAny K t us = some b ∧ Q (.bl b) H
theorem call_isS {X : Cx} : CallR X (.builtin "isinstance") (rIsS X.K) := by
  intro pins st σ H xs us Q I r h
  obtain ⟨x, tp, cs, ws, t, b, rfl, hT, k, ty, e, q⟩ := h
  obtain ⟨u1, uc, rfl, r1, r2⟩ := vals2 r
  cases (show uc = Value.ref tp from r2)
  obtain ⟨its, rv, ⟨o, h1, h2, n, h3⟩, _⟩ := I.tuple hT
  have e3 := ClsV.all k rv
  subst e3
  obtain ⟨oc, od, dt, sl⟩ := o
  simp only at h2 h3
  subst h2 h3
  obtain ⟨P, Z, p, hx⟩ := kit_of I r1 ty
  exact PySem.W.kia_tup Z I.kIn p h1 e hx fun tk => ⟨.bl b, H, I.tok tk, rfl, q⟩
section
variable {K : PySem.W.Frag} {S : Res} {ρ : Rho} {Q : X3.D → Prop}
theorem wc_isi {d : X3.D} {t : String} {c : V} {u : Value} {b : Bool} (h : tyD d = some t) (k : ClsV c u) (e : PySem.W.kitOne K (.type t) u = some b) (q : Q (.bl b)) : WRC K S (rIsi K) [d, .val c] Q := fun G H vs kk w dx cc => by
  cases dx with
  | cons a r =>
    cases r with
    | cons a2 r =>
      cases r
      cases a2
      exact ⟨_, c, _, u, b, rfl, k, tyx_of w.le a h, e, cc _ _ G H (.refl w) (.bl b) q⟩
theorem wc_isS {d : X3.D} {t : String} {ts : List String} {b : Bool} (h : tyD d = some t) (e : PySem.W.kitAny K (.type t) (ts.map Value.type) = some b) (q : Q (.bl b)) : WRC K S (rIsS K) [d, .tup (ts.map fun t => .val (.ty t))] Q := fun G H vs kk w dx cc => by
  cases dx with
  | cons a r =>
    cases r with
    | cons a2 r =>
      cases r
      cases a2 with
      | tup h1 r2 =>
        have ev : ∀ {vs : List V} {us : List String}, DatL K G vs (us.map fun t => X3.D.val (.ty t)) → Paired ClsV vs (us.map Value.type) := fun {vs us} => by
          induction us generalizing vs with
          | nil =>
            intro h
            cases h
            exact .nil
          | cons u us ih =>
            intro h
            cases h with
            | cons a r =>
              cases a
              exact .cons (.ty u) (ih r)
        exact ⟨_, _, _, _, _, b, rfl, le_t w.le h1.sq, ev r2, tyx_of w.le a h, e, cc _ _ G H (.refl w) (.bl b) q⟩
/-! ### in -/
theorem inV_strs {x : Str} : ∀ ns : List Str, inV (.str x) (ns.map V.str) = decide (x ∈ ns)
  | [] => by simp [inV]
  | n :: ns => by
    have ih := inV_strs (x := x) ns
    unfold inV at ih ⊢
    rw [List.map_cons, List.any_cons, ih]
    have : eqV (.str n) (.str x) = decide (n = x) := by
      show (n == x) = decide (n = x)
      by_cases h : n = x <;> simp [h]
    rw [this]
    by_cases h : n = x
    · simp [h]
    · have h' : ¬ x = n := fun z => h z.symm
      simp [h, h']
theorem flat_strs : ∀ ns : List Str, (ns.map V.str).all flatV = true
  | [] => rfl
  | _ :: ns => by rw [List.map_cons, List.all_cons, flat_strs ns]; rfl
theorem wr_inS {neg : Bool} {x : Str} {ns : List Str} {d : X3.D} (hd : d = .list (ns.map .str) ∨ d = .tup (ns.map .str)) (q : Q (.bl (if neg then !decide (x ∈ ns) else decide (x ∈ ns)))) : WR2 K S (rIn K neg) (.str x) d Q := fun G H vx vy k w dx dy c => by
  cases dx
  have go : ∀ {p : Addr} {xs : List V}, (SqL K H p xs ∨ SqT K H p xs) → DatL K G xs (ns.map .str) → rIn K neg (.str x) (.ref p) H k := fun {p xs} hs r => by
    have e := r.strs
    subst e
    refine ⟨p, _, rfl, hs, rfl, flat_strs ns, ?_⟩
    rw [inV_strs]
    exact c _ _ G H (.refl w) (.bl _) q
  rcases hd with rfl | rfl
  · cases dy with
    | list h1 r => exact go (.inl (SqL.of (w.le _ _ h1))) r
  · cases dy with
    | tup h1 r => exact go (.inr (le_t w.le h1.sq)) r
/-! ### dicts -/
def kD : Key → X3.D
  | .inl i => .int i
  | .inr x => .str x
theorem kD_v {G : Hp} {v : V} {k : Key} (h : Dat K G v (kD k)) : v = kV k := by
  cases k with
  | inl i => cases h; rfl
  | inr x => cases h; rfl
theorem kD_dat {G : Hp} (k : Key) : Dat K G (kV k) (kD k) := by
  cases k with
  | inl i => exact .int i
  | inr x => exact .str x
def getK (kvs : List (Key × X3.D)) (k : Key) : Option X3.D := (kvs.find? fun kv => decide (kv.1 = k)).map (·.2)
theorem getK_cons (p : Key × X3.D) (kvs : List (Key × X3.D)) (k : Key) : getK (p :: kvs) k = if p.1 = k then some p.2 else getK kvs k := by
  by_cases h : p.1 = k <;> simp [getK, List.find?_cons, h]
inductive OptD (K : PySem.W.Frag) (G : Hp) : Option V → Option X3.D → Prop
  | none : OptD K G none none
  | some {v : V} {d : X3.D} : Dat K G v d → OptD K G (some v) (some d)
theorem DatK.get {G : Hp} (k : Key) : ∀ {vs : List (Key × V)} {ds : List (Key × X3.D)}, DatK K G vs ds → OptD K G (valV vs k) (getK ds k)
  | _, _, .nil => .none
  | _, _, .cons (k := j) h r => by
    rw [getK_cons]
    by_cases e : j = k
    · rw [valV_pos e, if_pos e]
      exact .some h
    · rw [valV_neg e, if_neg e]
      exact DatK.get k r
def putD (kvs : List (Key × X3.D)) (k : Key) (v : X3.D) : List (Key × X3.D) := if (getK kvs k).isSome then kvs.map fun kv => if kv.1 = k then (kv.1, v) else kv else kvs ++ [(k, v)]
theorem DatK.append {G : Hp} : ∀ {xs ys : List (Key × V)} {ds es : List (Key × X3.D)}, DatK K G xs ds → DatK K G ys es → DatK K G (xs ++ ys) (ds ++ es)
  | _, _, _, _, .nil, s => s
  | _, _, _, _, .cons h r, s => .cons h (DatK.append r s)
theorem DatK.upd {G : Hp} {k : Key} {v : V} {d : X3.D} (hd : Dat K G v d) : ∀ {xs : List (Key × V)} {ds : List (Key × X3.D)}, DatK K G xs ds → DatK K G (xs.map fun kv => if kv.1 = k then (kv.1, v) else kv) (ds.map fun kv => if kv.1 = k then (kv.1, d) else kv)
  | _, _, .nil => .nil
  | _, _, .cons (k := j) h r => by
    rw [List.map_cons, List.map_cons]
    by_cases e : j = k
    · rw [if_pos e, if_pos e]
      exact .cons hd (DatK.upd hd r)
    · rw [if_neg e, if_neg e]
      exact .cons h (DatK.upd hd r)
theorem OptD.isSome {G : Hp} {o : Option V} {p : Option X3.D} (h : OptD K G o p) : o.isSome = p.isSome := by cases h <;> rfl
theorem DatK.put {G : Hp} {k : Key} {v : V} {d : X3.D} {xs : List (Key × V)} {ds : List (Key × X3.D)} (hd : Dat K G v d) (r : DatK K G xs ds) : DatK K G (putK xs k v) (putD ds k d) := by
  have e := (r.get k).isSome
  unfold putK putD
  rw [valV_any, e]
  split
  · exact DatK.upd hd r
  · exact r.append (.cons hd .nil)
theorem DatK.length {G : Hp} : ∀ {xs : List (Key × V)} {ds : List (Key × X3.D)}, DatK K G xs ds → xs.length = ds.length
  | _, _, .nil => rfl
  | _, _, .cons _ r => congrArg (· + 1) (DatK.length r)
/-- d[k] -/
theorem we_dget {td ty : TE} (h : WE K S td ρ fun x => WE K S ty ρ fun y => ∃ kvs k d, x = .dict kvs ∧ y = kD k ∧ getK kvs k = some d ∧ Q d) : WE K S (tDGet td ty) ρ Q := fun σ G H k w s c =>
  h σ G H _ w s fun vx x G1 H1 s1 d1 h1 => h1 σ G1 H1 _ s1.w (s.mono s1.gg) fun vy y G2 H2 s2 d2 q => by
    obtain ⟨kvs, kk, d, rfl, rfl, l, q⟩ := q
    have d1' := d1.mono s2.gg
    cases d1' with
    | dict a r =>
      have o := r.get kk
      rw [l] at o
      cases e : valV _ kk with
      | none =>
        rw [e] at o
        cases o
      | some v =>
        rw [e] at o
        cases o with
        | some dv => exact ⟨_, v, rfl, .inl ⟨_, kk, le_rd s2.w.le a, kD_v d2, e.symm⟩, c v d G2 H2 (s1.trans s2) dv q⟩
theorem we_din {td ty : TE} (h : WE K S ty ρ fun y => WE K S td ρ fun x => ∃ kvs k, x = .dict kvs ∧ y = kD k ∧ Q (.bl (getK kvs k).isSome)) : WE K S (tDIn ty td) ρ Q := fun σ G H k w s c =>
  h σ G H _ w s fun vy y G1 H1 s1 d1 h1 => h1 σ G1 H1 _ s1.w (s.mono s1.gg) fun vx x G2 H2 s2 d2 q => by
    obtain ⟨kvs, kk, rfl, rfl, q⟩ := q
    have d1' := d1.mono s2.gg
    cases d2 with
    | dict a r =>
      refine ⟨_, valV _ kk, rfl, .inl ⟨_, kk, le_rd s2.w.le a, kD_v d1', rfl⟩, ?_⟩
      rw [(r.get kk).isSome]
      exact c _ _ G2 H2 (s1.trans s2) (.bl _) q
theorem we_dnotin {td ty : TE} (h : WE K S ty ρ fun y => WE K S td ρ fun x => ∃ kvs k, x = .dict kvs ∧ y = kD k ∧ Q (.bl (!(getK kvs k).isSome))) : WE K S (tDNotIn ty td) ρ Q := fun σ G H k w s c =>
  h σ G H _ w s fun vy y G1 H1 s1 d1 h1 => h1 σ G1 H1 _ s1.w (s.mono s1.gg) fun vx x G2 H2 s2 d2 q => by
    obtain ⟨kvs, kk, rfl, rfl, q⟩ := q
    have d1' := d1.mono s2.gg
    cases d2 with
    | dict a r =>
      refine ⟨_, valV _ kk, rfl, .inl ⟨_, kk, le_rd s2.w.le a, kD_v d1', rfl⟩, ?_⟩
      rw [(r.get kk).isSome]
      exact c _ _ G2 H2 (s1.trans s2) (.bl _) q
/-- list(d), the dict locked or not -/
def rListR : List V → Hp → VK → Prop := fun vs H Q => ∃ d kvs, vs = [.ref d] ∧ Rd H d (.dK kvs) ∧ ∀ l, H l = none → Q (.ref l) (upd H l (.lst (kvs.map fun e => kV e.1)))
theorem call_listR {X : Cx} (hc : X.calm = true) : CallR X (.type "list") rListR := by
  intro pins s σ H vs us Q I r h
  obtain ⟨d, kvs, e, hk, q⟩ := h
  subst e
  cases r with
  | cons r0 rr =>
  cases rr
  cases r0
  obtain ⟨few, away, es, rk, od⟩ := dk_rd I.hok hk
  obtain ⟨ep, at_⟩ := od.dictAt
  have same : kvs.length = es.length := Paired.length rk
  refine PySem.W.kdl_call (PySem.W.kdl_dict (knd := mixKind X.prog X.w) (kvs := es) (ep := ep) away) (I.ok.hd hc) at_ (by rw [← same]; exact few) fun h2 tk got c2 stay new_ all_ => ?_
  refine ⟨.ref s.heap.objs.size, upd H s.heap.objs.size (.lst (kvs.map fun e => kV e.1)), I.laid stay (Nat.le_refl _) (show ObjOk X.prog X.w _ _ _ (.lst (kvs.map fun e => kV e.1)) from ⟨?_, got.toList, c2, ?_, ?_⟩), rfl, q _ (I.hok.fresh (Nat.le_refl _))⟩
  · rw [List.length_map]
    exact few
  · have sz : got.toList.length = got.size := by simp
    refine vals_of_at (by rw [List.length_map, sz, all_.1, same]) fun m x u h1 h3 => ?_
    obtain ⟨k, y, hky, hi⟩ := all_.2 m u (by rw [← Array.getElem?_toList]; exact h3)
    have e1 : (kvs.map (·.1))[m]? = some k := by
      rw [KV.keys rk, List.getElem?_map, hky] <;> rfl
    have e2 : (kvs.map fun e => kV e.1)[m]? = some (kV k) := by
      have e3 : (kvs.map fun e => kV e.1) = (kvs.map (·.1)).map kV := by rw [List.map_map] <;> rfl
      rw [e3, List.getElem?_map, e1] <;> rfl
    rw [e2] at h1
    cases h1
    exact keyIs_rel hi
  · rw [Array.toArray_toList]
    exact new_
theorem wc_listD {kvs : List (Key × X3.D)} (q : Q (.list (kvs.map fun kv => kD kv.1))) : WRC K S rListR [.dict kvs] Q := fun G H vs k w dx c => by
  have keys : ∀ {G : Hp} {xs : List (Key × V)} {ds : List (Key × X3.D)}, DatK K G xs ds → DatL K G (xs.map fun kv => kV kv.1) (ds.map fun kv => kD kv.1) := fun {G xs ds} => by
    induction xs generalizing ds with
    | nil =>
      intro h
      cases h
      exact .nil
    | cons x xs ih =>
      intro h
      cases h with
      | cons _ r => exact .cons (kD_dat _) (ih r)
  cases dx with
  | cons a r =>
    cases r
    cases a with
    | dict h r => exact ⟨_, _, rfl, le_rd w.le h, fun p hp => c _ _ _ _ (.new w hp) (.list upd_same ((keys r).mono (Le.new (w.fresh hp)))) q⟩
/-! ### all -/
theorem DatL.bls {G : Hp} : ∀ {vs : List V} {ns : List Bool}, DatL K G vs (ns.map D.bl) → vs = ns.map V.bl
  | _, [], h => by cases h; rfl
  | _, n :: ns, h => by
    have h' : DatL K G _ (D.bl n :: ns.map D.bl) := h
    cases h' with
    | cons a r =>
      cases a
      rw [DatL.bls r]
      rfl
theorem wc_all {bs : List Bool} (q : Q (.bl (bs.all id))) : WRC K S (rAll K) [.list (bs.map .bl)] Q := fun G H vs k w dx c => by
  cases dx with
  | cons a r =>
    cases r
    cases a with
    | list h r =>
      have e := r.bls
      subst e
      exact ⟨_, bs, rfl, SqL.of (w.le _ _ h), c _ _ G H (.refl w) (.bl _) q⟩
/-! ### slices, index -/
def WO (K : PySem.W.Frag) (S : Res) (to : TO) (ρ : Rho) (Q : Option Int → Prop) : Prop :=
  ∀ σ G H (k : Option Int → Hp → Prop), Wld S G H → Slots K G σ ρ → (∀ o G' H', Stp S G H G' H' → Q o → k o H') → to σ H k
theorem wo_none {Q : Option Int → Prop} (q : Q none) : WO K S tNoPart ρ Q := fun σ G H k w s c => c none G H (.refl w) q
theorem wo_some {te : TE} {Q : Option Int → Prop} (h : WE K S te ρ fun d => ∃ i, d = .int i ∧ Q (some i)) : WO K S (tPart te) ρ Q := fun σ G H k w s c =>
  h σ G H _ w s fun v d G' H' st dt q => by
    obtain ⟨i, rfl, q⟩ := q
    cases dt
    exact ⟨i, rfl, c _ G' H' st q⟩
/-- the items of xs[lo:hi] -/
def cutD (xs : List X3.D) (lo hi : Option Int) : List X3.D := (xs.drop (HT.sIx xs.length 0 lo)).take (HT.sIx xs.length xs.length hi - HT.sIx xs.length 0 lo)
theorem we_slL {te : TE} {tl th : TO} (h : WE K S te ρ fun x => WO K S tl ρ fun lo => WO K S th ρ fun hi => ∃ xs, x = .list xs ∧ Q (.list (cutD xs lo hi))) : WE K S (tSl (rSlL K) te tl th) ρ Q := fun σ G H k w s c =>
  h σ G H _ w s fun vx x G1 H1 s1 d1 h1 => h1 σ G1 H1 _ s1.w (s.mono s1.gg) fun lo G2 H2 s2 h2 => h2 σ G2 H2 _ s2.w (s.mono (s1.gg.trans s2.gg)) fun hi G3 H3 s3 q => by
    obtain ⟨xs, rfl, q⟩ := q
    have d3 := d1.mono (s2.gg.trans s3.gg)
    cases d3 with
    | list a r =>
      rename_i ys
      refine ⟨_, ys, rfl, SqL.of (s3.w.le _ _ a), fun p hp => ?_⟩
      have e : DatL K G3 (cutV ys lo hi) (cutD xs lo hi) := by
        unfold cutV cutD
        rw [r.length]
        exact (r.drop _).take _
      exact c _ _ _ _ ((s1.trans s2).trans (s3.trans (.new s3.w hp))) (.list upd_same (e.mono (Le.new (s3.w.fresh hp)))) q
/-- xs.index(y) of texts -/
theorem we_index {to te : TE} (h : WE K S to ρ fun x => ∃ ns : List Str, x = .list (ns.map .str) ∧ WE K S te ρ fun y => ∃ (n : Str) (j : Nat), y = .str n ∧ ns[j]? = some n ∧ (∀ m < j, ns[m]? ≠ some n) ∧ Q (.int (j : Nat))) :
    WE K S (tBM K "list" (rIndex K) to (tCons te tNil)) ρ Q := fun σ G H k w s c =>
  h σ G H _ w s fun vx x G1 H1 s1 d1 h1 => by
    obtain ⟨ns, rfl, h1⟩ := h1
    cases d1 with
    | list a r =>
      have e := r.strs
      subst e
      refine ⟨.inl ⟨rfl, _, SqL.of (s1.w.le _ _ a)⟩, ?_⟩
      refine h1 σ G1 H1 _ s1.w (s.mono s1.gg) fun vy y G2 H2 s2 d2 q => ?_
      obtain ⟨n, j, rfl, hj, first, q⟩ := q
      cases d2
      refine ⟨_, _, .str n, j, .str n, rfl, rfl, SqL.of (s2.w.le _ _ (s2.gg _ _ a)), rfl, flat_strs ns, by rw [List.getElem?_map, hj]; rfl, by show (n == n) = true; simp, fun m z hm hz => ?_, c _ _ G2 H2 (s1.trans s2) (.int _) q⟩
      rw [List.getElem?_map] at hz
      cases e : ns[m]? with
      | none =>
        rw [e] at hz
        cases hz
      | some z' =>
        rw [e] at hz
        cases hz
        have ne : z' ≠ n := fun x => first m hm (x ▸ e)
        show (z' == n) = false
        simpa using ne
/-! ### objects -/
/-- e.f, e an own object -/
theorem we_fld {te : TE} {f : Str} (h : WE K S te ρ fun x => ∃ C fs d, x = .obj C fs ∧ Cls K C ∧ NoAttr K C f ∧ fs.lookup f = some d ∧ Q d) : WE K S (tFld K te f) ρ Q := fun σ G H k w s c =>
  h σ G H _ w s fun vx x G1 H1 s1 d1 q => by
    obtain ⟨C, fs, d, rfl, cl, no, l, q⟩ := q
    cases d1 with
    | obj a r =>
      obtain ⟨u, hu, du⟩ := r.lookup l
      exact ⟨_, C, _, _, u, rfl, s1.w.le _ _ a, cl, no, hu, c u d G1 H1 s1 du q⟩
theorem DatF.miss {G : Hp} {f : Str} : ∀ {vs : List (Str × V)} {ds : List (Str × X3.D)}, DatF K G vs ds → (ds.lookup f = none → vs.lookup f = none)
  | _, _, .nil => fun _ => rfl
  | _, _, .cons (k := j) h r => fun l => by
    rw [lookup_cons] at l ⊢
    by_cases e : f = j
    · rw [if_pos e] at l
      cases l
    · rw [if_neg e] at l ⊢
      exact DatF.miss r l
/-- e.m(e, ..), e.m(): a method's promise over data -/
theorem we_meth {te : TE} {tA : TA} {C : Addr} {m : Str} {P : Res → List X3.D → (X3.D → Prop) → Prop} {E : XK} (h : WE K S te ρ fun x => ∃ fs, x = .obj C fs ∧ fs.lookup m = none ∧ WA K S tA ρ fun ds => P S (.obj C fs :: ds) Q) : WE K S (tMeth C m (spD K P) [] E te tA) ρ Q := fun σ G H k w s c =>
  h σ G H _ w s fun vx x G1 H1 s1 d1 q => by
    obtain ⟨fs, rfl, no, q⟩ := q
    have d1' := d1
    cases d1 with
    | obj a r =>
      refine ⟨_, _, _, rfl, s1.w.le _ _ a, r.miss no, ?_⟩
      refine q σ G1 H1 _ s1.w (s.mono s1.gg) fun vs ds G2 H2 s2 dt q2 => ?_
      refine ⟨S, G2, _, Q, s2.w, by rw [List.append_nil]; exact .cons (d1'.mono s2.gg) dt, q2, fun v d G3 H3 s3 d3 q3 => c v d G3 H3 ((s1.trans s2).trans s3) d3 q3⟩
end
end X3

set_option Elab.async false
set_option linter.all false
set_option maxRecDepth 100000
set_option maxHeartbeats 4000000
/-! # X3: dicts by comprehension, own dicts and sets, objects in the making, min and max -/
namespace X3
open PySem PySem.Spec PyProof.Rows L2
/-! ### {k: v for ..} -/
theorem dc_it {J : It} {n : Nat} {G : Hp → Prop} {Y : Nat → Hp → V → Hp → Prop} (w : Walk J n G Y) {g : TG} {tt : TT} {tk tv : TE} {vs : List Nat} {σ : L2.St} {H1 : Hp} {D : Addr} {Qd : Hp → Prop} (Pv : Nat → Hp → Prop) (h0 : Pv 0 (upd H1 D (.dK []))) (good : ∀ i H, i ≤ n → Pv i H → G H)
    (turn : ∀ i x H H', i < n → Pv i H → Y i H x H' → g x (wipe σ vs) H' fun σ2 H2 => wipe σ2 vs = wipe σ vs ∧ tt σ2 H2 fun b H3 =>
      if b = true then tk σ2 H3 fun y H4 => tv σ2 H4 fun z H5 => ∃ kvs k, y = kV k ∧ H5 D = some (.dK kvs) ∧ kvs.length < sizeLine ∧ Pv (i + 1) (upd H5 D (.dK (putK kvs k z))) else Pv (i + 1) H3) (fin : ∀ H, Pv n H → Qd H) :
    ∃ W : Nat → Nat → Hp → Prop, (∃ m, W 0 m (upd H1 D (.dK []))) ∧ ∀ i m H, W i m H →
      (J.stop i H ∧ Qd H) ∨ (J.go i H ∧ ∃ Nx : Hp → Prop, (∀ H', Nx H' → ∃ m', m' < m ∧ W (i + 1) m' H') ∧ ∀ x H', J.yld i H x H' → g x (wipe σ vs) H' fun σ2 H2 => wipe σ2 vs = wipe σ vs ∧ tt σ2 H2 fun b H3 =>
        if b = true then tk σ2 H3 fun y H4 => tv σ2 H4 fun z H5 => ∃ kvs k, y = kV k ∧ H5 D = some (.dK kvs) ∧ kvs.length < sizeLine ∧ Nx (upd H5 D (.dK (putK kvs k z))) else Nx H3) := by
  refine ⟨fun i m H => i ≤ n ∧ m + i = n ∧ Pv i H, ⟨n, Nat.zero_le _, rfl, h0⟩, fun i m H z => ?_⟩
  obtain ⟨hi, hm, p⟩ := z
  have gd := good i H hi p
  rcases Nat.lt_or_ge i n with lt | ge
  · exact .inr ⟨w.goes i H lt gd, Pv (i + 1), fun H' p' => ⟨m - 1, by omega, lt, by omega, p'⟩, fun x H' y => turn i x H H' lt p (w.yields i H x H' lt gd y)⟩
  · have e : i = n := by omega
    cases e
    exact .inl ⟨w.stops H gd, fin H p⟩
section
variable {K : PySem.W.Frag} {S : Res} {ρ : Rho}
theorem we_dc {wi : TI} {g : TG} {tt : TT} {tk tv : TE} {vs is : List Nat} {Q : X3.D → Prop} (I : List X3.D → List (Key × X3.D) → Prop) (hv : ∀ i ∈ is, i ∈ vs)
    (h : WI K S wi ρ fun ds => I [] [] ∧ (∀ pre d post out, ds = pre ++ d :: post → I pre out → WG K is g d (wipeR ρ vs) fun ρ2 => WT K S tt ρ2 fun b =>
      if b = true then WE K S tk ρ2 fun y => WE K S tv ρ2 fun z => ∃ k, y = kD k ∧ out.length < 100000 ∧ I (pre ++ [d]) (putD out k z) else I (pre ++ [d]) out) ∧ ∀ out, I ds out → Q (.dict out)) :
    WE K S (tDc wi g tt tk tv vs) ρ Q := fun σ G H k w sl c => by
  refine h σ G H _ w sl fun J ds G' H' s it q => ?_
  obtain ⟨i0, turn, fin⟩ := q
  obtain ⟨Gd, Y, wk, gd, yl⟩ := it.ex
  have w0 := s.w.src
  intro p hp
  have sl0 : Slots K G' (wipe σ vs) (wipeR ρ vs) := slots_wipe (sl.mono s.gg) vs
  have start : RepG K S G' H' G' [] (upd H' p (.dK [])) [] [.dict []] [p] := by
    refine ⟨.junk s.w (Le.new hp), ⟨rfl, fun i d e => by simp at e⟩, rfl, by simp, fun i j e => by simp at e, fun j a m e1 e2 => ?_⟩
    have hs : upd H' p (.dK []) p = some (.dK []) := upd_same
    cases j with
    | zero =>
      have e1' : some p = some a := e1
      have e2' : some (M.dict []) = some m := e2
      cases e1'
      cases e2'
      exact ⟨hp, by rw [hs]; exact Option.some_ne_none _, s.w.fresh hp, [], hs, DatK.nil⟩
    | succ n => simp at e1
  refine dc_it wk (fun i H => ∃ out G2, RepG K S G' H' G2 [] H [] [.dict out] [p] ∧ I (ds.take i) out) ⟨[], G', start, i0⟩ ?_ ?_ ?_
  · rintro i H1 _ ⟨out, G2, r2, _⟩
    exact gd H1 (r2.st.gg.trans r2.st.w.le)
  · rintro i x H1 H2 hi ⟨out, G2, r2, iv⟩ y
    obtain ⟨d, G3, e, st3, dt⟩ := yl i H1 x H2 G2 hi r2.st.gg r2.st.w y
    have r3 := r2.step w0 st3
    have ed : ds = ds.take i ++ d :: ds.drop (i + 1) := by
      obtain ⟨hl, e2⟩ := List.getElem?_eq_some_iff.mp e
      rw [← e2, ← List.drop_eq_getElem_cons hl, List.take_append_drop]
    have et : ds.take i ++ [d] = ds.take (i + 1) := by
      rw [List.take_add_one, e]
      rfl
    refine turn (ds.take i) d (ds.drop (i + 1)) out ed iv _ G3 H2 x _ r3.st.w.le (sl0.mono r3.st.gg) dt fun σ4 ρ4 t4 body => ?_
    have hw : wipe σ4 vs = wipe σ vs := by
      refine wipe_eq (by rw [t4.len, wipe_length]) fun i hi => ?_
      exact (t4.old i fun z => hi (hv i z)).1
    refine ⟨hw, body σ4 G3 H2 _ r3.st.w t4.sl fun b G4 H4 s4 qb => ?_⟩
    have r4 := r3.step w0 s4
    cases b with
    | false => exact ⟨out, G4, r4, by rw [← et]; exact qb⟩
    | true =>
      refine qb σ4 G4 H4 _ r4.st.w (t4.sl.mono s4.gg) fun vy dy G5 H5 s5 dty q5 => ?_
      have r5 := r4.step w0 s5
      refine q5 σ4 G5 H5 _ r5.st.w (t4.sl.mono (s4.gg.trans s5.gg)) fun vz dz G6 H6 s6 dtz q6 => ?_
      have r6 := r5.step w0 s6
      obtain ⟨kk, ek, hl, iv6⟩ := q6
      obtain ⟨_, _, hg, xs, hx, dx⟩ := r6.cell 0 p _ rfl rfl
      rw [ek] at dty
      refine ⟨xs, kk, kD_v dty, hx, by rw [dx.length]; exact Nat.lt_of_lt_of_le hl (by decide), putD out kk dz, G6, ?_, by rw [← et]; exact iv6⟩
      exact r6.put (j := 0) (m := .dict (putD out kk dz)) w0 rfl rfl hg ⟨hg, _, upd_same, dx.put dtz⟩
  · rintro H1 ⟨out, G2, r2, iv⟩
    rw [List.take_length] at iv
    obtain ⟨G3, le, s3, _, fr⟩ := r2.freeze w0
    obtain ⟨_, _, _, xs, hx, dx⟩ := r2.cell 0 p _ rfl rfl
    exact c _ _ G3 H1 (s.trans s3) (.dict (.inl (by rw [fr p (by simp)]; exact hx)) (dx.mono le)) (fin out iv)
end
/-! ### own cells of any kind: laid, written -/
section
variable {K : PySem.W.Frag} {S : Res} {G0 H0 G H G' H' : Hp} {σ : L2.St} {ρ : Rho} {μ : Mu} {as : List Addr} {N : EndsD} {te : TE} {i : Nat}
theorem CellOk.ne {a p : Addr} {o : HO} {m : M} (ne : a ≠ p) (h : CellOk K G H a m) : CellOk K G (upd H p o) a m := by
  cases m with
  | gone => trivial
  | lst ds =>
    obtain ⟨h1, xs, h2, h3⟩ := h
    exact ⟨h1, xs, by rw [upd_ne ne]; exact h2, h3⟩
  | dict ds =>
    obtain ⟨h1, xs, h2, h3⟩ := h
    exact ⟨h1, xs, by rw [upd_ne ne]; exact h2, h3⟩
  | dt P w ds =>
    obtain ⟨h1, xs, h2, h3⟩ := h
    exact ⟨h1, xs, by rw [upd_ne ne]; exact h2, h3⟩
  | kset P w S n =>
    obtain ⟨h1, h2⟩ := h
    exact ⟨h1, by rw [upd_ne ne]; exact h2⟩
  | obj x C fs =>
    obtain ⟨h0, h1, dx, vs, h2, h3⟩ := h
    exact ⟨h0, h1, dx, vs, by rw [upd_ne ne]; exact h2, h3⟩
/-- an object that nobody names becomes one's own, as it is written -/
theorem RepG.adopt (r : RepG K S G0 H0 G σ H ρ μ as) {p : Addr} {o : HO} {m : M} (hi : i < ρ.length) (h0 : H0 p = none) (pas : p ∉ as) (nf : ¬ S.fp p) (gp : G p = none) (ok : CellOk K G (upd H p o) p m) : RepG K S G0 H0 G (σ.set i (some (.ref p))) (upd H p o) (ρ.set i (.own μ.length)) (μ ++ [m]) (as ++ [p]) := by
  have w := r.st.w
  have w' : Wld S G (upd H p o) := ⟨fun b u e => by
    have ne : b ≠ p := fun z => by
      rw [z, gp] at e
      cases e
    rw [upd_ne ne]
    exact w.le b u e, S.loc H _ (fun b f => (upd_ne (fun z : b = p => nf (by rw [← z]; exact f))).symm) w.src, w.sep⟩
  refine ⟨⟨r.st.gg, fun b u n e => by rw [upd_ne (ne_of_none e h0)]; exact r.st.hh b u n e, r.st.nw, w'⟩, ⟨by rw [List.length_set, List.length_set]; exact r.sl.len, fun j d e => ?_⟩, by rw [List.length_append, List.length_append, r.alen] <;> rfl, ?_, fun k j e => ?_, fun j a m' e1 e2 => ?_⟩
  · by_cases x : i = j
    · subst x
      rw [List.getElem?_set_self hi] at e
      cases e
    · rw [List.getElem?_set_ne x] at e ⊢
      exact r.sl.get j d e
  · exact List.nodup_append.mpr ⟨r.nd, by simp, fun a ha b hb => by
      have : b = p := by simpa using hb
      subst this
      exact fun z => pas (z ▸ ha)⟩
  · by_cases x : i = k
    · subst x
      rw [List.getElem?_set_self hi] at e
      have e' : μ.length = j := SD.own.inj (Option.some.inj e)
      subst e'
      exact ⟨p, by rw [← r.alen]; simp, by rw [List.getElem?_set_self (by rw [r.sl.len]; exact hi)]⟩
    · rw [List.getElem?_set_ne x] at e ⊢
      obtain ⟨a, h1, h2⟩ := r.own k j e
      exact ⟨a, by rw [List.getElem?_append_left (List.getElem?_eq_some_iff.mp h1).1]; exact h1, h2⟩
  · by_cases x : j < μ.length
    · rw [List.getElem?_append_left (by rw [r.alen]; exact x)] at e1
      rw [List.getElem?_append_left x] at e2
      obtain ⟨c1, c2, c3⟩ := r.cell j a m' e1 e2
      have ne : a ≠ p := fun z => pas (z ▸ List.mem_of_getElem? e1)
      exact ⟨c1, by rw [upd_ne ne]; exact c2, c3.ne ne⟩
    · rw [List.getElem?_append_right (by rw [r.alen]; omega)] at e1
      rw [List.getElem?_append_right (by omega)] at e2
      rw [r.alen] at e1
      cases hk : j - μ.length with
      | zero =>
        rw [hk] at e1 e2
        have e1' : some p = some a := e1
        have e2' : some m = some m' := e2
        cases e1'
        cases e2'
        have hs : upd H p o p = some o := upd_same
        exact ⟨h0, by rw [hs]; exact Option.some_ne_none _, ok⟩
      | succ n =>
        rw [hk] at e1
        cases e1
/-- what is not there in H was not there ahead, and is nobody's -/
theorem RepG.newp (r : RepG K S G0 H0 G σ H ρ μ as) {p : Addr} (hp : H p = none) : H0 p = none ∧ p ∉ as ∧ ¬ S.fp p ∧ G p = none := by
  have nf := r.st.w.nfp hp
  refine ⟨?_, fun z => ?_, nf, r.st.w.fresh hp⟩
  · cases e : H0 p with
    | none => rfl
    | some o =>
      rw [r.st.hh p o nf e] at hp
      cases hp
  · obtain ⟨j, hj, e⟩ := List.mem_iff_getElem.mp z
    have hm : j < μ.length := by rw [← r.alen]; exact hj
    exact (r.cell j p μ[j] (by rw [List.getElem?_eq_getElem hj, e]) (List.getElem?_eq_getElem hm)).2.1 hp
theorem Stp.keepNone (s : Stp S G H G' H') {p : Addr} (gp : G p = none) (hp : H p ≠ none) : G' p = none := by
  cases e : G' p with
  | none => rfl
  | some o =>
    rcases s.nw p o e with z | z
    · rw [gp] at z
      cases z
    · exact absurd z hp
/-- x = {k: v} -/
theorem ws_newD1 {tk tv : TE} (hi : i < ρ.length) (h : WE K S tk ρ fun y => WE K S tv ρ fun z => ∃ k, y = kD k ∧ N.nx (ρ.set i (.own μ.length)) (μ ++ [.dict [(k, z)]])) : WS K S (tAsg (tDisp [(tk, tv)]) (gName i)) ρ μ N := fun G0 H0 σ H E w0 r f => by
  obtain ⟨G, as, r⟩ := r
  intro p hp
  have s0 : Stp S G H G (upd H p (.dK [])) := .junk r.st.w (Le.new hp)
  have r0 := r.step w0 s0
  refine h σ G _ _ s0.w r0.sl fun vy y G1 H1 s1 d1 h1 => h1 σ G1 H1 _ s1.w (r0.sl.mono s1.gg) fun vz z G2 H2 s2 d2 q => ?_
  obtain ⟨k, rfl, q⟩ := q
  have nf := r.st.w.nfp hp
  have at2 : H2 p = some (.dK []) := s2.hh p _ nf (s1.hh p _ nf upd_same)
  refine ⟨at2, [(k, vz)], by rw [List.map_cons, List.map_nil, kD_v d1], (by show 1 ≤ 15; decide), ?_⟩
  have em : mergeK [] [(k, vz)] = [(k, vz)] := rfl
  rw [em]
  obtain ⟨n1, n2, n3, n4⟩ := r.newp hp
  have ne1 : upd H p (.dK []) p ≠ none := by rw [upd_same]; exact Option.some_ne_none _
  have g1 := s1.keepNone n4 ne1
  have g2 := s2.keepNone g1 (by rw [s1.hh p _ nf upd_same]; exact Option.some_ne_none _)
  have r2 := (r0.step w0 s1).step w0 s2
  exact f.nx _ _ _ _ ⟨G2, _, r2.adopt (m := .dict [(k, z)]) hi n1 n2 n3 g2 ⟨g2, _, upd_same, .cons d2 .nil⟩⟩ q
/-- x = set() -/
theorem ws_newset {P : Program} {w : World} (hi : i < ρ.length) (q : N.nx (ρ.set i (.own μ.length)) (μ ++ [.kset P w (fun _ => false) 0])) : WS K S (tAsg (tCB (rSet0K P w) tNil) (gName i)) ρ μ N := fun G0 H0 σ H E w0 r f => by
  obtain ⟨G, as, r⟩ := r
  refine ⟨rfl, fun p hp => ?_⟩
  obtain ⟨n1, n2, n3, n4⟩ := r.newp hp
  exact f.nx _ _ _ _ ⟨G, _, r.adopt (m := .kset P w (fun _ => false) 0) hi n1 n2 n3 n4 ⟨n4, upd_same⟩⟩ q
/-- found.add(e) -/
theorem ws_setadd {P : Program} {w : World} {j n : Nat} {M : Key → Bool} (hi : ρ[i]? = some (.own j)) (hj : μ[j]? = some (.kset P w M n)) (hz : n < 1000) (h : WE K S te ρ fun d => ∃ k, d = kD k ∧ N.nx ρ (μ.set j (.kset P w (fun z => M z || decide (z = k)) (if M k = true then n else n + 1)))) :
    WS K S (tDrop (tSAddK P w (tVar i) (tCons te tNil))) ρ μ N := fun G0 H0 σ H E w0 r f => by
  obtain ⟨G, as, r⟩ := r
  obtain ⟨a, ha, hs⟩ := r.own i j hi
  obtain ⟨_, _, _, hx⟩ := r.cell j a _ ha hj
  refine ⟨_, hs, ⟨a, M, n, rfl, hx⟩, ?_⟩
  refine h σ G H _ r.st.w r.sl fun v d G' H' s dt q => ?_
  obtain ⟨k, rfl, q⟩ := q
  have r' := r.step w0 s
  obtain ⟨_, _, hg, hy⟩ := r'.cell j a _ ha hj
  refine ⟨a, k, M, n, rfl, by rw [kD_v dt], hy, Nat.lt_of_lt_of_le (Nat.add_lt_add_right hz 1) (by decide), ?_⟩
  exact f.nx _ _ _ _ ⟨G', as, r'.put (m := .kset P w (fun z => M z || decide (z = k)) (if M k = true then n else n + 1)) w0 ha hj hg ⟨hg, upd_same⟩⟩ q
/-- x in found -/
theorem wr_inSet {P : Program} {w : World} {neg : Bool} {k : Key} {M : Key → Bool} {n : Nat} {Q : X3.D → Prop} (q : Q (.bl (if neg then !M k else M k))) : WR2 K S (fun x y H Q => rSInK P w neg x y H Q) (kD k) (.kset P w M n) Q := fun G H vx vy kk w' dx dy c => by
  cases dy with
  | kset a => exact ⟨k, _, M, n, kD_v dx, rfl, w'.le _ _ a, c _ _ G H (.refl w') (.bl _) q⟩
/-- names[k] = v -/
theorem ws_dput {j : Nat} {kvs : List (Key × X3.D)} {ty tv : TE} (hi : ρ[i]? = some (.own j)) (hj : μ[j]? = some (.dict kvs)) (hz : kvs.length < 100000) (h : WE K S tv ρ fun z => WE K S ty ρ fun y => ∃ k, y = kD k ∧ N.nx ρ (μ.set j (.dict (putD kvs k z)))) :
    WS K S (sDPut (tVar i) ty tv) ρ μ N := fun G0 H0 σ H E w0 r f => by
  obtain ⟨G, as, r⟩ := r
  obtain ⟨a, ha, hs⟩ := r.own i j hi
  refine h σ G H _ r.st.w r.sl fun vz z G1 H1 s1 d1 h1 => ⟨_, hs, ?_⟩
  have r1 := r.step w0 s1
  refine h1 σ G1 H1 _ s1.w r1.sl fun vy y G2 H2 s2 d2 q => ?_
  obtain ⟨k, rfl, q⟩ := q
  have r2 := r1.step w0 s2
  obtain ⟨_, _, hg, xs, hx, dx⟩ := r2.cell j a _ ha hj
  refine ⟨a, _, rfl, .inl ⟨xs, k, hx, kD_v d2, by rw [dx.length]; exact Nat.lt_of_lt_of_le hz (by decide), rfl⟩, ?_⟩
  exact f.nx _ _ _ _ ⟨G2, as, r2.put (m := .dict (putD kvs k z)) w0 ha hj hg ⟨hg, _, upd_same, dx.put (d1.mono s2.gg)⟩⟩ q
end
end X3

set_option Elab.async false
set_option linter.all false
set_option maxRecDepth 100000
set_option maxHeartbeats 4000000
/-! # X3: own objects made; min and max of lists; texts -/
namespace X3
open PySem PySem.Spec PyProof.Rows L2
def putFD (f : Str) (v : X3.D) : List (Str × X3.D) → List (Str × X3.D)
  | [] => [(f, v)]
  | (g, x) :: r => if g = f then (g, v) :: r else (g, x) :: putFD f v r
section
variable {K : PySem.W.Frag} {S : Res} {G0 H0 G H G' H' : Hp} {σ : L2.St} {ρ : Rho} {μ : Mu} {as : List Addr} {N : EndsD} {te : TE} {i : Nat}
theorem DatF.put {f : Str} {v : V} {d : X3.D} (dv : Dat K G v d) : ∀ {vs : List (Str × V)} {ds : List (Str × X3.D)}, DatF K G vs ds → DatF K G (putF f v vs) (putFD f d ds)
  | _, _, .nil => .cons dv .nil
  | _, _, .cons (k := g) h r => by
    unfold putF putFD
    by_cases e : g = f
    · rw [if_pos e, if_pos e]
      exact .cons dv r
    · rw [if_neg e, if_neg e]
      exact .cons h (DatF.put dv r)
theorem DatF.length : ∀ {vs : List (Str × V)} {ds : List (Str × X3.D)}, DatF K G vs ds → vs.length = ds.length
  | _, _, .nil => rfl
  | _, _, .cons _ r => congrArg (· + 1) (DatF.length r)
/-- self.f = e, self one's own -/
theorem ws_fld {j : Nat} {x C : Addr} {f : Str} {fs : List (Str × X3.D)} (hi : ρ[i]? = some (.own j)) (hj : μ[j]? = some (.obj x C fs)) (cl : Cls K C) (no : NoAttr K C f) (few : fs.length < 1000) (h : WE K S te ρ fun d => N.nx ρ (μ.set j (.obj x C (putFD f d fs)))) :
    WS K S (sFld K (tVar i) te f) ρ μ N := fun G0 H0 σ H E w0 r fit => by
  obtain ⟨G, as, r⟩ := r
  obtain ⟨a, ha, hs⟩ := r.own i j hi
  refine h σ G H _ r.st.w r.sl fun v d G' H' s dt q => ⟨_, hs, ?_⟩
  have r' := r.step w0 s
  obtain ⟨_, _, ea, hg, dx, vs, hx, df⟩ := r'.cell j a _ ha hj
  refine ⟨a, C, dx, vs, rfl, hx, cl, no, by rw [df.length]; exact few, ?_⟩
  exact fit.nx _ _ _ _ ⟨G', as, r'.put (m := .obj x C (putFD f d fs)) w0 ha hj hg ⟨ea, hg, dx, _, upd_same, df.put dt⟩⟩ q
/-- an __init__'s promise over data -/
def spNew (K : PySem.W.Frag) (P : Res → List X3.D → (X3.D → Prop) → Prop) : Sp := fun vs H Q _ => ∃ (x dx C : Addr) (us : List V) (S : Res) (G Hc : Hp) (ds : List X3.D) (q : X3.D → Prop), vs = .ref x :: us ∧ Hc x = none ∧ Hc dx = none ∧ dx ≠ x ∧ H = upd (upd Hc dx (.own x)) x (.ins C dx []) ∧
  Wld S G Hc ∧ DatL K G us ds ∧ P S (.val (.ref C) :: ds) q ∧ ∀ G2 H2 fs, Stp S G Hc G2 H2 → Dat K G2 (.ref x) (.obj C fs) → q (.obj C fs) → Q .non H2
theorem we_make {C : Addr} {P : Res → List X3.D → (X3.D → Prop) → Prop} {tA : TA} {E : XK} {Q : X3.D → Prop} (h : WA K S tA ρ fun ds => P S (.val (.ref C) :: ds) Q) : WE K S (tMake C (spNew K P) [] E tA) ρ Q := fun σ G H k w sl c =>
  h σ G H _ w sl fun vs ds G' H' s dt q => fun x dx hx hd ne => ⟨x, dx, C, vs, S, G', H', ds, Q, by rw [List.append_nil], hx, hd, ne, rfl, s.w, dt, q, fun G2 H2 fs s2 d2 q2 => ⟨rfl, c _ _ G2 H2 (s.trans s2) d2 q2⟩⟩
/-- an __init__'s body: the reading of its term -/
theorem read_new {t : TS} {NN : List Str} {vs : List V} {P : Res → List X3.D → (X3.D → Prop) → Prop} {Q : VK} {E : XK} (h : spNew K P vs H Q E) (rd : ∀ S x C ds q, P S (.val (.ref C) :: ds) q → ds.length + 1 = vs.length → WS K S t (.own 0 :: ds.map .dat ++ List.replicate (NN.length - (ds.length + 1)) .no) [.obj x C []] { nx := fun _ μ => ∃ fs, μ[0]? = some (.obj x C fs) ∧ q (.obj C fs), rt := fun _ => False }) :
    t { nx := fun _ H' => Q .non H', rt := Q } (L2.start NN vs) H := by
  obtain ⟨x, dx, C, us, S, G, Hc, ds, q, rfl, hx, hd, ne, rfl, w, dt, hp, k⟩ := h
  have hl := dt.length
  have hx2 : (upd Hc dx (.own x)) x = none := by rw [upd_ne ne.symm]; exact hx
  have s : Stp S G Hc G (upd (upd Hc dx (.own x)) x (.ins C dx [])) := .junk w ((Le.new hd).trans (Le.new hx2))
  refine rd S x C ds q hp (by simp [hl]) G Hc _ _ _ w.src ⟨G, [x], s, ⟨by unfold L2.start; simp [hl], fun i d e => ?_⟩, rfl, by simp, fun i j e => ?_, fun j a m e1 e2 => ?_⟩ ⟨?_, fun v d G2 H2 _ _ z => z.elim, fun _ _ _ _ _ z => z.elim, fun _ _ _ _ _ z => z.elim⟩
  · cases i with
    | zero => cases e
    | succ i =>
      have e' : (ds.map SD.dat ++ List.replicate (NN.length - (ds.length + 1)) SD.no)[i]? = some (SD.dat d) := by simpa using e
      by_cases c : i < ds.length
      · rw [List.getElem?_append_left (by simpa using c), List.getElem?_map] at e'
        cases z : ds[i]? with
        | none =>
          rw [z] at e'
          cases e'
        | some d' =>
          rw [z] at e'
          cases e'
          obtain ⟨v, h1, h2⟩ := dt.get z
          refine ⟨v, ?_, h2⟩
          unfold L2.start
          rw [List.getElem?_append_left (by simp [hl]; omega)]
          simp [h1]
      · rw [List.getElem?_append_right (by simpa using c)] at e'
        have z := List.eq_of_mem_replicate (List.mem_of_getElem? e')
        cases z
  · cases i with
    | zero =>
      have e' : SD.own 0 = SD.own j := by simpa using e
      cases e'
      exact ⟨x, rfl, rfl⟩
    | succ i =>
      have e' : (ds.map SD.dat ++ List.replicate (NN.length - (ds.length + 1)) SD.no)[i]? = some (SD.own j) := by simpa using e
      have z := List.mem_of_getElem? e'
      rcases List.mem_append.mp z with z | z
      · obtain ⟨_, _, z⟩ := List.mem_map.mp z
        cases z
      · have z' := List.eq_of_mem_replicate z
        cases z'
  · cases j with
    | zero =>
      have e1' : some x = some a := e1
      have e2' : some (M.obj x C []) = some m := e2
      cases e1'
      cases e2'
      exact ⟨hx, by rw [upd_same]; exact Option.some_ne_none _, rfl, w.fresh hx, dx, [], upd_same, .nil⟩
    | succ n => simp at e1
  · rintro σ2 H2 ρ2 μ2 ⟨G2, as2, r2⟩ ⟨fs, hm, hq⟩
    obtain ⟨G3, le, s3, _, fr⟩ := r2.freeze w.src
    have h0 : 0 < as2.length := by
      rw [r2.alen]
      exact (List.getElem?_eq_some_iff.mp hm).1
    obtain ⟨_, _, ea, _, dx2, vs2, at2, df⟩ := r2.cell 0 as2[0] _ (List.getElem?_eq_getElem h0) hm
    have ma : x ∈ as2 := ea ▸ List.getElem_mem h0
    exact k G3 H2 fs s3 (.obj (dx := dx2) (by rw [fr x ma, ← ea]; exact at2) (df.mono le)) hq
end
end X3

set_option Elab.async false
set_option linter.all false
set_option maxRecDepth 100000
set_option maxHeartbeats 4000000
/-! # enumerate of a tuple; min, max of a list of ints -/
namespace PySem
open Sem (wp)
open AutoSeq1 (wpAny_loadPart')
theorem enum_new_tup (t : Addr) (us : Array Value) (n : Nat) (dc : Option Addr) (sl : Array (Option Value)) :
    Meets (Builtin.«enumerate.__new__» { pos := [.type "enumerate", .ref t] }) (fun _ R st => st.heap.get? t = some { cls := .type "tuple", dict := dc, data := .seq us n, slots := sl } ∧
      R (.ok (.ret (.ref (st.heap.push { cls := .type "tuple_iterator", data := .fields #[.ref t, .int 0 0] }).objs.size)))
        { st with heap := (st.heap.push { cls := .type "tuple_iterator", data := .fields #[.ref t, .int 0 0] }).push { cls := .type "enumerate", data := .fields #[.none, .bool false, .ref st.heap.objs.size, rawInt 0, .none, .none] } }) :=
  Meets.of_wp fun prog w A R st h => by
    obtain ⟨hp, g, d, tk, os⟩ := st
    obtain ⟨at_, h⟩ := h
    have sub := sub_enumerate
    have whole : Heap.IsTuple (Shared.heap ⟨hp, g, d, tk, os⟩) t us := ⟨_, at_, rfl, n, rfl⟩
    wp_walk using wpAny_loadPart' at_
    refine wpAny_stack_any fun stk => wpAny_pure ?_
    split
    · rename_i c _ _ _ _ _
      cases (c == Value.type "enumerate") <;> (wp_walk using wpAny_loadPart' at_, wpAny_pyIter_tuple whole; exact ⟨_, rfl, h⟩)
    · wp_walk using wpAny_loadPart' at_, wpAny_pyIter_tuple whole
      exact ⟨_, rfl, h⟩
theorem call_enum_tup {prog : Program} {w : World} {A : Around} {E : Value → Shared → Prop} {st : Shared} {t : Addr} {us : Array Value} {Q : Value → Shared → Prop} (whole : st.heap.IsTuple t us)
    (go : ∀ hp, IsEnum hp (st.heap.objs.size + 1) st.heap.objs.size 0 .none → hp.IsTupleIter st.heap.objs.size t 0 → (∀ b o, st.heap.get? b = some o → hp.get? b = some o) → Q (.ref (st.heap.objs.size + 1)) { st with heap := hp }) :
    wpAny (model prog w) A (call (.type "enumerate") [.ref t]) Q E st := by
  obtain ⟨⟨oc, dc, dt, sl⟩, at_, cls, n, dat⟩ := whole
  cases (show oc = .type "tuple" from cls)
  cases (show dt = .seq us n from dat)
  refine callType_new F.called_enumerate (by decide) (F.typeCall_enumerate_1 _) (F.newCall_enumerate_1 _) (fun obj => F.args_object_init_2 obj _) F.entry_enumerate_new (enum_new_tup t us n dc sl) ⟨at_, ?_⟩
  have sz : (st.heap.push { cls := .type "tuple_iterator", data := .fields #[.ref t, .int 0 0] }).objs.size = st.heap.objs.size + 1 := Heap.size_push ..
  have new : IsEnum ((st.heap.push { cls := .type "tuple_iterator", data := .fields #[.ref t, .int 0 0] }).push { cls := .type "enumerate", data := .fields #[.none, .bool false, .ref st.heap.objs.size, rawInt 0, .none, .none] }) (st.heap.objs.size + 1) st.heap.objs.size 0 .none := by
    have z := Heap.get?_push_size (st.heap.push { cls := .type "tuple_iterator", data := .fields #[.ref t, .int 0 0] }) (o := { cls := .type "enumerate", data := .fields #[.none, .bool false, .ref st.heap.objs.size, rawInt 0, .none, .none] }) rfl
    rw [sz] at z
    exact z
  show _ ∧ _
  rw [sz]
  exact ⟨⟨_, new, rfl⟩, go _ new ⟨_, Heap.get?_push_of_some _ (Heap.get?_push_size _ rfl), rfl, rfl⟩ fun b o x => Heap.get?_push_of_some _ (Heap.get?_push_of_some _ x)⟩
end PySem
namespace X3
open PySem PySem.Spec PyProof.Rows L2
/-- the tuple at a, each item in a new pair -/
def Itet (K : PySem.W.Frag) (a : Addr) : It :=
  ⟨fun i H => ∃ (xs : List V) (x : V), SqT K H a xs ∧ xs[i]? = some x, fun i H v H' => ∃ T x, v = .ref T ∧ H T = none ∧ H' = upd H T (.tup [.int (i : Nat), x]) ∧ ∀ xs, SqT K H a xs → xs[i]? = some x, fun i H => ∃ xs : List V, SqT K H a xs ∧ xs.length ≤ i⟩
theorem turn_enumT {P : Program} {w : World} {K : PySem.W.Frag} {elts : List Expr} {kk : Nat} {tpos : Pos} (a e it : Addr) :
    Turn P w K (.Tuple elts kk tpos) (Itet K a) [e, it] e (fun i h => (∃ old, IsEnum h e it ((i : Nat) : Int) old) ∧ h.IsTupleIter it a i ∧ e ≠ it) where
  mem := by simp
  obj := fun i h st b hb => by
    obtain ⟨⟨old, he⟩, ⟨o, ho, hc, hd⟩, _⟩ := st
    have e' : b = e ∨ b = it := by simpa using hb
    rcases e' with z | z
    · rw [z]
      exact ⟨_, he, fun v q => nomatch q⟩
    · rw [z]
      exact ⟨o, ho, fun v q => by
        rw [hd] at q
        cases q⟩
  keep := fun i h h' st k => by
    obtain ⟨⟨old, he⟩, ⟨o, ho, r⟩, ne⟩ := st
    exact ⟨⟨old, k e (by simp) _ he⟩, ⟨o, k it (by simp) o ho, r⟩, ne⟩
  item := by
    intro X hP hw hK hc i pins st σ H E I hf tn hg
    cases hP
    cases hw
    cases hK
    obtain ⟨⟨old, he⟩, hit, hne⟩ := tn
    obtain ⟨xs, x, hq, hx⟩ := hg
    obtain ⟨its, rv, p, hz⟩ := I.tuple hq
    obtain ⟨u, hu, ru⟩ := rv.get hx
    have whole : st.heap.IsTuple a its.toArray := p
    have hel : e < st.heap.objs.size := Heap.lt_size he
    have hil : it < st.heap.objs.size := by
      obtain ⟨_, q, _⟩ := hit
      exact Heap.lt_size q
    have tne : a ≠ it := fun z => by
      obtain ⟨o1, h1, c1, _⟩ := hit
      obtain ⟨o2, h2, c2, _⟩ := whole
      rw [z, h1] at h2
      cases h2
      rw [c1] at c2
      exact absurd (Value.type.inj c2) (by decide)
    have tne2 : a ≠ e := fun z => by
      obtain ⟨o2, h2, c2, _⟩ := whole
      rw [z, he] at h2
      cases h2
      exact absurd (Value.type.inj c2) (by decide)
    have D := Draws.tuple (prog := X.prog) (w := X.w) (A := X.A.in1) (I.ok.hd hc) it a tne its.toArray
    have hi : i < its.toArray.size := by
      have z := List.getElem?_eq_some_iff.mp hu
      simpa using z.1
    refine wpAny_pyNext_enum_itemD D he ⟨hit, whole⟩ hi hne (by simp [hne, tne2.symm]) fun x' h' tk px ho hst' hT hsz hk => ?_
    have ex : x' = u := by
      have px' : its[i]? = some x' := by simpa using px
      rw [hu] at px'
      exact (Option.some.inj px').symm
    subst ex
    refine ⟨_, rfl, wpAny_letOwnedTupleGo_enum (s := { st with heap := h', toks := tk + 1 }) ho fun h'' he' sb => ?_⟩
    have hT2 : h''.get? st.heap.objs.size = some { cls := .type "tuple", data := .seq #[.int i tk, x'] } := (sb.2 _ (Nat.ne_of_gt hel)).trans hT
    have new : ObjOk X.prog X.w (upd H st.heap.objs.size (.tup [.int (i : Nat), x])) h'' st.heap.objs.size (.tup [.int (i : Nat), x]) :=
      ⟨by show 2 ≤ sizeLine; decide, [.int i tk, x'], .cons ⟨_, rfl⟩ (.cons ru .nil), ⟨_, hT2, rfl, _, rfl⟩⟩
    have I1 : Inv X pins σ (upd H st.heap.objs.size (.tup [.int (i : Nat), x])) { st with heap := h'', toks := tk + 1 } :=
      I.turnedNew (ch := [e, it]) (fun b ob hb q => (sb.2 b (fun z => hb (by simp [z]))).trans (hk b ob (fun z => hb (by simp [z])) (fun z => hb (by simp [z])) q)) hf (Nat.le_refl _) new
    refine ⟨.ref st.heap.objs.size, _, I1, rfl, ⟨_, x, rfl, I.hok.fresh (Nat.le_refl _), rfl, fun ys hy => ?_⟩, ⟨⟨x', ?_⟩, ?_, hne⟩, fun b hb => ?_⟩
    · rw [I.tuple_inj hy hq]
      exact hx
    · have e1 : ((i + 1 : Nat) : Int) = (i : Int) + 1 := by omega
      rw [e1]
      exact he'
    · obtain ⟨o, h1, r⟩ := hst'.1
      exact ⟨o, (sb.2 it (Ne.symm hne)).trans h1, r⟩
    · have hb' : b < st.heap.objs.size := by
        have e' : b = e ∨ b = it := by simpa using hb
        rcases e' with z | z
        · rw [z]
          exact hel
        · rw [z]
          exact hil
      rw [upd_ne (Nat.ne_of_lt hb')]
      exact (hf b hb).1
  done := by
    intro X hP hw hK hc i pins st σ H E I hf tn hg
    cases hP
    cases hw
    cases hK
    obtain ⟨⟨old, he⟩, hit, hne⟩ := tn
    obtain ⟨xs, hq, hx⟩ := hg
    obtain ⟨its, rv, p, hz⟩ := I.tuple hq
    have whole : st.heap.IsTuple a its.toArray := p
    have hl := rv.length
    obtain ⟨f0, f1, f2, f3, f4, f5⟩ := hf it (by simp)
    have T : st.TypeIs (.ref e) "enumerate" := ⟨_, he, rfl⟩
    unfold pyNext
    refine wpAny_bind (wpAny_attempt (wpAny_callSpecial?_slot (name := Str.ofString "__next__") T F.slot_enumerate_next (wpAny_call_entry F.slot_enumerate_next T F.entry_enumerate_next ?_ (F.args_enumerate_next_1 _))))
    show wpAny _ _ (field (.ref e) 2 >>= _) _ _ _
    refine wpAny_bind (wpAny_field he rfl (x := .ref it) rfl (wpAny_bind (RZ.nextOf_tuple_end (I.ok.hd hc) hit whole (by simp; omega) fun h' x eb z => ?_)))
    obtain ⟨o, ho, cls⟩ := z
    refine wpAny_bind (wpAny_isInstance (T := "StopIteration") (b := true) ⟨o, ho, cls⟩ isSubtype_stop (wpAny_pure ?_))
    exact ⟨rfl, I.turned (t' := st.toks) (fun b o hb q => eb b o hb q) f0 f1 f3 f4 f5⟩
  self := fun A i s Q E st h => let ⟨⟨_, he⟩, _⟩ := st; wpAny_pyIter_enum he h
def iEnumT (K : PySem.W.Frag) (ta : TA) : TI := fun σ H R => ta σ H fun vs H1 => ∃ a xs, vs = [.ref a] ∧ SqT K H1 a xs ∧ R (Itet K a) H1
theorem pi_enumT {X : Cx} {e : Expr} {ta : TA} {p pos tpos : Pos} {elts : List Expr} {kk : Nat} (hg : Gl X "enumerate") (hm : X.mg "enumerate" = none) (ha : PA X [e] ta) (hs : starEach [e] X.env = [(false, eval e X.env)] := by rfl) :
    PI X (.Tuple elts kk tpos) (.Call (.Name "enumerate" p) [e] [] pos) (iEnumT X.K ta) where
  run pins s0 σ H R I h := by
    refine Call_ (ld_blt I hg hm PyProof.Rows.boot_enumerate (PyProof.Rows.callWith_type1 (thn (ha.run pos pins s0 σ H _ I h) fun us st ⟨vs, H1, I1, rs, a, xs, ex, hq, q⟩ => ?_) hs rfl))
    subst ex
    rw [Vals.ref1 rs]
    obtain ⟨its, rv, p', hz⟩ := I1.tuple hq
    refine call_enum_tup (show st.heap.IsTuple a its.toArray from p') fun h' he hit hk => wpAny_pyIter_enum he ?_
    have I2 : Inv X pins σ H1 { st with heap := h' } := I1.kept (t' := st.toks) hk
    refine ⟨st.heap.objs.size + 1, [st.heap.objs.size + 1, st.heap.objs.size], _, _, H1, rfl, I2, turn_enumT a (st.heap.objs.size + 1) st.heap.objs.size, ⟨⟨.none, he⟩, hit, Nat.succ_ne_self _⟩, fun b hb => ?_, q⟩
    have e' : b = st.heap.objs.size + 1 ∨ b = st.heap.objs.size := by simpa using hb
    have far : st.heap.objs.size ≤ b := by
      rcases e' with z | z
      · rw [z]
        exact Nat.le_succ _
      · rw [z]
        exact Nat.le_refl _
    exact I1.fpOk far (I1.hok.fresh far)
/-- enumerated data -/
def enumD (ds : List X3.D) : List X3.D := (List.range ds.length).zipWith (fun i d => .wtup [.int (i : Nat), d]) ds
theorem enumD_len (ds : List X3.D) : (enumD ds).length = ds.length := by simp [enumD]
theorem enumD_get {ds : List X3.D} {i : Nat} {d : X3.D} (h : ds[i]? = some d) : (enumD ds)[i]? = some (.wtup [.int (i : Nat), d]) := by
  have hl := (List.getElem?_eq_some_iff.mp h).1
  unfold enumD
  rw [List.getElem?_zipWith, List.getElem?_range hl, h]
section
variable {K : PySem.W.Frag} {S : Res} {ρ : Rho} {tA : TA} {P : List X3.D → Prop}
theorem iter_enumT {G : Hp} {a : Addr} {xs : List V} {ds : List X3.D} (h : SqT K G a xs) (r : DatL K G xs ds) : IterOk K S (Itet K a) G (enumD ds) :=
  ⟨fun H => SqT K H a xs, fun i H v H' => ∃ T x, v = .ref T ∧ H T = none ∧ H' = upd H T (.tup [.int (i : Nat), x]) ∧ xs[i]? = some x,
    ⟨fun i H hi q => ⟨xs, xs[i]'(by rw [enumD_len, ← r.length] at hi; exact hi), q, by rw [enumD_len, ← r.length] at hi; simp [hi]⟩, fun H q => ⟨xs, q, by rw [enumD_len, r.length]; exact Nat.le_refl _⟩,
      fun i H x H' hi q y => by
        obtain ⟨T, x', e1, e2, e3, e4⟩ := y
        exact ⟨T, x', e1, e2, e3, e4 xs q⟩⟩,
    fun H le => le_t le h, fun i H v H' G1 hi le w y => by
      obtain ⟨T, x, rfl, hT, rfl, hx⟩ := y
      obtain ⟨d, e1, e2⟩ := r.getV hx
      exact ⟨_, _, enumD_get e1, .new w hT, .wtup (SqT.of upd_same) (.cons (.int _) (.cons ((e2.mono le).mono (Le.new (w.fresh hT))) .nil))⟩⟩
theorem wi_enumT (h : WA K S tA ρ fun vs => ∃ ds, vs = [.tup ds] ∧ P (enumD ds)) : WI K S (iEnumT K tA) ρ P := fun σ G H R w s c =>
  h σ G H _ w s fun vs ds G' H' st dt q => by
    obtain ⟨ds, rfl, q⟩ := q
    cases dt with
    | cons a r =>
      cases r
      cases a with
      | tup h1 r => exact ⟨_, _, rfl, le_t st.w.le h1.sq, c _ _ G' H' st (iter_enumT h1.sq r) q⟩
theorem iter_enumL {G : Hp} {a : Addr} {xs : List V} {ds : List X3.D} (h : G a = some (.lst xs)) (r : DatL K G xs ds) : IterOk K S (Ite K a) G (enumD ds) :=
  ⟨fun H => SqL K H a xs, fun i H v H' => ∃ T x, v = .ref T ∧ H T = none ∧ H' = upd H T (.tup [.int (i : Nat), x]) ∧ xs[i]? = some x,
    ⟨fun i H hi q => ⟨xs, xs[i]'(by rw [enumD_len, ← r.length] at hi; exact hi), q, by rw [enumD_len, ← r.length] at hi; simp [hi]⟩, fun H q => ⟨xs, q, by rw [enumD_len, r.length]; exact Nat.le_refl _⟩,
      fun i H x H' hi q y => by
        obtain ⟨T, x', e1, e2, e3, e4⟩ := y
        exact ⟨T, x', e1, e2, e3, e4 xs q⟩⟩,
    fun H le => SqL.of (le _ _ h), fun i H v H' G1 hi le w y => by
      obtain ⟨T, x, rfl, hT, rfl, hx⟩ := y
      obtain ⟨d, e1, e2⟩ := r.getV hx
      exact ⟨_, _, enumD_get e1, .new w hT, .wtup (SqT.of upd_same) (.cons (.int _) (.cons ((e2.mono le).mono (Le.new (w.fresh hT))) .nil))⟩⟩
theorem wi_enumL (h : WA K S tA ρ fun vs => ∃ ds, vs = [.list ds] ∧ P (enumD ds)) : WI K S (iEnum K tA) ρ P := fun σ G H R w s c =>
  h σ G H _ w s fun vs ds G' H' st dt q => by
    obtain ⟨ds, rfl, q⟩ := q
    cases dt with
    | cons a r =>
      cases r
      cases a with
      | list h1 r => exact ⟨_, _, rfl, SqL.of (st.w.le _ _ h1), c _ _ G' H' st (iter_enumL h1 r) q⟩
end
end X3

set_option Elab.async false
set_option linter.all false
set_option maxRecDepth 100000
set_option maxHeartbeats 4000000
/-! # X3: min and max of ints, dict of pairs, texts -/
namespace X3
theorem iteNT {A B : Prop} (h : B) : if (!true) = true then A else B := by
  rw [if_neg (by decide)]
  exact h
theorem iteNF {A B : Prop} (h : A) : if (!false) = true then A else B := by
  rw [if_pos (by decide)]
  exact h
theorem iteD {p A B : Prop} [Decidable p] (h : p) (a : A) : if decide p = true then A else B := by
  rw [if_pos (decide_eq_true h)]
  exact a
theorem iteDN {p A B : Prop} [Decidable p] (h : ¬ p) (b : B) : if decide p = true then A else B := by
  rw [if_neg (by rw [decide_eq_false h]; exact Bool.false_ne_true)]
  exact b
open PySem PySem.Spec PyProof.Rows L2
def rMinI (K : PySem.W.Frag) : List V → Hp → VK → Prop := fun vs H Q => ∃ (a : Addr) (ns : List Int), vs = [.ref a] ∧ SqL K H a (ns.map V.int) ∧ ns ≠ [] ∧ ∀ m ∈ ns, (∀ x ∈ ns, m ≤ x) → Q (.int m) H
def rMaxI (K : PySem.W.Frag) : List V → Hp → VK → Prop := fun vs H Q => ∃ (a : Addr) (ns : List Int), vs = [.ref a] ∧ SqL K H a (ns.map V.int) ∧ ns ≠ [] ∧ ∀ m ∈ ns, (∀ x ∈ ns, x ≤ m) → Q (.int m) H
/-- a list of ints as the library's -/
theorem ints_lib {its : List Value} {ns : List Int} (rv : Vals (ns.map V.int) its) : ∃ xs : Array (Int × Tok), its.toArray = intItems xs ∧ xs.size = ns.length ∧ ∀ j n, ns[j]? = some n → numAt xs j = n := by
  have all : AllInts its.toArray := fun v hv => by
    obtain ⟨j, hj, e⟩ := List.mem_iff_getElem.mp (show v ∈ its by simpa using hv)
    have hl := rv.length
    rw [List.length_map] at hl
    have hn : j < ns.length := by omega
    obtain ⟨u, hu, ru⟩ := rv.get (i := j) (x := .int ns[j]) (by simp [hn])
    rw [List.getElem?_eq_getElem hj, e] at hu
    cases hu
    obtain ⟨t, rfl⟩ := ru
    exact ⟨_, t, rfl⟩
  obtain ⟨xs, e⟩ := all.items
  have sz : xs.size = its.length := by
    have := congrArg Array.size e
    simpa [intItems] using this.symm
  have hl := rv.length
  rw [List.length_map] at hl
  refine ⟨xs, e, by omega, fun j n hj => ?_⟩
  obtain ⟨u, hu, ru⟩ := rv.get (i := j) (x := .int n) (by rw [List.getElem?_map, hj]; rfl)
  have hu' : (intItems xs)[j]? = some u := by rw [← e]; simpa using hu
  obtain ⟨t, rfl⟩ := intItems_at hu'
  obtain ⟨t', e'⟩ := ru
  cases e'
  rfl
theorem call_minI {X : Cx} (hc : X.calm = true) : CallR X (.builtin "min") (rMinI X.K) := by
  intro pins st σ H vs us Q I r h
  obtain ⟨a, ns, rfl, hs, ne, q⟩ := h
  obtain ⟨its, rv, hl, _⟩ := I.list hs
  rw [Vals.ref1 r]
  obtain ⟨xs, e, sz, at_⟩ := ints_lib rv
  have hl' : st.heap.IsList a (intItems xs) := e ▸ hl.isList
  have pos : 0 < ns.length := List.length_pos_iff.mpr ne
  refine min_intList (I.ok.hd hc) hl' (by omega) fun v h' tk hv hk => ?_
  obtain ⟨t, rfl⟩ := intItems_at hv
  obtain ⟨h1, h2⟩ := argBest_lt (numAt xs) (xs.size - 1)
  refine ⟨.int _, H, I.kept hk, ⟨t, rfl⟩, q _ ?_ fun x hx => ?_⟩
  · have hj : argBest (fun i j => decide (numAt xs i < numAt xs j)) (xs.size - 1) < ns.length := by omega
    rw [at_ _ _ (List.getElem?_eq_getElem hj)]
    exact List.getElem_mem hj
  · obtain ⟨j, hj, ej⟩ := List.mem_iff_getElem.mp hx
    have := h2 j (by omega)
    rw [at_ j x (by rw [List.getElem?_eq_getElem hj, ej])] at this
    exact this
theorem call_maxI {X : Cx} (hc : X.calm = true) : CallR X (.builtin "max") (rMaxI X.K) := by
  intro pins st σ H vs us Q I r h
  obtain ⟨a, ns, rfl, hs, ne, q⟩ := h
  obtain ⟨its, rv, hl, _⟩ := I.list hs
  rw [Vals.ref1 r]
  obtain ⟨xs, e, sz, at_⟩ := ints_lib rv
  have hl' : st.heap.IsList a (intItems xs) := e ▸ hl.isList
  have pos : 0 < ns.length := List.length_pos_iff.mpr ne
  refine max_intList (I.ok.hd hc) hl' (by omega) fun v h' tk hv hk => ?_
  obtain ⟨t, rfl⟩ := intItems_at hv
  obtain ⟨h1, h2⟩ := argBest_gt (numAt xs) (xs.size - 1)
  refine ⟨.int _, H, I.kept hk, ⟨t, rfl⟩, q _ ?_ fun x hx => ?_⟩
  · have hj : argBest (fun i j => decide (numAt xs i > numAt xs j)) (xs.size - 1) < ns.length := by omega
    rw [at_ _ _ (List.getElem?_eq_getElem hj)]
    exact List.getElem_mem hj
  · obtain ⟨j, hj, ej⟩ := List.mem_iff_getElem.mp hx
    have := h2 j (by omega)
    rw [at_ j x (by rw [List.getElem?_eq_getElem hj, ej])] at this
    exact this
def rDictP (K : PySem.W.Frag) : List V → Hp → VK → Prop := fun xs H Q => ∃ (a : Addr) (ps : List Addr) (kvs : List (Key × V)), xs = [.ref a] ∧ SqL K H a (ps.map V.ref) ∧ Paired (fun p kv => SqT K H p [kV kv.1, kv.2]) ps kvs ∧ ∀ p, H p = none → Q (.ref p) (upd H p (.dK (mergeK [] kvs)))
def mergeD (kvs more : List (Key × X3.D)) : List (Key × X3.D) := more.foldl (fun acc kv => putD acc kv.1 kv.2) kvs
section
variable {K : PySem.W.Frag} {S : Res} {ρ : Rho} {Q : X3.D → Prop}
theorem DatK.merge {G : Hp} : ∀ {more : List (Key × V)} {mored : List (Key × X3.D)} {xs : List (Key × V)} {ds : List (Key × X3.D)}, DatK K G more mored → DatK K G xs ds → DatK K G (mergeK xs more) (mergeD ds mored)
  | _, _, _, _, .nil => fun r => r
  | _, _, xs, ds, .cons (k := k) (v := v) (vs := vs) (d := d) (ds := es) h m => fun r => by
    have z : DatK K G (mergeK (putK xs k v) vs) (mergeD (putD ds k d) es) := DatK.merge m (r.put h)
    exact z
theorem wc_dictP {kvs : List (Key × X3.D)} (q : Q (.dict (mergeD [] kvs))) : WRC K S (rDictP K) [.list (kvs.map fun kv => .tup [kD kv.1, kv.2])] Q := fun G H vs k w dx c => by
  have un : ∀ {kvs : List (Key × X3.D)} {vs : List V}, DatL K G vs (kvs.map fun kv => .tup [kD kv.1, kv.2]) → ∃ (ps : List Addr) (ks : List (Key × V)), vs = ps.map V.ref ∧ Paired (fun p kv => SqT K H p [kV kv.1, kv.2]) ps ks ∧ DatK K G ks kvs := fun {kvs} => by
    induction kvs with
    | nil =>
      intro vs h
      cases h
      exact ⟨[], [], rfl, .nil, .nil⟩
    | cons kv kvs ih =>
      intro vs h
      cases h with
      | cons a r =>
        obtain ⟨ps, ks, e, p, dk⟩ := ih r
        cases a with
        | tup h1 r2 =>
          cases r2 with
          | cons a1 r3 =>
            cases r3 with
            | cons a2 r4 =>
              cases r4
              rename_i ad _ v2
              refine ⟨ad :: ps, (kv.1, v2) :: ks, by rw [e]; rfl, .cons ?_ p, .cons a2 dk⟩
              rw [← kD_v a1]
              exact le_t w.le h1.sq
  cases dx with
  | cons a r =>
    cases r
    cases a with
    | list h r =>
      obtain ⟨ps, ks, e, p, dk⟩ := un r
      subst e
      refine ⟨_, ps, ks, rfl, SqL.of (w.le _ _ h), p, fun pp hp => ?_⟩
      exact c _ _ _ _ (.new w hp) (.dict (.inl upd_same) (((DatK.merge dk .nil)).mono (Le.new (w.fresh hp)))) q
theorem wc_minI {ns : List Int} (ne : ns ≠ []) (q : ∀ m ∈ ns, (∀ x ∈ ns, m ≤ x) → Q (.int m)) : WRC K S (rMinI K) [.list (ns.map .int)] Q := fun G H vs k w dx c => by
  cases dx with
  | cons a r =>
    cases r
    cases a with
    | list h r =>
      have e := r.ints
      subst e
      exact ⟨_, ns, rfl, SqL.of (w.le _ _ h), ne, fun m hm hx => c _ _ G H (.refl w) (.int m) (q m hm hx)⟩
theorem wc_maxI {ns : List Int} (ne : ns ≠ []) (q : ∀ m ∈ ns, (∀ x ∈ ns, x ≤ m) → Q (.int m)) : WRC K S (rMaxI K) [.list (ns.map .int)] Q := fun G H vs k w dx c => by
  cases dx with
  | cons a r =>
    cases r
    cases a with
    | list h r =>
      have e := r.ints
      subst e
      exact ⟨_, ns, rfl, SqL.of (w.le _ _ h), ne, fun m hm hx => c _ _ G H (.refl w) (.int m) (q m hm hx)⟩
/-- a text's part -/
theorem we_slS {te : TE} {tl th : TO} (h : WE K S te ρ fun x => WO K S tl ρ fun lo => WO K S th ρ fun hi => ∃ z, x = .str z ∧ z.length ≤ 100000 ∧ Q (.str (cutS z lo hi))) : WE K S (tSl rSlS te tl th) ρ Q := fun σ G H k w s c =>
  h σ G H _ w s fun vx x G1 H1 s1 d1 h1 => h1 σ G1 H1 _ s1.w (s.mono s1.gg) fun lo G2 H2 s2 h2 => h2 σ G2 H2 _ s2.w (s.mono (s1.gg.trans s2.gg)) fun hi G3 H3 s3 q => by
    obtain ⟨z, rfl, hl, q⟩ := q
    cases d1
    exact ⟨z, rfl, Nat.le_trans hl (by decide), c _ _ G3 H3 ((s1.trans s2).trans s3) (.str _) q⟩
end
end X3

set_option Elab.async false
set_option linter.all false
set_option maxRecDepth 100000
set_option maxHeartbeats 4000000
/-! # X3: what a dict over data has -/
namespace X3
open PySem PySem.Spec PyProof.Rows L2
theorem getK_map (k j : Key) (y : X3.D) : ∀ kvs : List (Key × X3.D), getK (kvs.map fun kv => if kv.1 = k then (kv.1, y) else kv) j = (getK kvs j).map fun x => if j = k then y else x
  | [] => rfl
  | p :: kvs => by
    rw [List.map_cons, getK_cons, getK_cons, getK_map k j y kvs]
    by_cases e : p.1 = k
    · rw [if_pos e]
      by_cases e2 : p.1 = j
      · rw [if_pos e2, if_pos e2]
        simp [← e2, e]
      · rw [if_neg e2, if_neg e2]
    · rw [if_neg e]
      by_cases e2 : p.1 = j
      · rw [if_pos e2, if_pos e2]
        have : ¬ j = k := fun z => e (e2.trans z)
        simp [this]
      · rw [if_neg e2, if_neg e2]
theorem getK_snoc (k j : Key) (y : X3.D) : ∀ kvs : List (Key × X3.D), getK kvs k = none → getK (kvs ++ [(k, y)]) j = if j = k then some y else getK kvs j
  | [], _ => by
    rw [List.nil_append, getK_cons]
    by_cases e : k = j
    · rw [if_pos e, if_pos e.symm]
    · rw [if_neg e, if_neg (Ne.symm e)]
  | p :: kvs, h => by
    rw [getK_cons] at h
    by_cases e : p.1 = k
    · rw [if_pos e] at h
      cases h
    · rw [if_neg e] at h
      rw [List.cons_append, getK_cons, getK_cons, getK_snoc k j y kvs h]
      by_cases e2 : p.1 = j
      · rw [if_pos e2, if_pos e2]
        have : ¬ j = k := fun z => e (e2.trans z)
        rw [if_neg this]
      · rw [if_neg e2, if_neg e2]
theorem getK_put (kvs : List (Key × X3.D)) (k j : Key) (y : X3.D) : getK (putD kvs k y) j = if j = k then some y else getK kvs j := by
  unfold putD
  cases e : getK kvs k with
  | none =>
    rw [if_neg (by simp)]
    exact getK_snoc k j y kvs e
  | some z =>
    rw [if_pos (by simp), getK_map]
    by_cases x : j = k
    · rw [if_pos x, x, e]
      simp
    · simp [x]
theorem putD_len (kvs : List (Key × X3.D)) (k : Key) (y : X3.D) : (putD kvs k y).length ≤ kvs.length + 1 := by
  unfold putD
  split <;> simp
theorem putD_new {kvs : List (Key × X3.D)} {k : Key} (y : X3.D) (h : getK kvs k = none) : putD kvs k y = kvs ++ [(k, y)] := by
  unfold putD
  rw [h]
  rfl
/-- a dict by texts: the last pair of a key counts, the first one gives its place -/
theorem getK_pairs {kvs : List (Key × X3.D)} {k : Key} : (getK kvs k).isSome = true ↔ k ∈ kvs.map (·.1) := by
  induction kvs with
  | nil => simp [getK]
  | cons p kvs ih =>
    rw [getK_cons]
    by_cases e : p.1 = k
    · simp [e]
    · rw [if_neg e, ih]
      have e' : ¬ k = p.1 := fun z => e z.symm
      simp [e']
theorem getK_of_nodup : ∀ {kvs : List (Key × X3.D)} {k : Key} {v : X3.D}, (kvs.map (·.1)).Nodup → (k, v) ∈ kvs → getK kvs k = some v
  | [], _, _, _, h => by cases h
  | p :: kvs, k, v, nd, h => by
    rw [getK_cons]
    rw [List.map_cons, List.nodup_cons] at nd
    rcases List.mem_cons.mp h with rfl | h
    · rw [if_pos rfl]
    · have ne : ¬ p.1 = k := fun z => nd.1 (z ▸ List.mem_map_of_mem (f := (·.1)) h)
      rw [if_neg ne]
      exact getK_of_nodup nd.2 h
theorem mergeD_nodup : ∀ {more acc : List (Key × X3.D)}, ((acc ++ more).map (·.1)).Nodup → mergeD acc more = acc ++ more
  | [], acc, _ => by simp [mergeD]
  | p :: more, acc, nd => by
    have no : getK acc p.1 = none := by
      cases e : getK acc p.1 with
      | none => rfl
      | some v =>
        have h1 : p.1 ∈ acc.map (·.1) := getK_pairs.mp (by rw [e]; rfl)
        rw [List.map_append, List.map_cons] at nd
        exact absurd h1 (fun z => (List.nodup_append.mp nd).2.2 _ z _ (List.mem_cons_self ..) rfl)
    have e : mergeD acc (p :: more) = mergeD (putD acc p.1 p.2) more := rfl
    rw [e, putD_new _ no, mergeD_nodup (by rw [List.append_assoc]; exact nd), List.append_assoc]
    rfl
/-- the truth of a value as a test -/
def tTru (K : PySem.W.Frag) (te : TE) : TT := fun σ H Q => te σ H fun x H' => ∃ k, TruV K x H' k ∧ Q k H'
theorem wt_tru {K : PySem.W.Frag} {S : Res} {ρ : Rho} {te : TE} {P : Bool → Prop} (h : WE K S te ρ fun d => ∃ b, TruD d b ∧ P b) : WT K S (tTru K te) ρ P := wt_truth h
/-- a prefix of what is enumerated -/
theorem enum_split {ds pre post : List X3.D} {d : X3.D} (h : enumD ds = pre ++ d :: post) : ∃ y, ds[pre.length]? = some y ∧ d = .wtup [.int (pre.length : Nat), y] := by
  have hl : pre.length < ds.length := by
    have := congrArg List.length h
    rw [enumD_len] at this
    simp at this
    omega
  have e1 : (enumD ds)[pre.length]? = some d := by rw [h]; simp
  have e2 := List.getElem?_eq_getElem hl
  rw [enumD_get e2] at e1
  exact ⟨_, e2, (Option.some.inj e1).symm⟩
/-- name = {k: v for ..} on one line, the name a local -/
theorem ps_setDc {X : Cx} {i : Nat} {y : Str} {py : Pos} {kx vx tg iter : Expr} {ifs : List Expr} {scope : Scope} {own : List (Str × Nat)} {pos spos : Pos} {wi : TI} {g : TG} {tt : TT} {tk tv : TE} (hc : X.calm = true) (nd : X.N.Nodup) (hy : X.N[i]? = some y) (loc : X.env.scope.names.lookup y = some .local)
    (sw : swapsWith (.DictComp kx vx [⟨tg, iter, ifs, 0⟩] scope pos) (some (.Name y py)) spos.line X.env = pure true) (hi : PI X tg iter wi) (ok : BlkOk X.N X.env.scope scope own)
    (hg : ∀ (s : Shared) (H : Hp) (C : Addr) (cl : List (Str × Addr)) (fp : List Addr), PG (X.blk s H scope (compEnvC scope cl C X.env) fp) tg g) (ht : ∀ (s : Shared) (H : Hp) (C : Addr) (cl : List (Str × Addr)) (fp : List Addr), PTs (X.blk s H scope (compEnvC scope cl C X.env) fp) ifs tt)
    (hk : ∀ (s : Shared) (H : Hp) (C : Addr) (cl : List (Str × Addr)) (fp : List Addr), PE (X.blk s H scope (compEnvC scope cl C X.env) fp) kx tk) (hv : ∀ (s : Shared) (H : Hp) (C : Addr) (cl : List (Str × Addr)) (fp : List Addr), PE (X.blk s H scope (compEnvC scope cl C X.env) fp) vx tv)
    (fold : ∀ x, foldedSetIterable iter X.env x = pure x := by intro _; rfl) : PS X (.Assign [.Name y py] (.DictComp kx vx [⟨tg, iter, ifs, 0⟩] scope pos) spos) (tAsg (tDc wi g tt tk tv (own.map (·.2))) (gName i)) where
  run pins s σ H D I h := by
    rw [exec_Assign_Name_used _ _ _ _ sw]
    refine wpAny_bind (wpAny_standAt (wpAny_bind ?_))
    show wpAny _ X.A (do let _ ← comprehension (.DictComp kx vx [⟨tg, iter, ifs, 0⟩] scope pos) scope X.env (firstIterPos [⟨tg, iter, ifs, 0⟩] pos) newDict false (eval iter X.env) (some (assign (.Name y py) X.env))) _ _ s
    have want : tDc wi g tt tk tv (own.map (·.2)) σ H (fun x H1 => gName i x σ H1 D.nx) := h
    refine wpAny_bind (thn (dc_core (Qf := fun _ s' => SP X pins D .next s') hc nd I hi ok hg ht hk hv fold want fun L C s1 m H1 I1 q ns far => ?_) fun _ _ z => wpAny_pure (wpAny_pure z))
    obtain ⟨g0, g1, g2, g3, g4, g5⟩ := far
    show wpAny _ _ (assign (.Name y py) X.env (.ref L)) _ _ _
    refine wpAny_assign_Name (store_ok2 (v := V.ref L) I1 nd hy (.inl loc) rfl (fun s2 I2 ⟨a, sb, ha⟩ => ?_) (.inr loc))
    have apart : C ≠ a := by
      cases ha with
      | inl z => exact z ▸ g1
      | inr z => exact fun e => g4 y a z e.symm
    exact ⟨m, ns.sameBut sb apart, fun h3 sb3 => ⟨_, H1, I2.turned (t' := s2.toks) (fun b o hb e => (sb3.2 b hb).trans e) g0 g1 g3 g4 g5, q⟩⟩
end X3

set_option Elab.async false
set_option linter.all false
set_option maxRecDepth 100000
set_option maxHeartbeats 4000000
namespace X3
open PySem L2
/-! ### either of two readings of a walk -/
def iOr (a b : TI) : TI := fun σ H R => a σ H R ∨ b σ H R
theorem pi_or {X : Cx} {tg e : Expr} {a b : TI} (ha : PI X tg e a) (hb : PI X tg e b) : PI X tg e (iOr a b) := ⟨fun pins s σ H R I h => h.elim (ha.run pins s σ H R I) (hb.run pins s σ H R I)⟩
theorem split_map {α β : Type} {xs : List α} {e : α → β} {pre post : List β} {d : β} (h : xs.map e = pre ++ d :: post) : ∃ ys x zs, xs = ys ++ x :: zs ∧ pre = ys.map e ∧ d = e x := by
  obtain ⟨ys, zs, h1, h2, h3⟩ := List.map_eq_append_iff.mp h
  obtain ⟨x, zs', h4, h5, h6⟩ := List.map_eq_cons_iff.mp h3
  exact ⟨ys, x, zs', by rw [h1, h4], h2.symm, h5.symm⟩
section
variable {K : PySem.W.Frag} {S : Res} {ρ : Rho} {P : List X3.D → Prop} {Q : X3.D → Prop} {N : EndsD} {μ : Mu}
theorem wi_or1 {a b : TI} (h : WI K S a ρ P) : WI K S (iOr a b) ρ P := fun σ G H R w s c => .inl (h σ G H R w s c)
theorem wi_or2 {a b : TI} (h : WI K S b ρ P) : WI K S (iOr a b) ρ P := fun σ G H R w s c => .inr (h σ G H R w s c)
theorem wi_imp {wi : TI} {P' : List X3.D → Prop} (h : WI K S wi ρ P') (i : ∀ ds, P' ds → P ds) : WI K S wi ρ P := fun σ G H R w s c => h σ G H R w s fun J ds G' H' st it q => c J ds G' H' st it (i ds q)
theorem WG.imp {is : List Nat} {g : TG} {d : X3.D} {P P' : Rho → Prop} (h : WG K is g d ρ P) (i : ∀ ρ', P ρ' → P' ρ') : WG K is g d ρ P' := fun σ G H v k le sl dt c => h σ G H v k le sl dt fun σ' ρ' t q => c σ' ρ' t (i ρ' q)
theorem take_snoc {α β : Type} {e : α → β} {ys zs : List α} {x : α} : (ys ++ x :: zs).take (ys.map e ++ [e x]).length = ys ++ [x] := by
  have h : (ys.map e ++ [e x]).length = (ys ++ [x]).length := by simp
  rw [h, show ys ++ x :: zs = (ys ++ [x]) ++ zs by simp, List.take_left]
/-- [te for g in wi if tt] over things of one kind -/
theorem we_map {α : Type} {wi : TI} {g : TG} {tt : TT} {te : TE} {vs is : List Nat} (xs : List α) (e f : α → X3.D) (p : α → Bool) (hv : ∀ i ∈ is, i ∈ vs)
    (h : WI K S wi ρ fun ds => ds = xs.map e ∧ xs.length ≤ 100000 ∧ (∀ x ∈ xs, WG K is g (e x) (wipeR ρ vs) fun ρ2 => WT K S tt ρ2 fun b => b = p x ∧ (p x = true → WE K S te ρ2 fun y => y = f x)) ∧ Q (.list ((xs.filter p).map f))) :
    WE K S (tLc wi g tt te vs) ρ Q := by
  refine we_lc (is := is) (fun pre out => out = ((xs.take pre.length).filter p).map f) hv (wi_imp h ?_)
  rintro ds ⟨rfl, hl, ht, hq⟩
  refine ⟨rfl, ?_, ?_⟩
  · rintro pre d post out hd rfl
    obtain ⟨ys, x, zs, rfl, rfl, rfl⟩ := split_map hd
    refine (ht x (by simp)).imp fun ρ2 h2 => h2.imp fun b hb => ?_
    have e1 : (ys ++ x :: zs).take (ys.map e).length = ys := by simp
    have e2 := take_snoc (e := e) (ys := ys) (zs := zs) (x := x)
    obtain ⟨rfl, hb⟩ := hb
    rw [e1, e2, List.filter_append, List.map_append]
    cases hp : p x with
    | true =>
      rw [if_pos rfl]
      refine (hb hp).imp fun y hy => ⟨?_, ?_⟩
      · rw [List.length_map]
        refine Nat.lt_of_le_of_lt (List.length_filter_le _ _) ?_
        simp at hl
        omega
      · subst hy
        simp [hp]
    | false =>
      rw [if_neg Bool.false_ne_true]
      simp [hp]
  · rintro out rfl
    rw [List.length_map, List.take_length]
    exact hq
/-- .. with no test -/
theorem we_mapY {α : Type} {wi : TI} {g : TG} {te : TE} {vs is : List Nat} (xs : List α) (e f : α → X3.D) (hv : ∀ i ∈ is, i ∈ vs)
    (h : WI K S wi ρ fun ds => ds = xs.map e ∧ xs.length ≤ 100000 ∧ (∀ x ∈ xs, WG K is g (e x) (wipeR ρ vs) fun ρ2 => WE K S te ρ2 fun y => y = f x) ∧ Q (.list (xs.map f))) :
    WE K S (tLc wi g tYes te vs) ρ Q := by
  refine we_map xs e f (fun _ => true) hv (wi_imp h ?_)
  rintro ds ⟨rfl, hl, ht, hq⟩
  refine ⟨rfl, hl, fun x hx => ?_, ?_⟩
  · exact (ht x hx).imp fun ρ2 h2 => wt_yes ⟨rfl, fun _ => h2⟩
  · rw [List.filter_eq_self.mpr fun _ _ => rfl]
    exact hq
/-- .. of things that are drawn -/
theorem we_draw {α : Type} {wi : TI} {g : TG} {te : TE} {vs is : List Nat} (xs : List α) (e : α → X3.D) (R : List X3.D → Prop) (hv : ∀ i ∈ is, i ∈ vs)
    (h : WI K S wi ρ fun ds => ds = xs.map e ∧ xs.length ≤ 100000 ∧ R [] ∧ (∀ x ∈ xs, ∀ out, R out → WG K is g (e x) (wipeR ρ vs) fun ρ2 => WE K S te ρ2 fun y => R (out ++ [y])) ∧ ∀ out, out.length = xs.length → R out → Q (.list out)) :
    WE K S (tLc wi g tYes te vs) ρ Q := by
  refine we_lc (is := is) (fun pre out => out.length = pre.length ∧ R out) hv (wi_imp h ?_)
  rintro ds ⟨rfl, hl, h0, ht, hq⟩
  refine ⟨⟨rfl, h0⟩, ?_, ?_⟩
  · rintro pre d post out hd ⟨hlen, hr⟩
    obtain ⟨ys, x, zs, rfl, rfl, rfl⟩ := split_map hd
    refine (ht x (by simp) out hr).imp fun ρ2 h2 => wt_yes ?_
    rw [if_pos rfl]
    refine h2.imp fun y hy => ⟨?_, ?_, hy⟩
    · simp at hl hlen
      omega
    · simp at hlen ⊢
      omega
  · rintro out ⟨hlen, hr⟩
    exact hq out (by simpa using hlen) hr
/-- a for over things of one kind, told by what has been walked -/
theorem ws_forT {α : Type} {wi : TI} {g : TG} {tb : TS} {is : List Nat} (xs : List α) (e : α → X3.D) (I : List α → Rho → Mu → Prop)
    (h : WI K S wi ρ fun ds => ds = xs.map e ∧ I [] ρ μ ∧ (∀ ys x zs ρ' μ', xs = ys ++ x :: zs → I ys ρ' μ' → WG K is g (e x) ρ' fun ρ2 => WS K S tb ρ2 μ' { N with nx := I (ys ++ [x]), ct := I (ys ++ [x]), bk := N.nx }) ∧ ∀ ρ' μ', I xs ρ' μ' → N.nx ρ' μ') :
    WS K S (tFor wi g tb) ρ μ N := by
  refine ws_for (is := is) (fun pre ρ' μ' => I (xs.take pre.length) ρ' μ') (wi_imp h ?_)
  rintro ds ⟨rfl, h0, ht, hq⟩
  refine ⟨h0, ?_, ?_⟩
  · rintro pre d post ρ' μ' hd iv
    obtain ⟨ys, x, zs, rfl, rfl, rfl⟩ := split_map hd
    have e1 : (ys ++ x :: zs).take (ys.map e).length = ys := by simp
    have e2 := take_snoc (e := e) (ys := ys) (zs := zs) (x := x)
    rw [e1] at iv
    rw [e2]
    exact ht ys x zs ρ' μ' rfl iv
  · intro ρ' μ' iv
    rw [List.length_map, List.take_length] at iv
    exact hq ρ' μ' iv
/-! ### a, b = x, y -/
theorem ws_par {i j : Nat} {ta : TA} (h : WA K S ta ρ fun ds => ∃ x y, ds = [x, y] ∧ N.nx ((ρ.set i (.dat x)).set j (.dat y)) μ) : WS K S (tPar i j ta) ρ μ N := fun G0 H0 σ H E w0 r f => by
  obtain ⟨G, as, r⟩ := r
  refine h σ G H _ r.st.w r.sl fun vs ds G' H' s dt q => ?_
  obtain ⟨x, y, rfl, q⟩ := q
  cases dt with
  | cons d1 dt =>
    cases dt with
    | cons d2 dt =>
      cases dt
      exact ⟨_, _, rfl, f.nx _ _ _ _ ⟨G', as, ((r.step w0 s).set d1).set d2⟩ q⟩
theorem ws_par3 {i j l : Nat} {ta : TA} (h : WA K S ta ρ fun ds => ∃ x y z, ds = [x, y, z] ∧ N.nx (((ρ.set i (.dat x)).set j (.dat y)).set l (.dat z)) μ) : WS K S (tPar3 i j l ta) ρ μ N := fun G0 H0 σ H E w0 r f => by
  obtain ⟨G, as, r⟩ := r
  refine h σ G H _ r.st.w r.sl fun vs ds G' H' s dt q => ?_
  obtain ⟨x, y, z, rfl, q⟩ := q
  cases dt with
  | cons d1 dt =>
    cases dt with
    | cons d2 dt =>
      cases dt with
      | cons d3 dt =>
        cases dt
        exact ⟨_, _, _, rfl, f.nx _ _ _ _ ⟨G', as, (((r.step w0 s).set d1).set d2).set d3⟩ q⟩
/-- a, b = [], y -/
theorem ws_parN {i j : Nat} {te : TE} (hi : i < ρ.length) (h : WE K S te ρ fun d => N.nx ((ρ.set i (.own μ.length)).set j (.dat d)) (μ ++ [.lst []])) : WS K S (tPar i j (tCons (tLst tNil) (tCons te tNil))) ρ μ N := fun G0 H0 σ H E w0 r f => by
  obtain ⟨G, as, r⟩ := r
  refine ⟨Nat.zero_le _, fun p hp => ?_⟩
  have s0 : Stp S G H G (upd H p (.lst [])) := .junk r.st.w (Le.new hp)
  have r0 := r.step w0 s0
  refine h σ G _ _ s0.w r0.sl fun vy y G1 H1 s1 d1 q => ⟨_, _, rfl, ?_⟩
  obtain ⟨n1, n2, n3, n4⟩ := r.newp hp
  have g1 := s1.keepNone n4 (by rw [upd_same]; exact Option.some_ne_none _)
  have h1 : H1 p = some (.lst []) := s1.hh p _ n3 upd_same
  have r1 := r0.step w0 s1
  have e1 : upd H1 p (.lst []) = H1 := by
    funext a
    by_cases z : a = p
    · rw [z, upd_same, h1]
    · rw [upd_ne z]
  have r2 := r1.adopt (m := .lst []) hi n1 n2 n3 g1 ⟨g1, _, upd_same, .nil⟩
  rw [e1] at r2
  exact f.nx _ _ _ _ ⟨G1, _, r2.set d1⟩ q
/-- a, b, c = x, [], z -/
theorem ws_par3N {i j l : Nat} {ta te : TE} (hij : i ≠ j) (hj : j < ρ.length) (h : WE K S ta ρ fun x => WE K S te ρ fun d => N.nx (((ρ.set j (.own μ.length)).set i (.dat x)).set l (.dat d)) (μ ++ [.lst []])) : WS K S (tPar3 i j l (tCons ta (tCons (tLst tNil) (tCons te tNil)))) ρ μ N := fun G0 H0 σ H E w0 r f => by
  obtain ⟨G, as, r⟩ := r
  refine h σ G H _ r.st.w r.sl fun vx x G' H' s dx h2 => ⟨Nat.zero_le _, fun p hp => ?_⟩
  have ra := r.step w0 s
  have s0 : Stp S G' H' G' (upd H' p (.lst [])) := .junk ra.st.w (Le.new hp)
  have r0 := ra.step w0 s0
  refine h2 σ G' _ _ s0.w r0.sl fun vy y G1 H1 s1 d1 q => ⟨_, _, _, rfl, ?_⟩
  obtain ⟨n1, n2, n3, n4⟩ := ra.newp hp
  have g1 := s1.keepNone n4 (by rw [upd_same]; exact Option.some_ne_none _)
  have h1 : H1 p = some (.lst []) := s1.hh p _ n3 upd_same
  have r1 := r0.step w0 s1
  have e1 : upd H1 p (.lst []) = H1 := by
    funext a
    by_cases z : a = p
    · rw [z, upd_same, h1]
    · rw [upd_ne z]
  have r2 := r1.adopt (m := .lst []) hj n1 n2 n3 g1 ⟨g1, _, upd_same, .nil⟩
  rw [e1] at r2
  have r3 := (r2.set (i := i) (dx.mono s1.gg)).set (i := l) d1
  rw [List.set_comm _ _ hij]
  exact f.nx _ _ _ _ ⟨G1, _, r3⟩ q
/-! ### d[k], d[l] = x, y of one's own dict -/
abbrev gKey (i : Nat) (k : Str) : TG := gSub (tVar i) (tC (.str k)) rSetD
theorem ws_put2 {i j : Nat} {k l : Str} {te : TE} {kvs : List (Key × X3.D)} (hi : ρ[i]? = some (.own j)) (hj : μ[j]? = some (.dict kvs)) (hz : kvs.length + 1 < 100000) (h : WE K S te ρ fun d => ∃ x y, d = .tup [x, y] ∧ N.nx ρ (μ.set j (.dict (putD (putD kvs (.inr k) x) (.inr l) y)))) :
    WS K S (tAsg te (gTup K 2 (gCons (gKey i k) (gCons (gKey i l) gNil)))) ρ μ N := fun G0 H0 σ H E w0 r f => by
  obtain ⟨G, as, r⟩ := r
  obtain ⟨a, ha, hs⟩ := r.own i j hi
  refine h σ G H _ r.st.w r.sl fun v d G1 H1 s1 d1 q => ?_
  obtain ⟨x, y, rfl, q⟩ := q
  have r1 := r.step w0 s1
  obtain ⟨_, _, hg, xs, hx, dx⟩ := r1.cell j a _ ha hj
  cases d1 with
  | tup hq dl =>
    cases dl with
    | cons dx1 dl =>
      cases dl with
      | cons dy1 dl =>
        cases dl
        refine ⟨_, _, rfl, le_t s1.w.le hq.sq, rfl, ?_⟩
        refine ⟨_, _, rfl, _, hs, a, _, rfl, .inl ⟨xs, .inr k, hx, rfl, by rw [dx.length]; exact Nat.lt_of_lt_of_le (Nat.lt_of_succ_lt hz) (by decide), rfl⟩, ?_⟩
        have r2 := r1.put (m := .dict (putD kvs (.inr k) x)) w0 ha hj hg ⟨hg, _, upd_same, dx.put dx1⟩
        have hl : ∀ vv, Dat K G1 vv x → (putK xs (.inr k) vv).length ≤ kvs.length + 1 := fun vv dv => by
          rw [(DatK.put (k := .inr k) dv dx).length]
          exact putD_len _ _ _
        refine ⟨_, _, rfl, _, hs, a, _, rfl, .inl ⟨_, .inr l, upd_same, rfl, Nat.lt_of_le_of_lt (hl _ dx1) (Nat.lt_of_lt_of_le hz (by decide)), rfl⟩, ?_⟩
        have hj2 : (μ.set j (.dict (putD kvs (.inr k) x)))[j]? = some (.dict (putD kvs (.inr k) x)) := List.getElem?_set_self (List.getElem?_eq_some_iff.mp hj).1
        have r3 := r2.put (m := .dict (putD (putD kvs (.inr k) x) (.inr l) y)) w0 ha hj2 hg ⟨hg, _, upd_same, (dx.put dx1).put dy1⟩
        rw [List.set_set] at r3
        exact ⟨rfl, f.nx _ _ _ _ ⟨G1, as, r3⟩ q⟩
/-! ### a new list handed back -/
def spF (K : PySem.W.Frag) (P : Res → List X3.D → (List X3.D → Prop) → Prop) : Sp := fun vs H Q _ => ∃ (S : Res) (G : Hp) (ds : List X3.D) (q : List X3.D → Prop), Wld S G H ∧ DatL K G vs ds ∧ P S ds q ∧
  ∀ a xs es G' H', Stp S G H G' H' → G' a = none → H a = none → H' a = some (.lst xs) → DatL K G' xs es → q es → Q (.ref a) H'
/-- one new object frozen -/
theorem Stp.gel {S : Res} {G H G' H' : Hp} {a : Addr} {o : HO} (s : Stp S G H G' H') (ga : G' a = none) (ha : H a = none) (h : H' a = Option.some o) (nf : ¬ S.fp a) : Stp S G H (upd G' a o) H' := by
  refine ⟨s.gg.trans (Le.new ga), s.hh, fun b u e => ?_, ⟨fun b u e => ?_, s.w.src, fun b fb => ?_⟩⟩
  · by_cases z : b = a
    · exact .inr (by rw [z]; exact ha)
    · rw [upd_ne z] at e
      exact s.nw b u e
  · by_cases z : b = a
    · subst z
      rw [upd_same] at e
      rw [h, ← e]
    · rw [upd_ne z] at e
      exact s.w.le b u e
  · rw [upd_ne (fun z : b = a => nf (by rw [← z]; exact fb))]
    exact s.w.sep b fb
theorem we_callF {P : Res → List X3.D → (List X3.D → Prop) → Prop} {tA : TA} {E : XK} (h : WA K S tA ρ fun ds => P S ds fun es => Q (.list es)) : WE K S (tCall (spF K P) [] E tA) ρ Q := fun σ G H k w sl c =>
  h σ G H _ w sl fun vs ds G' H' s dt q => ⟨S, G', ds, _, s.w, by rw [List.append_nil]; exact dt, q, fun a xs es G2 H2 s2 ga ha hx dx q2 =>
    c _ _ (upd G2 a (.lst xs)) H2 (s.trans (s2.gel ga ha hx (s.w.nfp ha))) (.list upd_same (dx.mono (Le.new ga))) q2⟩
theorem upd_id {H : Hp} {a : Addr} {o : HO} (h : H a = some o) : upd H a o = H := by
  funext b
  by_cases z : b = a
  · rw [z, upd_same, h]
  · rw [upd_ne z]
theorem ws_asgF {P : Res → List X3.D → (List X3.D → Prop) → Prop} {tA : TA} {E : XK} {i : Nat} (hi : i < ρ.length) (h : WA K S tA ρ fun ds => P S ds fun es => N.nx (ρ.set i (.own μ.length)) (μ ++ [.lst es])) : WS K S (tAsg (tCall (spF K P) [] E tA) (gName i)) ρ μ N := fun G0 H0 σ H EE w0 r f => by
  obtain ⟨G, as, r⟩ := r
  refine h σ G H _ r.st.w r.sl fun vs ds G' H' s dt q => ⟨S, G', ds, _, s.w, by rw [List.append_nil]; exact dt, q, fun a xs es G2 H2 s2 ga ha hx dx q2 => ?_⟩
  have r1 := r.step w0 s
  obtain ⟨n1, n2, n3, n4⟩ := r1.newp ha
  have r2 := (r1.step w0 s2).adopt (m := .lst es) (o := .lst xs) hi n1 n2 n3 ga ⟨ga, _, upd_same, dx⟩
  rw [upd_id hx] at r2
  exact f.nx _ _ _ _ ⟨G2, _, r2⟩ q2
/-- the body of a def that hands back a list of its own -/
theorem body_ofF {t u : TS} {NN : List Str} {vs : List V} {ds : List X3.D} {G H : Hp} {Qv : VK} {q : List X3.D → Prop} {i : Nat} (w : Wld S G H) (r : DatL K G vs ds)
    (c : ∀ a xs es G' H', Stp S G H G' H' → G' a = none → H a = none → H' a = some (.lst xs) → DatL K G' xs es → q es → Qv (.ref a) H')
    (h : WS K S (tSeq t u) (startR NN ds) [] { nx := fun ρ μ => ∃ j es, ρ[i]? = some (.own j) ∧ μ[j]? = some (.lst es) ∧ q es, rt := fun _ => False, bk := fun _ _ => False, ct := fun _ _ => False }) :
    tSeq t (tSeq u (tRet (tVar i))) { nx := fun _ H' => Qv .non H', rt := Qv } (L2.start NN vs) H := by
  show tSeq t u { nx := fun σ H => tRet (tVar i) { nx := fun _ H' => Qv .non H', rt := Qv } σ H, rt := Qv } (L2.start NN vs) H
  refine h G H _ H _ w.src ⟨G, [], .refl w, slots_start r, rfl, List.nodup_nil, fun i j e => ?_, fun j a m e1 _ => by simp at e1⟩ ⟨?_, fun _ _ _ _ _ _ z => z.elim, fun _ _ _ _ _ z => z.elim, fun _ _ _ _ _ z => z.elim⟩
  · unfold startR at e
    have z := List.mem_of_getElem? e
    rcases List.mem_append.mp z with z | z
    · obtain ⟨d, _, z⟩ := List.mem_map.mp z
      cases z
    · have z' := List.eq_of_mem_replicate z
      cases z'
  · rintro σ1 H1 ρ1 μ1 ⟨G1, as, r1⟩ ⟨j, es, hi, hj, hq⟩
    obtain ⟨a, ha, hs⟩ := r1.own i j hi
    obtain ⟨h0, _, hg, xs, hx, dx⟩ := r1.cell j a _ ha hj
    exact ⟨_, hs, c a xs es G1 H1 r1.st hg h0 hx dx hq⟩
end
end X3

set_option Elab.async false
set_option linter.all false
set_option maxRecDepth 100000
set_option maxHeartbeats 4000000
namespace X3
open PySem L2
section
variable {K : PySem.W.Frag} {S : Res} {ρ : Rho} {P : List X3.D → Prop} {Q : X3.D → Prop} {N : EndsD} {μ : Mu}
theorem range_split {n : Nat} {ys zs : List Nat} {x : Nat} (h : List.range n = ys ++ x :: zs) : x = ys.length ∧ ys.length < n := by
  have hl := congrArg List.length h
  simp at hl
  have h1 : (List.range n)[ys.length]? = some x := by rw [h]; simp
  rw [List.getElem?_range (by omega)] at h1
  exact ⟨(Option.some.inj h1).symm, by omega⟩
/-- for i in range(n) -/
theorem ws_rng {wi : TI} {g : TG} {tb : TS} {is : List Nat} (n : Nat) (I : Nat → Rho → Mu → Prop)
    (h : WI K S wi ρ fun ds => ds = rng 0 n ∧ I 0 ρ μ ∧ (∀ i ρ' μ', i < n → I i ρ' μ' → WG K is g (.int (i : Nat)) ρ' fun ρ2 => WS K S tb ρ2 μ' { N with nx := I (i + 1), ct := I (i + 1), bk := N.nx }) ∧ ∀ ρ' μ', I n ρ' μ' → N.nx ρ' μ') :
    WS K S (tFor wi g tb) ρ μ N := by
  refine ws_forT (is := is) (List.range n) (fun i => .int (0 + (i : Nat))) (fun ys => I ys.length) (wi_imp h ?_)
  rintro ds ⟨rfl, h0, ht, hq⟩
  refine ⟨rfl, h0, ?_, ?_⟩
  · rintro ys x zs ρ' μ' hs iv
    obtain ⟨rfl, hlt⟩ := range_split hs
    rw [Int.zero_add, List.length_append, List.length_singleton]
    exact ht _ ρ' μ' hlt iv
  · intro ρ' μ' iv
    rw [List.length_range] at iv
    exact hq ρ' μ' iv
/-- a for over things of one kind, known when the walk begins -/
theorem ws_forM {α : Type} {wi : TI} {g : TG} {tb : TS} {is : List Nat} (e : α → X3.D) (I : Nat → Rho → Mu → Prop)
    (h : WI K S wi ρ fun ds => ∃ xs : List α, ds = xs.map e ∧ I 0 ρ μ ∧ (∀ (i : Nat) x ρ' μ', xs[i]? = some x → I i ρ' μ' → WG K is g (e x) ρ' fun ρ2 => WS K S tb ρ2 μ' { N with nx := I (i + 1), ct := I (i + 1), bk := N.nx }) ∧ ∀ ρ' μ', I xs.length ρ' μ' → N.nx ρ' μ') :
    WS K S (tFor wi g tb) ρ μ N := by
  refine ws_for (is := is) (fun pre => I pre.length) (wi_imp h ?_)
  rintro ds ⟨xs, rfl, h0, ht, hq⟩
  refine ⟨h0, ?_, ?_⟩
  · rintro pre d post ρ' μ' hd iv
    obtain ⟨ys, x, zs, rfl, rfl, rfl⟩ := split_map hd
    rw [List.length_map] at iv
    rw [List.length_append, List.length_map, List.length_singleton]
    exact ht ys.length x ρ' μ' (by simp) iv
  · intro ρ' μ' iv
    rw [List.length_map] at iv
    exact hq ρ' μ' iv
/-- [te for i in range(n)] of things that are drawn -/
theorem we_rngD {wi : TI} {g : TG} {te : TE} {vs is : List Nat} (n : Nat) (R : Nat → List X3.D → Prop) (hv : ∀ i ∈ is, i ∈ vs)
    (h : WI K S wi ρ fun ds => ds = rng 0 n ∧ n ≤ 100000 ∧ R 0 [] ∧ (∀ i out, i < n → out.length = i → R i out → WG K is g (.int (i : Nat)) (wipeR ρ vs) fun ρ2 => WE K S te ρ2 fun y => R (i + 1) (out ++ [y])) ∧ ∀ out, out.length = n → R n out → Q (.list out)) :
    WE K S (tLc wi g tYes te vs) ρ Q := by
  refine we_lc (is := is) (fun pre out => out.length = pre.length ∧ R pre.length out) hv (wi_imp h ?_)
  rintro ds ⟨rfl, hl, h0, ht, hq⟩
  refine ⟨⟨rfl, h0⟩, ?_, ?_⟩
  · rintro pre d post out hd ⟨hlen, hr⟩
    obtain ⟨hlt, rfl, _, _⟩ := rng_split hd
    rw [Int.zero_add]
    refine (ht pre.length out hlt hlen hr).imp fun ρ2 h2 => wt_yes ?_
    rw [if_pos rfl]
    refine h2.imp fun y hy => ⟨by omega, by simp [hlen], ?_⟩
    rw [List.length_append, List.length_singleton]
    exact hy
  · rintro out ⟨hlen, hr⟩
    rw [rng_len] at hlen hr
    exact hq out hlen hr
/-- [te for g in wi] of things that are drawn, told by what has been walked -/
theorem we_drawL {α : Type} {wi : TI} {g : TG} {te : TE} {vs is : List Nat} (xs : List α) (e : α → X3.D) (R : List α → List X3.D → Prop) (hv : ∀ i ∈ is, i ∈ vs)
    (h : WI K S wi ρ fun ds => ds = xs.map e ∧ xs.length ≤ 100000 ∧ R [] [] ∧ (∀ ys x zs out, xs = ys ++ x :: zs → out.length = ys.length → R ys out → WG K is g (e x) (wipeR ρ vs) fun ρ2 => WE K S te ρ2 fun y => R (ys ++ [x]) (out ++ [y])) ∧ ∀ out, out.length = xs.length → R xs out → Q (.list out)) :
    WE K S (tLc wi g tYes te vs) ρ Q := by
  refine we_lc (is := is) (fun pre out => out.length = pre.length ∧ R (xs.take pre.length) out) hv (wi_imp h ?_)
  rintro ds ⟨rfl, hl, h0, ht, hq⟩
  refine ⟨⟨rfl, h0⟩, ?_, ?_⟩
  · rintro pre d post out hd ⟨hlen, hr⟩
    obtain ⟨ys, x, zs, rfl, rfl, rfl⟩ := split_map hd
    have e1 : (ys ++ x :: zs).take (ys.map e).length = ys := by simp
    have e2 := take_snoc (e := e) (ys := ys) (zs := zs) (x := x)
    rw [e1] at hr
    rw [List.length_map] at hlen
    refine (ht ys x zs out rfl hlen hr).imp fun ρ2 h2 => wt_yes ?_
    rw [if_pos rfl]
    refine h2.imp fun y hy => ⟨?_, ?_, ?_⟩
    · simp at hl
      omega
    · simp [hlen]
    · rw [e2]
      exact hy
  · rintro out ⟨hlen, hr⟩
    rw [List.length_map] at hlen hr
    rw [List.take_length] at hr
    exact hq out hlen hr
theorem map_same {α β γ : Type} {e : α → β} {f : α → γ} (inj : ∀ a b, e a = e b → f a = f b) : ∀ {xs ys : List α}, xs.map e = ys.map e → xs.map f = ys.map f
  | [], [], _ => rfl
  | x :: xs, y :: ys, h => by
    injection h with h1 h2
    rw [List.map_cons, List.map_cons, inj _ _ h1, map_same inj h2]
/-- [te for g in wi] over things of one kind, known when the walk begins -/
theorem we_mapE {α : Type} {wi : TI} {g : TG} {te : TE} {vs is : List Nat} (e f : α → X3.D) (inj : ∀ a b, e a = e b → f a = f b) (hv : ∀ i ∈ is, i ∈ vs)
    (h : WI K S wi ρ fun ds => ∃ xs : List α, ds = xs.map e ∧ xs.length ≤ 100000 ∧ (∀ x ∈ xs, WG K is g (e x) (wipeR ρ vs) fun ρ2 => WE K S te ρ2 fun y => y = f x) ∧ Q (.list (xs.map f))) :
    WE K S (tLc wi g tYes te vs) ρ Q := by
  refine we_lc (is := is) (fun pre out => ∃ zs : List α, pre = zs.map e ∧ out = zs.map f) hv (wi_imp h ?_)
  rintro ds ⟨xs, rfl, hl, ht, hq⟩
  refine ⟨⟨[], rfl, rfl⟩, ?_, ?_⟩
  · rintro pre d post out hd ⟨us, rfl, rfl⟩
    obtain ⟨ys, x, zs, rfl, hys, rfl⟩ := split_map hd
    have hlen := congrArg List.length hys
    simp at hlen hl
    refine (ht x (by simp)).imp fun ρ2 h2 => wt_yes ?_
    rw [if_pos rfl]
    refine h2.imp fun y hy => ⟨by rw [List.length_map]; omega, us ++ [x], by simp, by rw [hy]; simp⟩
  · rintro out ⟨us, h1, rfl⟩
    rw [← map_same inj h1]
    exact hq
def rStrI : List V → Hp → VK → Prop := fun xs H Q => ∃ i, xs = [.int i] ∧ i.natAbs.log2 < 1920 ∧ Q (.str (toString i)) H
theorem wc_strI {i : Int} (h : i.natAbs.log2 < 1920) (q : Q (.str (toString i))) : WRC K S rStrI [.int i] Q := fun G H vs k w dx c => by
  cases dx with
  | cons a r =>
    cases r
    cases a
    exact ⟨i, rfl, h, c _ _ G H (.refl w) (.str _) q⟩
theorem call_strI {X : Cx} : CallR X (.type "str") rStrI := call_str_int
theorem call_reprI {X : Cx} : CallR X (.builtin "repr") rStrI := SkE.call_repr_int
theorem log_small {i : Int} (h0 : 0 ≤ i) (h1 : i < 1000000) : i.natAbs.log2 < 1920 := by
  have h : i.natAbs < 1000000 := by omega
  by_cases z : i.natAbs = 0
  · rw [z]
    decide
  · exact (Nat.log2_lt z).mpr (Nat.lt_of_lt_of_le h (by decide +kernel))
/-- list(range(a, b)) -/
theorem we_listRg {ta tb : TE} (h : WE K S ta ρ fun x => WE K S tb ρ fun y => ∃ a b : Int, x = .int a ∧ y = .int b ∧ (0 ≤ a ∧ a ≤ 100000 ∧ 0 ≤ b ∧ b ≤ 100000) ∧ Q (.list (rng a (b - a).toNat))) : WE K S (tLstRg (tRg2 ta tb)) ρ Q := fun σ G H k w sl c => by
  refine h σ G H _ w sl fun vx x G1 H1 s1 d1 h1 => h1 σ G1 H1 _ s1.w (sl.mono s1.gg) fun vy y G2 H2 s2 d2 q => ?_
  obtain ⟨a, b, rfl, rfl, ⟨h1, h2, h3, h4⟩, q⟩ := q
  cases d1
  cases d2
  refine ⟨a, b, rfl, rfl, .of_le h1 (by omega) (by omega) h3, fun p hp => ?_⟩
  have e : DatL K (upd G2 p (.lst (rgV a b))) (rgV a b) (rng a (b - a).toNat) := by
    have h := datL_ints (K := K) (G := upd G2 p (.lst (rgV a b))) ((List.range (b - a).toNat).map fun i => a + (i : Nat))
    rw [List.map_map, List.map_map] at h
    exact h
  exact c _ _ (upd G2 p (.lst (rgV a b))) (upd H2 p (.lst (rgV a b))) ((s1.trans s2).trans (.new s2.w hp)) (.list upd_same e) q
theorem WS_next {ρ' : Rho} {μ' : Mu} (q : N.nx ρ' μ') : WS K S tNext ρ' μ' N := ws_next q
/-- a test that comes out false -/
theorem ws_ifF {tt : TT} {t u : TS} (h : WT K S tt (view ρ μ) fun b => b = false) (h2 : WS K S u ρ μ N) : WS K S (tIfS tt t u) ρ μ N := ws_if (h.imp fun b e => by
  subst e
  exact h2)
/-- a test, and what follows where it comes out true -/
theorem ws_ifR {tt : TT} {t u : TS} (h : WT K S tt (view ρ μ) fun b => b = true → WS K S t ρ μ N) (h2 : WS K S u ρ μ N) : WS K S (tIfS tt t u) ρ μ N := ws_if (h.imp fun b e => by
  cases b with
  | true => exact e rfl
  | false => exact h2)
theorem ws_ifT {tt : TT} {t u : TS} (h : WT K S tt (view ρ μ) fun b => b = true) (h2 : WS K S t ρ μ N) : WS K S (tIfS tt t u) ρ μ N := ws_if (h.imp fun b e => by
  subst e
  exact h2)
end
section
variable {K : PySem.W.Frag} {S : Res} {ρ : Rho} {Q : X3.D → Prop} {N : EndsD} {μ : Mu}
/-- x[::-1] -/
theorem we_revL {te : TE} (h : WE K S te ρ fun x => ∃ xs, x = .list xs ∧ Q (.list xs.reverse)) : WE K S (tRevL K te) ρ Q := fun σ G H k w sl c => by
  refine h σ G H _ w sl fun v x G1 H1 s1 d1 q => ?_
  obtain ⟨xs, rfl, q⟩ := q
  cases d1 with
  | list h1 r => exact ⟨_, _, rfl, SqL.of (s1.w.le _ _ h1), fun p hp => c _ _ _ _ (s1.trans (.new s1.w hp)) (.list upd_same (r.reverse.mono (Le.new (s1.w.fresh hp)))) q⟩
/-- {k: v, ..} -/
def WPs (K : PySem.W.Frag) (S : Res) : List (TE × TE) → Rho → (List (Key × X3.D) → Prop) → Prop
  | [], _, P => P []
  | (tk, tv) :: r, ρ, P => WE K S tk ρ fun y => WE K S tv ρ fun z => ∃ k, y = kD k ∧ WPs K S r ρ fun l => P ((k, z) :: l)
theorem wps_nil {P : List (Key × X3.D) → Prop} (q : P []) : WPs K S [] ρ P := q
theorem wps_cons {k : Str} {tv : TE} {r : List (TE × TE)} {P : List (Key × X3.D) → Prop} (h : WE K S tv ρ fun z => WPs K S r ρ fun l => P ((.inr k, z) :: l)) : WPs K S ((tC (.str k), tv) :: r) ρ P :=
  we_str (h.imp fun z q => ⟨.inr k, rfl, q⟩)
theorem wps_run : ∀ {trs : List (TE × TE)} {P : List (Key × X3.D) → Prop}, WPs K S trs ρ P → ∀ (σ : L2.St) (G H : Hp) (c : List (V × V) → Hp → Prop), Wld S G H → Slots K G σ ρ →
    (∀ (kv : List (Key × V)) (kd : List (Key × X3.D)) (G' H' : Hp), Stp S G H G' H' → DatK K G' kv kd → P kd → c (kv.map fun p => (kV p.1, p.2)) H') → tPairs trs σ H c
  | [], _, h => fun σ G H c w sl k => k [] [] G H (.refl w) .nil h
  | (tk, tv) :: r, P, h => fun σ G H c w sl k => h σ G H _ w sl fun vy y G1 H1 s1 d1 h1 => h1 σ G1 H1 _ s1.w (sl.mono s1.gg) fun vz z G2 H2 s2 d2 q => by
    obtain ⟨ky, rfl, q⟩ := q
    refine wps_run q σ G2 H2 _ s2.w (sl.mono (s1.gg.trans s2.gg)) fun kv kd G3 H3 s3 d3 q3 => ?_
    have e := kD_v d1
    subst e
    exact k ((ky, vz) :: kv) ((ky, z) :: kd) G3 H3 ((s1.trans s2).trans s3) (.cons (d2.mono s3.gg) d3) q3
/-- x = {k: v, ..}, one's own -/
theorem ws_newDisp {trs : List (TE × TE)} {i : Nat} (hi : i < ρ.length) (h : WPs K S trs ρ fun kd => kd.length ≤ 15 ∧ N.nx (ρ.set i (.own μ.length)) (μ ++ [.dict (mergeD [] kd)])) : WS K S (tAsg (tDisp trs) (gName i)) ρ μ N := fun G0 H0 σ H E w0 r f => by
  obtain ⟨G, as, r⟩ := r
  intro p hp
  have s0 : Stp S G H G (upd H p (.dK [])) := .junk r.st.w (Le.new hp)
  have r0 := r.step w0 s0
  refine wps_run h σ G _ _ s0.w r0.sl fun kv kd G2 H2 s2 d2 q => ?_
  have nf := r.st.w.nfp hp
  have at2 : H2 p = some (.dK []) := s2.hh p _ nf upd_same
  refine ⟨at2, kv, rfl, by rw [d2.length]; exact q.1, ?_⟩
  obtain ⟨n1, n2, n3, n4⟩ := r.newp hp
  have g2 := s2.keepNone n4 (by rw [upd_same]; exact Option.some_ne_none _)
  have r2 := r0.step w0 s2
  exact f.nx _ _ _ _ ⟨G2, _, r2.adopt (m := .dict (mergeD [] kd)) hi n1 n2 n3 g2 ⟨g2, _, upd_same, d2.merge .nil⟩⟩ q.2
/-- an object that nobody names is written -/
theorem Stp.poke {G H G' H' : Hp} {p : Addr} {o : HO} (s : Stp S G H G' H') (hp : H p = none) (gp : G' p = none) (nf : ¬ S.fp p) : Stp S G H G' (upd H' p o) :=
  ⟨s.gg, fun b u n e => by rw [upd_ne (ne_of_none e hp)]; exact s.hh b u n e, s.nw, ⟨fun b u e => by rw [upd_ne (ne_of_none e gp)]; exact s.w.le b u e, S.loc H' _ (fun b f => (upd_ne (fun z : b = p => nf (by rw [← z]; exact f))).symm) s.w.src, s.w.sep⟩⟩
theorem we_disp {trs : List (TE × TE)} (h : WPs K S trs ρ fun kd => kd.length ≤ 15 ∧ Q (.dict (mergeD [] kd))) : WE K S (tDisp trs) ρ Q := fun σ G H k w sl c => by
  intro p hp
  have s0 : Stp S G H G (upd H p (.dK [])) := .junk w (Le.new hp)
  have nf := w.nfp hp
  refine wps_run h σ G _ _ s0.w sl fun kv kd G2 H2 s2 d2 q => ?_
  have at2 : H2 p = some (.dK []) := s2.hh p _ nf upd_same
  refine ⟨at2, kv, rfl, by rw [d2.length]; exact q.1, ?_⟩
  have g2 := s2.keepNone (w.fresh hp) (by rw [upd_same]; exact Option.some_ne_none _)
  have st := ((s0.trans s2).poke (o := .dK (mergeK [] kv)) hp g2 nf).gel g2 hp upd_same nf
  exact c _ _ _ _ st (.dict (.inl upd_same) ((d2.merge .nil).mono (Le.new g2))) q.2
end
/-! ### texts, sign by sign -/
theorem cps_app (x y : Str) : (x ++ y).cps.toList = x.cps.toList ++ y.cps.toList := by
  show (x.cps ++ y.cps).toList = _
  simp
theorem str_ext {x y : Str} (h : x.cps.toList = y.cps.toList) : x = y := by
  cases x
  cases y
  congr
  exact Array.toList_inj.mp h
theorem cps_len (x : Str) : x.length = x.cps.toList.length := by
  rw [Array.length_toList]
  rfl
end X3

set_option Elab.async false
set_option linter.all false
set_option maxRecDepth 100000
set_option maxHeartbeats 4000000
namespace X3
open PySem L2
/-! ### data that may be compared -/
structure Lay (k : Nat) (d : X3.D) : Prop where
  pure : D.pure d = true
  lay : (D.pd d).canLay0 = true
  dep : (D.pd d).depth ≤ k
structure Lays (k : Nat) (ds : List X3.D) : Prop where
  pure : D.pures ds = true
  lay : PyData.canLayAll0 (D.pds ds) = true
  dep : PyData.depthAll (D.pds ds) ≤ k
theorem Lays.of {k : Nat} : ∀ {ds : List X3.D}, (∀ d ∈ ds, Lay k d) → Lays k ds
  | [], _ => ⟨rfl, rfl, Nat.zero_le _⟩
  | d :: ds, h => by
    have h1 := h d (by simp)
    have h2 := Lays.of (ds := ds) fun x hx => h x (by simp [hx])
    refine ⟨?_, ?_, ?_⟩
    · show (D.pure d && D.pures ds) = true
      rw [h1.pure, h2.pure]
      rfl
    · show (PyData.canLay0 (D.pd d) && PyData.canLayAll0 (D.pds ds)) = true
      rw [h1.lay, h2.lay]
      rfl
    · show max (D.pd d).depth (PyData.depthAll (D.pds ds)) ≤ k
      exact Nat.max_le.mpr ⟨h1.dep, h2.dep⟩
theorem Lay.list {k : Nat} {ds : List X3.D} (h : ∀ d ∈ ds, Lay k d) : Lay (k + 1) (.list ds) :=
  have r := Lays.of h
  ⟨r.pure, r.lay, Nat.succ_le_succ r.dep⟩
theorem Lay.tup {k : Nat} {ds : List X3.D} (h : ∀ d ∈ ds, Lay k d) : Lay (k + 1) (.tup ds) :=
  have r := Lays.of h
  ⟨r.pure, r.lay, Nat.succ_le_succ r.dep⟩
theorem Lay.non {k : Nat} : Lay k .non := ⟨rfl, rfl, Nat.zero_le _⟩
theorem Lay.int {k : Nat} {i : Int} : Lay k (.int i) := ⟨rfl, rfl, Nat.zero_le _⟩
theorem Lay.bl {k : Nat} {i : Bool} : Lay k (.bl i) := ⟨rfl, rfl, Nat.zero_le _⟩
theorem Lay.str {k : Nat} {x : Str} (h : ∀ c ∈ x.cps.toList, c < 1114112) : Lay k (.str x) := by
  refine ⟨rfl, ?_, Nat.zero_le _⟩
  show PyData.strOk x = true
  unfold PyData.strOk
  rw [← Array.all_toList, List.all_eq_true]
  intro c hc
  exact decide_eq_true (h c hc)
theorem Lay.eq {k l : Nat} {x y : X3.D} (h : Lay k x) (g : Lay l y) (hk : k ≤ 64) (hl : l ≤ 64) : EqOk x y :=
  ⟨h.pure, g.pure, Bool.and_eq_true_iff.mpr ⟨h.lay, decide_eq_true (Nat.le_trans h.dep hk)⟩, Bool.and_eq_true_iff.mpr ⟨g.lay, decide_eq_true (Nat.le_trans g.dep hl)⟩⟩
theorem Lay.refl {k : Nat} {x : X3.D} (h : Lay k x) : PyData.eqv x.pd x.pd = true := SeqAt.eqv_refl _ h.lay
/-! ### data that may be shown -/
structure Shw (k b : Nat) (d : X3.D) : Prop where
  shw : D.shw d = true
  able : (D.rp d).showable = true
  deep : (D.rp d).depth ≤ k
  leaf : (D.rp d).leavesShort 8 = true
  bulk : (D.rp d).bulk ≤ b
structure Shws (k b : Nat) (ds : List X3.D) : Prop where
  shw : D.shws ds = true
  able : PyData.showableAll (D.rps ds) = true
  deep : PyData.depthAll (D.rps ds) ≤ k
  leaf : PyData.leavesShortAll 8 (D.rps ds) = true
  bulk : PyData.bulkAll (D.rps ds) ≤ ds.length * (b + 1)
theorem Shws.of {k b : Nat} : ∀ {ds : List X3.D}, (∀ d ∈ ds, Shw k b d) → Shws k b ds
  | [], _ => ⟨rfl, rfl, Nat.zero_le _, rfl, Nat.zero_le _⟩
  | d :: ds, h => by
    have h1 := h d (by simp)
    have h2 := Shws.of (ds := ds) fun x hx => h x (by simp [hx])
    refine ⟨?_, ?_, ?_, ?_, ?_⟩
    · show (D.shw d && D.shws ds) = true
      rw [h1.shw, h2.shw]
      rfl
    · show (PyData.showable (D.rp d) && PyData.showableAll (D.rps ds)) = true
      rw [h1.able, h2.able]
      rfl
    · show max (D.rp d).depth (PyData.depthAll (D.rps ds)) ≤ k
      exact Nat.max_le.mpr ⟨h1.deep, h2.deep⟩
    · show (PyData.leavesShort 8 (D.rp d) && PyData.leavesShortAll 8 (D.rps ds)) = true
      rw [h1.leaf, h2.leaf]
      rfl
    · show (D.rp d).bulk + 1 + PyData.bulkAll (D.rps ds) ≤ (ds.length + 1) * (b + 1)
      rw [Nat.succ_mul]
      have := h1.bulk
      have := h2.bulk
      omega
theorem Shw.list {k b : Nat} {ds : List X3.D} (h : ∀ d ∈ ds, Shw k b d) : Shw (k + 1) (ds.length * (b + 1)) (.list ds) :=
  have r := Shws.of h
  ⟨r.shw, r.able, Nat.succ_le_succ r.deep, r.leaf, r.bulk⟩
theorem Shw.tup {k b : Nat} {ds : List X3.D} (h : ∀ d ∈ ds, Shw k b d) : Shw (k + 1) (ds.length * (b + 1)) (.tup ds) :=
  have r := Shws.of h
  ⟨r.shw, r.able, Nat.succ_le_succ r.deep, r.leaf, r.bulk⟩
theorem Shw.non {k b : Nat} : Shw k b .non := ⟨rfl, rfl, Nat.zero_le _, rfl, Nat.zero_le _⟩
theorem Shw.str {k b : Nat} {x : Str} (h : ∀ c ∈ x.cps.toList, c < 1114112) (hb : x.length ≤ b) : Shw k b (.str x) := by
  refine ⟨rfl, rfl, Nat.zero_le _, ?_, hb⟩
  show (x.cps.toList.all fun c => decide (c < 16 ^ 8)) = true
  rw [List.all_eq_true]
  intro c hc
  exact decide_eq_true (Nat.lt_trans (h c hc) (by decide))
theorem Shw.up {k b b' : Nat} {d : X3.D} (h : Shw k b d) (hb : b ≤ b') : Shw k b' d := ⟨h.shw, h.able, h.deep, h.leaf, Nat.le_trans h.bulk hb⟩
theorem Shw.ok {k b : Nat} {d : X3.D} (h : Shw k b d) (hk : k ≤ 60) (hb : b ≤ 1000000) : ShwOk d :=
  ⟨h.shw, h.able, Nat.le_trans h.deep hk, PyData.shown_fits_bulk (B := 8) (by decide) (by decide) h.leaf (Nat.le_trans h.bulk (Nat.le_trans hb (by decide)))⟩
end X3

set_option Elab.async false
set_option linter.all false
set_option maxRecDepth 100000
set_option maxHeartbeats 4000000
namespace X3
open PySem L2
/-! ### one of two readings of an expression -/
def tEither (a b : TE) : TE := fun σ H Q => a σ H Q ∨ b σ H Q
theorem pe_either {X : Cx} {e : Expr} {a b : TE} (ha : PE X e a) (hb : PE X e b) : PE X e (tEither a b) := ⟨fun pins s σ H Q I h => h.elim (ha.run pins s σ H Q I) (hb.run pins s σ H Q I)⟩
/-! ### a method of a tuple -/
def tTM (K : PySem.W.Frag) (r : V → List V → Hp → VK → Prop) (to : TE) (t : TA) : TE := fun σ H Q => to σ H fun x H1 => (∃ p xs, x = .ref p ∧ TupN K H1 p xs) ∧ t σ H1 fun xs H2 => r x xs H2 Q
theorem pe_tm {X : Cx} {o e : Expr} {es : List Expr} {to : TE} {t : TA} {name : Str} {apos cpos : Pos} {id : String} {r : V → List V → Hp → VK → Prop} (pa : PlainAttrs "tuple") (slot : Slot "tuple" name id) (hty : typeOf (.builtin id) = pure (.type "method_descriptor")) (hm : MtR X id r) (ho : PE X o to) (ha : PA X (e :: es) t)
    (baseOk : attributeBase o name X.env (eval o X.env) = eval o X.env := by rfl)
    (fewOk : ((backTo cpos (starEach (e :: es) X.env)).all (fun x => !x.1) && (backToKw cpos (keywordEach [] X.env)).all (fun x => x.1.isSome)
      && decide ((e :: es).length + ([] : List Keyword).length + (if ([] : List Keyword).isEmpty then 0 else 1) < 30)) = true := by rfl) (lineOk : (apos.endLine == cpos.line) = true := by rfl) (starOk : starEach (e :: es) X.env = (false, eval e X.env) :: starEach es X.env := by rfl) (plainOk : (backTo cpos (starEach es X.env)).any (·.1) = false := by rfl) :
    PE X (.Call (.Attribute o name apos) (e :: es) [] cpos) (tTM X.K r to t) := by
  constructor; intro pins st σ H Q I want
  refine wpAny_Call_method_late baseOk fewOk lineOk rfl (thn (ho.run pins st σ H _ I want) fun u st1 ⟨y, H1, I1, ry, ty, got⟩ => ?_)
  obtain ⟨p, xs, rfl, hq⟩ := ty
  cases ry
  obtain ⟨its, rv, ⟨ob, g1, g2, _⟩, _⟩ := I1.tuple hq.sq
  refine ⟨"tuple", id, pa, slot, hty, ⟨ob, g1, g2⟩, fun a e => ?_, ?_⟩
  · cases e
    rcases hq.slim with ⟨o, w, z, d⟩ | ⟨o, z, d⟩
    · exact ⟨o, (I1.hok _ _ z).1, d⟩
    · exact ⟨o, I1.kIn _ _ z, d⟩
  have argsRun := ha.run cpos pins st1 σ H1 _ I1 got
  rw [starOk] at argsRun ⊢
  refine Calls.callWith_builtin (by show (false || (backTo cpos (starEach es X.env)).any (·.1)) = false; rw [plainOk] <;> rfl) (Calls.evalArgs_plain ?_)
  exact thn argsRun fun us s2 ⟨vs, H2, I2, r2, q2⟩ => hm pins s2 σ H2 (.ref p) vs (.ref p) us Q I2 rfl r2 q2
def rIndexT (K : PySem.W.Frag) : V → List V → Hp → VK → Prop := fun x xs H Q => ∃ p, ∃ ys : List Str, ∃ z j, x = .ref p ∧ xs = [.str z] ∧ SqT K H p (ys.map V.str) ∧ ys[j]? = some z ∧ (∀ m, m < j → ys[m]? ≠ some z) ∧ Q (.int (j : Nat)) H
theorem mt_indexT {X : Cx} : MtR X "tuple.index" (rIndexT X.K) := mt_tup_index
section
variable {K : PySem.W.Frag} {S : Res} {ρ : Rho} {P : List X3.D → Prop} {Q : X3.D → Prop} {N : EndsD} {μ : Mu}
theorem we_ei1 {a b : TE} (h : WE K S a ρ Q) : WE K S (tEither a b) ρ Q := fun σ G H k w s c => .inl (h σ G H k w s c)
theorem we_ei2 {a b : TE} (h : WE K S b ρ Q) : WE K S (tEither a b) ρ Q := fun σ G H k w s c => .inr (h σ G H k w s c)
theorem we_indexT {to te : TE} (h : WE K S to ρ fun x => ∃ ns : List Str, x = .tup (ns.map .str) ∧ WE K S te ρ fun y => ∃ (n : Str) (j : Nat), y = .str n ∧ ns[j]? = some n ∧ (∀ m < j, ns[m]? ≠ some n) ∧ Q (.int (j : Nat))) :
    WE K S (tTM K (rIndexT K) to (tCons te tNil)) ρ Q := fun σ G H k w s c =>
  h σ G H _ w s fun vx x G1 H1 s1 d1 h1 => by
    obtain ⟨ns, rfl, h1⟩ := h1
    cases d1 with
    | tup a r =>
      have e := r.strs
      subst e
      refine ⟨⟨_, _, rfl, a.mono s1.w.le⟩, ?_⟩
      refine h1 σ G1 H1 _ s1.w (s.mono s1.gg) fun vy y G2 H2 s2 d2 q => ?_
      obtain ⟨n, j, rfl, hj, first, q⟩ := q
      cases d2
      exact ⟨_, ns, n, j, rfl, rfl, le_t (s2.gg.trans s2.w.le) a.sq, hj, first, c _ _ G2 H2 (s1.trans s2) (.int _) q⟩
/-! ### tuples: joined, sliced -/
theorem wr_catN {xs ys : List X3.D} (hl : xs.length + ys.length ≤ 100000) (q : Q (.tup (xs ++ ys))) : WR2 K S (rCatN K) (.tup xs) (.tup ys) Q := fun G H vx vy k w dx dy c => by
  cases dx with
  | tup h1 r1 =>
    cases dy with
    | tup h2 r2 =>
      refine ⟨_, _, _, _, rfl, rfl, le_t w.le h1.sq, le_t w.le h2.sq, by rw [r1.length, r2.length]; exact Nat.le_trans hl (by decide), fun e => ?_, fun e => ?_, fun p o hp ho => ?_⟩
      · subst e
        cases r1
        exact c _ _ G H (.refl w) (.tup h2 r2) q
      · subst e
        cases r2
        rw [List.append_nil] at q
        exact c _ _ G H (.refl w) (.tup h1 r1) q
      · exact c _ _ _ _ (.new w hp) (.tup (.new ho) ((r1.append r2).mono (Le.new (w.fresh hp)))) q
theorem DatL.cut {G : Hp} {vs : List V} {ds : List X3.D} (r : DatL K G vs ds) (lo hi : Option Int) : DatL K G (cutV vs lo hi) (cutD ds lo hi) := by
  unfold cutV cutD
  rw [r.length]
  exact (r.drop _).take _
theorem cut_all {xs : List X3.D} {lo hi : Option Int} (h : HT.sIx xs.length 0 lo = 0 ∧ HT.sIx xs.length xs.length hi = xs.length) : cutD xs lo hi = xs := by
  unfold cutD
  rw [h.1, h.2]
  simp
theorem we_slN {te : TE} {tl th : TO} (h : WE K S te ρ fun x => WO K S tl ρ fun lo => WO K S th ρ fun hi => ∃ xs, x = .tup xs ∧ Q (.tup (cutD xs lo hi))) : WE K S (tSl (rSlN K) te tl th) ρ Q := fun σ G H k w s c =>
  h σ G H _ w s fun v d G1 H1 s1 d1 h1 => h1 σ G1 H1 _ s1.w (s.mono s1.gg) fun lo G2 H2 s2 h2 => h2 σ G2 H2 _ s2.w (s.mono (s1.gg.trans s2.gg)) fun hi G3 H3 s3 q => by
    obtain ⟨xs, rfl, q⟩ := q
    have d3 := d1.mono (s2.gg.trans s3.gg)
    have s13 := (s1.trans s2).trans s3
    cases d3 with
    | tup a r =>
      refine ⟨_, _, rfl, le_t s3.w.le a.sq, fun e => ?_, fun p o hp ho => ?_⟩
      · rw [r.length] at e
        rw [cut_all e] at q
        exact c _ _ G3 H3 s13 (.tup a r) q
      · exact c _ _ _ _ (s13.trans (.new s3.w hp)) (.tup (.new ho) ((r.cut lo hi).mono (Le.new (s3.w.fresh hp)))) q
/-- x in a list, x data -/
theorem wr_inD {k l : Nat} {x : X3.D} {ds : List X3.D} (hx : Lay k x) (hd : Lay l (.list ds)) (hk : k ≤ 64) (hl : l ≤ 64) (q : Q (.bl ((D.pds ds).any fun z => PyData.eqv z x.pd))) : WR2 K S (rInD K) x (.list ds) Q := fun G H vx vy c w dx dy cc =>
  ⟨x.pd, D.pds ds, Dp.le w.le (dx.dp hx.pure), Dp.le w.le (dy.dp hd.pure), (hx.eq hd hk hl).2.2.1, (hx.eq hd hk hl).2.2.2, cc _ _ G H (.refl w) (.bl _) q⟩
theorem wc_any {bs : List Bool} (q : Q (.bl (bs.any id))) : WRC K S (rAny K) [.list (bs.map .bl)] Q := fun G H vs k w dx c => by
  cases dx with
  | cons a r =>
    cases r
    cases a with
    | list h1 r1 =>
      have e := r1.bls
      subst e
      exact ⟨_, bs, rfl, SqL.of (w.le _ _ h1), c _ _ G H (.refl w) (.bl _) q⟩
theorem we_tupRev {te : TE} (h : WE K S te ρ fun x => ∃ xs, x = .list xs ∧ Q (.tup xs.reverse)) : WE K S (tTupRevN K te) ρ Q := fun σ G H k w sl c => by
  refine h σ G H _ w sl fun v x G1 H1 s1 d1 q => ?_
  obtain ⟨xs, rfl, q⟩ := q
  cases d1 with
  | list h1 r => exact ⟨_, _, rfl, SqL.of (s1.w.le _ _ h1), fun p o hp ho => c _ _ _ _ (s1.trans (.new s1.w hp)) (.tup (.new ho) (r.reverse.mono (Le.new (s1.w.fresh hp)))) q⟩
def rMin2 : List V → Hp → VK → Prop := fun xs H Q => ∃ i j, xs = [.int i, .int j] ∧ Q (.int (if j < i then j else i)) H
theorem call_minTwo {X : Cx} (hc : X.calm = true) : CallR X (.builtin "min") rMin2 := call_min2 hc
theorem wc_min2 {i j : Int} (q : Q (.int (if j < i then j else i))) : WRC K S rMin2 [.int i, .int j] Q := fun G H vs k w dx c => by
  cases dx with
  | cons a r =>
    cases r with
    | cons b r =>
      cases r
      cases a
      cases b
      exact ⟨i, j, rfl, c _ _ G H (.refl w) (.int _) q⟩
/-! ### what is new, and one's own -/
def WF (K : PySem.W.Frag) (S : Res) (te : TE) (ρ : Rho) (Q : M → Prop) : Prop :=
  ∀ σ G H (k : VK), Wld S G H → Slots K G σ ρ → (∀ a m o G' H', Stp S G H G' H' → H a = none → G' a = none → H' a = some o → CellOk K G' H' a m → Q m → k (.ref a) H') → te σ H k
theorem ws_own {te : TE} {i : Nat} (hi : i < ρ.length) (h : WF K S te ρ fun m => N.nx (ρ.set i (.own μ.length)) (μ ++ [m])) : WS K S (tAsg te (gName i)) ρ μ N := fun G0 H0 σ H E w0 r f => by
  obtain ⟨G, as, r⟩ := r
  refine h σ G H _ r.st.w r.sl fun a m o G' H' s ha ga ho ok q => ?_
  obtain ⟨n1, n2, n3, n4⟩ := r.newp ha
  have r2 := (r.step w0 s).adopt (m := m) (o := o) hi n1 n2 n3 ga (by rw [upd_id ho]; exact ok)
  rw [upd_id ho] at r2
  exact f.nx _ _ _ _ ⟨G', _, r2⟩ q
/-- what holds scalars alone -/
def scalM : M → Bool
  | .lst ds => ds.all scalD
  | .dict kvs => kvs.all fun kv => scalD kv.2
  | _ => false
theorem scal_L {G G' : Hp} : ∀ {vs : List V} {ds : List X3.D}, DatL K G vs ds → ds.all scalD = true → DatL K G' vs ds
  | _, _, .nil, _ => .nil
  | _, _, .cons h r, e => by
    rw [List.all_cons, Bool.and_eq_true] at e
    exact .cons (scal_any h e.1) (scal_L r e.2)
theorem scal_K {G G' : Hp} : ∀ {vs : List (Key × V)} {ds : List (Key × X3.D)}, DatK K G vs ds → (ds.all fun kv => scalD kv.2) = true → DatK K G' vs ds
  | _, _, .nil, _ => .nil
  | _, _, .cons h r, e => by
    rw [List.all_cons, Bool.and_eq_true] at e
    exact .cons (scal_any h e.1) (scal_K r e.2)
theorem cell_scal {G G' H : Hp} {a : Addr} {m : M} (h : CellOk K G H a m) (e : scalM m = true) (g : G' a = none) : CellOk K G' H a m := by
  cases m with
  | lst ds =>
    obtain ⟨_, xs, h2, h3⟩ := h
    exact ⟨g, xs, h2, scal_L h3 e⟩
  | dict ds =>
    obtain ⟨_, xs, h2, h3⟩ := h
    exact ⟨g, xs, h2, scal_K h3 e⟩
  | _ => cases e
theorem ws_ownv {te : TE} {i : Nat} (hi : i < ρ.length) (h : WF K S te (view ρ μ) fun m => scalM m = true ∧ N.nx (ρ.set i (.own μ.length)) (μ ++ [m])) : WS K S (tAsg te (gName i)) ρ μ N := fun G0 H0 σ H E w0 r f => by
  obtain ⟨G, as, r⟩ := r
  obtain ⟨G1, le, s1, sl, fr⟩ := r.freeze w0
  refine h σ G1 H _ s1.w sl fun a m o G' H' s ha ga ho ok q => ?_
  obtain ⟨n1, n2, n3, n4⟩ := r.newp ha
  have r1 := r.unfreeze w0 le fr s
  have r2 := r1.adopt (m := m) (o := o) hi n1 n2 n3 n4 (by rw [upd_id ho]; exact cell_scal ok q.1 n4)
  rw [upd_id ho] at r2
  exact f.nx _ _ _ _ ⟨G, _, r2⟩ q.2
theorem Stp.first {G H G' H' : Hp} (s : Stp S G H G' H') {p : Addr} (hp : H' p = none) : H p = none := by
  cases e : H p with
  | none => rfl
  | some o =>
    by_cases f : S.fp p
    · exact absurd hp (S.live H' s.w.src p f)
    · rw [s.hh p o f e] at hp
      cases hp
/-- list(x) -/
theorem wf_list {te : TE} {Q : M → Prop} (h : WE K S te ρ fun x => ∃ ds, (x = .list ds ∨ x = .tup ds) ∧ Q (.lst ds)) : WF K S (tCB (fun xs H Q => ∃ p ys, xs = [.ref p] ∧ (SqL K H p ys ∨ SqT K H p ys) ∧ ∀ l, H l = none → Q (.ref l) (upd H l (.lst ys))) (tCons te tNil)) ρ Q := fun σ G H k w sl c => by
  refine h σ G H _ w sl fun v x G1 H1 s1 d1 q => ?_
  obtain ⟨ds, hd, q⟩ := q
  obtain ⟨p, ys, rfl, hs, r⟩ : ∃ p ys, v = .ref p ∧ (SqL K H1 p ys ∨ SqT K H1 p ys) ∧ DatL K G1 ys ds := by
    rcases hd with rfl | rfl
    · cases d1 with
      | list a r => exact ⟨_, _, rfl, .inl (SqL.of (s1.w.le _ _ a)), r⟩
    · cases d1 with
      | tup a r => exact ⟨_, _, rfl, .inr (le_t s1.w.le a.sq), r⟩
  refine ⟨p, ys, rfl, hs, fun l hl => ?_⟩
  have gl := s1.w.fresh hl
  exact c l (.lst ds) _ G1 (upd H1 l (.lst ys)) (s1.trans (.junk s1.w (Le.new hl))) (s1.first hl) gl upd_same ⟨gl, _, upd_same, r⟩ q
end
end X3

set_option Elab.async false
set_option linter.all false
set_option maxRecDepth 100000
set_option maxHeartbeats 4000000
namespace X3
open PySem L2
theorem iteE {c : Bool} {A B : Prop} (h : c = true) (a : A) : if c = true then A else B := by rw [if_pos h]; exact a
theorem iteE0 {c : Bool} {A B : Prop} (h : c = false) (b : B) : if c = true then A else B := by rw [if_neg (by rw [h]; exact Bool.false_ne_true)]; exact b
section
variable {K : PySem.W.Frag} {S : Res} {ρ : Rho} {N : EndsD} {μ : Mu}
/-- a new dict by a comprehension -/
theorem wf_dc {wi : TI} {g : TG} {tt : TT} {tk tv : TE} {vs is : List Nat} {Q : M → Prop} (I : List X3.D → List (Key × X3.D) → Prop) (hv : ∀ i ∈ is, i ∈ vs)
    (h : WI K S wi ρ fun ds => I [] [] ∧ (∀ pre d post out, ds = pre ++ d :: post → I pre out → WG K is g d (wipeR ρ vs) fun ρ2 => WT K S tt ρ2 fun b =>
      if b = true then WE K S tk ρ2 fun y => WE K S tv ρ2 fun z => ∃ k, y = kD k ∧ out.length < 100000 ∧ I (pre ++ [d]) (putD out k z) else I (pre ++ [d]) out) ∧ ∀ out, I ds out → Q (.dict out)) :
    WF K S (tDc wi g tt tk tv vs) ρ Q := fun σ G H k w sl c => by
  refine h σ G H _ w sl fun J ds G' H' s it q => ?_
  obtain ⟨i0, turn, fin⟩ := q
  obtain ⟨Gd, Y, wk, gd, yl⟩ := it.ex
  have w0 := s.w.src
  intro p hp
  have sl0 : Slots K G' (wipe σ vs) (wipeR ρ vs) := slots_wipe (sl.mono s.gg) vs
  have start : RepG K S G' H' G' [] (upd H' p (.dK [])) [] [.dict []] [p] := by
    refine ⟨.junk s.w (Le.new hp), ⟨rfl, fun i d e => by simp at e⟩, rfl, by simp, fun i j e => by simp at e, fun j a m e1 e2 => ?_⟩
    have hs : upd H' p (.dK []) p = some (.dK []) := upd_same
    cases j with
    | zero =>
      have e1' : some p = some a := e1
      have e2' : some (M.dict []) = some m := e2
      cases e1'
      cases e2'
      exact ⟨hp, by rw [hs]; exact Option.some_ne_none _, s.w.fresh hp, [], hs, DatK.nil⟩
    | succ n => simp at e1
  refine dc_it wk (fun i H => ∃ out G2, RepG K S G' H' G2 [] H [] [.dict out] [p] ∧ I (ds.take i) out) ⟨[], G', start, i0⟩ ?_ ?_ ?_
  · rintro i H1 _ ⟨out, G2, r2, _⟩
    exact gd H1 (r2.st.gg.trans r2.st.w.le)
  · rintro i x H1 H2 hi ⟨out, G2, r2, iv⟩ y
    obtain ⟨d, G3, e, st3, dt⟩ := yl i H1 x H2 G2 hi r2.st.gg r2.st.w y
    have r3 := r2.step w0 st3
    have ed : ds = ds.take i ++ d :: ds.drop (i + 1) := by
      obtain ⟨hl, e2⟩ := List.getElem?_eq_some_iff.mp e
      rw [← e2, ← List.drop_eq_getElem_cons hl, List.take_append_drop]
    have et : ds.take i ++ [d] = ds.take (i + 1) := by
      rw [List.take_add_one, e]
      rfl
    refine turn (ds.take i) d (ds.drop (i + 1)) out ed iv _ G3 H2 x _ r3.st.w.le (sl0.mono r3.st.gg) dt fun σ4 ρ4 t4 body => ?_
    have hw : wipe σ4 vs = wipe σ vs := by
      refine wipe_eq (by rw [t4.len, wipe_length]) fun i hi => ?_
      exact (t4.old i fun z => hi (hv i z)).1
    refine ⟨hw, body σ4 G3 H2 _ r3.st.w t4.sl fun b G4 H4 s4 qb => ?_⟩
    have r4 := r3.step w0 s4
    cases b with
    | false => exact ⟨out, G4, r4, by rw [← et]; exact qb⟩
    | true =>
      refine qb σ4 G4 H4 _ r4.st.w (t4.sl.mono s4.gg) fun vy dy G5 H5 s5 dty q5 => ?_
      have r5 := r4.step w0 s5
      refine q5 σ4 G5 H5 _ r5.st.w (t4.sl.mono (s4.gg.trans s5.gg)) fun vz dz G6 H6 s6 dtz q6 => ?_
      have r6 := r5.step w0 s6
      obtain ⟨kk, ek, hl, iv6⟩ := q6
      obtain ⟨_, _, hg, xs, hx, dx⟩ := r6.cell 0 p _ rfl rfl
      rw [ek] at dty
      refine ⟨xs, kk, kD_v dty, hx, by rw [dx.length]; exact Nat.lt_of_lt_of_le hl (by decide), putD out kk dz, G6, ?_, by rw [← et]; exact iv6⟩
      exact r6.put (j := 0) (m := .dict (putD out kk dz)) w0 rfl rfl hg ⟨hg, _, upd_same, dx.put dtz⟩
  · rintro H1 ⟨out, G2, r2, iv⟩
    rw [List.take_length] at iv
    obtain ⟨_, _, hg, xs, hx, dx⟩ := r2.cell 0 p _ rfl rfl
    exact c p (.dict out) _ G2 H1 (s.trans r2.st) (s.first hp) hg hx ⟨hg, xs, hx, dx⟩ (fin out iv)
end
end X3

set_option Elab.async false
set_option linter.all false
set_option maxRecDepth 100000
set_option maxHeartbeats 4000000
namespace X3
open PySem L2
section
variable {K : PySem.W.Frag} {S : Res} {ρ : Rho} {P : List X3.D → Prop} {Q : X3.D → Prop} {N : EndsD} {μ : Mu}
/-- a walk over a local that holds a list or a tuple -/
theorem wi_seqv {i : Nat} {d : X3.D} {ds : List X3.D} (h : ρ[i]? = some (.dat d)) (hd : d = .list ds ∨ d = .tup ds) (p : P ds) : WI K S (iOr (iList K (tVar i)) (iTup K (tVar i))) ρ P := by
  rcases hd with rfl | rfl
  · exact wi_or1 (wi_list (we_var h ⟨_, rfl, p⟩))
  · exact wi_or2 (wi_tup (we_var h ⟨_, rfl, p⟩))
/-- a dict that has names for keys, and scalars for values -/
structure KeysOf (ns : List Str) (kvs : List (Key × X3.D)) : Prop where
  key : ∀ x, (getK kvs (.inr x)).isSome = true ↔ x ∈ ns
  len : kvs.length ≤ ns.length
  scal : (kvs.all fun kv => scalD kv.2) = true
theorem KeysOf.nil : KeysOf [] [] := ⟨fun x => by simp [getK], Nat.le_refl _, rfl⟩
theorem scal_put {kvs : List (Key × X3.D)} {k : Key} {v : X3.D} (h : (kvs.all fun kv => scalD kv.2) = true) (hv : scalD v = true) : ((putD kvs k v).all fun kv => scalD kv.2) = true := by
  unfold putD
  split
  · rw [List.all_map, List.all_eq_true]
    intro kv hkv
    have := List.all_eq_true.mp h kv hkv
    dsimp only [Function.comp]
    split
    · exact hv
    · exact this
  · rw [List.all_append, h]
    simp [hv]
theorem KeysOf.put {ns : List Str} {kvs : List (Key × X3.D)} {x : Str} (h : KeysOf ns kvs) : KeysOf (ns ++ [x]) (putD kvs (.inr x) (.bl true)) := by
  refine ⟨fun y => ?_, Nat.le_trans (putD_len _ _ _) (by rw [List.length_append, List.length_singleton]; have := h.len; omega), scal_put h.scal rfl⟩
  rw [getK_put]
  by_cases e : (Sum.inr y : Key) = .inr x
  · rw [if_pos e, Sum.inr.inj e]
    simp
  · rw [if_neg e, h.key]
    have : y ≠ x := fun z => e (by rw [z])
    simp [this]
theorem keys_turn {i : Nat} {ns : List Str} {pre post : List X3.D} {d : X3.D} {out : List (Key × X3.D)} {vs : List Nat} (hi : i < ρ.length) (hl : ns.length ≤ 99999) (hd : ns.map X3.D.str = pre ++ d :: post) (iv : KeysOf (ns.take pre.length) out) :
    WG K [i] (gName i) d (wipeR ρ vs) fun ρ2 => WT K S tYes ρ2 fun b => if b = true then WE K S (tVar i) ρ2 fun y => WE K S (tC (.bl true)) ρ2 fun z => ∃ k, y = kD k ∧ out.length < 100000 ∧ KeysOf (ns.take (pre ++ [d]).length) (putD out k z) else KeysOf (ns.take (pre ++ [d]).length) out := by
  obtain ⟨ys, x, zs, rfl, rfl, rfl⟩ := split_map hd
  have e1 : (ys ++ x :: zs).take (ys.map X3.D.str).length = ys := by simp
  rw [e1] at iv
  rw [take_snoc]
  refine wg_name (wt_yes ?_)
  rw [if_pos rfl]
  refine we_var (d := .str x) ?_ (we_bl ⟨.inr x, rfl, ?_, iv.put⟩)
  · rw [List.getElem?_set_self (by rw [wipeR_len]; exact hi)]
  · have := iv.len
    simp at hl
    omega
/-- {name: True for name in ..} -/
theorem we_keys {wi : TI} {i : Nat} {vs : List Nat} (ns : List Str) (hi : i < ρ.length) (hv : i ∈ vs) (h : WI K S wi ρ fun ds => ds = ns.map .str ∧ ns.length ≤ 99999 ∧ ∀ out, KeysOf ns out → Q (.dict out)) : WE K S (tDc wi (gName i) tYes (tVar i) (tC (.bl true)) vs) ρ Q := by
  refine we_dc (is := [i]) (fun pre out => KeysOf (ns.take pre.length) out) (fun j hj => by rw [List.mem_singleton.mp hj]; exact hv) (wi_imp h ?_)
  rintro ds ⟨rfl, hl, hq⟩
  refine ⟨KeysOf.nil, fun pre d post out hd iv => keys_turn hi hl hd iv, fun out iv => hq out ?_⟩
  rw [List.length_map, List.take_length] at iv
  exact iv
theorem wf_keys {wi : TI} {i : Nat} {vs : List Nat} {Q : M → Prop} (ns : List Str) (hi : i < ρ.length) (hv : i ∈ vs) (h : WI K S wi ρ fun ds => ds = ns.map .str ∧ ns.length ≤ 99999 ∧ ∀ out, KeysOf ns out → Q (.dict out)) : WF K S (tDc wi (gName i) tYes (tVar i) (tC (.bl true)) vs) ρ Q := by
  refine wf_dc (is := [i]) (fun pre out => KeysOf (ns.take pre.length) out) (fun j hj => by rw [List.mem_singleton.mp hj]; exact hv) (wi_imp h ?_)
  rintro ds ⟨rfl, hl, hq⟩
  refine ⟨KeysOf.nil, fun pre d post out hd iv => keys_turn hi hl hd iv, fun out iv => hq out ?_⟩
  rw [List.length_map, List.take_length] at iv
  exact iv
end
end X3

set_option Elab.async false
set_option linter.all false
set_option maxRecDepth 100000
set_option maxHeartbeats 4000000
namespace X3
open PySem L2
section
variable {K : PySem.W.Frag} {S : Res} {ρ : Rho} {P : List X3.D → Prop} {Q : X3.D → Prop} {N : EndsD} {μ : Mu}
/-- a for, what holds between its turns told when the walk begins -/
theorem ws_forDD {wi : TI} {g : TG} {tb : TS} {is : List Nat}
    (h : WI K S wi ρ fun ds => ∃ I : List D → Rho → Mu → Prop, I [] ρ μ ∧ (∀ pre d post ρ' μ', ds = pre ++ d :: post → I pre ρ' μ' → WG K is g d ρ' fun ρ2 => WS K S tb ρ2 μ' { N with nx := I (pre ++ [d]), ct := I (pre ++ [d]), bk := N.nx }) ∧ ∀ ρ' μ', I ds ρ' μ' → N.nx ρ' μ') :
    WS K S (tFor wi g tb) ρ μ N := fun G0 H0 σ H E w0 r f => by
  obtain ⟨G, as, r⟩ := r
  refine h σ G H _ r.st.w r.sl fun J ds G' H' s it q => ?_
  obtain ⟨I, i0, turn, fin⟩ := q
  obtain ⟨Gd, Y, wk, gd, yl⟩ := it.ex
  have r1 := r.step w0 s
  have sb := r1.st
  refine for_it wk (fun i σ H => ∃ ρ' μ' G2 as', RepG K S G' H0 G2 σ H ρ' μ' as' ∧ I (ds.take i) ρ' μ') ⟨ρ, μ, G', as, r1.debase, i0⟩ ?_ ?_ ?_
  · rintro i σ1 H1 _ ⟨ρ', μ', G2, as', r2, _⟩
    exact gd H1 (r2.st.gg.trans r2.st.w.le)
  · rintro i x σ1 H1 H2 hi ⟨ρ', μ', G2, as', r2, iv⟩ y
    obtain ⟨d, G3, e, st3, dt⟩ := yl i H1 x H2 G2 hi r2.st.gg r2.st.w y
    have r3 := r2.step w0 st3
    have ed : ds = ds.take i ++ d :: ds.drop (i + 1) := by
      have e2 := List.getElem?_eq_some_iff.mp e
      obtain ⟨hl, e2⟩ := e2
      rw [← e2, ← List.drop_eq_getElem_cons hl, List.take_append_drop]
    have et : ds.take i ++ [d] = ds.take (i + 1) := by
      rw [List.take_add_one, e]
      rfl
    refine turn (ds.take i) d (ds.drop (i + 1)) ρ' μ' ed iv σ1 G3 H2 x _ r3.st.w.le r3.sl dt fun σ4 ρ4 t4 body => ?_
    refine body G' H0 σ4 H2 { E with nx := _, ct := _, bk := E.nx } w0 ⟨G3, as', r3.tgt t4⟩ ⟨?_, ?_, ?_, ?_⟩
    · rintro σ5 H5 ρ5 μ5 ⟨G5, as5, r5⟩ q5
      exact ⟨ρ5, μ5, G5, as5, r5, by rw [← et]; exact q5⟩
    · intro v d5 G5 H5 s5 dt5 q5
      exact f.rt v d5 G5 H5 ⟨sb.gg.trans s5.gg, s5.hh, fun a o e => (s5.nw a o e).elim (fun z => sb.nw a o z) .inr, s5.w⟩ dt5 q5
    · rintro σ5 H5 ρ5 μ5 ⟨G5, as5, r5⟩ q5
      exact f.nx _ _ _ _ ⟨G5, as5, r5.rebase sb⟩ q5
    · rintro σ5 H5 ρ5 μ5 ⟨G5, as5, r5⟩ q5
      exact ⟨ρ5, μ5, G5, as5, r5, by rw [← et]; exact q5⟩
  · rintro σ1 H1 ⟨ρ', μ', G2, as', r2, iv⟩
    rw [List.take_length] at iv
    exact f.nx _ _ _ _ ⟨G2, as', r2.rebase sb⟩ (fin ρ' μ' iv)
theorem ws_forD {α : Type} {wi : TI} {g : TG} {tb : TS} {is : List Nat} (e : α → X3.D)
    (h : WI K S wi ρ fun ds => ∃ (xs : List α) (I : List α → Rho → Mu → Prop), ds = xs.map e ∧ I [] ρ μ ∧ (∀ ys x zs ρ' μ', xs = ys ++ x :: zs → I ys ρ' μ' → WG K is g (e x) ρ' fun ρ2 => WS K S tb ρ2 μ' { N with nx := I (ys ++ [x]), ct := I (ys ++ [x]), bk := N.nx }) ∧ ∀ ρ' μ', I xs ρ' μ' → N.nx ρ' μ') :
    WS K S (tFor wi g tb) ρ μ N := by
  refine ws_forDD (is := is) (wi_imp h ?_)
  rintro ds ⟨xs, I, rfl, h0, ht, hq⟩
  refine ⟨fun pre ρ' μ' => I (xs.take pre.length) ρ' μ', h0, ?_, ?_⟩
  · rintro pre d post ρ' μ' hd iv
    obtain ⟨ys, x, zs, rfl, rfl, rfl⟩ := split_map hd
    rw [List.length_map, List.take_left] at iv
    have e2 := take_snoc (e := e) (ys := ys) (zs := zs) (x := x)
    show WG K is g (e x) ρ' fun ρ2 => WS K S tb ρ2 μ' { N with nx := I ((ys ++ x :: zs).take (ys.map e ++ [e x]).length), ct := I ((ys ++ x :: zs).take (ys.map e ++ [e x]).length), bk := N.nx }
    rw [e2]
    exact ht ys x zs ρ' μ' rfl iv
  · intro ρ' μ' iv
    rw [List.length_map, List.take_length] at iv
    exact hq ρ' μ' iv
end
end X3

set_option Elab.async false
set_option linter.all false
set_option maxRecDepth 100000
set_option maxHeartbeats 4000000
namespace L2
open PySem PyProof.Rows
section
variable {prog : Program} {w : World} {s : Shared} {A : Around} {E : Value → Shared → Prop}
theorem pickRev (xs : Array Value) : ((List.range xs.size).filterMap fun (k : Nat) => xs[(((xs.size : Nat) : Int) - 1 + (k : Int) * (-1)).toNat]?).toArray = xs.toList.reverse.toArray := by
  have e : (fun (k : Nat) => xs[(((xs.size : Nat) : Int) - 1 + (k : Int) * (-1)).toNat]?) = (fun i => xs[i]?) ∘ fun k => xs.size - 1 - k := by
    funext k
    show xs[_]? = xs[xs.size - 1 - k]?
    congr 1
    omega
  rw [e, ← List.filterMap_map, PySem.W.krv_range, List.filterMap_reverse, PySem.W.krv_all]
theorem sliceApplied_rev {sl : Addr} {vs : Value} {n : Nat} {Q : Int × Int × Nat → Shared → Prop} (hs : s.heap.IsSliceOf sl .none .none vs) (ps : IsPart vs (some (-1)))
    (h : Q ((n : Int) - 1, -1, n) s) : wpAny (model prog w) A (Builtin.Slice.sliceApplied (.ref sl) (pure (n : Int))) Q E s := by
  obtain ⟨sob, sat_, scl, sdt⟩ := id hs
  (unfold Builtin.Slice.sliceApplied Builtin.Slice.sliceFields)
  refine wpAny_bind (wpAny_bind (wpAny_field sat_ sdt (x := .none) rfl (wpAny_bind (wpAny_field sat_ sdt (x := .none) rfl (wpAny_bind (wpAny_field sat_ sdt (x := vs) rfl (wpAny_pure ?_)))))))
  refine wpAny_bind (HT.slicePart_ ps ?_)
  show wpAny _ _ (if ((-1 : Int) == 0) = true then _ else _) _ _ s
  rw [if_neg (by decide)]
  refine wpAny_bind (slicePart_none (wpAny_bind (slicePart_none (wpAny_bind (wpAny_pure ?_)))))
  show wpAny _ _ (pure ((n : Int) - 1, (-1 : Int), Builtin.Slice.slicePlaces ((n : Int) - 1) (-1) (-1))) _ _ s
  have e : Builtin.Slice.slicePlaces ((n : Int) - 1) (-1) (-1) = n := by
    (unfold Builtin.Slice.slicePlaces)
    have h1 : ¬ ((-1 : Int) > 0) := by omega
    rw [if_neg h1]
    split
    · rw [show (-(-1) : Int) = 1 by decide, Int.ediv_one]
      omega
    · omega
  rw [e]
  exact wpAny_pure h
theorem getItem_tuple_rev {t sl : Addr} {items : Array Value} {vs : Value} {Q : Value → Shared → Prop} (ht : IsTup s.heap t items) (hs : s.heap.IsSliceOf sl .none .none vs) (ps : IsPart vs (some (-1)))
    (h : Q (.ref s.heap.objs.size) { s with heap := s.heap.push { cls := .type "tuple", data := .seq items.toList.reverse.toArray } })
    (few : items.size ≤ sizeLine) : wpAny (model prog w) A (getItem (.ref t) (.ref sl)) Q E s := by
  have fits_ : sizeOk (.seq items.toList.reverse.toArray) := by
    show items.toList.reverse.toArray.size ≤ sizeLine
    rw [List.size_toArray, List.length_reverse, Array.length_toList]
    exact few
  obtain ⟨sob, sat_, scl, sdt⟩ := id hs
  have kind_ : s.TypeIs (.ref sl) "slice" := ⟨sob, sat_, scl⟩
  unfold getItem
  (try with_reducible refine wpAny_holding ?_); (first | refine wpAny_bind (wpAny_pure ?_) | skip); refine wpAny_bind (wpAny_sequenceKey ht.typeIs (by decide) ?_)
  refine wpAny_bind (wpAny_callSpecial?_slot (name := Str.ofString "__getitem__") ht.typeIs PyProof.Rows.slot_tuple_getitem (wpAny_call_entry PyProof.Rows.slot_tuple_getitem ht.typeIs entry_tuple_getitem ?_ (args_tuple_getitem _ _)))
  show wpAny _ _ (Builtin.Tuple.tupleItemsOf (.ref t) >>= _) _ _ s; refine wpAny_bind (tupleItemsOf_ ht ?_); refine wpAny_bind (wpAny_typeOf kind_ ?_)
  rw [if_pos (by decide)]
  refine wpAny_bind (sliceApplied_rev hs ps ?_)
  have hno : ¬ ((((items.size : Int) - 1) == 0 && (-1 : Int) == 1 && items.size == items.size) = true) := by
    intro q
    have q2 := (Bool.and_eq_true_iff.mp (Bool.and_eq_true_iff.mp q).1).2
    exact absurd q2 (by decide)
  show wpAny _ _ (if ((((items.size : Int) - 1) == 0 && (-1 : Int) == 1 && items.size == items.size) = true) then _ else _) _ _ s
  rw [if_neg hno, pickRev]
  first | exact wpAny_bind (m := Builtin.Tuple.tupleExact _) (wpAny_newObj_type (wpAny_pure ⟨_, rfl, wpAny_pure h⟩) fits_) | exact wpAny_bind (m := Builtin.Tuple.tupleExact _) (wpAny_newObj_type (wpAny_bind (wpAny_pure (wpAny_pure ⟨_, rfl, wpAny_pure h⟩))) fits_)
end
end L2
namespace X3
open PySem L2 PyProof.Rows
/-- t[::-1] -/
def tRevT (K : PySem.W.Frag) (te : TE) : TE := fun σ H Q => te σ H fun x H1 => ∃ a vs, x = .ref a ∧ SqT K H1 a vs ∧ NewT H1 vs.reverse Q
theorem pe_revT {X : Cx} {e : Expr} {te : TE} {k : Nat} {p1 p2 p3 pos : Pos} (he : PE X e te) : PE X (.Subscript e (.Slice none none (some (.UnaryOp .USub (.Constant (.int 1) k p1) p2)) p3) pos) (tRevT X.K te) := by
  constructor; intro pins st σ H Q I want
  refine Subscript_ (thn (he.run pins st σ H _ I want) fun u st1 ⟨y, H1, I1, ry, got⟩ => ?_)
  obtain ⟨a, xs, rfl, hx, q⟩ := got
  cases ry
  have back :
      PO X (some (.UnaryOp .USub (.Constant (.int 1) k p1) p2)) (tPart (tUn (rU fun i => .int (-i)) (tC (.int 1)))) := po_some (pe_un un_neg pe_int)
  refine wpAny_Slice (thn (po_none.run pins st1 σ H1 (fun o G => o = none ∧ G = H1) I1 ⟨rfl, rfl⟩) fun va st2 ⟨lo, H2, I2, pa_, ea, e2⟩ => ?_)
  subst ea e2
  refine thn (po_none.run pins st2 σ H2 (fun o G => o = none ∧ G = H2) I2 ⟨rfl, rfl⟩) fun vb st3 ⟨hi, H3, I3, pb_, eb, e3⟩ => ?_
  subst eb e3
  refine thn (back.run pins st3 σ H3 (fun o G => o = some (-1) ∧ G = H3) I3 ⟨1, rfl, -1, rfl, rfl, rfl⟩) fun vc st4 ⟨by_, H4, I4, pc_, ec, e4⟩ => ?_
  subst ec e4
  have made : Inv X pins σ H4 { st4 with heap := st4.heap.push { cls := .type "slice", data := .fields #[va, vb, vc] } } := I4.kept (t' := st4.toks) fun c ob z => Heap.get?_push_of_some _ z
  obtain ⟨us, rel, whole, few⟩ := made.tuple hx
  cases pa_
  cases pb_
  show wpAny (model X.prog X.w) X.A (subscriptTail e (.Slice none none (some (.UnaryOp .USub (.Constant (.int 1) k p1) p2)) p3) (.ref a) (.ref st4.heap.objs.size)) (EP X pins σ Q) X.xe { st4 with heap := st4.heap.push { cls := .type "slice", data := .fields #[.none, .none, vc] } }
  refine tail_any (ops := [.ref a, .ref st4.heap.objs.size]) whole.typeIs (PyProof.Rows.slot_tuple_getitem.lookup) ?_ (by with_unfolding_all rfl)
  refine getItem_tuple_rev whole (Heap.IsSliceOf.new _ _ _ vc) pc_ ?_ (by rw [List.size_toArray, ← rel.length]; exact few)
  exact newT_ends made (by rw [List.length_reverse]; exact few) rel.reverse q
section
variable {K : PySem.W.Frag} {S : Res} {ρ : Rho} {Q : X3.D → Prop}
theorem we_revT {te : TE} (h : WE K S te ρ fun x => ∃ xs, x = .tup xs ∧ Q (.tup xs.reverse)) : WE K S (tRevT K te) ρ Q := fun σ G H k w sl c => by
  refine h σ G H _ w sl fun v x G1 H1 s1 d1 q => ?_
  obtain ⟨xs, rfl, q⟩ := q
  cases d1 with
  | tup a r => exact ⟨_, _, rfl, le_t s1.w.le a.sq, fun p o hp ho => c _ _ _ _ (s1.trans (.new s1.w hp)) (.tup (.new ho) (r.reverse.mono (Le.new (s1.w.fresh hp)))) q⟩
end
end X3

set_option Elab.async false
set_option linter.all false
set_option maxRecDepth 100000
set_option maxHeartbeats 4000000
namespace L2
open PySem PyProof.Rows PySem.Spec
section
variable {P : Program} {w : World} {K : PySem.W.Frag} {A : Around} {E : Value → Shared → Prop} {s : Shared} {x y C f : Addr} {ox : Obj} {od : Option Obj} {tb : Value}
/-- object.__ne__ by an own == -/
theorem neBody (X : K.In s.heap) (J : PySem.W.InstAt s.heap x ox C od) (he : PySem.W.findIn K (.ref C) "__eq__" = some (some (.ref f))) (hf : PySem.W.isFn K (.ref f) = true) (hu : A.units < cLine) {Q : Fin → Shared → Prop}
    (own : wpAny (model P w) A (call (.ref f) [.ref x, .ref y]) (fun v s' => ∃ b, v = .bool b ∧ Q (.done (.ret (.bool (!b)))) s') E s) :
    wpAny (model P w) A (Builtin.«object.__ne__» ⟨[.ref x, .ref y], []⟩) Q E s := by
  (unfold Builtin.«object.__ne__»)
  repeat (first | with_reducible refine wpAny_cRoomFor hu ?_ | (refine wpAny_bind (m := callSpecialIfBound? (.ref x) (Str.ofString "__eq__") [.ref y]) (PySem.W.ifBound_K X J he hf (wpAny_mono own (fun r s' hr => by
        obtain ⟨flag, rfl, kont⟩ := hr
        repeat (first | exact kont | exact wpAny_pure kont | exact wpAny_truthy_bool kont | (refine wpAny_bind (m := truthy (.bool _)) (wpAny_truthy_bool ?_)) | wp_step)) fun _ _ e => e))) | wp_step)
theorem neRoad (X : K.In s.heap) (J : PySem.W.InstAt s.heap x ox C od) (hb : PySem.W.Looks (model P w) s.heap (typeOf (.ref y)) tb) (hn : PySem.W.notFirst K C tb = true)
    (hne : PySem.W.findIn K (.ref C) "__ne__" = some (some (.builtin "object.__ne__"))) (isO : PySem.W.mroIn K C (.type "object") = some true)
    (he : PySem.W.findIn K (.ref C) "__eq__" = some (some (.ref f))) (hf : PySem.W.isFn K (.ref f) = true) (hu : A.units + 1 < cLine) {Q : Value → Shared → Prop}
    (own : wpAny (model P w) A.in1 (call (.ref f) [.ref x, .ref y]) (fun v s' => ∃ b, v = .bool b ∧ Q (.bool (!b)) s') E s) :
    wpAny (model P w) A (richCompare .NotEq (.ref x) (.ref y)) Q E s := by
  have one : wpAny (model P w) A (tryCompare (.ref x) (cmpInfo .NotEq).2.1 (.ref y)) (fun r s' => ∃ v, r = some v ∧ Q v s') E s := by
    unfold tryCompare
    refine wpAny_bind (NtL.csib (id := "object.__ne__") (J.type.andThen (PySem.W.looks_findIn X hne)) (by kernel_rfl) ?_)
    refine wpAny_call (codeAny_call_builtin PySem.F.cmp_object.ne.plain PySem.F.cmpEntry_ne (PySem.W.check_slot (i := "object.__ne__") (owner := "object") (n := "__ne__") (self := .ref x) (rest := [.ref y]) (kw := []) PySem.F.cmpKind_ne PySem.F.cmpSplit_ne (J.type.andThen (PySem.W.looks_mroIn X isO)) (PySem.F.cmpArgs_ne _ _) ?_))
    refine neBody X J he hf hu (wpAny_mono own (fun v s' q => ?_) fun _ _ e => e)
    obtain ⟨b, rfl, q⟩ := q
    exact ⟨b, rfl, wpAny_pure ⟨_, rfl, q⟩⟩
  unfold richCompare
  simp only [oneThing_ref]
  refine wpAny_holding (wpAny_bind (wpAny_cRoomFor (Nat.lt_of_succ_lt hu) ?_))
  refine wpAny_bind (J.type.here (wpAny_bind (hb.here ?_)))
  split
  · rename_i q
    have e : PySem.W.subIn K tb (.ref C) = some false := by
      rcases Bool.or_eq_true_iff.mp hn with same | apart
      · rw [beq_iff_eq.mp same] at q
        simp at q
      · exact beq_iff_eq.mp apart
    refine wpAny_bind ((PySem.W.looks_subIn X e).here ?_)
    (simp only [Bool.false_eq_true, if_false]); refine wpAny_bind (wpAny_mono one (fun got st' z => ?_) fun _ _ e => e)
    obtain ⟨v, rfl, kont⟩ := z
    exact wpAny_pure kont
  · (refine wpAny_bind (wpAny_pure ?_))
    (simp only [Bool.false_eq_true, if_false]); refine wpAny_bind (wpAny_mono one (fun got st' z => ?_) fun _ _ e => e)
    obtain ⟨v, rfl, kont⟩ := z
    exact wpAny_pure kont
end
end L2
namespace X3
open PySem L2
/-- x != y of objects of one class that has an own == and no own != -/
def rNeO (C : Addr) (sp : Sp) : R2 := fun x y H Q => ∃ (a b dx dy : Addr) (fs gs : List (Str × V)), x = .ref a ∧ y = .ref b ∧ H a = some (.ins C dx fs) ∧ H b = some (.ins C dy gs) ∧ sp [x, y] H (fun v H' => ∃ t, v = .bl t ∧ Q (.bl (!t)) H') E0
theorem op_neO {X : Cx} {n : Nat} {C f : Addr} {fd : FuncData} {ps : List Str} {sp : Sp} (F : FnOk X.prog X.w X.K X.mg X.base CX0 n f fd ps sp) (hr : Room (n + 1) X.A) (hne : PySem.W.findIn X.K (.ref C) "__ne__" = some (some (.builtin "object.__ne__")))
    (isO : PySem.W.mroIn X.K C (.type "object") = some true) (he : PySem.W.findIn X.K (.ref C) "__eq__" = some (some (.ref f))) (hf : PySem.W.isFn X.K (.ref f) = true) (hb : Binds X.K fd ps []) (hx : Passes CX0 X E0) : OpR X (compareOp .NotEq) (rNeO C sp) := by
  intro pins st σ H x y u v Q I rx ry want
  obtain ⟨a, b, dx, dy, fs, gs, rfl, rfl, ha, hb', own⟩ := want
  cases rx
  cases ry
  obtain ⟨_, J, _⟩ := ins_get I.hok ha
  obtain ⟨_, Jy, _⟩ := ins_get I.hok hb'
  obtain ⟨_, J, _⟩ := J.look
  obtain ⟨_, Jy, _⟩ := Jy.look
  show wpAny (model X.prog X.w) X.A (richCompare .NotEq (.ref a) (.ref b)) (EP X pins σ Q) X.xe st
  refine neRoad (tb := .ref C) I.kIn J Jy.type (by simp [PySem.W.notFirst]) hne isO he hf (by have := hr.un; omega) ?_
  have len := F.len _ _ _ _ own
  have rels : Vals [V.ref a, V.ref b] [Value.ref a, Value.ref b] := .cons rfl (.cons rfl .nil)
  have env : Env0 X.prog X.w X.K X.mg X.base X.A.in1 X.stack st H := I.env0.in1
  refine wpAny_call (codeAny_mono (F.run X.A.in1 X.stack st H ⟨[.ref a, .ref b], []⟩ [.ref a, .ref b] [.ref a, .ref b] _ E0 hr.in1 env (by
    have := hb st [.ref a, .ref b] I.kIn (by simpa using len)
    simpa using this) rels own) fun r st' hq => ?_)
  cases r with
  | error e => exact hx pins σ H st e st' I hq
  | ok fl =>
    cases fl with
    | ret w =>
      obtain ⟨z, H', I', rz, t, rfl, q⟩ := I.after hq
      cases rz
      exact ⟨t, rfl, .bl (!t), H', I', rfl, q⟩
    | _ => exact hq.elim
section
variable {K : PySem.W.Frag} {S : Res} {Q : X3.D → Prop}
theorem wr_neO {C : Addr} {P : Res → List X3.D → (X3.D → Prop) → Prop} {fx fy : List (Str × X3.D)} (h : P S [.obj C fx, .obj C fy] fun d => ∃ t, d = .bl t ∧ Q (.bl (!t))) : WR2 K S (rNeO C (spD K P)) (.obj C fx) (.obj C fy) Q := fun G H vx vy k w dx dy c => by
  cases dx with
  | obj h1 r1 =>
    cases dy with
    | obj h2 r2 =>
      refine ⟨_, _, _, _, _, _, rfl, rfl, w.le _ _ h1, w.le _ _ h2, S, G, _, _, w, .cons (.obj h1 r1) (.cons (.obj h2 r2) .nil), h, fun v d G' H' s dt q => ?_⟩
      obtain ⟨t, rfl, q⟩ := q
      cases dt
      exact ⟨t, rfl, c _ _ G' H' s (.bl _) q⟩
end
end X3

set_option Elab.async false
set_option linter.all false
set_option maxRecDepth 100000
set_option maxHeartbeats 4000000
namespace X3
open PySem L2
section
variable {K : PySem.W.Frag} {S : Res} {ρ : Rho} {N : EndsD} {μ : Mu}
/-- i += n -/
theorem ws_augI {i : Nat} {a : Int} {te : TE} (hi : ρ[i]? = some (.dat (.int a))) (h : WE K S te ρ fun d => ∃ b, d = .int b ∧ N.nx (ρ.set i (.dat (.int (a + b)))) μ) : WS K S (tAug i te (ipI fun i j => i + j)) ρ μ N := fun G0 H0 σ H E w0 r f => by
  obtain ⟨G, as, r⟩ := r
  obtain ⟨v, e, dv⟩ := r.sl.2 i _ hi
  cases dv
  refine ⟨_, e, h σ G H _ r.st.w r.sl fun v d G' H' s dt q => ?_⟩
  obtain ⟨b, rfl, q⟩ := q
  cases dt
  exact ⟨a, b, rfl, rfl, f.nx _ _ _ _ ⟨G', as, (r.step w0 s).set (.int _)⟩ q⟩
end
end X3

set_option Elab.async false
set_option linter.all false
set_option maxRecDepth 100000
set_option maxHeartbeats 4000000
namespace X3
open PySem L2
section
variable {K : PySem.W.Frag} {S : Res} {ρ : Rho} {Q : X3.D → Prop}
/-- what isinstance and == look at in an own class -/
structure ClsI (K : PySem.W.Frag) (C : Addr) : Prop where
  cl : Cls K C
  kc : PySem.W.findIn K (.ref C) "__class__" = some (some (.builtin "object.__class__"))
  kg : PySem.W.specialIn K (.builtin "object.__class__") "__get__" = some (some (.builtin "getset_descriptor.__get__"))
  kt : PySem.W.takesIn K (.builtin "object.__class__") = some true
  isO : PySem.W.mroIn K C (.type "object") = some true
  kit : PySem.W.kitOne K (.ref C) (.ref C) = some true
  ne : PySem.W.findIn K (.ref C) "__ne__" = some (some (.builtin "object.__ne__"))
/-- isinstance(x, C), x of an own class -/
theorem wc_isO {B C : Addr} {fs : List (Str × X3.D)} {b : Bool} (I : ClsI K B) (e : PySem.W.kitOne K (.ref B) (.ref C) = some b) (q : Q (.bl b)) : WRC K S (rIsi K) [.obj B fs, .val (.ref C)] Q := fun G H vs kk w dx cc => by
  cases dx with
  | cons a r =>
    cases r with
    | cons a2 r =>
      cases r
      cases a2
      cases a with
      | obj h1 r1 => exact ⟨_, _, _, _, b, rfl, .own C, .base (.ins (w.le _ _ h1) I.cl I.kc I.kg I.kt I.isO), e, cc _ _ G H (.refl w) (.bl b) q⟩
/-- [te for g in wi if tt] over things of one kind, known when the walk begins -/
theorem we_mapF {α : Type} {wi : TI} {g : TG} {tt : TT} {te : TE} {vs is : List Nat} (e f : α → X3.D) (p : α → Bool) (inj : ∀ a b, e a = e b → a = b) (hv : ∀ i ∈ is, i ∈ vs)
    (h : WI K S wi ρ fun ds => ∃ xs : List α, ds = xs.map e ∧ xs.length ≤ 100000 ∧ (∀ x ∈ xs, WG K is g (e x) (wipeR ρ vs) fun ρ2 => WT K S tt ρ2 fun b => b = p x ∧ (b = true → WE K S te ρ2 fun y => y = f x)) ∧ Q (.list ((xs.filter p).map f))) :
    WE K S (tLc wi g tt te vs) ρ Q := by
  refine we_lc (is := is) (fun pre out => ∃ zs : List α, pre = zs.map e ∧ out = (zs.filter p).map f) hv (wi_imp h ?_)
  rintro ds ⟨xs, rfl, hl, ht, hq⟩
  refine ⟨⟨[], rfl, rfl⟩, ?_, ?_⟩
  · rintro pre d post out hd ⟨us, rfl, rfl⟩
    obtain ⟨ys, x, zs, rfl, hys, rfl⟩ := split_map hd
    have hlen := congrArg List.length hys
    simp at hlen hl
    have hfl := List.length_filter_le p us
    refine (ht x (by simp)).imp fun ρ2 h2 => WT.imp h2 ?_
    rintro b ⟨rfl, h3⟩
    cases hb : p x with
    | false =>
      rw [if_neg Bool.false_ne_true]
      exact ⟨us ++ [x], by simp, by simp [hb]⟩
    | true =>
      rw [if_pos rfl]
      exact (h3 hb).imp fun y hy => ⟨by rw [List.length_map]; omega, us ++ [x], by simp, by rw [hy]; simp [hb]⟩
  · rintro out ⟨us, h1, rfl⟩
    have : xs = us := by
      have := map_same (f := id) inj h1
      simpa using this
    rw [← this]
    exact hq
end
end X3

set_option Elab.async false
set_option linter.all false
set_option maxRecDepth 100000
set_option maxHeartbeats 4000000
namespace SrtNm
open PySem PyProof.Rows PySem.Spec
open SrtO hiding Str
/-- a tuple whose first item is a text -/
def IsNm (h : Heap) (v : Value) (x : Str) : Prop := ∃ (a : Addr) (o : Obj) (t : Tok) (rest : List Value) (n : Nat), v = .ref a ∧ h.get? a = some o ∧ o.cls = .type "tuple" ∧ o.data = .seq (Value.str x t :: rest).toArray n
theorem IsNm.keeps {h h' : Heap} {v : Value} {x : Str} (p : IsNm h v x) (k : ∀ b o, h.get? b = some o → o.cls = .type "tuple" → h'.get? b = some o) : IsNm h' v x := by
  obtain ⟨a, o, t, rest, n, e, ho, hc, hd⟩ := p
  exact ⟨a, o, t, rest, n, e, k _ _ ho hc, hc, hd⟩
def ltN (x y : Str) : Bool := decide (x.cps.toList < y.cps.toList)
theorem swo_nm {α : Type} (k : α → Str) : Swo fun v u => ltN (k v) (k u) := by
  refine ⟨fun x y h => ?_, fun x y z h1 h2 => ?_⟩
  · exact decide_eq_false (List.lt_asymm (of_decide_eq_true h))
  · have a := of_decide_eq_false h1
    have b := of_decide_eq_false h2
    exact decide_eq_false (List.not_lt.mpr (List.le_trans (List.not_lt.mp a) (List.not_lt.mp b)))
section
variable {prog : Program} {w : World} {s : Shared} {A : Around} {E : Value → Shared → Prop}
theorem lex_same {b fin : Bool} {Q : Bool → Shared → Prop} (q : Q fin s) : ∀ (xs : List Value) (i : Nat), PySem.W.KatLex prog w A b fin Q (xs.zip xs) i s
  | [], i => PySem.W.kat_nil q
  | x :: xs, i => by
    show PySem.W.KatLex prog w A b fin Q ((x, x) :: xs.zip xs) i s
    exact PySem.W.kat_cons (SeqAt.EqAt.same x prog w _ _ (PySem.W.kat_yes (lex_same q xs (i + 1))))
theorem nm_cmp {vs : List Value} {k : Value → Str} (hp : ∀ v ∈ vs, IsNm s.heap v (k v)) (inj : ∀ v ∈ vs, ∀ u ∈ vs, k v = k u → v = u) : Cmp prog w A s (tuples' true) (fun p => p.1 ∈ vs) (lt2 fun v u => ltN (k v) (k u)) := by
  intro p q hm hm'
  show wpAny (model prog w) A (keyLt' (tuples' true) p.1 q.1) (fun r s' => s' = s ∧ r = ltN (k p.1) (k q.1)) (fun _ _ => False) s
  by_cases e : k p.1 = k q.1
  · have e2 := inj _ hm _ hm' e
    obtain ⟨a, o, t, rest, n, ea, ho, hc, hd⟩ := hp _ hm
    rw [← e2, ea]
    refine PySem.W.kat_lt ho hd ho hd (lex_same ⟨rfl, ?_⟩ _ 0)
    rw [show decide ((Value.str (k p.1) t :: rest).toArray.size < (Value.str (k p.1) t :: rest).toArray.size) = false from decide_eq_false (Nat.lt_irrefl _)]
    exact (decide_eq_false (List.lt_irrefl _)).symm
  · have h1 := hp _ hm
    have h2 := hp _ hm'
    generalize k p.1 = x at h1 e ⊢
    generalize k q.1 = y at h2 e ⊢
    obtain ⟨a, o, t, rest, n, ea, ho, hc, hd⟩ := h1
    obtain ⟨a', o', t', rest', n', ea', ho', hc', hd'⟩ := h2
    rw [ea, ea']
    refine (PySem.W.kat_lt ho hd ho' hd' ?_)
    show PySem.W.KatLex prog w A true _ _ ((.str x t, .str y t') :: rest.zip rest') 0 s
    refine PySem.W.kat_cons (SeqAt.EqAt.str_str x t y t' prog w _ _ ?_)
    refine PySem.W.kat_go (fun e1 => ?_) (fun _ => ?_)
    · exact absurd (by simpa using e1) e
    · exact PySem.W.kat_no (oneLt_str ⟨rfl, rfl⟩)
end
end SrtNm
namespace SrtNm
open PySem PyProof.Rows PySem.Spec
open SrtO hiding Str
section
variable {prog : Program} {w : World} {s : Shared} {A : Around} {E : Value → Shared → Prop}
theorem nm_firsts {h : Heap} {k : Value → PySem.Str} : ∀ vs : List Value, (∀ v ∈ vs, IsNm h v (k v)) → ∃ fs, PySem.W.KatTups h vs fs ∧ fs.length = vs.length ∧ ∀ f ∈ fs, ∃ x t, f = Value.str x t
  | [], _ => ⟨[], PySem.W.KatTups.nil, rfl, fun f hf => by cases hf⟩
  | v :: vs, hp => by
    obtain ⟨fs, h1, h2, h3⟩ := nm_firsts vs fun u hu => hp u (by simp [hu])
    obtain ⟨a, o, t, rest, n, rfl, ho, hc, hd⟩ := hp v (by simp)
    refine ⟨.str _ t :: fs, PySem.W.KatTups.cons ho hc hd rfl h1, by simp [h2], fun f hf => ?_⟩
    rcases List.mem_cons.mp hf with rfl | hf
    · exact ⟨_, _, rfl⟩
    · exact h3 f hf
theorem nm_sortable {a : Addr} {vs : List Value} {k : Value → PySem.Str} (h0 : 0 < vs.length) (hp : ∀ v ∈ vs, IsNm s.heap v (k v)) (inj : ∀ v ∈ vs, ∀ u ∈ vs, k v = k u → v = u) (ha : ∀ o, s.heap.get? a = some o → o.cls ≠ .type "tuple") : SortableO prog w A s a vs fun v u => ltN (k v) (k u) := by
  intro h' keep
  have hp' : ∀ v ∈ vs, IsNm h' v (k v) := fun v hm => (hp v hm).keeps fun b o e c => keep b o (fun z => by subst z; exact ha o e c) e
  obtain ⟨fs, h1, h2, h3⟩ := nm_firsts vs hp'
  refine ⟨tuples' true, fun Q E hq => ?_, nm_cmp hp' inj⟩
  refine PySem.W.kat_kind (T := .type "str") h1 (by omega) (fun f hm => ?_) (by rfl) ?_
  · obtain ⟨nm, t, rfl⟩ := h3 f hm
    exact PySem.W.Looks.now
  · have e : (Value.type "str" != Value.type "tuple") = true := by first | decide +kernel | rfl | decide
    rw [e]
    exact hq
theorem sorted_nms {l : Addr} {vs : List Value} {k : Value → PySem.Str} {Q : Value → Shared → Prop} (hl : s.heap.IsList l vs.toArray) (hz : vs.length ≤ sizeLine) (hp : ∀ v ∈ vs, IsNm s.heap v (k v)) (inj : ∀ v ∈ vs, ∀ u ∈ vs, k v = k u → v = u)
    (h : ∀ (h' : Heap) (d : Addr) (out : List Value), Srtd (fun v u => ltN (k v) (k u)) out → Stb (fun v u => ltN (k v) (k u)) out vs → (∀ b o, s.heap.get? b = some o → h'.get? b = some o) → s.heap.objs.size ≤ d → (∃ n, h'.get? d = some (seqObj "list" out.toArray n)) → Q (.ref d) { s with heap := h' }) :
    wpAny (model prog w) A (call (.builtin "sorted") [.ref l]) Q E s := by
  refine sorted_ord (swo_nm k) hl hz (fun h2 h₁ a ha kk => ?_) fun out hs hb => h _ _ out hs hb (fun b o e => sortedAll_old e) (Nat.le_succ _) (sortedAll_at s.heap vs out.toArray)
  refine nm_sortable (s := { s with heap := h₁ }) (by omega) (fun v hm => (hp v hm).keeps fun b o e _ => (kk b o e).2) inj fun o e => ?_
  cases (show some o = some (seqObj "list" vs.toArray 0) from e.symm.trans ha)
  exact fun c => absurd (Value.type.inj c) (by decide)
/-- the name that a tuple of the heap begins with -/
def nmOf (h : Heap) (v : Value) : PySem.Str := match v with
  | .ref t => match h.get? t with
    | some o => match o.data with
      | .seq xs _ => match xs[0]? with
        | some (Value.str x _) => x
        | _ => ""
      | _ => ""
    | none => ""
  | _ => ""
theorem nmOf_is {h : Heap} {v : Value} {x : PySem.Str} (p : IsNm h v x) : nmOf h v = x := by
  obtain ⟨a, o, t, rest, n, rfl, ho, hc, hd⟩ := p
  unfold nmOf
  simp only [ho, hd]
  rfl
end
end SrtNm
namespace X3
open PySem L2
/-- sorted(xs), tuples that begin with names, all of them different -/
def rSortedN (K : PySem.W.Frag) : List V → Hp → VK → Prop := fun vs H Q => ∃ (a : Addr) (xs : List V) (ns : List Str), vs = [V.ref a] ∧ SqL K H a xs ∧ ns.length = xs.length ∧ ns.Nodup ∧ (∀ (i : Nat) x n, xs[i]? = some x → ns[i]? = some n → ∃ t ys, x = V.ref t ∧ SqT K H t (.str n :: ys)) ∧
  ∀ ys ns' p, ns'.length = ys.length → (ys.zip ns').Perm (xs.zip ns) → ns'.Pairwise (fun x y => SrtNm.ltN y x = false) → H p = none → Q (.ref p) (upd H p (.lst ys))
theorem call_sortedN {X : Cx} : CallR X (.builtin "sorted") (rSortedN X.K) := by
  intro pins st σ H vs us Q I r want
  obtain ⟨a, xs, ns, rfl, hs, hlen, nd, hx, q⟩ := want
  obtain ⟨u, rfl, ru⟩ := vals1 r; obtain ⟨its, rv, hl, hz⟩ := I.list hs; cases (show u = Value.ref a from ru)
  have hxr : ∀ x ∈ xs, ∃ t, x = V.ref t := fun x m => by
    obtain ⟨i, hi, rfl⟩ := List.mem_iff_getElem.mp m
    obtain ⟨t, ys, e, _⟩ := hx i xs[i] (ns[i]'(by omega)) (List.getElem?_eq_getElem hi) (List.getElem?_eq_getElem (by omega))
    exact ⟨t, e⟩
  obtain ⟨e1, e2⟩ := refs_back rv hxr
  have hil : its.length = xs.length := rv.length.symm
  have named : ∀ (i : Nat) v n, its[i]? = some v → ns[i]? = some n → SrtNm.IsNm st.heap v n := fun i v n hv hn => by
    have hxi : xs[i]? = some (backV v) := by rw [e1, List.getElem?_map, hv]; rfl
    obtain ⟨t, ys, e, hq⟩ := hx i _ n hxi hn
    obtain ⟨b, rfl⟩ := e2 v (List.mem_of_getElem? hv)
    cases e
    obtain ⟨us2, rel, ⟨o, g1, g2, m, g3⟩, _⟩ := I.tuple hq
    cases rel with
    | cons rs rest =>
      obtain ⟨tk, rfl⟩ := rs
      exact ⟨_, o, tk, _, m, rfl, g1, g2, g3⟩
  have hk : ∀ (i : Nat) v n, its[i]? = some v → ns[i]? = some n → SrtNm.nmOf st.heap v = n := fun i v n hv hn => SrtNm.nmOf_is (named i v n hv hn)
  have ens : ns = its.map (SrtNm.nmOf st.heap) := by
    refine List.ext_getElem? fun i => ?_
    by_cases hi : i < its.length
    · rw [List.getElem?_map, List.getElem?_eq_getElem hi, List.getElem?_eq_getElem (show i < ns.length by omega)]
      exact congrArg some (hk i _ _ (List.getElem?_eq_getElem hi) (List.getElem?_eq_getElem (by omega))).symm
    · rw [List.getElem?_eq_none (by omega), List.getElem?_eq_none (by rw [List.length_map]; omega)]
  refine SrtNm.sorted_nms (k := SrtNm.nmOf st.heap) hl.isList (by rw [hil]; exact hz) (fun v hv => ?_) (fun v hv u hu e => ?_) fun h' d out h1 h2 kp hd hn => ?_
  · obtain ⟨i, hi, rfl⟩ := List.mem_iff_getElem.mp hv
    have g := named i its[i] (ns[i]'(by omega)) (List.getElem?_eq_getElem hi) (List.getElem?_eq_getElem (by omega))
    rw [SrtNm.nmOf_is g]
    exact g
  · obtain ⟨i, hi, rfl⟩ := List.mem_iff_getElem.mp hv
    obtain ⟨j, hj, rfl⟩ := List.mem_iff_getElem.mp hu
    have a1 := hk i _ (ns[i]'(by omega)) (List.getElem?_eq_getElem hi) (List.getElem?_eq_getElem (by omega))
    have a2 := hk j _ (ns[j]'(by omega)) (List.getElem?_eq_getElem hj) (List.getElem?_eq_getElem (by omega))
    have : i = j := (List.getElem_inj nd).mp (a1.symm.trans (e.trans a2))
    subst this
    rfl
  · have refs_ : ∀ v ∈ out, ∃ b, v = Value.ref b := fun v hv => e2 v (h2.perm.mem_iff.mp hv)
    obtain ⟨n, hn⟩ := hn
    refine ⟨.ref d, upd H d (.lst (out.map backV)), I.laid (t' := st.toks) kp hd ⟨?_, out, n, vals_back refs_, hn⟩, rfl, q _ (out.map (SrtNm.nmOf st.heap)) d (by simp) ?_ (List.pairwise_map.mpr h1) (I.hok.fresh hd)⟩
    · rw [List.length_map, h2.len, hil]
      exact hz
    · rw [e1, ens]
      have zm : ∀ l : List Value, (l.map backV).zip (l.map (SrtNm.nmOf st.heap)) = l.map fun v => (backV v, SrtNm.nmOf st.heap v) := fun l => by
        induction l with
        | nil => rfl
        | cons a l ih => simp [ih]
      rw [zm, zm]
      exact h2.perm.map _
end X3

set_option Elab.async false
set_option linter.all false
set_option maxRecDepth 100000
set_option maxHeartbeats 4000000
namespace X3
open PySem L2
/-- two lists, item by item -/
def All2 {α β : Type} (T : α → β → Prop) : List α → List β → Prop
  | [], [] => True
  | a :: l, b :: m => T a b ∧ All2 T l m
  | _, _ => False
theorem All2.perm {α β : Type} {T : α → β → Prop} {l l' : List α} (p : l'.Perm l) : ∀ {m : List β}, All2 T l m → ∃ m' : List β, m'.Perm m ∧ All2 T l' m' := by
  induction p with
  | nil =>
    intro m h
    exact ⟨m, .refl _, h⟩
  | cons x _ ih =>
    intro m h
    match m, h with
    | b :: m, h =>
      obtain ⟨m', p', h'⟩ := ih h.2
      exact ⟨b :: m', .cons _ p', h.1, h'⟩
  | swap x y l =>
    intro m h
    match m, h with
    | b :: c :: m, h => exact ⟨c :: b :: m, .swap _ _ _, h.2.1, h.1, h.2.2⟩
  | trans _ _ ih1 ih2 =>
    intro m h
    obtain ⟨m1, p1, h1⟩ := ih2 h
    obtain ⟨m2, p2, h2⟩ := ih1 h1
    exact ⟨m2, p2.trans p1, h2⟩
section
variable {K : PySem.W.Frag} {S : Res} {Q : X3.D → Prop}
theorem all2_dat {α : Type} {G : Hp} {f : α → X3.D} {nm : α → Str} : ∀ {vs : List V} {l : List α}, DatL K G vs (l.map f) → All2 (fun (x : V × Str) a => Dat K G x.1 (f a) ∧ x.2 = nm a) (vs.zip (l.map nm)) l
  | [], [], _ => trivial
  | v :: vs, a :: l, .cons d r => ⟨⟨d, rfl⟩, all2_dat r⟩
theorem dat_all2 {α : Type} {G : Hp} {f : α → X3.D} {nm : α → Str} : ∀ {ys : List V} {ns : List Str} {l : List α}, ns.length = ys.length → All2 (fun (x : V × Str) a => Dat K G x.1 (f a) ∧ x.2 = nm a) (ys.zip ns) l → DatL K G ys (l.map f) ∧ ns = l.map nm
  | [], [], [], _, _ => ⟨.nil, rfl⟩
  | y :: ys, n :: ns, a :: l, e, h => by
    obtain ⟨r, e2⟩ := dat_all2 (ys := ys) (ns := ns) (l := l) (by simpa using e) h.2
    exact ⟨.cons h.1.1 r, by rw [List.map_cons, e2]; exact congrArg (· :: _) h.1.2⟩
/-- sorted(xs), tuples that begin with names -/
theorem wc_sortedN {α : Type} {l : List α} {f : α → X3.D} (nm : α → Str) (rest : α → List X3.D) (hf : ∀ a, f a = .tup (.str (nm a) :: rest a)) (nd : (l.map nm).Nodup) (q : ∀ zs : List α, zs.Perm l → zs.Pairwise (fun x y => SrtNm.ltN (nm y) (nm x) = false) → Q (.list (zs.map f))) : WRC K S (rSortedN K) [.list (l.map f)] Q := fun G H vs k w dx c => by
  cases dx with
  | cons a r =>
    cases r
    cases a with
    | list h1 r1 =>
      refine ⟨_, _, l.map nm, rfl, SqL.of (w.le _ _ h1), by rw [r1.length, List.length_map, List.length_map], nd, fun i x n hx hn => ?_, fun ys ns' p hl hp hs hH => ?_⟩
      · rw [List.getElem?_map] at hn
        obtain ⟨z, hz, rfl⟩ := Option.map_eq_some_iff.mp hn
        obtain ⟨d, e, dt⟩ := r1.getV hx
        rw [List.getElem?_map, hz] at e
        cases e
        rw [hf] at dt
        cases dt with
        | tup ht rr =>
          cases rr with
          | cons ds rr =>
            cases ds
            exact ⟨_, _, rfl, le_t w.le ht.sq⟩
      · obtain ⟨zs, p1, h2⟩ := All2.perm hp (all2_dat (nm := nm) r1)
        obtain ⟨r2, e2⟩ := dat_all2 hl h2
        subst e2
        exact c _ _ _ _ (.new w hH) (.list upd_same (r2.mono (Le.new (w.fresh hH)))) (q zs p1 (List.pairwise_map.mp hs))
theorem ltN_eq {x y : Str} (h1 : SrtNm.ltN x y = false) (h2 : SrtNm.ltN y x = false) : x = y := by
  have a := List.not_lt.mp (of_decide_eq_false h1)
  have b := List.not_lt.mp (of_decide_eq_false h2)
  exact str_ext (List.le_antisymm b a)
/-- two sortings of the same things -/
theorem sorted_uniq {α : Type} {nm : α → Str} : ∀ {a b : List α}, (∀ x ∈ a, ∀ y ∈ a, nm x = nm y → x = y) → a.Perm b → (a.Pairwise fun x y => SrtNm.ltN (nm y) (nm x) = false) → (b.Pairwise fun x y => SrtNm.ltN (nm y) (nm x) = false) → a = b
  | [], b, _, p, _, _ => (List.nil_perm.mp p).symm
  | x :: a, [], _, p, _, _ => by
    have := p.length_eq
    cases this
  | x :: a, y :: b, inj, p, h1, h2 => by
    rw [List.pairwise_cons] at h1 h2
    have hy : y ∈ x :: a := p.mem_iff.mpr (by simp)
    have hx : x ∈ y :: b := p.mem_iff.mp (by simp)
    have e : x = y := by
      rcases List.mem_cons.mp hy with z | hy'
      · exact z.symm
      · rcases List.mem_cons.mp hx with z | hx'
        · exact z
        · exact inj x (by simp) y hy (ltN_eq (h2.1 x hx') (h1.1 y hy'))
    subst e
    rw [sorted_uniq (fun u hu v hv => inj u (by simp [hu]) v (by simp [hv])) (List.Perm.cons_inv p) h1.2 h2.2]
end
end X3

set_option Elab.async false
set_option linter.all false
set_option maxRecDepth 100000
set_option maxHeartbeats 4000000
namespace X3
open PySem L2
def rDictD : List V → Hp → VK → Prop := fun xs H Q => ∃ (a : Addr) (kvs : List (Key × V)), xs = [.ref a] ∧ Rd H a (.dK kvs) ∧ ∀ p, H p = none → Q (.ref p) (upd H p (.dK kvs))
section
variable {K : PySem.W.Frag} {S : Res} {ρ : Rho}
/-- dict(d) -/
theorem wf_dictD {te : TE} {Q : M → Prop} (h : WE K S te ρ fun x => ∃ kvs, x = .dict kvs ∧ Q (.dict kvs)) : WF K S (tCB rDictD (tCons te tNil)) ρ Q := fun σ G H k w sl c => by
  refine h σ G H _ w sl fun v x G1 H1 s1 d1 q => ?_
  obtain ⟨kvs, rfl, q⟩ := q
  cases d1 with
  | dict a r =>
    refine ⟨_, _, rfl, le_rd s1.w.le a, fun l hl => ?_⟩
    have gl := s1.w.fresh hl
    exact c l (.dict kvs) _ G1 _ (s1.trans (.junk s1.w (Le.new hl))) (s1.first hl) gl upd_same ⟨gl, _, upd_same, r⟩ q
theorem view_lastD {μ : Mu} {i : Nat} {kvs : List (Key × X3.D)} (h : ρ[i]? = some (.own μ.length)) : (view ρ (μ ++ [.dict kvs]))[i]? = some (.dat (.dict kvs)) := by
  unfold view
  rw [List.getElem?_map, h]
  simp [viewD]
theorem set_last {μ : Mu} {m m' : M} : (μ ++ [m]).set μ.length m' = μ ++ [m'] := by simp
end
end X3

set_option Elab.async false
set_option linter.all false
set_option maxRecDepth 100000
set_option maxHeartbeats 4000000
/-! max with a default, of a list and of a dict's values -/
namespace MxD
open PySem PySem.Spec PyProof.Rows L2
section
variable {prog : Program} {w : World} {A : Around} {R : Result → Shared → Prop} {I : Addr} {fp wr : List Addr} {n : Nat} {P : Nat → Value → Prop} {St : Nat → Heap → Prop} {kw : List (Str × Value)}
theorem word : (toString "max" ++ toString ".loop" : String) = "max.loop" := by decide
/-- the laps behind the first, whatever the words behind are -/
theorem laps (V : Walks prog w A.in1 I fp wr n P St) (bt : Nat → Nat → Bool) (cm : CmpOf prog w A.in1 .Gt P bt) {Z : Addr} (nZ : Z ∉ fp) : ∀ (r j : Nat) (s : Shared) (b : Value) (c : Nat), j + 1 + r = n → St (j + 1) s.heap → P (argBest bt j) b →
    s.heap.get? Z = some { cls := .type "list", dict := none, data := .seq #[b, b] c, slots := #[] } →
    (∀ u h2 t2, P (argBest bt (n - 1)) u → (∀ a o, a ∉ wr → a ≠ Z → s.heap.get? a = some o → h2.get? a = some o) → R (.ok (.ret u)) { s with heap := h2, toks := t2 }) →
    codeAny (model prog w) A (.builtin "max.loop" ⟨[.ref I, .none, .ref Z], kw⟩) R s := by
  have nW : Z ∉ wr := fun z => nZ (V.sub _ z)
  intro r
  induction r with
  | zero =>
    intro j s b c hj st pb atZ fin
    refine codeAny_builtin PySem.F.entry_max_loop ?_
    rw [Around.under_plainId PySem.F.plain_max_loop _]
    show wpAny _ A.in1 (seqItems? (.ref Z) >>= _) _ _ s
    refine wpAny_bind (wpAny_seqItems atZ rfl ?_)
    show wpAny _ A.in1 (tryCatch (pyNext (.ref I)) _ >>= _) _ _ s
    refine wpAny_bind (wpAny_tryCatch (V.done s _ _ (by rw [← hj]; exact st) fun h2 t2 kp => ?_))
    have atZ2 := kp Z _ nW atZ
    show wpAny _ A.in1 (updateSeq Z (fun _ => #[]) >>= _) _ _ _
    refine wpAny_bind (wpAny_updateSeq atZ2 rfl (wpAny_bind (wpAny_letGo (wpAny_pure ?_))))
    refine fin b _ t2 (by rw [show n - 1 = j by omega]; exact pb) fun a o n1 n2 e => ?_
    exact (Heap.get?_update_other _ _ (Ne.symm n2)).trans (kp a o n1 e)
  | succ r ih =>
    intro j s b c hj st pb atZ fin
    refine codeAny_builtin PySem.F.entry_max_loop ?_
    rw [Around.under_plainId PySem.F.plain_max_loop _]
    show wpAny _ A.in1 (seqItems? (.ref Z) >>= _) _ _ s
    refine wpAny_bind (wpAny_seqItems atZ rfl ?_)
    show wpAny _ A.in1 (tryCatch (pyNext (.ref I)) _ >>= _) _ _ s
    refine wpAny_bind (wpAny_tryCatch (V.item (j + 1) s _ _ (by omega) st fun u h2 t2 pu st2 kp => ?_))
    have atZ2 := kp Z _ nW atZ
    show wpAny _ A.in1 (tryCatch (holding [u, u] (richCompare .Gt u b >>= _)) _ >>= _) _ _ _
    refine wpAny_bind (wpAny_tryCatch (wpAny_holding (wpAny_bind (cm (j + 1) (argBest bt j) u b _ _ _ pu pb ?_))))
    refine wpAny_bind (wpAny_holding (wpAny_truthy_bool (wpAny_bind (wpAny_letGo (wpAny_pure ?_)))))
    cases e1 : bt (j + 1) (argBest bt j) with
    | true =>
      simp only [if_true]
      refine wpAny_bind (wpAny_updateSeq atZ2 rfl (wpAny_bind (wpAny_letGo ?_)))
      rw [word]
      refine wpAny_pure ⟨plainId_quiet PySem.F.plain_max_loop _, ih (j + 1) _ u _ (by omega) (V.frame _ _ _ st2 fun a f o e => ?_) (by simp only [argBest, e1, if_true]; exact pu) (Heap.get?_update_self _ atZ2 rfl) fun x h3 t3 px kp3 => ?_⟩
      · exact (Heap.get?_update_other _ _ fun z : Z = a => nZ (by rw [z]; exact f)).trans e
      · exact fin x h3 t3 px fun a o n1 n2 e => kp3 a o n1 n2 ((Heap.get?_update_other _ _ (Ne.symm n2)).trans (kp a o n1 e))
    | false =>
      simp only [Bool.false_eq_true, if_false]
      refine wpAny_bind (wpAny_letGo ?_)
      rw [word]
      refine wpAny_pure ⟨plainId_quiet PySem.F.plain_max_loop _, ih (j + 1) _ b c (by omega) st2 (by simp only [argBest, e1, Bool.false_eq_true, if_false]; exact pb) atZ2 fun x h3 t3 px kp3 => ?_⟩
      exact fin x h3 t3 px fun a o n1 n2 e => kp3 a o n1 n2 (kp a o n1 e)
end
theorem args_ok (a v : Value) : argsOk "max" ⟨[a], [(Str.ofString "default", v)]⟩ := by unfold argsOk; kernel_rfl
section
variable {prog : Program} {w : World} {A : Around} {E : Value → Shared → Prop} {s : Shared}
/-- max(x, default=d), x walked -/
theorem call_maxD {x d : Value} {Q : Value → Shared → Prop}
    (h : wpAny (model prog w) A.in1 (pyIter x) (fun it s2 => ∃ I fp wr n P St bt, it = .ref I ∧ Walks prog w A.in1 I fp wr n P St ∧ St 0 s2.heap ∧ (∀ b ∈ fp, b < s2.heap.objs.size) ∧ CmpOf prog w A.in1 .Gt P bt ∧
      (n = 0 → ∀ h2 t2, (∀ b o, b ∉ wr → s2.heap.get? b = some o → h2.get? b = some o) → Q d { s2 with heap := h2, toks := t2 }) ∧
      (0 < n → ∀ u h2 t2, P (argBest bt (n - 1)) u → (∀ b o, b ∉ wr → s2.heap.get? b = some o → h2.get? b = some o) → Q u { s2 with heap := h2, toks := t2 })) E s) :
    wpAny (model prog w) A (call (.builtin "max") [x] [(Str.ofString "default", d)]) Q E s := by
  refine kmk_tree PySem.F.kind_max PySem.F.plain_max PySem.F.entry_max (args_ok _ _) ?_
  show wpAny _ A.in1 (Builtin.Builtins.bindParams "max" ["key", "default"] 0 ⟨[], [(Str.ofString "default", d)]⟩ >>= _) _ _ s
  refine wpAny_bind (wpAny_of_eq (show Builtin.Builtins.bindParams "max" ["key", "default"] 0 ⟨[], [(Str.ofString "default", d)]⟩ = pure [none, some d] from rfl) ?_)
  refine wpAny_bind (wpAny_pure (wpAny_bind (wpAny_mono h (fun it s2 q => ?_) fun _ _ e => e)))
  obtain ⟨I, fp, wr, n, P, St, bt, rfl, V, st, low, cm, q0, q1⟩ := q
  refine wpAny_bind (wpAny_newObj_type ?_)
  rw [word]
  have nZ : s2.heap.objs.size ∉ fp := fun z => Nat.lt_irrefl _ (low _ z)
  have nW : s2.heap.objs.size ∉ wr := fun z => nZ (V.sub _ z)
  refine wpAny_pure ⟨plainId_quiet PySem.F.plain_max_loop _, ?_⟩
  have atZ : (s2.heap.push { cls := .type "list", dict := none, data := .seq #[] 0, slots := #[] }).get? s2.heap.objs.size = some { cls := .type "list", dict := none, data := .seq #[] 0, slots := #[] } := Heap.get?_push_size _ rfl
  have st1 := V.frame _ _ (s2.heap.push { cls := .type "list", dict := none, data := .seq #[] 0, slots := #[] }) st fun b _ o e => Heap.get?_push_of_some _ e
  have kept0 : ∀ b o, s2.heap.get? b = some o → b ≠ s2.heap.objs.size ∧ (s2.heap.push { cls := .type "list", dict := none, data := .seq #[] 0, slots := #[] }).get? b = some o := fun b o e => ⟨Nat.ne_of_lt (Heap.lt_size e), Heap.get?_push_of_some _ e⟩
  refine codeAny_builtin PySem.F.entry_max_loop ?_
  rw [Around.under_plainId PySem.F.plain_max_loop _]
  show wpAny _ A.in1 (seqItems? (.ref _) >>= _) _ _ _
  refine wpAny_bind (wpAny_seqItems atZ rfl ?_)
  show wpAny _ A.in1 (tryCatch (pyNext (.ref I)) _ >>= _) _ _ _
  by_cases hn : n = 0
  · subst hn
    refine wpAny_bind (wpAny_tryCatch (V.done _ _ _ st1 fun h2 t2 kp => ?_))
    refine wpAny_bind (wpAny_rule (wpAny_pure ?_))
    exact q0 rfl h2 t2 fun b o n1 e => kp b o n1 (kept0 b o e).2
  · refine wpAny_bind (wpAny_tryCatch (V.item 0 _ _ _ (by omega) st1 fun u h2 t2 pu st2 kp => ?_))
    have atZ2 := kp _ _ nW atZ
    show wpAny _ A.in1 (updateSeq s2.heap.objs.size (fun _ => #[u, u]) >>= _) _ _ _
    refine wpAny_bind (wpAny_updateSeq atZ2 rfl ?_)
    rw [word]
    refine wpAny_pure ⟨plainId_quiet PySem.F.plain_max_loop _, laps V bt cm nZ (n - 1) 0 _ u _ (by omega) (V.frame _ _ _ st2 fun b f o e => ?_) pu (Heap.get?_update_self _ atZ2 rfl) fun x h3 t3 px kp3 => ?_⟩
    · exact (Heap.get?_update_other _ _ fun z : s2.heap.objs.size = b => nZ (by rw [z]; exact f)).trans e
    · refine q1 (by omega) x h3 t3 px fun b o n1 e => ?_
      obtain ⟨n2, e2⟩ := kept0 b o e
      exact kp3 b o n1 n2 ((Heap.get?_update_other _ _ (Ne.symm n2)).trans (kp b o n1 e2))
end
end MxD

set_option Elab.async false
set_option linter.all false
set_option maxRecDepth 100000
set_option maxHeartbeats 4000000
/-! whole numbers of a list or of a dict's values: sum, max with a default -/
namespace X3
open PySem PySem.Spec PyProof.Rows L2
/-- a view of the values of the dict at d -/
def ViewO (a d : Addr) : HO := .ext fun h => h.IsValuesView a d
def IntsOf (K : PySem.W.Frag) (H : Hp) (x : V) (ns : List Int) : Prop := (∃ a, x = .ref a ∧ SqL K H a (ns.map V.int)) ∨ ∃ a d kvs, x = .ref a ∧ H a = some (ViewO a d) ∧ Rd H d (.dK kvs) ∧ kvs.map (·.2) = ns.map V.int
theorem kv_at {kvs : List (Key × V)} {vs : List (Key × Value)} (r : KV kvs vs) {ns : List Int} (e : kvs.map (·.2) = ns.map V.int) {i : Nat} {k : Key} {v : Value} (h : vs[i]? = some (k, v)) : ∃ t, v = .int (ns.getD i 0) t := by
  have hl : kvs.length = vs.length := Paired.length r
  have hi := (List.getElem?_eq_some_iff.mp h).1
  obtain ⟨⟨k1, y⟩, hy⟩ : ∃ p, kvs[i]? = some p := ⟨kvs[i]'(by omega), List.getElem?_eq_getElem (by omega)⟩
  obtain ⟨u, hu, ru⟩ := kv_get r hy
  rw [h] at hu
  cases hu
  have h2 : (kvs.map (·.2))[i]? = some y := by rw [List.getElem?_map, hy]; rfl
  rw [e, List.getElem?_map] at h2
  obtain ⟨z, hz, rfl⟩ := Option.map_eq_some_iff.mp h2
  obtain ⟨t, rfl⟩ := ru
  exact ⟨t, by rw [List.getD_eq_getElem?_getD, hz]; rfl⟩
section
variable {X : Cx} {pins : List (Addr × Obj)} {σ : L2.St} {H : Hp} {s : Shared}
theorem walk_ints (I : Inv X pins σ H s) (hc : X.calm = true) {x : V} {u : Value} {ns : List Int} (io : IntsOf X.K H x ns) (rx : RelV x u) {Q E : Value → Shared → Prop}
    (q : ∀ (g : Heap) (J : Addr) (fp wr : List Addr) (P : Nat → Value → Prop) (St : Nat → Heap → Prop), Walks X.prog X.w X.A.in1 J fp wr ns.length P St → St 0 g → (∀ b ∈ fp, b < g.objs.size) → (∀ i v, P i v → ∃ t, v = .int (ns.getD i 0) t) →
      (∀ h2 : Heap, (∀ b o, b ∉ wr → g.get? b = some o → h2.get? b = some o) → ∀ b o, s.heap.get? b = some o → h2.get? b = some o) → Q (.ref J) { s with heap := g }) :
    wpAny (model X.prog X.w) X.A.in1 (pyIter u) Q E s := by
  rcases io with ⟨a, rfl, hs⟩ | ⟨a, d, kvs, rfl, hv, hd, e⟩
  · cases rx
    obtain ⟨its, rv, pl, _⟩ := I.list hs
    obtain ⟨xs, ex⟩ := rv.ints.allInts.items
    have hn : xs.toList.map (·.1) = ns := by rw [← nums_intItems, ← ex]; exact rv.ints.numsOf
    have hl := pl.isList
    rw [ex] at hl
    have sz : xs.size = ns.length := by rw [← hn, List.length_map, Array.length_toList]
    refine iter_intList hl fun s2 e2 st low ne => ?_
    subst e2
    have V := Walks.list (prog := X.prog) (w := X.w) (A := X.A.in1) (I.ok.hd hc) s.heap.objs.size a ne (intItems xs)
    rw [show (intItems xs).size = ns.length by simp [intItems, sz]] at V
    refine q _ _ _ _ _ _ V st low (fun i v h => ?_) fun h2 kp => old_kept kp
    obtain ⟨t, ht⟩ := intItems_at h
    exact ⟨t, by rw [ht, numAt_eq, hn]⟩
  · cases rx
    obtain ⟨hvv, _, _⟩ : s.heap.IsValuesView a d ∧ _ ∧ _ := I.hok a _ hv
    obtain ⟨_, _, vs, kv, od⟩ := dk_rd I.hok hd
    obtain ⟨ep, at_⟩ := od.dictAt
    have len : vs.length = ns.length := by
      have h1 : kvs.length = vs.length := Paired.length kv
      have h2 := congrArg List.length e
      rw [List.length_map, List.length_map] at h2
      omega
    have dl : d < s.heap.objs.size := by
      obtain ⟨o, es, ho, _⟩ := id at_
      exact Heap.lt_size ho
    have ne : d ≠ s.heap.objs.size := Nat.ne_of_lt dl
    refine wpAny_pyIter_values hvv at_ ?_
    have V := Walks.dictValues (prog := X.prog) (w := X.w) (A := X.A.in1) (knd := mixKind X.prog X.w) (I.ok.hd hc) s.heap.objs.size d ne vs ep
    rw [len] at V
    refine q _ _ _ _ _ _ V ⟨?_, at_.push _⟩ (fun b hb => ?_) (fun i v h => ?_) fun h2 kp b o eb => ?_
    · rw [← len]
      exact ⟨_, Heap.get?_push_size _ rfl, rfl, rfl⟩
    · rw [Heap.size_push]
      rcases List.mem_cons.mp hb with rfl | hb
      · exact Nat.lt_succ_self _
      · rw [List.mem_singleton.mp hb]
        exact Nat.lt_succ_of_lt dl
    · obtain ⟨k, hk⟩ := h
      exact kv_at kv e hk
    · refine kp b o (fun z => ?_) (Heap.get?_push_of_some _ eb)
      rw [List.mem_singleton.mp z] at eb
      exact Nat.lt_irrefl _ (Heap.lt_size eb)
end
theorem pre_sum {ns : List Int} : ∀ j, j ≤ ns.length → preSum (fun i => ns.getD i 0) j = (ns.take j).sum
  | 0, _ => by simp [preSum]
  | j + 1, h => by
    rw [preSum, pre_sum j (by omega), List.take_add_one, List.sum_append, List.getElem?_eq_getElem (by omega)]
    simp [List.getD_eq_getElem?_getD, List.getElem?_eq_getElem (show j < ns.length by omega)]
def rSumA (K : PySem.W.Frag) : List V → Hp → VK → Prop := fun vs H Q => ∃ (x : V) (ns : List Int), vs = [x] ∧ IntsOf K H x ns ∧ Q (.int ns.sum) H
theorem cr_sumA {X : Cx} (hc : X.calm = true) : CallR X (.builtin "sum") (rSumA X.K) := by
  intro pins s σ H vs us Q I r h
  obtain ⟨x, ns, rfl, io, q⟩ := h
  cases r with
  | cons r0 rr =>
  cases rr
  refine call_sum_walkG (walk_ints I hc io r0 fun g J fp wr P St V st low vals kp => ?_)
  refine ⟨J, fp, wr, ns.length, P, St, fun i => ns.getD i 0, rfl, V, st, low, vals, fun h2 tk t2 k2 => ?_⟩
  rw [pre_sum _ (Nat.le_refl _), List.take_of_length_le (Nat.le_refl _)]
  exact ⟨.int _, H, I.kept (kp h2 k2), ⟨_, rfl⟩, q⟩
/-- max(xs, default=d) -/
def maxB (K : PySem.W.Frag) (x y : V) (H2 : Hp) (Q : VK) : Prop := ∃ (ns : List Int) (d : Int), y = .int d ∧ IntsOf K H2 x ns ∧ (ns = [] → Q (.int d) H2) ∧ ∀ m ∈ ns, (∀ z ∈ ns, z ≤ m) → Q (.int m) H2
def tMaxD (K : PySem.W.Frag) (te td : TE) : TE := fun σ H Q => te σ H fun x H1 => td σ H1 fun y H2 => maxB K x y H2 Q
def mx1 (K : PySem.W.Frag) (td : TE) (σ : L2.St) (Q : VK) : List V → Hp → Prop := fun vs H1 => match vs with
  | [x] => td σ H1 fun y H2 => maxB K x y H2 Q
  | _ => False
def mx2 (K : PySem.W.Frag) (x : V) (Q : VK) : List V → Hp → Prop := fun zs H2 => match zs with
  | [y] => maxB K x y H2 Q
  | _ => False
theorem cr_maxA {X : Cx} (hc : X.calm = true) {pins : List (Addr × Obj)} {s : Shared} {σ : L2.St} {H : Hp} {Q : VK} {x y : V} {u v : Value} (I : Inv X pins σ H s) (rx : RelV x u) (ry : RelV y v) (h : maxB X.K x y H Q) :
    wpAny (model X.prog X.w) X.A (call (.builtin "max") [u] [(Str.ofString "default", v)]) (EP X pins σ Q) X.xe s := by
  obtain ⟨ns, d, rfl, io, q0, q1⟩ := h
  obtain ⟨t, rfl⟩ := ry
  refine MxD.call_maxD (walk_ints I hc io rx fun g J fp wr P St V st low vals kp => ?_)
  refine ⟨J, fp, wr, ns.length, P, St, _, rfl, V, st, low, CmpOf.ints_gt (fun i => ns.getD i 0) vals, fun e h2 t2 k2 => ?_, fun e z h2 t2 pz k2 => ?_⟩
  · exact ⟨.int _, H, I.kept (kp h2 k2), ⟨_, rfl⟩, q0 (List.length_eq_zero_iff.mp e)⟩
  · obtain ⟨t3, rfl⟩ := vals _ _ pz
    obtain ⟨a1, a2⟩ := argBest_gt (fun i => ns.getD i 0) (ns.length - 1)
    refine ⟨.int _, H, I.kept (kp h2 k2), ⟨_, rfl⟩, q1 _ (getD_mem (by omega)) fun w hw => ?_⟩
    obtain ⟨j, hj, rfl⟩ := mem_getD hw
    exact a2 j (by omega)
theorem pe_maxD {X : Cx} {e ed : Expr} {te td : TE} {p kp pos : Pos} (hc : X.calm = true) (hg : Gl X "max") (hm : X.mg "max" = none) (he : PE X e te) (hd : PE X ed td)
    (hst : backTo pos (starEach [e] X.env) = (false, eval e X.env) :: backTo pos (starEach [] X.env) := by rfl) (hs : starEach [e] X.env = (false, eval e X.env) :: starEach [] X.env := by rfl)
    (hpl : (backTo pos (starEach [e] X.env)).any (·.1) = false := by rfl) : PE X (.Call (.Name "max" p) [e] [⟨some "default", ed, kp⟩] pos) (tMaxD X.K te td) := by
  refine ⟨fun pins s σ H Q I h => ?_⟩
  refine wpAny_Call_Name_kw (ld_blt I hg hm PyProof.Rows.boot_max ?_ (by decide) (by decide))
  refine callWith_kw ?_ hst hpl rfl rfl
  refine thn ((pa_cons he pa_nil hs).run pos pins s σ H (mx1 X.K td σ Q) I h) fun us s1 ⟨vs, H1, I1, r1, q1⟩ => ?_
  match vs, q1 with
  | [x], q1 =>
    cases r1 with
    | cons rx rr =>
    cases rr
    refine thn ((pk_cons (kws := []) hd pk_nil).run pos pins s1 σ H1 (mx2 X.K x Q) I1 q1) fun ws s2 ⟨zs, H2, I2, r2, q2⟩ => ?_
    match zs, q2 with
    | [y], q2 =>
      cases r2 with
      | cons ry rr =>
      cases rr
      exact cr_maxA hc I2 rx ry q2
/-- d.values(), as a thing -/
def tVals (td : TE) : TE := fun σ H Q => td σ H fun x H1 => ∃ d kvs, x = .ref d ∧ Rd H1 d (.dK kvs) ∧ ∀ p, H1 p = none → Q (.ref p) (upd H1 p (ViewO p d))
theorem pe_vals {X : Cx} {e : Expr} {td : TE} {apos cpos : Pos} (he : PE X e td) (hbase : attributeBase e "values" X.env (eval e X.env) = eval e X.env := by rfl) (hline : (apos.endLine == cpos.line) = true := by rfl) :
    PE X (.Call (.Attribute e "values" apos) [] [] cpos) (tVals td) := by
  refine ⟨fun pins s σ H Q I h => ?_⟩
  refine wpAny_Call_method (T := "dict") (id := "dict.values") hbase rfl hline F.plainAttrs_dict F.slot_dict_values F.type_dict_values (thn (he.run pins s σ H _ I h) fun u s1 ⟨x, H1, I1, rx, d, kvs, ex, hd, q⟩ => ?_)
  subst ex
  obtain rfl : u = Value.ref d := rx
  obtain ⟨_, far, vs, kv, od⟩ := dk_rd I1.hok hd
  obtain ⟨ep, at_⟩ := od.dictAt
  refine ⟨od.typeIs, od.mapOf.noDict, ?_⟩
  have free := I1.hok.fresh (Nat.le_refl s1.heap.objs.size)
  have ov : ObjOk X.prog X.w (upd H1 s1.heap.objs.size (ViewO s1.heap.objs.size d)) (s1.heap.push { cls := .type "dict_values", data := .fields #[.ref d] }) s1.heap.objs.size (ViewO s1.heap.objs.size d) :=
    ⟨⟨_, Heap.get?_push_size _ rfl, rfl, rfl⟩, ⟨_, Heap.get?_push_size _ rfl⟩, fun h1 h2 ⟨o, e1, r⟩ k => ⟨o, k o e1, r⟩⟩
  have fin : EP X pins σ Q (.ref s1.heap.objs.size) { s1 with heap := s1.heap.push { cls := .type "dict_values", data := .fields #[.ref d] } } :=
    ⟨.ref s1.heap.objs.size, _, I1.laid (t' := s1.toks) (fun b u e => Heap.get?_push_of_some _ e) (Nat.le_refl _) ov, rfl, q _ free⟩
  show wpAny _ _ (callWith cpos (.builtin "dict.values") [.ref d] [] []) _ X.xe s1
  exact method_meetsIn F.slot_dict_values F.entry_dict_values rfl (PySem.evalArgs_none ⟨rfl, od.typeIs, F.args_dict_values_1 _, _, meets_dict_values (mixKind X.prog X.w) d far, ⟨vs, od⟩, fin⟩)
end X3

set_option Elab.async false
set_option linter.all false
set_option maxRecDepth 100000
set_option maxHeartbeats 4000000
namespace X3
open PySem L2
section
variable {K : PySem.W.Frag} {S : Res} {ρ : Rho} {N : EndsD} {μ : Mu} {Q : X3.D → Prop} {P : List X3.D → Prop} {P2 : Rho → Prop} {te : TE}
/-! ### sums, greatest ones -/
theorem wc_sumA {ns : List Int} (q : Q (.int ns.sum)) : WRC K S (rSumA K) [.list (ns.map .int)] Q := fun G H vs k w dx c => by
  cases dx with
  | cons a r =>
    cases r
    cases a with
    | list h r =>
      rw [r.ints] at h
      exact ⟨_, ns, rfl, .inl ⟨_, rfl, SqL.of (w.le _ _ h)⟩, c _ _ G H (.refl w) (.int _) q⟩
theorem DatK.ints {G : Hp} : ∀ {vs : List (Key × V)} {kvs : List (Key × X3.D)} {ns : List Int}, DatK K G vs kvs → kvs.map (·.2) = ns.map X3.D.int → vs.map (·.2) = ns.map V.int
  | _, _, [], .nil, _ => rfl
  | _, _, n :: ns, .cons h r, e => by
    injection e with e1 e2
    subst e1
    cases h
    rw [List.map_cons, List.map_cons, DatK.ints r e2]
/-- sum(d.values()) -/
theorem we_sumV {td : TE} (h : WE K S td ρ fun x => ∃ (kvs : List (Key × X3.D)) (ns : List Int), x = .dict kvs ∧ kvs.map (·.2) = ns.map X3.D.int ∧ Q (.int ns.sum)) : WE K S (tCB (rSumA K) (tCons (tVals td) tNil)) ρ Q := fun σ G H k w sl c =>
  h σ G H _ w sl fun v x G1 H1 s1 d1 q => by
    obtain ⟨kvs, ns, rfl, e, q⟩ := q
    cases d1 with
    | dict a r =>
      rename_i ad ks
      refine ⟨ad, ks, rfl, le_rd s1.w.le a, fun p hp => ?_⟩
      have s2 := Stp.junk s1.w (Le.new (o := ViewO p ad) hp)
      exact ⟨_, ns, rfl, .inr ⟨p, _, _, rfl, upd_same, le_rd (Le.new hp) (le_rd s1.w.le a), r.ints e⟩, c _ _ G1 _ (s1.trans s2) (.int _) q⟩
theorem we_maxD {te td : TE} (h : WE K S te ρ fun x => WE K S td ρ fun y => ∃ (ns : List Int) (d : Int), x = .list (ns.map .int) ∧ y = .int d ∧ (ns = [] → Q (.int d)) ∧ ∀ m ∈ ns, (∀ z ∈ ns, z ≤ m) → Q (.int m)) : WE K S (tMaxD K te td) ρ Q := fun σ G H k w sl c =>
  h σ G H _ w sl fun v x G1 H1 s1 d1 h1 => h1 σ G1 H1 _ s1.w (sl.mono s1.gg) fun v2 y G2 H2 s2 d2 q => by
    obtain ⟨ns, d, rfl, rfl, q0, q1⟩ := q
    cases d2
    cases d1.mono s2.gg with
    | list h r =>
      rw [r.ints] at h
      exact ⟨ns, d, rfl, .inl ⟨_, rfl, SqL.of (s2.w.le _ _ h)⟩, fun z => c _ _ G2 H2 (s1.trans s2) (.int _) (q0 z), fun m hm hle => c _ _ G2 H2 (s1.trans s2) (.int _) (q1 m hm hle)⟩
/-- max(d.values(), default=i) -/
theorem we_maxV {te : TE} {i : Int} (h : WE K S te ρ fun x => ∃ (kvs : List (Key × X3.D)) (ns : List Int), x = .dict kvs ∧ kvs.map (·.2) = ns.map X3.D.int ∧ (ns = [] → Q (.int i)) ∧ ∀ m ∈ ns, (∀ z ∈ ns, z ≤ m) → Q (.int m)) : WE K S (tMaxD K (tVals te) (tC (.int i))) ρ Q := fun σ G H k w sl c =>
  h σ G H _ w sl fun v x G1 H1 s1 d1 q => by
    obtain ⟨kvs, ns, rfl, e, q0, q1⟩ := q
    cases d1 with
    | dict a r =>
      rename_i ad ks
      refine ⟨ad, ks, rfl, le_rd s1.w.le a, fun p hp => ?_⟩
      have st := s1.trans (Stp.junk s1.w (Le.new (o := ViewO p ad) hp))
      exact ⟨ns, i, rfl, .inr ⟨p, _, _, rfl, upd_same, le_rd (Le.new hp) (le_rd s1.w.le a), r.ints e⟩, fun z => c _ _ G1 _ st (.int _) (q0 z), fun m hm hle => c _ _ G1 _ st (.int _) (q1 m hm hle)⟩
/-! ### reversed(list) walked -/
theorem iter_rev {G : Hp} {a : Addr} {xs : List V} {ds : List X3.D} (h : G a = some (.lst xs)) (r : DatL K G xs ds) : IterOk K S (Itv K a xs.length) G ds.reverse :=
  ⟨_, _, by rw [List.length_reverse, ← r.length]; exact walk_rev (xs := xs), fun H le => SqL.of (le _ _ h), fun i H x H' G1 hi le w y => by
    obtain ⟨rfl, e⟩ := y
    obtain ⟨d, e1, e2⟩ := r.getV e
    rw [List.length_reverse] at hi
    exact ⟨d, G1, by rw [List.getElem?_reverse hi, ← r.length]; exact e1, .refl w, e2.mono le⟩⟩
theorem wi_rev (h : WE K S te ρ fun d => ∃ ds, d = .list ds ∧ P ds.reverse) : WI K S (iRev K (tCons te tNil)) ρ P := fun σ G H R w s c =>
  h σ G H _ w s fun v d G' H' st dt q => by
    obtain ⟨ds, rfl, q⟩ := q
    cases dt with
    | list h1 r => exact ⟨_, _, rfl, SqL.of (st.w.le _ _ h1), c _ _ G' H' st (iter_rev h1 r) q⟩
/-! ### names[k] = v, v read of one's own -/
theorem ws_dputv {j i : Nat} {kvs : List (Key × X3.D)} {ty tv : TE} (hi : ρ[i]? = some (.own j)) (hj : μ[j]? = some (.dict kvs)) (hz : kvs.length < 100000) (h : WE K S tv (view ρ μ) fun z => scalD z = true ∧ WE K S ty (view ρ μ) fun y => ∃ k, y = kD k ∧ N.nx ρ (μ.set j (.dict (putD kvs k z)))) :
    WS K S (sDPut (tVar i) ty tv) ρ μ N := fun G0 H0 σ H E w0 r f => by
  obtain ⟨G, as, r⟩ := r
  obtain ⟨a, ha, hs⟩ := r.own i j hi
  obtain ⟨G1, le, s1, sl, fr⟩ := r.freeze w0
  refine h σ G1 H _ s1.w sl fun vz z G2 H2 s2 d2 h1 => ⟨_, hs, ?_⟩
  obtain ⟨sz, h1⟩ := h1
  refine h1 σ G2 H2 _ s2.w (sl.mono s2.gg) fun vy y G3 H3 s3 d3 q => ?_
  obtain ⟨k, rfl, q⟩ := q
  have r' := r.unfreeze w0 le fr (s2.trans s3)
  obtain ⟨_, _, hg, xs, hx, dx⟩ := r'.cell j a _ ha hj
  refine ⟨a, _, rfl, .inl ⟨xs, k, hx, kD_v d3, by rw [dx.length]; exact Nat.lt_of_lt_of_le hz (by decide), rfl⟩, ?_⟩
  exact f.nx _ _ _ _ ⟨G, as, r'.put (m := .dict (putD kvs k z)) w0 ha hj hg ⟨hg, _, upd_same, dx.put (scal_any d2 sz)⟩⟩ q
/-- i -= n -/
theorem ws_decI {i : Nat} {a : Int} {te : TE} (hi : ρ[i]? = some (.dat (.int a))) (h : WE K S te (view ρ μ) fun d => ∃ b, d = .int b ∧ N.nx (ρ.set i (.dat (.int (a - b)))) μ) : WS K S (tAug i te (ipI fun i j => i - j)) ρ μ N := fun G0 H0 σ H E w0 r f => by
  obtain ⟨G, as, r⟩ := r
  obtain ⟨v, e, dv⟩ := r.sl.2 i _ hi
  cases dv
  obtain ⟨G1, le, s1, sl, fr⟩ := r.freeze w0
  refine ⟨_, e, h σ G1 H _ s1.w sl fun v d G' H' s dt q => ?_⟩
  obtain ⟨b, rfl, q⟩ := q
  cases dt
  exact ⟨a, b, rfl, rfl, f.nx _ _ _ _ ⟨G, as, (r.unfreeze w0 le fr s).set (.int _)⟩ q⟩
/-- a, b = a list -/
theorem wg_lst {is : List Nat} {g : TGs} {n : Nat} {ds : List X3.D} (hn : ds.length = n) (h : WGs K is g ds ρ P2) : WG K is (gLst K n g) (.list ds) ρ P2 := fun σ G H v k le sl dt c => by
  cases dt with
  | list h1 r => exact ⟨_, _, rfl, SqL.of (le _ _ h1), by rw [r.length]; exact hn, h σ G H _ k le sl r c⟩
end
/-! ### a dict that is walked -/
section
variable {K : PySem.W.Frag} {G : Hp} {d : Addr} {od : Obj} {ks : List (Key × V)}
theorem frz_ne {G : Hp} {d a : Addr} {o o' : HO} (hd : G d = some o) (h : G a = some o') (ne : o' ≠ o) : a ≠ d := fun z => by
  rw [z, hd] at h
  exact ne (Option.some.inj h).symm
theorem lock_t {K : PySem.W.Frag} {G : Hp} {d : Addr} {od : Obj} {ks : List (Key × V)} (hd : G d = some (.dK ks)) {a : Addr} {xs : List V} (h : SqT K G a xs) : SqT K (upd G d (.frz od (.dK ks))) a xs := by
  rcases h with (z | ⟨o, z⟩) | z
  · exact .inl (.inl (by rw [upd_ne (frz_ne hd z (fun z => nomatch z))]; exact z))
  · exact .inl (.inr ⟨o, by rw [upd_ne (frz_ne hd z (fun z => nomatch z))]; exact z⟩)
  · exact .inr z
theorem lock_td {G : Hp} {d : Addr} {od : Obj} {ks : List (Key × V)} (hd : G d = some (.dK ks)) {a : Addr} {P : Program} {w : World} {ws : List TEnt} (h : G a = some (TdO P w a ws)) : (upd G d (.frz od (.dK ks))) a = some (TdO P w a ws) := by
  rw [upd_ne (frz_ne hd h (fun z => by unfold TdO at z; cases z))]
  exact h
mutual
theorem Dat.lock (hd : G d = some (.dK ks)) : ∀ {v : V} {x : X3.D}, Dat K G v x → Dat K (upd G d (.frz od (.dK ks))) v x
  | _, _, .non => .non
  | _, _, .bl b => .bl b
  | _, _, .int i => .int i
  | _, _, .str x => .str x
  | _, _, .list h r => .list (by rw [upd_ne (frz_ne hd h (fun z => nomatch z))]; exact h) (DatL.lock hd r)
  | _, _, .tup h r => .tup (by
      refine ⟨?_, h.slim.imp (fun ⟨o, u, z, q⟩ => ⟨o, u, by rw [upd_ne (frz_ne hd z (fun z => nomatch z))]; exact z, q⟩) id⟩
      rcases h.sq with (z | ⟨o, z⟩) | z
      · exact .inl (.inl (by rw [upd_ne (frz_ne hd z (fun z => nomatch z))]; exact z))
      · exact .inl (.inr ⟨o, by rw [upd_ne (frz_ne hd z (fun z => nomatch z))]; exact z⟩)
      · exact .inr z) (DatL.lock hd r)
  | _, _, .wtup h r => .wtup (by
      rcases h with (z | ⟨o, z⟩) | z
      · exact .inl (.inl (by rw [upd_ne (frz_ne hd z (fun z => nomatch z))]; exact z))
      · exact .inl (.inr ⟨o, by rw [upd_ne (frz_ne hd z (fun z => nomatch z))]; exact z⟩)
      · exact .inr z) (DatL.lock hd r)
  | _, _, .dict (a := a) h r => .dict (by
      by_cases e : a = d
      · subst e
        rcases h with z | ⟨o, z⟩
        · rw [hd] at z
          cases z
          exact .inr ⟨od, upd_same⟩
        · rw [hd] at z
          cases z
      · rcases h with z | ⟨o, z⟩
        · exact .inl (by rw [upd_ne e]; exact z)
        · exact .inr ⟨o, by rw [upd_ne e]; exact z⟩) (DatK.lock hd r)
  | _, _, .dt h r => .dt (lock_td hd h) (DatT.lock hd r)
  | _, _, .fz h r => .fz (by rw [upd_ne (frz_ne hd h (fun z => nomatch z))]; exact h) (DatK.lock hd r)
  | _, _, .obj h r => .obj (by rw [upd_ne (frz_ne hd h (fun z => nomatch z))]; exact h) (DatF.lock hd r)
  | _, _, .exc0 h => .exc0 (by rw [upd_ne (frz_ne hd h (fun z => nomatch z))]; exact h)
  | _, _, .exc1 h h2 r => .exc1 (by rw [upd_ne (frz_ne hd h (fun z => nomatch z))]; exact h) (by rw [upd_ne (frz_ne hd h2 (fun z => nomatch z))]; exact h2) (DatF.lock hd r)
  | _, _, .kset h => .kset (by rw [upd_ne (frz_ne hd h (fun z => nomatch z))]; exact h)
  | _, _, .val v => .val v
theorem DatL.lock (hd : G d = some (.dK ks)) : ∀ {v : List V} {x : List X3.D}, DatL K G v x → DatL K (upd G d (.frz od (.dK ks))) v x
  | _, _, .nil => .nil
  | _, _, .cons h r => .cons (Dat.lock hd h) (DatL.lock hd r)
theorem DatK.lock (hd : G d = some (.dK ks)) : ∀ {v : List (Key × V)} {x : List (Key × X3.D)}, DatK K G v x → DatK K (upd G d (.frz od (.dK ks))) v x
  | _, _, .nil => .nil
  | _, _, .cons h r => .cons (Dat.lock hd h) (DatK.lock hd r)
theorem DatT.lock (hd : G d = some (.dK ks)) : ∀ {v : List TEnt} {x : List (List Key × X3.D)}, DatT K G v x → DatT K (upd G d (.frz od (.dK ks))) v x
  | _, _, .nil => .nil
  | _, _, .cons z h r => .cons (lock_t hd z) (Dat.lock hd h) (DatT.lock hd r)
theorem DatF.lock (hd : G d = some (.dK ks)) : ∀ {v : List (Str × V)} {x : List (Str × X3.D)}, DatF K G v x → DatF K (upd G d (.frz od (.dK ks))) v x
  | _, _, .nil => .nil
  | _, _, .cons h r => .cons (Dat.lock hd h) (DatF.lock hd r)
end
end
def flatD : X3.D → Bool
  | .list ds => ds.all scalD
  | d => scalD d
theorem flat_any {K : PySem.W.Frag} {G G' : Hp} {v : V} {x : X3.D} (h : Dat K G v x) (f : flatD x = true) (k : ∀ a xs, G a = some (.lst xs) → G' a = some (.lst xs)) : Dat K G' v x := by
  cases h with
  | list h r => exact .list (k _ _ h) (scal_L r f)
  | non => exact .non
  | bl => exact .bl _
  | int => exact .int _
  | str => exact .str _
  | val => exact .val _
  | _ => cases f
section
variable {K : PySem.W.Frag} {S : Res} {ρ : Rho} {Q : X3.D → Prop} {P : List X3.D → Prop}
/-- te runs while the dict in slot i is locked -/
theorem we_lock {t : TE} {i : Nat} {kvs : List (Key × X3.D)} (hi : ρ[i]? = some (.dat (.dict kvs))) (h : WE K S t (ρ.set i (.dat (.fz kvs))) fun r => flatD r = true ∧ Q r) : WE K S (tEither (tLockE t) t) ρ Q := fun σ G H k w sl c => by
  obtain ⟨v, e, dv⟩ := sl.get i _ hi
  have hil : i < ρ.length := (List.getElem?_eq_some_iff.mp hi).1
  cases dv with
  | dict a r =>
    rename_i ad vs
    rcases a with a | ⟨o, a⟩
    · refine .inl ⟨ad, _, w.le _ _ a, trivial, fun od => ?_⟩
      have w1 : Wld S (upd G ad (.frz od (.dK vs))) (upd H ad (.frz od (.dK vs))) := by
        have nf : ¬ S.fp ad := fun z => by rw [w.sep _ z] at a; cases a
        refine ⟨fun b u q => ?_, S.loc H _ (fun b f => (upd_ne (fun z : b = ad => nf (by rw [← z]; exact f))).symm) w.src, fun b f => ?_⟩
        · by_cases x : b = ad
          · subst x
            rw [upd_same] at q ⊢
            exact q
          · rw [upd_ne x] at q ⊢
            exact w.le b u q
        · rw [upd_ne (fun z : b = ad => nf (by rw [← z]; exact f))]
          exact w.sep b f
      have nf : ¬ S.fp ad := fun z => by rw [w.sep _ z] at a; cases a
      have sl1 : Slots K (upd G ad (.frz od (.dK vs))) σ (ρ.set i (.dat (.fz kvs))) := ⟨by rw [List.length_set]; exact sl.len, fun j x q => by
        by_cases z : i = j
        · subst z
          rw [List.getElem?_set_self hil] at q
          cases q
          exact ⟨_, e, .fz upd_same (r.lock a)⟩
        · rw [List.getElem?_set_ne z] at q
          obtain ⟨u, e2, d2⟩ := sl.get j x q
          exact ⟨u, e2, d2.lock a⟩⟩
      refine h σ _ _ _ w1 sl1 fun u x G' H' st dt q => ?_
      have g1 : G' ad = some (.frz od (.dK vs)) := st.gg _ _ upd_same
      have h1 : H' ad = some (.frz od (.dK vs)) := st.w.le _ _ g1
      refine ⟨h1, c u x (upd G' ad (.dK vs)) _ ⟨fun b o e2 => ?_, fun b o n e2 => ?_, fun b o e2 => ?_, ⟨fun b o e2 => ?_, S.loc H' _ (fun b f => (upd_ne (fun z : b = ad => nf (by rw [← z]; exact f))).symm) st.w.src, fun b f => ?_⟩⟩ (flat_any dt q.1 fun b xs e2 => ?_) q.2⟩
      · by_cases z : b = ad
        · subst z
          rw [a] at e2
          rw [upd_same]
          exact e2
        · rw [upd_ne z]
          exact st.gg b o (by rw [upd_ne z]; exact e2)
      · by_cases z : b = ad
        · subst z
          rw [w.le _ _ a] at e2
          rw [upd_same]
          exact e2
        · rw [upd_ne z]
          exact st.hh b o n (by rw [upd_ne z]; exact e2)
      · by_cases z : b = ad
        · subst z
          rw [upd_same] at e2
          exact .inl (by rw [a]; exact e2)
        · rw [upd_ne z] at e2
          rcases st.nw b o e2 with y | y
          · rw [upd_ne z] at y
            exact .inl y
          · rw [upd_ne z] at y
            exact .inr y
      · by_cases z : b = ad
        · subst z
          rw [upd_same] at e2 ⊢
          exact e2
        · rw [upd_ne z] at e2 ⊢
          exact st.w.le b o e2
      · rw [upd_ne (fun z : b = ad => nf (by rw [← z]; exact f))]
        exact st.w.sep b f
      · rw [upd_ne (frz_ne g1 e2 (fun z => nomatch z))]
        exact e2
    · refine .inr (h σ G H _ w ⟨by rw [List.length_set]; exact sl.len, fun j x q => ?_⟩ fun u x G' H' st dt q => c u x G' H' st dt q.2)
      by_cases z : i = j
      · subst z
        rw [List.getElem?_set_self hil] at q
        cases q
        exact ⟨_, e, .fz a r⟩
      · rw [List.getElem?_set_ne z] at q
        exact sl.get j x q
/-- what is locked may be read -/
theorem we_fz {t : TE} {i : Nat} {kvs : List (Key × X3.D)} (hi : ρ[i]? = some (.dat (.fz kvs))) (h : WE K S t (ρ.set i (.dat (.dict kvs))) Q) : WE K S t ρ Q := fun σ G H k w sl c => by
  refine h σ G H k w ⟨by rw [List.length_set]; exact sl.len, fun j x q => ?_⟩ c
  by_cases z : i = j
  · subst z
    rw [List.getElem?_set_self (List.getElem?_eq_some_iff.mp hi).1] at q
    cases q
    obtain ⟨v, e, dv⟩ := sl.get i _ hi
    cases dv with
    | fz a r => exact ⟨_, e, .dict (.inr ⟨_, a⟩) r⟩
  · rw [List.getElem?_set_ne z] at q
    exact sl.get j x q
theorem wt_fz {t : TT} {i : Nat} {kvs : List (Key × X3.D)} {P : Bool → Prop} (hi : ρ[i]? = some (.dat (.fz kvs))) (h : WT K S t (ρ.set i (.dat (.dict kvs))) P) : WT K S t ρ P := fun σ G H k w sl c => by
  refine h σ G H k w ⟨by rw [List.length_set]; exact sl.len, fun j x q => ?_⟩ c
  by_cases z : i = j
  · subst z
    rw [List.getElem?_set_self (List.getElem?_eq_some_iff.mp hi).1] at q
    cases q
    obtain ⟨v, e, dv⟩ := sl.get i _ hi
    cases dv with
    | fz a r => exact ⟨_, e, .dict (.inr ⟨_, a⟩) r⟩
  · rw [List.getElem?_set_ne z] at q
    exact sl.get j x q
theorem DatK.keyAt {G : Hp} : ∀ {vs : List (Key × V)} {kvs : List (Key × X3.D)} {i : Nat} {k : Key} {v : V}, DatK K G vs kvs → vs[i]? = some (k, v) → (kvs.map fun kv => kD kv.1)[i]? = some (kD k)
  | _, _, _, _, _, .nil, e => by simp at e
  | _, _, 0, _, _, .cons h r, e => by
    cases e
    rfl
  | _, _, i + 1, _, _, .cons h r, e => by
    rw [List.map_cons, List.getElem?_cons_succ]
    exact DatK.keyAt r (by simpa using e)
/-- for k in d, d locked -/
theorem wi_keys {te : TE} (h : WE K S te ρ fun x => ∃ kvs, x = .fz kvs ∧ P (kvs.map fun kv => kD kv.1)) : WI K S (iKeys te) ρ P := fun σ G H R w s c =>
  h σ G H _ w s fun v d G' H' st dt q => by
    obtain ⟨kvs, rfl, q⟩ := q
    cases dt with
    | fz h1 r =>
      refine ⟨_, _, rfl, .inl ⟨_, st.w.le _ _ h1, c _ _ G' H' st ⟨_, _, by rw [List.length_map, ← r.length]; exact walk_keys, fun H le => le _ _ h1, fun i H x H' G1 hi le w y => ?_⟩ q⟩⟩
      obtain ⟨rfl, k, v, e, rfl⟩ := y
      exact ⟨_, G1, r.keyAt e, .refl w, kD_dat k⟩
end
end X3
namespace X3
open PySem L2
def tEitherS (a b : TS) : TS := fun D σ H => a D σ H ∨ b D σ H
theorem ps_either {X : Cx} {st : Stmt} {a b : TS} (ha : PS X st a) (hb : PS X st b) : PS X st (tEitherS a b) := ⟨fun pins s σ H D I h => h.elim (ha.run pins s σ H D I) (hb.run pins s σ H D I)⟩
section
variable {K : PySem.W.Frag} {S : Res} {ρ : Rho} {N : EndsD} {μ : Mu}
/-- x = [.. for k in d ..] -/
theorem ws_asgL {te : TE} {i : Nat} (h : WE K S (tEither (tLockE te) te) ρ fun d => N.nx (ρ.set i (.dat d)) μ) : WS K S (tEitherS (tLock (tAsg te (gName i))) (tAsg te (gName i))) ρ μ N := fun G0 H0 σ H E w0 r f => by
  rcases ws_asg h G0 H0 σ H E w0 r f with ⟨d, u, hd, mu, q⟩ | q
  · exact .inl ⟨d, u, hd, mu, q⟩
  · exact .inr q
end
end X3

set_option Elab.async false
set_option linter.all false
set_option maxRecDepth 100000
set_option maxHeartbeats 4000000
namespace X3
open PySem L2
/-- a text times 1 -/
def rStr1 : R2 := fun x y H Q => ∃ z, x = .str z ∧ y = .int 1 ∧ z.length ≤ sizeLine ∧ Q (.str z) H
theorem op_str1 {X : Cx} : OpR X (binaryOp .Mult) rStr1 := by
  intro pins st σ H x y v u Q I rx ry h
  obtain ⟨z, rfl, rfl, hz, q⟩ := h
  obtain ⟨t, rfl⟩ := rx
  obtain ⟨t', rfl⟩ := ry
  refine PySem.P.mul_str (by decide) (fun _ e => by simp at e) (fun _ e => by simp at e) ?_
  rw [if_neg (by decide : ¬ (1 : Int) < 1)]
  simp only [beq_self_eq_true, Bool.true_or, if_true]
  exact ⟨.str z, H, I, ⟨_, rfl⟩, q⟩
def rTimesS : R2 := rOr rTimes rStr1
theorem op_timesS {X : Cx} : OpR X (binaryOp .Mult) rTimesS := op_times.or op_str1
theorem wt_s1 {K : PySem.W.Frag} {S : Res} {Q : X3.D → Prop} {z : Str} (hz : z.length ≤ 1000) (q : Q (.str z)) : WR2 K S rTimesS (.str z) (.int 1) Q := wr_or2 fun G H vx vy k w dx dy c => by
  cases dx
  cases dy
  exact ⟨z, rfl, rfl, Nat.le_trans hz (by decide), c _ _ G H (.refl w) (.str _) q⟩
theorem wt_ss {K : PySem.W.Frag} {S : Res} {Q : X3.D → Prop} {z : Str} {n : Int} (ok : StrRepOk z n) (q : Q (.str (strRep z n))) : WR2 K S rTimesS (.str z) (.int n) Q := wr_or1 (wt_s ok q)
end X3
namespace X3
open PySem L2
theorem ws_mid {K : PySem.W.Frag} {S : Res} {ρ : Rho} {N : EndsD} {μ : Mu} {t u : TS} (I : Rho → Mu → Prop) (h : WS K S t ρ μ { N with nx := I }) (h2 : ∀ ρ' μ', I ρ' μ' → WS K S u ρ' μ' N) : WS K S (tSeq t u) ρ μ N :=
  ws_seq (ws_imp h h2 (fun _ h => h) (fun _ _ h => h) (fun _ _ h => h))
end X3
namespace X3
open PySem L2
theorem ws_to {K : PySem.W.Frag} {S : Res} {ρ ρ' : Rho} {N : EndsD} {μ : Mu} {t : TS} (e : ρ = ρ') (h : WS K S t ρ' μ N) : WS K S t ρ μ N := e ▸ h
end X3

set_option Elab.async false
set_option linter.all false
set_option maxRecDepth 100000
set_option maxHeartbeats 4000000
namespace X3
open PySem L2
section
variable {K : PySem.W.Frag} {S : Res} {ρ : Rho} {N : EndsD} {μ : Mu} {te : TE}
/-- xs.append(e): one's own list alone, read by e, which gives a tuple of texts -/
theorem ws_appendW {i : Nat} {ds : List X3.D} (hi : ρ[i]? = some (.own 0)) (hz : ds.length < 100000) (h : WE K S te (view ρ [.lst ds]) fun d => ∃ xs : List Str, d = .tup (xs.map .str) ∧ N.nx ρ [.lst (ds ++ [d])]) :
    WS K S (tDrop (tBM K "list" rAppend (tVar i) (tCons te tNil))) ρ [.lst ds] N := fun G0 H0 σ H E w0 r f => by
  obtain ⟨G, as, r⟩ := r
  obtain ⟨a, ha, hs⟩ := r.own i 0 hi
  obtain ⟨c0, c1, ga, xs0, hx0, dx0⟩ := r.cell 0 a _ ha rfl
  refine ⟨_, hs, Or.inl ⟨rfl, _, SqL.of hx0⟩, ?_⟩
  obtain ⟨G1, le, s1, sl, fr⟩ := r.freeze w0
  refine h σ G1 H _ s1.w sl fun v d G' H' s dt q => ?_
  obtain ⟨xs, rfl, q⟩ := q
  have ma : a ∈ as := List.mem_of_getElem? ha
  have nf : ¬ S.fp a := r.nfp w0 ma
  have g1 : G1 a = some (.lst xs0) := by rw [fr a ma, hx0]
  have g' : G' a = some (.lst xs0) := s.gg _ _ g1
  have h' : H' a = some (.lst xs0) := s.hh _ _ nf hx0
  let G2 : Hp := fun b => if b = a then none else G' b
  have g2 : ∀ b o, G2 b = some o ↔ b ≠ a ∧ G' b = some o := fun b o => by
    show (if b = a then none else G' b) = some o ↔ _
    by_cases z : b = a
    · rw [if_pos z]
      exact ⟨fun y => (by cases y), fun y => absurd z y.1⟩
    · rw [if_neg z]
      exact ⟨fun y => ⟨z, y⟩, fun y => y.2⟩
  have leG : Le G G2 := fun b o e => (g2 b o).mpr ⟨fun z => (by rw [z, ga] at e; cases e), s.gg _ _ (le _ _ e)⟩
  have st := s1.trans s
  have st2 : Stp S G0 H0 G2 H' := ⟨r.st.gg.trans leG, st.hh, fun b o e => st.nw b o ((g2 b o).mp e).2, ⟨fun b o e => s.w.le b o ((g2 b o).mp e).2, s.w.src, fun b fb => by
    show (if b = a then none else G' b) = none
    rw [if_neg (fun z => nf (by rw [← z]; exact fb))]
    exact s.w.sep b fb⟩⟩
  have eas : as = [a] := by
    have hl := r.alen
    match as, hl, ha with
    | [b], _, ha =>
      have : b = a := Option.some.inj ha
      rw [this]
  have r2 : RepG K S G0 H0 G2 σ H' ρ [.lst ds] as := ⟨st2, r.sl.mono leG, r.alen, r.nd, r.own, fun j b m e1 e2 => by
    match j, e2 with
    | 0, e2 =>
      cases e2
      rw [ha] at e1
      cases e1
      exact ⟨c0, by rw [h']; exact Option.some_ne_none _, if_pos rfl, xs0, h', dx0.mono leG⟩⟩
  have all : (xs.map X3.D.str).all scalD = true := by
    rw [List.all_eq_true]
    intro x hx
    obtain ⟨y, _, rfl⟩ := List.mem_map.mp hx
    rfl
  have dt2 : Dat K G2 v (.tup (xs.map .str)) := by
    cases dt with
    | tup h1 r1 =>
      refine .tup ⟨?_, h1.slim.imp (fun ⟨o, u, z, y⟩ => ⟨o, u, (g2 _ _).mpr ⟨fun e => (by rw [e, g'] at z; cases z), z⟩, y⟩) id⟩ (scal_L r1 all)
      rcases h1.sq with (z | ⟨o, z⟩) | z
      · exact .inl (.inl ((g2 _ _).mpr ⟨fun e => (by rw [e, g'] at z; cases z), z⟩))
      · exact .inl (.inr ⟨o, (g2 _ _).mpr ⟨fun e => (by rw [e, g'] at z; cases z), z⟩⟩)
      · exact .inr z
  refine ⟨a, xs0, v, rfl, rfl, h', by rw [dx0.length]; exact Nat.lt_of_lt_of_le hz (by decide), ?_⟩
  exact f.nx _ _ ρ [.lst (ds ++ [.tup (xs.map .str)])] ⟨G2, as, r2.put (j := 0) (m := .lst (ds ++ [.tup (xs.map .str)])) w0 ha rfl (if_pos rfl) ⟨if_pos rfl, _, upd_same, (dx0.mono leG).append (.cons dt2 .nil)⟩⟩ q
/-- a, b = [x, ..], z -/
theorem ws_parL {i j : Nat} {ta : TA} {tz : TE} (hi : i < ρ.length) (h : WA K S ta ρ fun xs => xs.length ≤ 100000 ∧ WE K S tz ρ fun d => N.nx ((ρ.set i (.own μ.length)).set j (.dat d)) (μ ++ [.lst xs])) : WS K S (tPar i j (tCons (tLst ta) (tCons tz tNil))) ρ μ N := fun G0 H0 σ H E w0 r f => by
  obtain ⟨G, as, r⟩ := r
  refine h σ G H _ r.st.w r.sl fun vs xs G' H' s ds h2 => ⟨by rw [ds.length]; exact Nat.le_trans h2.1 (by decide), fun p hp => ?_⟩
  have ra := r.step w0 s
  have s0 : Stp S G' H' G' (upd H' p (.lst vs)) := .junk ra.st.w (Le.new hp)
  have r0 := ra.step w0 s0
  refine h2.2 σ G' _ _ s0.w r0.sl fun vy y G1 H1 s1 d1 q => ⟨_, _, rfl, ?_⟩
  obtain ⟨n1, n2, n3, n4⟩ := ra.newp hp
  have g1 := s1.keepNone n4 (by rw [upd_same]; exact Option.some_ne_none _)
  have h1 : H1 p = some (.lst vs) := s1.hh p _ n3 upd_same
  have r1 := r0.step w0 s1
  have e1 : upd H1 p (.lst vs) = H1 := by
    funext a
    by_cases z : a = p
    · rw [z, upd_same, h1]
    · rw [upd_ne z]
  have r2 := r1.adopt (m := .lst xs) hi n1 n2 n3 g1 ⟨g1, _, upd_same, ds.mono s1.gg⟩
  rw [e1] at r2
  exact f.nx _ _ _ _ ⟨G1, _, r2.set d1⟩ q
end
end X3

set_option Elab.async false
set_option linter.all false
set_option maxRecDepth 100000
set_option maxHeartbeats 4000000
namespace X3
open PySem L2
section
variable {K : PySem.W.Frag} {S : Res} {ρ : Rho} {P : List X3.D → Prop} {tA : TA}
def zipD (ds es : List X3.D) : List X3.D := List.zipWith (fun a b => .wtup [a, b]) ds es
theorem zipD_len (ds es : List X3.D) : (zipD ds es).length = min ds.length es.length := by simp [zipD]
theorem zipD_get {ds es : List X3.D} {i : Nat} {d e : X3.D} (h : ds[i]? = some d) (g : es[i]? = some e) : (zipD ds es)[i]? = some (.wtup [d, e]) := by simp [zipD, List.getElem?_zipWith, h, g]
/-- two lists, pair by pair -/
theorem iter_zipL {G : Hp} {a b : Addr} {xs ys : List V} {ds es : List X3.D} (h : G a = some (.lst xs)) (r : DatL K G xs ds) (h2 : G b = some (.lst ys)) (r2 : DatL K G ys es) : IterOk K S (Itz K a b) G (zipD ds es) :=
  ⟨fun H => SqL K H a xs ∧ SqL K H b ys, fun i H v H' => ∃ T x y, v = .ref T ∧ H T = none ∧ H' = upd H T (.tup [x, y]) ∧ xs[i]? = some x ∧ ys[i]? = some y,
    ⟨fun i H hi q => by
        rw [zipD_len, ← r.length, ← r2.length] at hi
        exact ⟨xs, ys, xs[i]'(by omega), ys[i]'(by omega), q.1, q.2, List.getElem?_eq_getElem (by omega), List.getElem?_eq_getElem (by omega)⟩,
      fun H q => ⟨xs, ys, q.1, q.2, by rw [zipD_len, ← r.length, ← r2.length]; omega⟩,
      fun i H x H' hi q y => by
        obtain ⟨T, x', y', e1, e2, e3, e4, e5⟩ := y
        exact ⟨T, x', y', e1, e2, e3, e4 xs q.1, e5 ys q.2⟩⟩,
    fun H le => ⟨SqL.of (le _ _ h), SqL.of (le _ _ h2)⟩, fun i H v H' G1 hi le w y => by
      obtain ⟨T, x, y, rfl, hT, rfl, hx, hy⟩ := y
      obtain ⟨d, e1, e2⟩ := r.getV hx
      obtain ⟨d', e3, e4⟩ := r2.getV hy
      exact ⟨_, _, zipD_get e1 e3, .new w hT, .wtup (SqT.of upd_same) (.cons ((e2.mono le).mono (Le.new (w.fresh hT))) (.cons ((e4.mono le).mono (Le.new (w.fresh hT))) .nil))⟩⟩
theorem wi_zip (h : WA K S tA ρ fun vs => ∃ ds es, vs = [.list ds, .list es] ∧ P (zipD ds es)) : WI K S (iZip K tA) ρ P := fun σ G H R w s c =>
  h σ G H _ w s fun vs ds G' H' st dt q => by
    obtain ⟨ds, es, rfl, q⟩ := q
    cases dt with
    | cons a r =>
      cases r with
      | cons b r =>
        cases r
        cases a with
        | list h1 r1 =>
          cases b with
          | list h2 r2 => exact ⟨_, _, _, _, rfl, SqL.of (st.w.le _ _ h1), SqL.of (st.w.le _ _ h2), c _ _ G' H' st (iter_zipL h1 r1 h2 r2) q⟩
end
end X3

set_option Elab.async false
set_option linter.all false
set_option maxRecDepth 100000
set_option maxHeartbeats 4000000
/-! list(d.values()); name = xs.pop(i), xs.insert(i, y) at one's own list; a list made while one's own dict is walked -/
namespace X3
open PySem PySem.Spec PyProof.Rows L2
def rListV : List V → Hp → VK → Prop := fun vs H Q => ∃ p d kvs, vs = [.ref p] ∧ H p = some (ViewO p d) ∧ Rd H d (.dK kvs) ∧ ∀ l, H l = none → Q (.ref l) (upd H l (.lst (kvs.map (·.2))))
theorem call_listV {X : Cx} (hc : X.calm = true) : CallR X (.type "list") rListV := by
  intro pins s σ H vs us Q I r h
  obtain ⟨p, d, kvs, e, hv, hk, q⟩ := h
  subst e
  cases r with
  | cons r0 rr =>
  cases rr
  cases r0
  obtain ⟨hvv, _, _⟩ : s.heap.IsValuesView p d ∧ _ ∧ _ := I.hok p _ hv
  obtain ⟨few, away, es, rk, od⟩ := dk_rd I.hok hk
  obtain ⟨ep, at_⟩ := od.dictAt
  have same : kvs.length = es.length := Paired.length rk
  refine PySem.W.kdl_call (PySem.W.kdl_values (knd := mixKind X.prog X.w) (kvs := es) (ep := ep)) (I.ok.hd hc) ⟨hvv, at_⟩ (by rw [← same]; exact few) fun h2 tk got c2 stay new_ all_ => ?_
  refine ⟨.ref s.heap.objs.size, upd H s.heap.objs.size (.lst (kvs.map (·.2))), I.laid stay (Nat.le_refl _) (show ObjOk X.prog X.w _ _ _ (.lst (kvs.map (·.2))) from ⟨?_, got.toList, c2, ?_, ?_⟩), rfl, q _ (I.hok.fresh (Nat.le_refl _))⟩
  · rw [List.length_map]
    exact few
  · have sz : got.toList.length = got.size := by simp
    refine vals_of_at (by rw [List.length_map, sz, all_.1, same]) fun m x u h1 h3 => ?_
    obtain ⟨k, hky⟩ := all_.2 m u (by rw [← Array.getElem?_toList]; exact h3)
    have hm := (List.getElem?_eq_some_iff.mp hky).1
    obtain ⟨⟨k1, y⟩, hy⟩ : ∃ p, kvs[m]? = some p := ⟨kvs[m]'(by omega), List.getElem?_eq_getElem (by omega)⟩
    obtain ⟨u', hu, ru⟩ := kv_get rk hy
    rw [hky] at hu
    cases hu
    rw [List.getElem?_map, hy] at h1
    cases h1
    exact ru
  · rw [Array.toArray_toList]
    exact new_
section
variable {K : PySem.W.Frag} {S : Res} {ρ : Rho} {Q : X3.D → Prop}
theorem datK_vals {G : Hp} : ∀ {xs : List (Key × V)} {ds : List (Key × X3.D)}, DatK K G xs ds → DatL K G (xs.map (·.2)) (ds.map (·.2))
  | _, _, .nil => .nil
  | _, _, .cons h r => .cons h (datK_vals r)
theorem we_listV {td : TE} (h : WE K S td ρ fun x => ∃ (kvs : List (Key × X3.D)), x = .dict kvs ∧ Q (.list (kvs.map (·.2)))) : WE K S (tCB rListV (tCons (tVals td) tNil)) ρ Q := fun σ G H k w sl c =>
  h σ G H _ w sl fun v x G1 H1 s1 d1 q => by
    obtain ⟨kvs, rfl, q⟩ := q
    cases d1 with
    | dict a r =>
      rename_i ad ks
      refine ⟨ad, ks, rfl, le_rd s1.w.le a, fun p hp => ?_⟩
      have s2 := Stp.junk s1.w (Le.new (o := ViewO p ad) hp)
      refine ⟨p, ad, ks, rfl, upd_same, le_rd (Le.new hp) (le_rd s1.w.le a), fun l hl => ?_⟩
      have gl := s2.w.fresh hl
      exact c _ _ _ _ ((s1.trans s2).trans (.new s2.w hl)) (.list upd_same ((datK_vals r).mono (Le.new gl))) q
end
section
variable {K : PySem.W.Frag} {S : Res} {ρ : Rho} {N : EndsD} {μ : Mu} {te : TE}
theorem DatL.erase {G : Hp} : ∀ {vs : List V} {ds : List X3.D} (k : Nat), DatL K G vs ds → DatL K G (vs.eraseIdx k) (ds.eraseIdx k)
  | _, _, _, .nil => .nil
  | _, _, 0, .cons _ r => r
  | _, _, k + 1, .cons h r => .cons h (DatL.erase k r)
theorem DatL.takeN {G : Hp} : ∀ {vs : List V} {ds : List X3.D} (k : Nat), DatL K G vs ds → DatL K G (vs.take k) (ds.take k)
  | _, _, 0, _ => by rw [List.take_zero, List.take_zero]; exact .nil
  | _, _, k + 1, .nil => .nil
  | _, _, k + 1, .cons h r => .cons h (DatL.takeN k r)
theorem DatL.dropN {G : Hp} : ∀ {vs : List V} {ds : List X3.D} (k : Nat), DatL K G vs ds → DatL K G (vs.drop k) (ds.drop k)
  | _, _, 0, h => h
  | _, _, k + 1, .nil => .nil
  | _, _, k + 1, .cons h r => DatL.dropN k r
/-- x = xs.pop(e): one's own list, e reads it -/
theorem ws_popAt {i m j : Nat} {ds : List X3.D} (hi : ρ[i]? = some (.own j)) (hj : μ[j]? = some (.lst ds)) (h : WE K S te (view ρ μ) fun d => ∃ (k : Nat) (x : X3.D), d = .int (k : Nat) ∧ k < 100000 ∧ ds[k]? = some x ∧ N.nx (ρ.set m (.dat x)) (μ.set j (.lst (ds.eraseIdx k)))) :
    WS K S (tAsg (tBM K "list" rPopAt (tVar i) (tCons te tNil)) (gName m)) ρ μ N := fun G0 H0 σ H E w0 r f => by
  obtain ⟨G, as, r⟩ := r
  obtain ⟨a, ha, hs⟩ := r.own i j hi
  obtain ⟨_, _, _, xs, hx, _⟩ := r.cell j a _ ha hj
  refine ⟨_, hs, Or.inl ⟨rfl, _, SqL.of hx⟩, ?_⟩
  obtain ⟨G1, le, s1, sl, fr⟩ := r.freeze w0
  refine h σ G1 H _ s1.w sl fun v d G' H' s dt q => ?_
  obtain ⟨k, x, rfl, hk, hd, q⟩ := q
  cases dt
  have r' := r.unfreeze w0 le fr s
  obtain ⟨_, _, hg, ys, hy, dy⟩ := r'.cell j a _ ha hj
  have hlt : k < ys.length := by rw [dy.length]; exact (List.getElem?_eq_some_iff.mp hd).1
  obtain ⟨y, hyk, dyx⟩ := dy.get hd
  refine ⟨a, ys, (k : Int), k, y, rfl, rfl, hy, by omega, by omega, ?_, hyk, ?_⟩
  · unfold PySem.seqIndex?
    simp [show ¬ ((k : Int) < 0) by omega, hlt]
  · exact f.nx _ _ _ _ ⟨G, as, (r'.put (m := .lst (ds.eraseIdx k)) w0 ha hj hg ⟨hg, _, upd_same, dy.erase k⟩).set dyx⟩ q
def rInsert : V → List V → Hp → VK → Prop := fun x vs H Q => ∃ (l : Addr) (xs : List V) (i : Int) (y : V), x = .ref l ∧ vs = [.int i, y] ∧ H l = some (.lst xs) ∧ xs.length < sizeLine ∧ 0 ≤ i ∧ i < 2 ^ 63 ∧
    Q .non (upd H l (.lst (xs.take i.toNat ++ [y] ++ xs.drop i.toNat)))
theorem mt_insertN {X : Cx} : MtR X "list.insert" rInsert := mt_insert
/-- xs.insert(e, x) -/
theorem ws_insert {i m j : Nat} {ds : List X3.D} {x : X3.D} (hi : ρ[i]? = some (.own j)) (hj : μ[j]? = some (.lst ds)) (hm : ρ[m]? = some (.dat x)) (hz : ds.length < 100000) (sx : scalD x = true) (h : WE K S te (view ρ μ) fun d => ∃ (k : Nat), d = .int (k : Nat) ∧ k < 100000 ∧ N.nx ρ (μ.set j (.lst (ds.take k ++ [x] ++ ds.drop k)))) :
    WS K S (tDrop (tBM K "list" rInsert (tVar i) (tCons te (tCons (tVar m) tNil)))) ρ μ N := fun G0 H0 σ H E w0 r f => by
  obtain ⟨G, as, r⟩ := r
  obtain ⟨a, ha, hs⟩ := r.own i j hi
  obtain ⟨_, _, _, xs, hx, _⟩ := r.cell j a _ ha hj
  obtain ⟨vm, em, dm⟩ := r.sl.get m _ hm
  refine ⟨_, hs, Or.inl ⟨rfl, _, SqL.of hx⟩, ?_⟩
  obtain ⟨G1, le, s1, sl, fr⟩ := r.freeze w0
  refine h σ G1 H _ s1.w sl fun v d G' H' s dt q => ?_
  obtain ⟨k, rfl, hk, q⟩ := q
  cases dt
  have r' := r.unfreeze w0 le fr s
  obtain ⟨_, _, hg, ys, hy, dy⟩ := r'.cell j a _ ha hj
  refine ⟨vm, em, a, ys, (k : Int), vm, rfl, rfl, hy, by rw [dy.length]; exact Nat.lt_of_lt_of_le hz (by decide), by omega, by omega, ?_⟩
  rw [Int.toNat_natCast]
  exact f.nx _ _ _ _ ⟨G, as, r'.put (m := .lst (ds.take k ++ [x] ++ ds.drop k)) w0 ha hj hg ⟨hg, _, upd_same, ((dy.takeN k).append (.cons (scal_any dm sx) .nil)).append (dy.dropN k)⟩⟩ q
/-- x = a flat list, made while one's own dict is walked -/
theorem ws_asgK {i a0 : Nat} {kvs : List (Key × X3.D)} (hi : ρ[a0]? = some (.own 0)) (h : WE K S (tEither (tLockE te) te) (view ρ [.dict kvs]) fun d => ∃ ns : List Int, d = .list (ns.map .int) ∧ N.nx (ρ.set i (.dat d)) [.dict kvs]) :
    WS K S (tEitherS (tLock (tAsg te (gName i))) (tAsg te (gName i))) ρ [.dict kvs] N := fun G0 H0 σ H E w0 r f => by
  have key : WS K S (tAsg (tEither (tLockE te) te) (gName i)) ρ [.dict kvs] N := fun G0 H0 σ H E w0 r f => by
    obtain ⟨G, as, r⟩ := r
    obtain ⟨a, ha, hs⟩ := r.own a0 0 hi
    obtain ⟨c0, c1, ga, xs0, hx0, dx0⟩ := r.cell 0 a _ ha rfl
    obtain ⟨G1, le, s1, sl, fr⟩ := r.freeze w0
    refine h σ G1 H _ s1.w sl fun v d G' H' s dt q => ?_
    obtain ⟨ns, rfl, q⟩ := q
    have ma : a ∈ as := List.mem_of_getElem? ha
    have nf : ¬ S.fp a := r.nfp w0 ma
    have g1 : G1 a = some (.dK xs0) := by rw [fr a ma, hx0]
    have g' : G' a = some (.dK xs0) := s.gg _ _ g1
    have h' : H' a = some (.dK xs0) := s.hh _ _ nf hx0
    let G2 : Hp := fun b => if b = a then none else G' b
    have g2 : ∀ b o, G2 b = some o ↔ b ≠ a ∧ G' b = some o := fun b o => by
      show (if b = a then none else G' b) = some o ↔ _
      by_cases z : b = a
      · rw [if_pos z]
        exact ⟨fun y => (by cases y), fun y => absurd z y.1⟩
      · rw [if_neg z]
        exact ⟨fun y => ⟨z, y⟩, fun y => y.2⟩
    have leG : Le G G2 := fun b o e => (g2 b o).mpr ⟨fun z => (by rw [z, ga] at e; cases e), s.gg _ _ (le _ _ e)⟩
    have st := s1.trans s
    have st2 : Stp S G0 H0 G2 H' := ⟨r.st.gg.trans leG, st.hh, fun b o e => st.nw b o ((g2 b o).mp e).2, ⟨fun b o e => s.w.le b o ((g2 b o).mp e).2, s.w.src, fun b fb => by
      show (if b = a then none else G' b) = none
      rw [if_neg (fun z => nf (by rw [← z]; exact fb))]
      exact s.w.sep b fb⟩⟩
    have eas : as = [a] := by
      have hl := r.alen
      match as, hl, ha with
      | [b], _, ha =>
        have : b = a := Option.some.inj ha
        rw [this]
    have r2 : RepG K S G0 H0 G2 σ H' ρ [.dict kvs] as := ⟨st2, r.sl.mono leG, r.alen, r.nd, r.own, fun j b m e1 e2 => by
      match j, e2 with
      | 0, e2 =>
        cases e2
        rw [ha] at e1
        cases e1
        exact ⟨c0, by rw [h']; exact Option.some_ne_none _, if_pos rfl, xs0, h', dx0.mono leG⟩⟩
    have all : (ns.map X3.D.int).all scalD = true := by
      rw [List.all_eq_true]
      intro x hx
      obtain ⟨y, _, rfl⟩ := List.mem_map.mp hx
      rfl
    have dt2 : Dat K G2 v (.list (ns.map .int)) := by
      cases dt with
      | list h1 r1 => exact .list ((g2 _ _).mpr ⟨fun e => (by rw [e, g'] at h1; cases h1), h1⟩) (scal_L r1 all)
    exact f.nx _ _ _ _ ⟨G2, as, r2.set dt2⟩ q
  rcases key G0 H0 σ H E w0 r f with ⟨d, u, hd, mu, q⟩ | q
  · exact .inl ⟨d, u, hd, mu, q⟩
  · exact .inr q
/-- x, y = e, [] -/
theorem ws_parE {i j : Nat} {ta : TE} (hij : i ≠ j) (hj : j < ρ.length) (h : WE K S ta ρ fun x => N.nx ((ρ.set j (.own μ.length)).set i (.dat x)) (μ ++ [.lst []])) : WS K S (tPar i j (tCons ta (tCons (tLst tNil) tNil))) ρ μ N := fun G0 H0 σ H E w0 r f => by
  obtain ⟨G, as, r⟩ := r
  refine h σ G H _ r.st.w r.sl fun vx x G' H' s dx q => ⟨Nat.zero_le _, fun p hp => ⟨_, _, rfl, ?_⟩⟩
  have ra := r.step w0 s
  have s0 : Stp S G' H' G' (upd H' p (.lst [])) := .junk ra.st.w (Le.new hp)
  have r0 := ra.step w0 s0
  obtain ⟨n1, n2, n3, n4⟩ := ra.newp hp
  have g1 : G' p = none := s.w.fresh hp
  have h1 : (upd H' p (.lst [])) p = some (.lst []) := upd_same
  have e1 : upd (upd H' p (.lst [])) p (.lst []) = upd H' p (.lst []) := by
    funext a
    by_cases z : a = p
    · rw [z, upd_same, upd_same]
    · rw [upd_ne z]
  have r2 := r0.adopt (m := .lst []) hj n1 n2 n3 g1 ⟨g1, _, upd_same, .nil⟩
  rw [e1] at r2
  have r3 := r2.set (i := i) dx
  rw [List.set_comm _ _ hij]
  exact f.nx _ _ _ _ ⟨G', _, r3⟩ q
/-- for i in range(e): e reads what is one's own -/
theorem ws_rngV {tA : TA} {g : TG} {tb : TS} {is : List Nat} (h : WA K S tA (view ρ μ) fun vs => ∃ n : Nat, vs = [.int (n : Nat)] ∧ n ≤ 1000000 ∧ ∃ I : Nat → Rho → Mu → Prop, I 0 ρ μ ∧ (∀ i ρ' μ', i < n → I i ρ' μ' → WG K is g (.int (i : Nat)) ρ' fun ρ2 => WS K S tb ρ2 μ' { N with nx := I (i + 1), ct := I (i + 1), bk := N.nx }) ∧ ∀ ρ' μ', I n ρ' μ' → N.nx ρ' μ') :
    WS K S (tFor (iRng1 tA) g tb) ρ μ N := fun G0 H0 σ H E w0 r f => by
  obtain ⟨G, as, r⟩ := r
  obtain ⟨G1, le, s1, sl, fr⟩ := r.freeze w0
  refine h σ G1 H _ s1.w sl fun vs ds G' H' s dt q => ?_
  obtain ⟨n, rfl, hn, I, i0, turn, fin⟩ := q
  have r' := r.unfreeze w0 le fr s
  cases dt with
  | cons a r2 =>
    cases r2
    cases a
    have key : WS K S (tFor (iRng1 (fun _ H Q => Q [.int (n : Nat)] H)) g tb) ρ μ N := ws_rng (is := is) n I fun σ G H R w s c => ⟨((n : Nat) : Int), rfl, by omega, by omega, c _ _ G H (.refl w) (by rw [Int.toNat_natCast]; exact iter_rng) ⟨rfl, i0, turn, fin⟩⟩
    exact key G0 H0 σ H' E w0 ⟨G, as, r'⟩ f
theorem wf_lst {ta : TA} {Q : M → Prop} (h : WA K S ta ρ fun xs => xs.length ≤ 100000 ∧ Q (.lst xs)) : WF K S (tLst ta) ρ Q := fun σ G H k w sl c =>
  h σ G H _ w sl fun vs xs G1 H1 s1 d1 q => ⟨by rw [d1.length]; exact Nat.le_trans q.1 (by decide), fun l hl => by
    have gl := s1.w.fresh hl
    exact c l (.lst xs) _ G1 (upd H1 l (.lst vs)) (s1.trans (.junk s1.w (Le.new hl))) (s1.first hl) gl upd_same ⟨gl, _, upd_same, d1⟩ q.2⟩
end
end X3

set_option Elab.async false
set_option linter.all false
set_option maxRecDepth 100000
set_option maxHeartbeats 4000000
/-! a tuple of texts, made while one's own is read, for several of one's own -/
namespace X3
open PySem PySem.Spec PyProof.Rows L2
section
variable {K : PySem.W.Frag} {S : Res} {ρ : Rho} {N : EndsD} {μ : Mu} {te : TE}
/-- what is one's own is a list or a dict: no tuple stands there -/
def plainM : M → Bool
  | .lst _ => true
  | .dict _ => true
  | _ => false
theorem ws_asgW {i : Nat} (hμ : μ.all plainM = true) (h : WE K S te (view ρ μ) fun d => ∃ xs : List Str, d = .tup (xs.map .str) ∧ N.nx (ρ.set i (.dat d)) μ) : WS K S (tAsg te (gName i)) ρ μ N := fun G0 H0 σ H E w0 r f => by
  obtain ⟨G, as, r⟩ := r
  obtain ⟨G1, le, s1, sl, fr⟩ := r.freeze w0
  refine h σ G1 H _ s1.w sl fun v d G' H' s dt q => ?_
  obtain ⟨xs, rfl, q⟩ := q
  have pl : ∀ {j : Nat} {m : M}, μ[j]? = some m → plainM m = true := fun {j m} e => List.all_eq_true.mp hμ _ (List.mem_of_getElem? e)
  have cell : ∀ a ∈ as, G a = none ∧ ((∃ ys, G' a = some (.lst ys)) ∨ ∃ ys, G' a = some (.dK ys)) := fun a ma => by
    obtain ⟨j, hj, e⟩ := List.mem_iff_getElem.mp ma
    have hm : j < μ.length := by rw [← r.alen]; exact hj
    have hm2 := List.getElem?_eq_getElem hm
    have pm := pl hm2
    obtain ⟨_, _, c⟩ := r.cell j a μ[j] (by rw [List.getElem?_eq_getElem hj, e]) hm2
    generalize μ[j] = m at c pm
    cases m with
    | lst ds =>
      obtain ⟨c0, ys, hy, _⟩ := c
      exact ⟨c0, .inl ⟨ys, s.gg _ _ (by rw [fr a ma]; exact hy)⟩⟩
    | dict ds =>
      obtain ⟨c0, ys, hy, _⟩ := c
      exact ⟨c0, .inr ⟨ys, s.gg _ _ (by rw [fr a ma]; exact hy)⟩⟩
    | gone => cases pm
    | dt P w ds => cases pm
    | kset P w S n => cases pm
    | obj x C fs => cases pm
  let G2 : Hp := fun b => if b ∈ as then none else G' b
  have g2 : ∀ b o, G2 b = some o ↔ b ∉ as ∧ G' b = some o := fun b o => by
    show (if b ∈ as then none else G' b) = some o ↔ _
    by_cases z : b ∈ as
    · rw [if_pos z]
      exact ⟨fun y => (by cases y), fun y => absurd z y.1⟩
    · rw [if_neg z]
      exact ⟨fun y => ⟨z, y⟩, fun y => y.2⟩
  have leG : Le G G2 := fun b o e => (g2 b o).mpr ⟨fun z => (by rw [(cell b z).1] at e; cases e), s.gg _ _ (le _ _ e)⟩
  have st := s1.trans s
  have st2 : Stp S G0 H0 G2 H' := ⟨r.st.gg.trans leG, st.hh, fun b o e => st.nw b o ((g2 b o).mp e).2, ⟨fun b o e => s.w.le b o ((g2 b o).mp e).2, s.w.src, fun b fb => by
    show (if b ∈ as then none else G' b) = none
    rw [if_neg (fun z => r.nfp w0 z fb)]
    exact s.w.sep b fb⟩⟩
  have r' := r.unfreeze w0 le fr s
  have r2 : RepG K S G0 H0 G2 σ H' ρ μ as := ⟨st2, r.sl.mono leG, r.alen, r.nd, r.own, fun j b m e1 e2 => by
    obtain ⟨c0, c1, c2⟩ := r'.cell j b m e1 e2
    have gb : G2 b = none := if_pos (List.mem_of_getElem? e1)
    have pm := pl e2
    refine ⟨c0, c1, ?_⟩
    cases m with
    | lst ds =>
      obtain ⟨_, ys, hy, dy⟩ := c2
      exact ⟨gb, ys, hy, dy.mono leG⟩
    | dict ds =>
      obtain ⟨_, ys, hy, dy⟩ := c2
      exact ⟨gb, ys, hy, dy.mono leG⟩
    | gone => cases pm
    | dt P w ds => cases pm
    | kset P w S n => cases pm
    | obj x C fs => cases pm⟩
  have all : (xs.map X3.D.str).all scalD = true := by
    rw [List.all_eq_true]
    intro x hx
    obtain ⟨y, _, rfl⟩ := List.mem_map.mp hx
    rfl
  have no : ∀ {b : Addr} {o : HO}, G' b = some o → (∀ ys, o ≠ .lst ys) → (∀ ys, o ≠ .dK ys) → b ∉ as := fun {b o} e n1 n2 z => by
    rcases (cell b z).2 with ⟨ys, y⟩ | ⟨ys, y⟩
    · rw [e] at y
      exact n1 ys (Option.some.inj y)
    · rw [e] at y
      exact n2 ys (Option.some.inj y)
  have dt2 : Dat K G2 v (.tup (xs.map .str)) := by
    cases dt with
    | tup h1 r1 =>
      refine .tup ⟨?_, h1.slim.imp (fun ⟨o, u, z, y⟩ => ⟨o, u, (g2 _ _).mpr ⟨no z (fun _ e => by cases e) (fun _ e => by cases e), z⟩, y⟩) id⟩ (scal_L r1 all)
      rcases h1.sq with (z | ⟨o, z⟩) | z
      · exact .inl (.inl ((g2 _ _).mpr ⟨no z (fun _ e => by cases e) (fun _ e => by cases e), z⟩))
      · exact .inl (.inr ⟨o, (g2 _ _).mpr ⟨no z (fun _ e => by cases e) (fun _ e => by cases e), z⟩⟩)
      · exact .inr z
  exact f.nx _ _ _ _ ⟨G2, as, r2.set dt2⟩ q
theorem wf_lc {wi : TI} {g : TG} {tt : TT} {te : TE} {vs is : List Nat} {Q : M → Prop} (I : List X3.D → List X3.D → Prop) (hv : ∀ i ∈ is, i ∈ vs)
    (h : WI K S wi ρ fun ds => I [] [] ∧ (∀ pre d post out, ds = pre ++ d :: post → I pre out → WG K is g d (wipeR ρ vs) fun ρ2 => WT K S tt ρ2 fun b =>
      if b = true then WE K S te ρ2 fun y => out.length < 100000 ∧ I (pre ++ [d]) (out ++ [y]) else I (pre ++ [d]) out) ∧ ∀ out, I ds out → Q (.lst out)) :
    WF K S (tLc wi g tt te vs) ρ Q := fun σ G H k w sl c => by
  refine h σ G H _ w sl fun J ds G' H' s it q => ?_
  obtain ⟨i0, turn, fin⟩ := q
  obtain ⟨Gd, Y, wk, gd, yl⟩ := it.ex
  have w0 := s.w.src
  intro p hp
  have sl0 : Slots K G' (wipe σ vs) (wipeR ρ vs) := slots_wipe (sl.mono s.gg) vs
  have start : RepG K S G' H' G' [] (upd H' p (.lst [])) [] [.lst []] [p] := by
    refine ⟨.junk s.w (Le.new hp), ⟨rfl, fun i d e => by simp at e⟩, rfl, by simp, fun i j e => by simp at e, fun j a m e1 e2 => ?_⟩
    have hs : upd H' p (.lst []) p = some (.lst []) := upd_same
    cases j with
    | zero =>
      have e1' : some p = some a := e1
      have e2' : some (M.lst []) = some m := e2
      cases e1'
      cases e2'
      exact ⟨hp, by rw [hs]; exact Option.some_ne_none _, s.w.fresh hp, [], hs, DatL.nil⟩
    | succ n => simp at e1
  refine lc_it wk (fun i H => ∃ out G2, RepG K S G' H' G2 [] H [] [.lst out] [p] ∧ I (ds.take i) out) ⟨[], G', start, i0⟩ ?_ ?_ ?_
  · rintro i H1 _ ⟨out, G2, r2, _⟩
    exact gd H1 (r2.st.gg.trans r2.st.w.le)
  · rintro i x H1 H2 hi ⟨out, G2, r2, iv⟩ y
    obtain ⟨d, G3, e, st3, dt⟩ := yl i H1 x H2 G2 hi r2.st.gg r2.st.w y
    have r3 := r2.step w0 st3
    have ed : ds = ds.take i ++ d :: ds.drop (i + 1) := by
      have e2 := List.getElem?_eq_some_iff.mp e
      obtain ⟨hl, e2⟩ := e2
      rw [← e2, ← List.drop_eq_getElem_cons hl, List.take_append_drop]
    have et : ds.take i ++ [d] = ds.take (i + 1) := by
      rw [List.take_add_one, e]
      rfl
    refine turn (ds.take i) d (ds.drop (i + 1)) out ed iv _ G3 H2 x _ r3.st.w.le (sl0.mono r3.st.gg) dt fun σ4 ρ4 t4 body => ?_
    have hw : wipe σ4 vs = wipe σ vs := by
      refine wipe_eq (by rw [t4.len, wipe_length]) fun i hi => ?_
      exact (t4.old i fun z => hi (hv i z)).1
    refine ⟨hw, body σ4 G3 H2 _ r3.st.w t4.sl fun b G4 H4 s4 qb => ?_⟩
    have r4 := r3.step w0 s4
    cases b with
    | false => exact ⟨out, G4, r4, by rw [← et]; exact qb⟩
    | true =>
      refine qb σ4 G4 H4 _ r4.st.w (t4.sl.mono s4.gg) fun v d5 G5 H5 s5 dt5 q5 => ?_
      have r5 := r4.step w0 s5
      obtain ⟨_, _, hg, xs, hx, dx⟩ := r5.cell 0 p _ rfl rfl
      refine ⟨xs, hx, by rw [dx.length]; exact Nat.lt_of_lt_of_le q5.1 (by decide), out ++ [d5], G5, ?_, by rw [← et]; exact q5.2⟩
      exact r5.put (j := 0) (m := .lst (out ++ [d5])) w0 rfl rfl hg ⟨hg, _, upd_same, dx.append (.cons dt5 .nil)⟩
  · rintro H1 ⟨out, G2, r2, iv⟩
    rw [List.take_length] at iv
    obtain ⟨_, _, hg, xs, hx, dx⟩ := r2.cell 0 p _ rfl rfl
    exact c p (.lst out) _ G2 H1 (s.trans r2.st) (s.first hp) hg hx ⟨hg, xs, hx, dx⟩ (fin out iv)
theorem wf_map {α : Type} {wi : TI} {g : TG} {tt : TT} {te : TE} {vs is : List Nat} {Q : M → Prop} (xs : List α) (e f : α → X3.D) (p : α → Bool) (hv : ∀ i ∈ is, i ∈ vs)
    (h : WI K S wi ρ fun ds => ds = xs.map e ∧ xs.length ≤ 100000 ∧ (∀ x ∈ xs, WG K is g (e x) (wipeR ρ vs) fun ρ2 => WT K S tt ρ2 fun b => b = p x ∧ (p x = true → WE K S te ρ2 fun y => y = f x)) ∧ Q (.lst ((xs.filter p).map f))) :
    WF K S (tLc wi g tt te vs) ρ Q := by
  refine wf_lc (is := is) (fun pre out => out = ((xs.take pre.length).filter p).map f) hv (wi_imp h ?_)
  rintro ds ⟨rfl, hl, ht, hq⟩
  refine ⟨rfl, ?_, ?_⟩
  · rintro pre d post out hd rfl
    obtain ⟨ys, x, zs, rfl, rfl, rfl⟩ := split_map hd
    refine (ht x (by simp)).imp fun ρ2 h2 => h2.imp fun b hb => ?_
    have e1 : (ys ++ x :: zs).take (ys.map e).length = ys := by simp
    have e2 := take_snoc (e := e) (ys := ys) (zs := zs) (x := x)
    obtain ⟨rfl, hb⟩ := hb
    rw [e1, e2, List.filter_append, List.map_append]
    cases hp : p x with
    | true =>
      rw [if_pos rfl]
      refine (hb hp).imp fun y hy => ⟨?_, ?_⟩
      · rw [List.length_map]
        refine Nat.lt_of_le_of_lt (List.length_filter_le _ _) ?_
        simp at hl
        omega
      · subst hy
        simp [hp]
    | false =>
      rw [if_neg Bool.false_ne_true]
      simp [hp]
  · rintro out rfl
    rw [List.length_map, List.take_length]
    exact hq
end
end X3

set_option Elab.async false
set_option linter.all false
set_option maxRecDepth 100000
set_option maxHeartbeats 4000000
/-! x, y = e, [] where a comprehension closes over one of them: a plain unpacking -/
namespace X3
open PySem PySem.Spec PyProof.Rows L2
section
variable {K : PySem.W.Frag} {S : Res} {ρ : Rho} {N : EndsD} {μ : Mu}
theorem ws_tupE {i j : Nat} {ta : TE} (hij : i ≠ j) (hj : j < ρ.length) (h : WE K S ta ρ fun x => N.nx ((ρ.set j (.own μ.length)).set i (.dat x)) (μ ++ [.lst []])) : WS K S (tAsg (tTupN (tCons ta (tCons (tLst tNil) tNil))) (gTup K 2 (gCons (gName i) (gCons (gName j) gNil)))) ρ μ N := fun G0 H0 σ H E w0 r f => by
  obtain ⟨G, as, r⟩ := r
  refine h σ G H _ r.st.w r.sl fun vx x G' H' s dx q => ⟨Nat.zero_le _, fun p hp => ⟨by have := sizeLine_eq; simp only [List.length_cons, List.length_nil]; omega, fun l ob hl hd => ⟨l, _, rfl, .inl (.inr ⟨ob, upd_same⟩), rfl, _, _, rfl, _, _, rfl, rfl, ?_⟩⟩⟩
  have ra := r.step w0 s
  have s0 : Stp S G' H' G' (upd H' p (.lst [])) := .junk ra.st.w (Le.new hp)
  have r0 := ra.step w0 s0
  obtain ⟨n1, n2, n3, n4⟩ := ra.newp hp
  have g1 : G' p = none := s.w.fresh hp
  have e1 : upd (upd H' p (.lst [])) p (.lst []) = upd H' p (.lst []) := by
    funext a
    by_cases z : a = p
    · rw [z, upd_same, upd_same]
    · rw [upd_ne z]
  have r2 := r0.adopt (m := .lst []) hj n1 n2 n3 g1 ⟨g1, _, upd_same, .nil⟩
  rw [e1] at r2
  have s1 : Stp S G' (upd H' p (.lst [])) G' (upd (upd H' p (.lst [])) l (.frz ob (.tup [vx, .ref p]))) := .junk r2.st.w (Le.new hl)
  have r3 := (r2.step w0 s1).set (i := i) (dx.mono s1.gg)
  rw [List.set_comm _ _ hij]
  exact f.nx _ _ _ _ ⟨G', _, r3⟩ q
end
end X3

set_option Elab.async false
set_option linter.all false
set_option maxRecDepth 100000
set_option maxHeartbeats 4000000
/-! dict(pairs) as one's own; what is still small enough to be shown -/
namespace X3
open PySem PySem.Spec PyProof.Rows L2
theorem pairs_of {K : PySem.W.Frag} {G H : Hp} (le : Le G H) : ∀ {kvs : List (Key × X3.D)} {vs : List V}, DatL K G vs (kvs.map fun kv => .tup [kD kv.1, kv.2]) → ∃ (ps : List Addr) (ks : List (Key × V)), vs = ps.map V.ref ∧ Paired (fun p kv => SqT K H p [kV kv.1, kv.2]) ps ks ∧ DatK K G ks kvs
  | [], vs, h => by
    cases h
    exact ⟨[], [], rfl, .nil, .nil⟩
  | kv :: kvs, vs, h => by
    cases h with
    | cons a r =>
      obtain ⟨ps, ks, e, p, dk⟩ := pairs_of le r
      cases a with
      | tup h1 r2 =>
        cases r2 with
        | cons a1 r3 =>
          cases r3 with
          | cons a2 r4 =>
            cases r4
            rename_i ad _ v2
            refine ⟨ad :: ps, (kv.1, v2) :: ks, by rw [e]; rfl, .cons ?_ p, .cons a2 dk⟩
            rw [← kD_v a1]
            exact le_t le h1.sq
section
variable {K : PySem.W.Frag} {S : Res} {ρ : Rho}
theorem wf_dictP {te : TE} {Q : M → Prop} (h : WE K S te ρ fun x => ∃ kvs : List (Key × X3.D), x = .list (kvs.map fun kv => .tup [kD kv.1, kv.2]) ∧ Q (.dict (mergeD [] kvs))) : WF K S (tCB (rDictP K) (tCons te tNil)) ρ Q := fun σ G H k w sl c => by
  refine h σ G H _ w sl fun v x G1 H1 s1 d1 q => ?_
  obtain ⟨kvs, rfl, q⟩ := q
  cases d1 with
  | list a r =>
    obtain ⟨ps, ks, rfl, pr, dk⟩ := pairs_of s1.w.le r
    refine ⟨_, ps, ks, rfl, SqL.of (s1.w.le _ _ a), pr, fun l hl => ?_⟩
    have gl := s1.w.fresh hl
    exact c l (.dict (mergeD [] kvs)) _ G1 _ (s1.trans (.junk s1.w (Le.new hl))) (s1.first hl) gl upd_same ⟨gl, _, upd_same, DatK.merge dk .nil⟩ q
end
theorem log_big {i : Int} (h : i.natAbs < 2 ^ 200) : i.natAbs.log2 < 1920 := by
  by_cases z : i.natAbs = 0
  · rw [z]
    decide
  · rw [Nat.log2_lt z]
    exact Nat.lt_of_lt_of_le h (Nat.pow_le_pow_right (by decide) (by decide))
end X3

set_option Elab.async false
set_option linter.all false
set_option maxRecDepth 100000
set_option maxHeartbeats 4000000
/-! defs that ask repr, called by their names; lists handed back new; sorted texts -/
namespace X3
open PySem PySem.Spec PyProof.Rows L2
structure PromG (P : Program) (w : World) (K : PySem.W.Frag) (mg : Str → Option Value) (base : Heap) (x : Str) (f : Addr) (fd : FuncData) (ps : List Str) (k : Nat) (sp : Sp) : Prop where
  g : mg x = some (.ref f)
  kp : PySem.W.keepIn K (.ref f) = true
  b : Binds K fd ps []
  F : FnG P w K mg base CX0 k f fd ps sp
section
variable {X : Cx} {k : Nat} {f : Addr} {fd : FuncData} {ps : List Str} {sp : Sp} {E : XK} {x : Str} {p pos : Pos}
theorem pe_call0G (F : FnG X.prog X.w X.K X.mg X.base CX0 k f fd ps sp) (guard : X.A.guards = some []) (room : Room k X.A) (gl : Gl X x) (gm : X.mg x = some (.ref f)) (kp : PySem.W.keepIn X.K (.ref f) = true) (bi : Binds X.K fd ps [])
    (d1 : (x == ("__debug__" : Str)) = false := by decide) : PE X (.Call (.Name x p) [] [] pos) (tCall sp [] E tNil) where
  run pins s0 σ H Q I want := by
    refine wpAny_Call_Name_kw (ld_glob I gl gm (PySem.W.callWith_K0 I.kIn kp ?_) d1)
    have few : sp [] H Q E := want
    have bd := bi s0 [] I.kIn (F.many few)
    refine wpAny_call (codeAny_mono (F.keeps (out := X.stack) guard room I.env0 bd .nil few) fun r s2 back => ?_)
    match r, back with
    | .ok (.ret _), back => exact I.after back
    | .error _, no => exact no.elim
    | .ok .next, no => exact no.elim
    | .ok .brk, no => exact no.elim
    | .ok .cont, no => exact no.elim
end
section
variable {K : PySem.W.Frag} {S : Res} {ρ : Rho} {N : EndsD} {μ : Mu}
/-- the body of a def that hands back a new list, made by its last row -/
theorem body_ofR {t : TS} {te : TE} {NN : List Str} {vs : List V} {ds : List X3.D} {G H : Hp} {Qv : VK} {q : List X3.D → Prop} (w : Wld S G H) (r : DatL K G vs ds)
    (c : ∀ a xs es G' H', Stp S G H G' H' → G' a = none → H a = none → H' a = some (.lst xs) → DatL K G' xs es → q es → Qv (.ref a) H')
    (h : WS K S t (startR NN ds) [] { nx := fun ρ μ => μ = [] ∧ WF K S te ρ fun m => ∃ es, m = .lst es ∧ q es, rt := fun _ => False, bk := fun _ _ => False, ct := fun _ _ => False }) :
    tSeq t (tRet te) { nx := fun _ H' => Qv .non H', rt := Qv } (L2.start NN vs) H := by
  show t { nx := fun σ H => tRet te { nx := fun _ H' => Qv .non H', rt := Qv } σ H, rt := Qv } (L2.start NN vs) H
  refine h G H _ H _ w.src ⟨G, [], .refl w, slots_start r, rfl, List.nodup_nil, fun i j e => ?_, fun j a m e1 _ => by simp at e1⟩ ⟨?_, fun _ _ _ _ _ _ z => z.elim, fun _ _ _ _ _ z => z.elim, fun _ _ _ _ _ z => z.elim⟩
  · unfold startR at e
    have z := List.mem_of_getElem? e
    rcases List.mem_append.mp z with z | z
    · obtain ⟨d, _, z⟩ := List.mem_map.mp z
      cases z
    · have z' := List.eq_of_mem_replicate z
      cases z'
  · rintro σ1 H1 ρ1 μ1 ⟨G1, as, r1⟩ ⟨rfl, hf⟩
    refine hf σ1 G1 H1 Qv r1.st.w r1.sl fun a m o G2 H2 s2 ha ga ho ok ⟨es, e, hq⟩ => ?_
    subst e
    obtain ⟨_, xs, hx, dx⟩ := ok
    have ha0 : H a = none := r1.st.first ha
    exact c a xs es G2 H2 (r1.st.trans s2) ga ha0 hx dx hq
end
section
variable {K : PySem.W.Frag} {S : Res} {ρ : Rho} {N : EndsD} {μ : Mu}
/-- x, y = f(..), e: both read what is one's own; f hands back a new list of tuples of texts -/
theorem ws_parVF {P : Res → List X3.D → (List X3.D → Prop) → Prop} {tA : TA} {E : XK} {te : TE} {i j : Nat} (hμ : μ.all plainM = true) (h : WA K S tA (view ρ μ) fun ds => P S ds fun es => (∃ os : List (List Str), es = os.map fun o => .tup (o.map .str)) ∧ WE K S te (view ρ μ) fun d => scalD d = true ∧ N.nx ((ρ.set i (.dat (.list es))).set j (.dat d)) μ) :
    WS K S (tPar i j (tCons (tCall (spF K P) [] E tA) (tCons te tNil))) ρ μ N := fun G0 H0 σ H E0 w0 r f => by
  obtain ⟨G, as, r⟩ := r
  obtain ⟨G1, le, s1, sl, fr⟩ := r.freeze w0
  refine h σ G1 H _ s1.w sl fun vs ds G' H' s dt q => ⟨S, G', ds, _, s.w, by rw [List.append_nil]; exact dt, q, fun a xs es G2 H2 s2 ga ha hx dx q2 => ?_⟩
  obtain ⟨⟨os, rfl⟩, q3⟩ := q2
  have s12 := s.trans s2
  have haH : H a = none := s.first ha
  have s3 : Stp S G1 H (upd G2 a (.lst xs)) H2 := s12.gel ga haH hx (s.w.nfp ha)
  refine q3 σ (upd G2 a (.lst xs)) H2 _ s3.w (sl.mono s3.gg) fun v d G3 H3 s4 dd q4 => ⟨_, _, rfl, ?_⟩
  obtain ⟨sd, q4⟩ := q4
  have s5 := s3.trans s4
  have pl : ∀ {j : Nat} {m : M}, μ[j]? = some m → plainM m = true := fun {j m} e => List.all_eq_true.mp hμ _ (List.mem_of_getElem? e)
  have cell : ∀ b ∈ as, H b ≠ none ∧ G b = none ∧ ((∃ ys, G3 b = some (.lst ys)) ∨ ∃ ys, G3 b = some (.dK ys)) := fun b mb => by
    obtain ⟨j, hj, e⟩ := List.mem_iff_getElem.mp mb
    have hm : j < μ.length := by rw [← r.alen]; exact hj
    have hm2 := List.getElem?_eq_getElem hm
    have pm := pl hm2
    obtain ⟨_, c1, c⟩ := r.cell j b μ[j] (by rw [List.getElem?_eq_getElem hj, e]) hm2
    refine ⟨c1, ?_⟩
    generalize μ[j] = m at c pm
    cases m with
    | lst ds =>
      obtain ⟨c0, ys, hy, _⟩ := c
      exact ⟨c0, .inl ⟨ys, s5.gg _ _ (by rw [fr b mb]; exact hy)⟩⟩
    | dict ds =>
      obtain ⟨c0, ys, hy, _⟩ := c
      exact ⟨c0, .inr ⟨ys, s5.gg _ _ (by rw [fr b mb]; exact hy)⟩⟩
    | gone => cases pm
    | dt P w ds => cases pm
    | kset P w S n => cases pm
    | obj x C fs => cases pm
  let Gz : Hp := fun b => if b ∈ as then none else G3 b
  have g2 : ∀ b o, Gz b = some o ↔ b ∉ as ∧ G3 b = some o := fun b o => by
    show (if b ∈ as then none else G3 b) = some o ↔ _
    by_cases z : b ∈ as
    · rw [if_pos z]
      exact ⟨fun y => (by cases y), fun y => absurd z y.1⟩
    · rw [if_neg z]
      exact ⟨fun y => ⟨z, y⟩, fun y => y.2⟩
  have leG : Le G Gz := fun b o e => (g2 b o).mpr ⟨fun z => (by rw [(cell b z).2.1] at e; cases e), s5.gg _ _ (le _ _ e)⟩
  have st := s1.trans s5
  have st2 : Stp S G0 H0 Gz H3 := ⟨r.st.gg.trans leG, st.hh, fun b o e => st.nw b o ((g2 b o).mp e).2, ⟨fun b o e => s5.w.le b o ((g2 b o).mp e).2, s5.w.src, fun b fb => by
    show (if b ∈ as then none else G3 b) = none
    rw [if_neg (fun z => r.nfp w0 z fb)]
    exact s5.w.sep b fb⟩⟩
  have r' := r.unfreeze w0 le fr s5
  have r2 : RepG K S G0 H0 Gz σ H3 ρ μ as := ⟨st2, r.sl.mono leG, r.alen, r.nd, r.own, fun j b m e1 e2 => by
    obtain ⟨c0, c1, c2⟩ := r'.cell j b m e1 e2
    have gb : Gz b = none := if_pos (List.mem_of_getElem? e1)
    have pm := pl e2
    refine ⟨c0, c1, ?_⟩
    cases m with
    | lst ds =>
      obtain ⟨_, ys, hy, dy⟩ := c2
      exact ⟨gb, ys, hy, dy.mono leG⟩
    | dict ds =>
      obtain ⟨_, ys, hy, dy⟩ := c2
      exact ⟨gb, ys, hy, dy.mono leG⟩
    | gone => cases pm
    | dt P w ds => cases pm
    | kset P w S n => cases pm
    | obj x C fs => cases pm⟩
  have no : ∀ {b : Addr} {o : HO}, G3 b = some o → (∀ ys, o ≠ .lst ys) → (∀ ys, o ≠ .dK ys) → b ∉ as := fun {b o} e n1 n2 z => by
    rcases (cell b z).2.2 with ⟨ys, y⟩ | ⟨ys, y⟩
    · rw [e] at y
      exact n1 ys (Option.some.inj y)
    · rw [e] at y
      exact n2 ys (Option.some.inj y)
  have one : ∀ {v : V} {xs : List Str}, Dat K G3 v (.tup (xs.map .str)) → Dat K Gz v (.tup (xs.map .str)) := fun {v xs} dt => by
    have all : (xs.map X3.D.str).all scalD = true := by
      rw [List.all_eq_true]
      intro x hx
      obtain ⟨y, _, rfl⟩ := List.mem_map.mp hx
      rfl
    cases dt with
    | tup h1 r1 =>
      refine .tup ⟨?_, h1.slim.imp (fun ⟨o, u, z, y⟩ => ⟨o, u, (g2 _ _).mpr ⟨no z (fun _ e => by cases e) (fun _ e => by cases e), z⟩, y⟩) id⟩ (scal_L r1 all)
      rcases h1.sq with (z | ⟨o, z⟩) | z
      · exact .inl (.inl ((g2 _ _).mpr ⟨no z (fun _ e => by cases e) (fun _ e => by cases e), z⟩))
      · exact .inl (.inr ⟨o, (g2 _ _).mpr ⟨no z (fun _ e => by cases e) (fun _ e => by cases e), z⟩⟩)
      · exact .inr z
  have many : ∀ (os : List (List Str)) (xs : List V), DatL K G3 xs (os.map fun o => .tup (o.map .str)) → DatL K Gz xs (os.map fun o => .tup (o.map .str)) := fun os => by
    induction os with
    | nil =>
      intro xs h
      cases h
      exact .nil
    | cons o os ih =>
      intro xs h
      cases h with
      | cons a r => exact .cons (one a) (ih _ r)
  have na : a ∉ as := fun z => (cell a z).1 haH
  have ga3 : G3 a = some (.lst xs) := s4.gg _ _ upd_same
  have dl : Dat K Gz (.ref a) (.list (os.map fun o => .tup (o.map .str))) := .list ((g2 _ _).mpr ⟨na, ga3⟩) (many os xs ((dx.mono (Le.new ga)).mono s4.gg))
  exact f.nx _ _ _ _ ⟨Gz, as, (r2.set (i := i) dl).set (i := j) (scal_any dd sd)⟩ q4
end
section
variable {K : PySem.W.Frag} {S : Res} {Q : X3.D → Prop}
theorem wc_sortedS {xs : List Str} (hl : xs.length < 64) (q : ∀ ys : List Str, ys.Perm xs → sortedS ys = true → Q (.list (ys.map .str))) : WRC K S (rSortedS K) [.list (xs.map .str)] Q := fun G H vs k w dx c => by
  cases dx with
  | cons a r =>
    cases r
    cases a with
    | list h r =>
      have e := r.strs
      subst e
      refine ⟨_, xs, rfl, SqL.of (w.le _ _ h), hl, fun ys p hp hs hn => ?_⟩
      exact c _ _ (upd G p (.lst (ys.map V.str))) (upd H p (.lst (ys.map V.str))) (.new w hn) (.list upd_same (datL_strs ys)) (q ys hp hs)
end
theorem rising_le : ∀ {l : List Str} {p : Str}, risingS p l = true → (p :: l).Pairwise fun a b => a.cps.toList ≤ b.cps.toList
  | [], p, _ => List.pairwise_singleton _ _
  | x :: l, p, h => by
    unfold risingS at h
    rw [Bool.and_eq_true, Bool.not_eq_true', ltCps_eq, decide_eq_false_iff_not] at h
    have h2 := rising_le h.2
    refine List.pairwise_cons.mpr ⟨fun y hy => ?_, h2⟩
    have px : p.cps.toList ≤ x.cps.toList := h.1
    rcases List.mem_cons.mp hy with rfl | hy
    · exact px
    · exact List.le_trans px ((List.pairwise_cons.mp h2).1 y hy)
theorem sorted_le {l : List Str} (h : sortedS l = true) : l.Pairwise fun a b => a.cps.toList ≤ b.cps.toList := by
  cases l with
  | nil => exact .nil
  | cons x l => exact rising_le h
theorem sorted_same {l m : List Str} (p : l.Perm m) (h1 : sortedS l = true) (h2 : sortedS m = true) : l = m := by
  refine List.Perm.eq_of_pairwise (le := fun a b : Str => a.cps.toList ≤ b.cps.toList) (fun a b _ _ x y => ?_) (sorted_le h1) (sorted_le h2) p
  have := List.le_antisymm x y
  exact str_ext this
end X3

set_option Elab.async false
set_option linter.all false
set_option maxRecDepth 100000
set_option maxHeartbeats 4000000
namespace X3
open PySem L2
section
variable {K : PySem.W.Frag} {S : Res}
/-- behind what ran while the dict at ad was locked -/
theorem unlock_stp {G H G' H' : Hp} {ad : Addr} {od : Obj} {vs : List (Key × V)} (w : Wld S G H) (a : G ad = some (.dK vs)) (st : Stp S (upd G ad (.frz od (.dK vs))) (upd H ad (.frz od (.dK vs))) G' H') :
    H' ad = some (.frz od (.dK vs)) ∧ Stp S G H (upd G' ad (.dK vs)) (upd H' ad (.dK vs)) := by
  have nf : ¬ S.fp ad := fun z => by rw [w.sep _ z] at a; cases a
  have g1 : G' ad = some (.frz od (.dK vs)) := st.gg _ _ upd_same
  have h1 : H' ad = some (.frz od (.dK vs)) := st.w.le _ _ g1
  refine ⟨h1, ⟨fun b o e2 => ?_, fun b o n e2 => ?_, fun b o e2 => ?_, ⟨fun b o e2 => ?_, S.loc H' _ (fun b f => (upd_ne (fun z : b = ad => nf (by rw [← z]; exact f))).symm) st.w.src, fun b f => ?_⟩⟩⟩
  · by_cases z : b = ad
    · subst z
      rw [a] at e2
      rw [upd_same]
      exact e2
    · rw [upd_ne z]
      exact st.gg b o (by rw [upd_ne z]; exact e2)
  · by_cases z : b = ad
    · subst z
      rw [w.le _ _ a] at e2
      rw [upd_same]
      exact e2
    · rw [upd_ne z]
      exact st.hh b o n (by rw [upd_ne z]; exact e2)
  · by_cases z : b = ad
    · subst z
      rw [upd_same] at e2
      exact .inl (by rw [a]; exact e2)
    · rw [upd_ne z] at e2
      rcases st.nw b o e2 with y | y
      · rw [upd_ne z] at y
        exact .inl y
      · rw [upd_ne z] at y
        exact .inr y
  · by_cases z : b = ad
    · subst z
      rw [upd_same] at e2 ⊢
      exact e2
    · rw [upd_ne z] at e2 ⊢
      exact st.w.le b o e2
  · rw [upd_ne (fun z : b = ad => nf (by rw [← z]; exact f))]
    exact st.w.sep b f
theorem lock_wld {G H : Hp} {ad : Addr} {od : Obj} {vs : List (Key × V)} (w : Wld S G H) (a : G ad = some (.dK vs)) : Wld S (upd G ad (.frz od (.dK vs))) (upd H ad (.frz od (.dK vs))) := by
  have nf : ¬ S.fp ad := fun z => by rw [w.sep _ z] at a; cases a
  refine ⟨fun b u q => ?_, S.loc H _ (fun b f => (upd_ne (fun z : b = ad => nf (by rw [← z]; exact f))).symm) w.src, fun b f => ?_⟩
  · by_cases x : b = ad
    · subst x
      rw [upd_same] at q ⊢
      exact q
    · rw [upd_ne x] at q ⊢
      exact w.le b u q
  · rw [upd_ne (fun z : b = ad => nf (by rw [← z]; exact f))]
    exact w.sep b f
theorem Slots.no {G : Hp} {σ σ' : L2.St} {ρ : Rho} {k : Nat} (s : Slots K G σ ρ) (hl : σ'.length = σ.length) (e : ∀ q, q ≠ k → σ'[q]? = σ[q]?) : Slots K G σ' (ρ.set k .no) := ⟨by rw [List.length_set, hl]; exact s.len, fun i d h => by
  by_cases z : k = i
  · subst z
    by_cases y : k < ρ.length
    · rw [List.getElem?_set_self y] at h
      cases h
    · rw [List.getElem?_eq_none (by simpa using y)] at h
      cases h
  · rw [List.getElem?_set_ne z] at h
    rw [e i fun y => z y.symm]
    exact s.get i d h⟩
/-- for k in d: if tt: m = te, d one's own dict, m a whole number -/
def tDearF (i k m : Nat) (tt : TT) (te : TE) : TS := tFor (iKeys (tVar i)) (gName k) (tIfS tt (tAsg te (gName m)) tNext)
theorem ws_forB {ρ : Rho} {μ : Mu} {N : EndsD} {i j k m : Nat} {kvs : List (Key × X3.D)} {a0 : Int} {tt : TT} {te : TE} (hi : ρ[i]? = some (.own j)) (hj : μ[j]? = some (.dict kvs)) (hki : k ≠ i) (hmi : m ≠ i) (hkm : k ≠ m)
    (hk : ∀ j, ρ[k]? ≠ some (.own j)) (hm : ρ[m]? = some (.dat (.int a0))) (I : Nat → Int → Prop) (h0 : I 0 a0)
    (h : ∀ n key a, (kvs.map (·.1))[n]? = some key → I n a → WT K S tt ((((view ρ μ).set i (.dat (.fz kvs))).set k (.dat (kD key))).set m (.dat (.int a))) fun b =>
      if b = true then WE K S te ((((view ρ μ).set i (.dat (.fz kvs))).set k (.dat (kD key))).set m (.dat (.int a))) fun d => ∃ a', d = .int a' ∧ I (n + 1) a' else I (n + 1) a)
    (fin : ∀ a, I kvs.length a → N.nx ((ρ.set k .no).set m (.dat (.int a))) μ) : WS K S (tLock (tDearF i k m tt te)) ρ μ N := fun G0 H0 σ H E w0 r f => by
  obtain ⟨G, as, r⟩ := r
  obtain ⟨ad, ha, hs⟩ := r.own i j hi
  obtain ⟨G1, le, s1, sl, fr⟩ := r.freeze w0
  obtain ⟨_, _, hg, vs, hx, dx⟩ := r.cell j ad _ ha hj
  have mem : ad ∈ as := List.mem_of_getElem? ha
  have hG1 : G1 ad = some (.dK vs) := by rw [fr ad mem, hx]
  have w1 := s1.w
  refine ⟨ad, .dK vs, hx, trivial, fun od => ?_⟩
  have wl : Wld S (upd G1 ad (.frz od (.dK vs))) (upd H ad (.frz od (.dK vs))) := lock_wld w1 hG1
  have hiv : i < (view ρ μ).length := by
    unfold view
    rw [List.length_map]
    exact (List.getElem?_eq_some_iff.mp hi).1
  have slL : Slots K (upd G1 ad (.frz od (.dK vs))) σ ((view ρ μ).set i (.dat (.fz kvs))) := ⟨by rw [List.length_set]; exact sl.len, fun q x e => by
    by_cases z : i = q
    · subst z
      rw [List.getElem?_set_self hiv] at e
      cases e
      exact ⟨_, hs, .fz upd_same ((dx.mono le).lock hG1)⟩
    · rw [List.getElem?_set_ne z] at e
      obtain ⟨u, e2, d2⟩ := sl.get q x e
      exact ⟨u, e2, d2.lock hG1⟩⟩
  have hml : m < ρ.length := (List.getElem?_eq_some_iff.mp hm).1
  have hkvs : kvs.length = vs.length := dx.length.symm
  refine ⟨.ref ad, hs, ad, od, rfl, .inl ⟨vs, upd_same, ?_⟩⟩
  refine for_it walk_keys (fun n σ1 H1 => ∃ G2 a, Stp S (upd G1 ad (.frz od (.dK vs))) (upd H ad (.frz od (.dK vs))) G2 H1 ∧ Slots K G2 σ1 ((((view ρ μ).set i (.dat (.fz kvs))).set k .no).set m (.dat (.int a))) ∧ σ1.length = σ.length ∧ (∀ q, q ≠ k → q ≠ m → σ1[q]? = σ[q]?) ∧ I n a) ?_ ?_ ?_ ?_
  · refine ⟨_, a0, .refl wl, ?_, rfl, fun _ _ _ => rfl, h0⟩
    have e : (((view ρ μ).set i (.dat (.fz kvs))).set k .no).set m (.dat (.int a0)) = ((view ρ μ).set i (.dat (.fz kvs))).set k .no := by
      refine List.ext_getElem? fun q => ?_
      by_cases z : m = q
      · subst z
        rw [List.getElem?_set_self (by unfold view; simpa using hml), List.getElem?_set_ne hkm, List.getElem?_set_ne (Ne.symm hmi)]
        unfold view
        rw [List.getElem?_map, hm]
        rfl
      · rw [List.getElem?_set_ne z]
    rw [e]
    exact slL.no rfl fun _ _ => rfl
  · rintro n σ1 H1 _ ⟨G2, a, st, _⟩
    exact st.w.le _ _ (st.gg _ _ upd_same)
  · rintro n x σ1 H1 H2 hn ⟨G2, a, st, sl2, len, same, iv⟩ ⟨rfl, key, v, e, rfl⟩
    have hkey : (kvs.map (·.1))[n]? = some key := by
      have h1 := DatK.keyAt dx e
      rw [List.getElem?_map] at h1 ⊢
      cases e2 : kvs[n]? with
      | none => rw [e2] at h1; cases h1
      | some kv =>
        rw [e2] at h1
        have h2 : kD kv.1 = kD key := Option.some.inj h1
        have h3 : kv.1 = key := by
          cases h4 : kv.1 <;> cases key <;> rw [h4] at h2 <;> cases h2 <;> rfl
        rw [← h3]
        rfl
    have sl3 : Slots K G2 (σ1.set k (some (kV key))) ((((view ρ μ).set i (.dat (.fz kvs))).set k (.dat (kD key))).set m (.dat (.int a))) := by
      have s3 := sl2.set (i := k) (kD_dat (G := G2) (K := K) key)
      rw [List.set_comm _ _ (Ne.symm hkm), List.set_set] at s3
      exact s3
    show tIfS tt _ _ _ _ _
    refine h n key a hkey iv (σ1.set k (some (kV key))) G2 H2 _ st.w sl3 fun b G3 H3 st3 q => ?_
    have kept : ∀ q, q ≠ k → q ≠ m → (σ1.set k (some (kV key)))[q]? = σ[q]? := fun q h1 h2 => by
      rw [List.getElem?_set_ne (Ne.symm h1)]
      exact same q h1 h2
    have back : ∀ {G4 : Hp} {σ4 : L2.St} {x : SD} {a' : Int}, Slots K G4 σ4 ((((view ρ μ).set i (.dat (.fz kvs))).set k x).set m (.dat (.int a'))) → Slots K G4 σ4 ((((view ρ μ).set i (.dat (.fz kvs))).set k .no).set m (.dat (.int a'))) := fun s => by
      have := s.no (k := k) rfl fun _ _ => rfl
      rw [List.set_comm _ _ (Ne.symm hkm), List.set_set] at this
      exact this
    cases b with
    | false => exact ⟨G3, a, st.trans st3, back (sl3.mono st3.gg), by rw [List.length_set]; exact len, kept, q⟩
    | true =>
      refine q (σ1.set k (some (kV key))) G3 H3 _ st3.w (sl3.mono st3.gg) fun v2 d G4 H4 st4 dd q4 => ?_
      obtain ⟨a', rfl, q4⟩ := q4
      refine ⟨G4, a', (st.trans st3).trans st4, back (x := .dat (kD key)) ?_, by rw [List.length_set, List.length_set]; exact len, fun q h1 h2 => by rw [List.getElem?_set_ne (Ne.symm h2)]; exact kept q h1 h2, q4⟩
      have s5 := ((sl3.mono st3.gg).mono st4.gg).set (i := m) dd
      rw [List.set_set] at s5
      exact s5
  · rintro σ1 H1 ⟨G2, a, st, sl2, len, same, iv⟩
    obtain ⟨hf, st2⟩ := unlock_stp w1 hG1 st
    refine ⟨hf, f.nx _ _ ((ρ.set k .no).set m (.dat (.int a))) μ ⟨G, as, ?_⟩ (fin a (by rw [hkvs]; exact iv))⟩
    have r' := r.unfreeze w0 le fr st2
    have hmv : σ1[m]? = some (some (.int a)) := by
      obtain ⟨v, e1, e2⟩ := sl2.get m (.int a) (List.getElem?_set_self (by unfold view; simpa using hml))
      cases e2
      exact e1
    refine ⟨r'.st, ⟨by rw [List.length_set, List.length_set, len]; exact r'.sl.len, fun q d e => ?_⟩, r'.alen, r'.nd, fun q j2 e => ?_, r'.cell⟩
    · by_cases z : m = q
      · subst z
        rw [List.getElem?_set_self (by rw [List.length_set]; exact hml)] at e
        cases e
        exact ⟨_, hmv, .int _⟩
      · rw [List.getElem?_set_ne z] at e
        by_cases y : k = q
        · subst y
          by_cases y2 : k < ρ.length
          · rw [List.getElem?_set_self y2] at e
            cases e
          · rw [List.getElem?_eq_none (by simpa using y2)] at e
            cases e
        · rw [List.getElem?_set_ne y] at e
          rw [same q (Ne.symm y) (Ne.symm z)]
          exact r'.sl.get q d e
    · by_cases z : m = q
      · subst z
        rw [List.getElem?_set_self (by rw [List.length_set]; exact hml)] at e
        cases e
      · rw [List.getElem?_set_ne z] at e
        by_cases y : k = q
        · subst y
          by_cases y2 : k < ρ.length
          · rw [List.getElem?_set_self y2] at e
            cases e
          · rw [List.getElem?_eq_none (by simpa using y2)] at e
            cases e
        · rw [List.getElem?_set_ne y] at e
          rw [same q (Ne.symm y) (Ne.symm z)]
          exact r'.own q j2 e
end
end X3

set_option Elab.async false
set_option linter.all false
set_option maxRecDepth 100000
set_option maxHeartbeats 4000000
namespace X3S
open PySem PySem.Spec PyProof.Rows
theorem set_kept {prog : Program} {w : World} {h h' : Heap} {a : Addr} {f : Str → Bool} {c : Nat} (r : h.SetOf (strKind prog w) a f c) (e : ∀ o, h.get? a = some o → h'.get? a = some o) : h'.SetOf (strKind prog w) a f c :=
  let ⟨o, es, ep, tb, ho, rest⟩ := r
  ⟨o, es, ep, tb, e o ho, rest⟩
theorem take_one {xs : List Str} {i : Nat} (hi : i < xs.length) : xs.take (i + 1) = xs.take i ++ [xs.getD i Str.empty] := by
  rw [List.take_add_one, List.getD_eq_getElem?_getD, List.getElem?_eq_getElem hi]
  rfl
theorem not_yet {xs : List Str} {i : Nat} (nd : xs.Nodup) (hi : i < xs.length) : xs.getD i Str.empty ∉ xs.take i := fun z => by
  have e : xs = xs.take i ++ (xs.getD i Str.empty :: xs.drop (i + 1)) := by
    rw [List.getD_eq_getElem?_getD, List.getElem?_eq_getElem hi]
    show xs = xs.take i ++ (xs[i] :: xs.drop (i + 1))
    rw [← List.drop_eq_getElem_cons hi, List.take_append_drop]
  rw [e] at nd
  exact (List.nodup_append.mp nd).2.2 _ z _ List.mem_cons_self rfl
section
variable {prog : Program} {w : World} {A : Around} {R : Result → Shared → Prop} {I : Addr} {fp wr : List Addr} {G : Array GenState → Array GenState → Prop} {n : Nat} {P : Nat → Value → Prop} {St : Nat → Shared → Prop}
/-- the texts of a list put into a set, each once in the list -/
theorem many (wk : WalksS prog w A.in1 I fp wr G n P St) {b : Addr} (out : b ∉ fp) {xs : List Str} (sz : xs.length = n) (nd : xs.Nodup) (few : n + 1 < scanBound) (val : ∀ i v, P i v → ∃ t, v = .str (xs.getD i Str.empty) t) :
    ∀ (k i : Nat) (s : Shared), n - i = k → i ≤ n → St i s → s.heap.SetOf (strKind prog w) b (fun y => decide (y ∈ xs.take i)) i →
      (∀ s1, Moved (b :: wr) G s s1 → s1.heap.SetOf (strKind prog w) b (fun y => decide (y ∈ xs)) n → R (.ok (.ret .none)) s1) → codeAny (model prog w) A (.builtin "set.update.loop" ⟨[.ref b, .ref I], []⟩) R s
  | 0, i, s, hk, hi, at_, there, fin => by
    have e : i = n := by omega
    subst e
    refine codeAny_builtin PyProof.Rows.F.entry_set_update_loop ?_
    rw [Around.under_plainId F.plain_set_update_loop _]
    refine wpAny_bind (m := pyNext (.ref I)) (wk.done s _ _ at_ fun s1 mv => wpAny_pure (fin s1 (mv.mono fun c hc => List.mem_cons_of_mem _ hc) ?_))
    have all : xs.take i = xs := by rw [← sz, List.take_length]
    rw [all] at there
    exact set_kept there fun o ho => mv.heap b o (fun z => out (wk.sub _ z)) ho
  | k + 1, i, s, hk, hi, at_, there, fin => by
    have lt : i < n := by omega
    refine codeAny_builtin PyProof.Rows.F.entry_set_update_loop ?_
    rw [Around.under_plainId F.plain_set_update_loop _]
    refine wpAny_bind (m := pyNext (.ref I)) (wk.item i s _ _ lt at_ fun v s1 hv at1 mv => ?_)
    obtain ⟨t, rfl⟩ := val i v hv
    have there1 := set_kept (h' := s1.heap) there fun o ho => mv.heap b o (fun z => out (wk.sub _ z)) ho
    refine wpAny_bind (m := holding [Value.str (xs.getD i Str.empty) t] (setAdd b (.str (xs.getD i Str.empty) t))) (wpAny_holding ?_)
    unfold setAdd
    refine wpAny_holding (wpAny_bind ((strKind prog w).pyHash (k := xs.getD i Str.empty) (strKind_is _ _ _ _) ?_))
    refine wpAny_setAddHashed_of (s := { s1 with toks := s1.toks + 1 }) (knd := strKind prog w) (strKind_is _ _ _ _) rfl there1 (by omega) fun h1 same added => ?_
    have il : i < xs.length := by omega
    have new := not_yet nd il
    rw [if_neg (by simpa using new)] at added
    have now : h1.SetOf (strKind prog w) b (fun y => decide (y ∈ xs.take (i + 1))) (i + 1) := SetOf_congr added (fun y => by
      rw [take_one il]
      simp) rfl
    refine wpAny_pure ⟨plainId_quiet F.plain_set_update_loop _, many wk out sz nd few val k (i + 1) _ (by omega) lt (wk.frame _ s1 _ _ at1 (Nat.le_succ _) fun c hc o ho => ?_) now fun s2 mv2 end_ => fin s2 (Moved.trans wk.gtrans ((mv.mono fun c hc => List.mem_cons_of_mem _ hc).then_heap (Nat.le_succ _) fun c o hc ho => ?_) mv2) end_⟩
    · rw [same.2 c fun z => out (by rw [← z]; exact hc)]
      exact ho
    · rw [same.2 c fun z => hc (by rw [z]; exact List.mem_cons_self)]
      exact ho
end
section
variable {prog : Program} {w : World} {A : Around} {E : Value → Shared → Prop} {s : Shared}
abbrev bareSet (led : Bool) : Obj := { cls := .type "set", dict := none, data := .set #[] 0 (.fresh 0 0 led) }
/-- set(a list of texts, each once) -/
theorem call_texts {l : Addr} {items : Array Value} {xs : List Str} {Q : Value → Shared → Prop} (calm : A.handled = none) (isl : s.heap.IsList l items) (texts : StrsAre items.toList xs) (nd : xs.Nodup) (few : xs.length + 1 < scanBound)
    (fin : ∀ (h1 : Heap) (tk : Nat), h1.SetOf (strKind prog w) s.heap.objs.size (fun y => decide (y ∈ xs)) xs.length → (∀ b o, b < s.heap.objs.size → s.heap.get? b = some o → h1.get? b = some o) → Q (.ref s.heap.objs.size) { s with heap := h1, toks := tk }) :
    wpAny (model prog w) A (call (.type "set") [.ref l]) Q E s := by
  have ⟨c, tl, hmro⟩ := PySem.F.called_set.mro
  have hsub := F.called_set.sub
  have hmade := F.called_set.made
  refine wpAny_call <| codeAny_of_tree ?_
  show wpAny _ _ (callAny (.type "set") _) _ _ _
  refine wpAny_pure ⟨Code.quiet_builtin _ (by decide +kernel), codeAny_builtin F.entry_type_call ?_⟩
  rw [Around.under_plain (weight_type_call_type "set" [.ref l] []) rfl]
  have ask := F.typeCall_set_1 (.ref l)
  have can := F.called_set.canCreate
  have noTy := F.called_set.notType
  repeat (any_goals (first | assumption | wp_step))
  refine codeAny_mono (code_set_new_1 (.ref l) (E := E) (Q₁ := fun v s1 => ∃ led : Bool, v = .ref s.heap.objs.size ∧ s1 = { s with heap := s.heap.push (bareSet led) }) fun led => ⟨led, rfl, rfl⟩) fun r s1 made => ?_
  match r, made with
  | .error e, made => exact made
  | .ok (.ret v), ⟨led, hv, hs⟩ =>
    subst hv hs
    have there : (s.heap.push (bareSet led)).get? s.heap.objs.size = some (bareSet led) := Heap.get?_push_size _ rfl
    have isSet : Shared.TypeIs { s with heap := s.heap.push (bareSet led) } (.ref s.heap.objs.size) "set" := ⟨_, there, rfl⟩
    have bound := F.called_set.init.bind (.ref s.heap.objs.size)
    have look := F.called_set.init.lookup
    repeat (any_goals (first | assumption | wp_step))
    refine codeAny_mono (codeAny_call_builtin (R := wants (fun v s2 => v = .none ∧ ∃ h1 tk, s2 = { s with heap := h1, toks := tk } ∧ h1.SetOf (strKind prog w) s.heap.objs.size (fun y => decide (y ∈ xs)) xs.length ∧ ∀ b o, b < s.heap.objs.size → s.heap.get? b = some o → h1.get? b = some o) E) F.called_set.init.plain F.entry_set_init (check_set_init_1 isSet ?_)) fun r2 s2 done_ => ?_
    · obtain ⟨⟨cls, own, held, slots⟩, at_, e1, cap, e2⟩ := isl
      dsimp only at e1 e2
      subst e1 e2
      have at1 : (s.heap.push (bareSet led)).get? l = some { cls := .type "list", dict := own, data := .seq items cap, slots := slots } := Heap.get?_push_of_some _ at_
      have isl1 : (s.heap.push (bareSet led)).IsList l items := ⟨_, at1, rfl, cap, rfl⟩
      have no1 := F.sub_list_frozenset
      have no2 := F.sub_list_set
      have no3 : (Value.type "list" == Value.type "dict") = false := by decide
      unfold Builtin.«set.__init__» noKeywords Builtin.Frozenset.updateFrom
      generalize it : pyIter = PI
      wp_walk
      subst it
      refine wpAny_pyIter_list isl1 (wpAny_bind (wpAny_runValue ?_))
      have lt : l < s.heap.objs.size := Heap.lt_size at_
      have calm3 : A.in1.in1.in1.handled = none := by simp [calm]
      have apart : l ≠ (s.heap.push (bareSet led)).objs.size := by
        rw [Heap.size_push]
        exact Nat.ne_of_lt (Nat.lt_succ_of_lt lt)
      have out : s.heap.objs.size ∉ [(s.heap.push (bareSet led)).objs.size, l] := fun z => by
        rw [Heap.size_push] at z
        rcases List.mem_cons.mp z with z | z
        · exact Nat.ne_of_lt (Nat.lt_succ_self _) z
        · exact Nat.ne_of_lt lt (List.mem_singleton.mp z).symm
      have sz : xs.length = items.size := by rw [← Array.length_toList, ← texts.len_eq]
      have val : ∀ (i : Nat) (v : Value), items[i]? = some v → ∃ t, v = .str (xs.getD i Str.empty) t := fun i v hv => SS.strs_at texts i v (by rw [Array.getElem?_toList, hv])
      refine many (Walks.list calm3 _ l apart items).toS out sz nd (by omega) val (items.size - 0) 0 _ (by omega) (Nat.zero_le _) ⟨⟨_, Heap.get?_push_size _ rfl, rfl, rfl⟩, isl1.push _⟩ ?_ fun s1 mv end_ => ?_
      · have := (setObjOf_fresh (knd := strKind prog w) led).setOf (Heap.get?_push_of_some _ there) (h := (s.heap.push (bareSet led)).push { cls := .type "list_iterator", data := .fields #[.ref l, .int 0 0] }) (by unfold scanBound; omega)
        exact SetOf_congr this (fun y => by simp) rfl
      · obtain ⟨h1, g1, d1, tk, os1⟩ := s1
        obtain rfl : g1 = s.gens := mv.gens
        obtain rfl : d1 = s.drawn := mv.drawn
        obtain rfl : os1 = s.os := mv.os
        refine wpAny_pure (show wpAny _ _ (ret Value.none) _ _ _ from wpAny_pure ⟨rfl, h1, tk, rfl, by rw [sz]; exact end_, fun b o hb ho => ?_⟩)
        refine mv.heap b o (fun z => ?_) (Heap.get?_push_of_some _ (Heap.get?_push_of_some _ ho))
        rw [Heap.size_push] at z
        rcases List.mem_cons.mp z with z | z
        · exact Nat.ne_of_lt hb z
        · exact Nat.ne_of_lt (Nat.lt_succ_of_lt hb) (List.mem_singleton.mp z)
    · match r2, done_ with
      | .error e, done_ => exact done_
      | .ok (.ret v), ⟨hv, h1, tk, hs, isset, kept⟩ =>
        subst hv hs
        repeat (any_goals (first | assumption | wp_step))
        exact fin _ _ isset kept
end
end X3S

set_option Elab.async false
set_option linter.all false
set_option maxRecDepth 100000
set_option maxHeartbeats 4000000
namespace X3
open PySem L2
/-- the set of texts at a -/
def SetS (P : Program) (w : World) (a : Addr) (f : Str → Bool) (n : Nat) : HO := .ext fun h => h.SetOf (strKind P w) a f n
theorem setS_new {w : World} {P : Program} {H : Hp} {h : Heap} {a : Addr} {f : Str → Bool} {n : Nat} (R : h.SetOf (strKind P w) a f n) : ObjOk P w H h a (SetS P w a f n) := by
  have ⟨o, _, _, _, ho, _⟩ := R
  exact ⟨R, ⟨o, ho⟩, fun h2 h3 p k => X3S.set_kept p k⟩
/-- set(a list of texts, each once) -/
def rSetS (K : PySem.W.Frag) (P : Program) (w : World) : List V → Hp → VK → Prop := fun xs H Q => ∃ (l : Addr) (zs : List Str), xs = [V.ref l] ∧ SqL K H l (zs.map V.str) ∧ zs.Nodup ∧ zs.length ≤ 1000 ∧
  ∀ p, H p = none → Q (.ref p) (upd H p (SetS P w p (fun y => decide (y ∈ zs)) zs.length))
theorem cr_setS {X : Cx} (hc : X.calm = true) : CallR X (.type "set") (rSetS X.K X.prog X.w) := by
  intro pins s σ H xs us Q I r h
  obtain ⟨l, zs, rfl, hl, nd, few, q⟩ := h
  rw [Vals.ref1 r]
  obtain ⟨its, rv, pl, _⟩ := I.list hl
  refine X3S.call_texts (I.ok.hd hc) pl.isList (by simpa using Vals.strs rv) nd (by unfold scanBound; omega) fun h1 tk isset kept => ?_
  exact ⟨.ref s.heap.objs.size, _, I.laid (t' := tk) (fun b u e => kept b u (Heap.lt_size e) e) (Nat.le_refl _) (setS_new isset), rfl, q _ (I.hok.fresh (Nat.le_refl _))⟩
/-- its length -/
def rLenS (P : Program) (w : World) : List V → Hp → VK → Prop := fun xs H Q => ∃ (a : Addr) (f : Str → Bool) (n : Nat), xs = [V.ref a] ∧ H a = some (SetS P w a f n) ∧ Q (.int n) H
theorem cr_lenS {X : Cx} : CallR X (.builtin "len") (rLenS X.prog X.w) := by
  intro pins s σ H xs us Q I r h
  obtain ⟨a, f, n, rfl, ha, q⟩ := h
  rw [Vals.ref1 r]
  have isset : s.heap.SetOf (strKind X.prog X.w) a f n := (I.hok a _ ha).1
  obtain ⟨o, es, ep, t, ho, hex, hd, _, _, hb, hf, rfl⟩ := isset
  have := line63
  refine call_len_set ho hex hd hf (by unfold scanBound at hb; omega) ⟨.int es.size, H, (I.tok _).tok _, ⟨_, rfl⟩, q⟩
section
variable {K : PySem.W.Frag} {S : Res} {ρ : Rho} {Q : X3.D → Prop}
theorem we_lenSet {P : Program} {w : World} {te : TE} (h : WE K S te ρ fun d => ∃ zs : List Str, d = .list (zs.map .str) ∧ zs.Nodup ∧ zs.length ≤ 1000 ∧ Q (.int zs.length)) : WE K S (tCB (rLenS P w) (tCons (tCB (rSetS K P w) (tCons te tNil)) tNil)) ρ Q := fun σ G H k wl sl c =>
  h σ G H _ wl sl fun v d G1 H1 s1 dt q => by
    obtain ⟨zs, rfl, nd, few, q⟩ := q
    cases dt with
    | list a r =>
      rw [r.strs] at a
      refine ⟨_, zs, rfl, SqL.of (s1.w.le _ _ a), nd, few, fun p hp => ⟨p, _, _, rfl, upd_same, c _ _ G1 _ (s1.trans (Stp.junk s1.w (Le.new hp))) (.int _) q⟩⟩
end
end X3

set_option Elab.async false
set_option linter.all false
set_option maxRecDepth 100000
set_option maxHeartbeats 4000000
namespace X3
open PySem L2
/-- what te hands is a dict, and from now on it is locked -/
def tLockT (td : TE) : TE := fun σ H Q => td σ H fun x H1 => ∃ d kvs, x = .ref d ∧ H1 d = some (.dK kvs) ∧ ∀ od, Q x (upd H1 d (.frz od (.dK kvs)))
theorem pe_lockT {X : Cx} {e : Expr} {td : TE} (he : PE X e td) : PE X e (tLockT td) := by
  refine ⟨fun pins s σ H Q I h => thn (he.run pins s σ H _ I h) fun u s1 ⟨x, H1, I1, rx, d, kvs, ex, hd, q⟩ => ?_⟩
  obtain ⟨od, I2⟩ := I1.lock hd trivial
  exact ⟨x, _, I2, rx, q od⟩
/-- a new dict handed back -/
def spFD (K : PySem.W.Frag) (P : Res → List X3.D → (List (Key × X3.D) → Prop) → Prop) : Sp := fun vs H Q _ => ∃ (S : Res) (G : Hp) (ds : List X3.D) (q : List (Key × X3.D) → Prop), Wld S G H ∧ DatL K G vs ds ∧ P S ds q ∧
  ∀ a xs kvs G' H', Stp S G H G' H' → G' a = none → H a = none → H' a = some (.dK xs) → DatK K G' xs kvs → q kvs → Q (.ref a) H'
section
variable {K : PySem.W.Frag} {S : Res} {ρ : Rho} {Q : X3.D → Prop} {N : EndsD} {μ : Mu}
theorem we_callFD {P : Res → List X3.D → (List (Key × X3.D) → Prop) → Prop} {tA : TA} {E : XK} (h : WA K S tA ρ fun ds => P S ds fun es => Q (.dict es)) : WE K S (tCall (spFD K P) [] E tA) ρ Q := fun σ G H k w sl c =>
  h σ G H _ w sl fun vs ds G' H' s dt q => ⟨S, G', ds, _, s.w, by rw [List.append_nil]; exact dt, q, fun a xs es G2 H2 s2 ga ha hx dx q2 =>
    c _ _ (upd G2 a (.dK xs)) H2 (s.trans (s2.gel ga ha hx (s.w.nfp ha))) (.dict (.inl upd_same) (dx.mono (Le.new ga))) q2⟩
/-- x, y = {}, e -/
theorem ws_parDN {i j : Nat} {te : TE} (hi : i < ρ.length) (h : WE K S te ρ fun d => N.nx ((ρ.set i (.own μ.length)).set j (.dat d)) (μ ++ [.dict []])) : WS K S (tPar i j (tCons tDNewK (tCons te tNil))) ρ μ N := fun G0 H0 σ H E w0 r f => by
  obtain ⟨G, as, r⟩ := r
  intro p hp
  have s0 : Stp S G H G (upd H p (.dK [])) := .junk r.st.w (Le.new hp)
  have r0 := r.step w0 s0
  refine h σ G _ _ s0.w r0.sl fun vy y G1 H1 s1 d1 q => ⟨_, _, rfl, ?_⟩
  obtain ⟨n1, n2, n3, n4⟩ := r.newp hp
  have g1 := s1.keepNone n4 (by rw [upd_same]; exact Option.some_ne_none _)
  have h1 : H1 p = some (.dK []) := s1.hh p _ n3 upd_same
  have r1 := r0.step w0 s1
  have e1 : upd H1 p (.dK []) = H1 := upd_id h1
  have r2 := r1.adopt (m := .dict []) hi n1 n2 n3 g1 ⟨g1, _, upd_same, .nil⟩
  rw [e1] at r2
  exact f.nx _ _ _ _ ⟨G1, _, r2.set d1⟩ q
/-- the body of a def that hands back a dict of its own -/
theorem body_ofFD {t1 t2 t3 u : TS} {NN : List Str} {vs : List V} {ds : List X3.D} {G H : Hp} {Qv : VK} {q : List (Key × X3.D) → Prop} {i : Nat} (w : Wld S G H) (r : DatL K G vs ds)
    (c : ∀ a xs es G' H', Stp S G H G' H' → G' a = none → H a = none → H' a = some (.dK xs) → DatK K G' xs es → q es → Qv (.ref a) H')
    (h : WS K S (tSeq t1 (tSeq t2 (tSeq t3 u))) (startR NN ds) [] { nx := fun ρ μ => ∃ j es, ρ[i]? = some (.own j) ∧ μ[j]? = some (.dict es) ∧ q es, rt := fun _ => False, bk := fun _ _ => False, ct := fun _ _ => False }) :
    tSeq t1 (tSeq t2 (tSeq t3 (tSeq u (tRet (tVar i))))) { nx := fun _ H' => Qv .non H', rt := Qv } (L2.start NN vs) H := by
  show tSeq t1 (tSeq t2 (tSeq t3 u)) { nx := fun σ H => tRet (tVar i) { nx := fun _ H' => Qv .non H', rt := Qv } σ H, rt := Qv } (L2.start NN vs) H
  refine h G H _ H _ w.src ⟨G, [], .refl w, slots_start r, rfl, List.nodup_nil, fun i j e => ?_, fun j a m e1 _ => by simp at e1⟩ ⟨?_, fun _ _ _ _ _ _ z => z.elim, fun _ _ _ _ _ z => z.elim, fun _ _ _ _ _ z => z.elim⟩
  · unfold startR at e
    have z := List.mem_of_getElem? e
    rcases List.mem_append.mp z with z | z
    · obtain ⟨d, _, z⟩ := List.mem_map.mp z
      cases z
    · have z' := List.eq_of_mem_replicate z
      cases z'
  · rintro σ1 H1 ρ1 μ1 ⟨G1, as, r1⟩ ⟨j, es, hi, hj, hq⟩
    obtain ⟨a, ha, hs⟩ := r1.own i j hi
    obtain ⟨h0, _, hg, xs, hx, dx⟩ := r1.cell j a _ ha hj
    exact ⟨_, hs, c a xs es G1 H1 r1.st hg h0 hx dx hq⟩
/-- one new object frozen and locked -/
theorem Stp.gelF {G H G' H' : Hp} {a : Addr} {od : Obj} {o : HO} (s : Stp S G H G' H') (ga : G' a = none) (ha : H a = none) (nf : ¬ S.fp a) : Stp S G H (upd G' a (.frz od o)) (upd H' a (.frz od o)) := by
  refine ⟨s.gg.trans (Le.new ga), fun b u n e => ?_, fun b u e => ?_, ⟨fun b u e => ?_, S.loc H' _ (fun b f => (upd_ne (fun z : b = a => nf (by rw [← z]; exact f))).symm) s.w.src, fun b fb => ?_⟩⟩
  · rw [upd_ne fun z : b = a => by rw [z, ha] at e; cases e]
    exact s.hh b u n e
  · by_cases z : b = a
    · exact .inr (by rw [z]; exact ha)
    · rw [upd_ne z] at e
      exact s.nw b u e
  · by_cases z : b = a
    · subst z
      rw [upd_same] at e ⊢
      exact e
    · rw [upd_ne z] at e ⊢
      exact s.w.le b u e
  · rw [upd_ne (fun z : b = a => nf (by rw [← z]; exact fb))]
    exact s.w.sep b fb
theorem DatK.pairAt {G : Hp} : ∀ {vs : List (Key × V)} {kvs : List (Key × X3.D)} {i : Nat} {x y : V}, DatK K G vs kvs → (vs[i]?.map fun kv => kV kv.1) = some x → vs[i]?.map Prod.snd = some y → ∃ k d, kvs[i]? = some (k, d) ∧ x = kV k ∧ Dat K G y d
  | _, _, i, _, _, .nil, e, _ => by simp at e
  | _, _, 0, _, _, .cons h r, e, e2 => by
    cases e
    cases e2
    exact ⟨_, _, rfl, rfl, h⟩
  | _, _, i + 1, _, _, .cons h r, e, e2 => by
    obtain ⟨k, d, h1, h2, h3⟩ := DatK.pairAt (i := i) r (by simpa using e) (by simpa using e2)
    exact ⟨k, d, by simpa using h1, h2, h3⟩
def pairD (kv : Key × X3.D) : X3.D := .wtup [kD kv.1, kv.2]
theorem iter_items {G : Hp} {a : Addr} {od : Obj} {xs : List (Key × V)} {kvs : List (Key × X3.D)} (h : G a = some (.frz od (.dK xs))) (r : DatK K G xs kvs) : IterOk K S (Iti a od xs) G (kvs.map pairD) :=
  ⟨_, _, by rw [List.length_map, ← r.length]; exact walk_items, fun H le => le _ _ h, fun i H v H' G1 hi le w y => by
    obtain ⟨T, x, y, rfl, hT, rfl, hx, hy⟩ := y
    obtain ⟨k, d, e1, rfl, e3⟩ := r.pairAt hx hy
    exact ⟨_, _, by rw [List.getElem?_map, e1]; rfl, .new w hT, .wtup (SqT.of upd_same) (.cons (kD_dat k) (.cons ((e3.mono le).mono (Le.new (w.fresh hT))) .nil))⟩⟩
/-- for k, v in f(..).items(), f hands back a new dict -/
theorem wi_itemsF {P : Res → List X3.D → (List (Key × X3.D) → Prop) → Prop} {tA : TA} {E : XK} {P2 : List X3.D → Prop} (h : WA K S tA ρ fun ds => P S ds fun es => P2 (es.map pairD)) : WI K S (iItems (tLockT (tCall (spFD K P) [] E tA))) ρ P2 := fun σ G H R w sl c =>
  h σ G H _ w sl fun vs ds G' H' s dt q => ⟨S, G', ds, _, s.w, by rw [List.append_nil]; exact dt, q, fun a xs es G2 H2 s2 ga ha hx dx q2 => ⟨a, xs, rfl, hx, fun od => ⟨a, od, xs, rfl, upd_same,
    c _ _ _ _ (s.trans (s2.gelF ga ha (s.w.nfp ha))) (iter_items upd_same (dx.mono (Le.new ga))) q2⟩⟩⟩
end
end X3

set_option Elab.async false
set_option linter.all false
set_option maxRecDepth 100000
set_option maxHeartbeats 4000000
/-! # X3: lambdas with one parameter -/
namespace LamX1
open PySem PySem.Spec PyProof.Rows L2 LamX
/-- one parameter, else captured names and globals -/
structure LamS1 (sc scope : Scope) (x : Str) : Prop where
  kind : scope.kind = .function
  co : scope.isCoroutine = false
  gen : scope.isGenerator = false
  par : scope.names.lookup x = some .local
  own : ∀ y ∈ scope.names, y.2 = .local → y.1 = x
  nocell : ∀ y ∈ scope.names, y.2 ≠ .cell
  free : ∀ y ∈ scope.names, y.2 = .free → sc.names.lookup y.1 = some .cell ∨ sc.names.lookup y.1 = some .free
theorem LamS1.has {X : Cx} {scope : Scope} {x : Str} (L : LamS1 X.env.scope scope x) (ok : X.Ok) : ∀ y ∈ scope.names, y.2 = .free → ∃ c, X.env.cells.lookup y.1 = some c := fun y hy e =>
  (L.free y hy e).elim (fun z => ok.has _ (.inl z)) (fun z => ok.has _ (.inr z))
section
variable {X : Cx} {pins : List (Addr × Obj)} {σ : L2.St} {H HZ : Hp} {s s1 : Shared}
/-- the body is entered: the maker's slots, the parameter's slot anew -/
theorem start1 {A : Around} {outer : List Env} {E : XK} {scope : Scope} {f c' : Addr} {h₁ : Heap} {tk io : Nat} {x : Str} {v : V} {u : Value} (I : Inv X pins σ H s) (L : LamS1 X.env.scope scope x) (e0 : Env0 X.prog X.w X.K X.mg X.base A outer s1 HZ) (hd : A.handled = none)
    (un : Un (frs X.stack) [] H HZ s.heap s1.heap) (hns : h₁.Ns s1.heap.objs.size fun y => [(x, u)].reverse.lookup y) (kp : ∀ b o, s1.heap.get? b = some o → h₁.get? b = some o) (nd : X.N.Nodup) (hx : X.N[io]? = some x) (rv : RelV v u) :
    Inv (lamCx X A outer s1 HZ E scope f c') [] (σ.set io (some v)) HZ { s1 with heap := h₁, toks := tk } := by
  have hfree := L.has I.ok
  have cm : ∀ {y c}, (cloFrom X.env.cells scope.names []).lookup y = some c → X.env.cells.lookup y = some c := fun {y c} e => by
    rcases cloFrom_mem (PySem.mem_of_lookup e) with hm | ⟨h1, h2⟩
    · cases hm
    · obtain ⟨c1, hc⟩ := hfree _ h1 rfl
      have hc : X.env.cells.lookup y = some c1 := hc
      have e2 : c = c1 := by
        rw [h2, hc] <;> rfl
      rw [e2]
      exact hc
  have look : ∀ {y}, scope.names.lookup y = some .free → ∃ c, (cloFrom X.env.cells scope.names []).lookup y = some c := fun {y} hl =>
    mem_lookup (cloFrom_has (cells := X.env.cells) (acc := []) (PySem.mem_of_lookup hl))
  have cellK : ∀ {c : Addr} {v : Option Value}, H c = none → s.heap.IsCell c v → h₁.IsCell c v := fun {c v} n ⟨o, ho, hd⟩ => by
    obtain ⟨sl, q⟩ := un.any ho n (by simp)
    exact ⟨_, kp _ _ q, hd⟩
  have noA : ∀ b : Addr, b ∉ (lamCx X A outer s1 HZ E scope f c').ex := fun b z => absurd (show b ∈ ([] : List Addr) from z) (by simp)
  have len : (σ.set io (some v)).length = X.N.length := by rw [List.length_set]; exact I.len
  refine ⟨⟨e0.mod, L.kind, rfl, rfl, Nat.le_refl _, fun y z c e1 e2 => I.ok.inj y z c (cm e1) (cm e2), fun y hy => ?_, fun y c z _ => ?_, fun _ => hd, Around.frames_deeper e0.frames, .inr ⟨rfl, rfl⟩, fun b z => absurd z (noA b), e0.bs, e0.bsz, fun b _ _ => noA b,
      fun b z => absurd z (noA b), e0.funs, e0.frf⟩,
    rfl, e0.bare, Un.kept kp, ⟨_, hns, fun i y w e1 e2 e3 => ?_⟩, fun y c e => ?_, e0.hok.fresh (Nat.le_refl _), fun y c e => ?_, fun q hq => absurd (show q ∈ ([] : List (Addr × Obj)) ++ [] from hq) (by simp), e0.hok.kept kp, len⟩
  · have hy : scope.names.lookup y = some .cell ∨ scope.names.lookup y = some .free := hy
    rcases hy with hy | hy
    · exact absurd rfl (L.nocell _ (PySem.mem_of_lookup hy))
    · exact look hy
  · have z : false = true := z
    cases z
  · have e1 : X.N[i]? = some y := e1
    by_cases same : io = i
    · subst same
      rw [hx] at e1
      cases e1
      have il : io < σ.length := by rw [I.len]; exact (List.getElem?_eq_some_iff.mp hx).1
      rw [List.getElem?_set_self il] at e2
      cases e2
      exact ⟨u, rv, .inl ⟨L.par, by simp⟩⟩
    · rw [List.getElem?_set_ne same] at e2
      have e3 : Vis scope y := e3
      rcases e3 with k | k | k
      · have e4 := L.own _ (PySem.mem_of_lookup k) rfl
        have e4 : y = x := e4
        rw [e4] at e1
        obtain ⟨p1, p2⟩ := List.getElem?_eq_some_iff.mp e1
        obtain ⟨p3, p4⟩ := List.getElem?_eq_some_iff.mp hx
        exact absurd ((List.getElem_inj nd).mp (p4.trans p2.symm)) same
      · exact absurd rfl (L.nocell _ (PySem.mem_of_lookup k))
      · obtain ⟨m, hn, hl⟩ := I.loc
        have hvis : Vis X.env.scope y := (L.free _ (PySem.mem_of_lookup k) rfl).elim (fun k => .inr (.inl k)) (fun k => .inr (.inr k))
        obtain ⟨w', r, q⟩ := hl i y w e1 e2 hvis
        obtain ⟨c2, h2⟩ := look k
        refine ⟨w', r, .inr ⟨.inr k, c2, h2, ?_⟩⟩
        have c1 := cm h2
        rcases q with ⟨k', _⟩ | ⟨_, c3, e', z⟩
        · have k' : X.env.scope.names.lookup y = some .local := k'
          rcases L.free _ (PySem.mem_of_lookup k) rfl with k2 | k2 <;> rw [show X.env.scope.names.lookup y = _ from k2] at k' <;> cases k'
        · rw [c1] at e'
          cases e'
          exact cellK (I.freeC y _ c1) z
  · obtain ⟨w', z⟩ := I.cell y c (cm e)
    exact ⟨w', cellK (I.freeC y c (cm e)) z⟩
  · obtain ⟨v, o, ho, hd⟩ := I.cell y c (cm e)
    exact un.free c o ho (I.freeC y c (cm e)) (by simp)
/-- a(e), in the def that got the lambda: that def's context, entered at s -/
theorem pe_act1 {CXg : CXT} {Eg : XK} {Ng : List Str} {qg : Str} {sg : Scope} {g f c' : Addr} {cdg pm ctv : Value} {params : Arguments} {body : Expr} {scope : Scope} {k i io : Nat} {a x : Str} {pn : List (Addr × Obj)} {xe : Value → Shared → Prop} {W : WX} {E : XK} {tb : TE} {p1 p2 : Pos} {e : Expr} {ta : TA}
    (I : Inv X pins σ H s) (L : LamS1 X.env.scope scope x) (hf : s.heap.get? f = some (PySem.W.kla_obj "<lambda>" (X.env.qual ++ "<lambda>") params body scope (cloFrom X.env.cells scope.names []) pm c' ctv)) (hfn : H f = none) (hfr : f ∉ frs X.stack) (nd : X.N.Nodup) (hx : X.N[io]? = some x)
    (hbind : ∀ u, bindArgs (PySem.W.kla_fn "<lambda>" (X.env.qual ++ "<lambda>") params body scope (cloFrom X.env.cells scope.names []) pm (.ref c') ctv) ⟨[u], []⟩ = pure [(x, u)])
    (tk : Takes ((cxOf CXg X.prog X.w X.K X.mg X.base Ng qg sg g cdg X.A X.stack s H Eg).tr pn xe) W) (hW : ∀ cls d σ' H', E cls d H' → W cls d σ' H') (hr : Room (k + 1) (X.A.deeper (envOfC qg sg s.heap.objs.size g cdg)))
    (hbody : ∀ (A : Around) (outer : List Env) (s : Shared) (H : Hp), A.guards = X.A.guards → Room k (A.deeper (lamEnv X scope s.heap.objs.size f c')) → PE (lamCx X A outer s H E scope f c') body tb)
    (hN : Ng[i]? = some a) (hv : Vis sg a) (ha : PA ((cxOf CXg X.prog X.w X.K X.mg X.base Ng qg sg g cdg X.A X.stack s H Eg).tr pn xe) [e] ta)
    (he : starEach [e] ((cxOf CXg X.prog X.w X.K X.mg X.base Ng qg sg g cdg X.A X.stack s H Eg).tr pn xe).env = [(false, eval e ((cxOf CXg X.prog X.w X.K X.mg X.base Ng qg sg g cdg X.A X.stack s H Eg).tr pn xe).env)] := by rfl)
    (hd : (a == ("__debug__" : Str)) = false := by decide) (hcd : (a == ("__classdict__" : Str)) = false := by decide) :
    PE ((cxOf CXg X.prog X.w X.K X.mg X.base Ng qg sg g cdg X.A X.stack s H Eg).tr pn xe) (.Call (.Name a p1) [e] [] p2)
      (fun σZ HZ Q => σZ[i]? = some (some (.ref f)) ∧ ta σZ HZ fun vs H1 => ∃ v, vs = [v] ∧ H1 c' = some (CodeO c' (X.env.qual ++ "<lambda>")) ∧ tb (σ.set io (some v)) H1 Q) := by
  refine ⟨fun pinsZ sZ σZ HZ Q IZ h => ?_⟩
  obtain ⟨hs, ht⟩ := h
  refine wpAny_Call_Name_kw (thn ((pe_var (pos := p1) (i := i) hN hv hd hcd).run pinsZ sZ σZ HZ (fun v H1 => v = .ref f ∧ H1 = HZ) IZ ⟨.ref f, hs, rfl, rfl⟩) fun u s1 ⟨v, H1, I1, r1, q1⟩ => ?_)
  obtain ⟨ev, eH⟩ := q1
  subst ev
  rw [eH] at I1
  obtain rfl : u = Value.ref f := r1
  have keepF : ∀ {σ2 H2 s2}, Inv ((cxOf CXg X.prog X.w X.K X.mg X.base Ng qg sg g cdg X.A X.stack s H Eg).tr pn xe) pinsZ σ2 H2 s2 → s2.heap.get? f = some (PySem.W.kla_obj "<lambda>" (X.env.qual ++ "<lambda>") params body scope (cloFrom X.env.cells scope.names []) pm c' ctv) := fun J => J.base.keep f _ hf hfn hfr (fun z => nomatch (show f ∈ ([] : List Addr) from z))
  refine PySem.W.callWith_F ⟨_, _, _, _, keepF I1⟩ (thn (ha.run p2 pinsZ s1 σZ HZ _ I1 ht) fun us s2 ⟨vs, H2, I2, r2, v, ev, hc, q⟩ => ?_) he rfl
  subst ev
  cases r2 with
  | @cons _ u _ _ ru rn =>
  cases rn
  have of2 := keepF I2
  refine ⟨⟨_, _, _, _, of2⟩, ?_⟩
  have un : Un (frs X.stack) [] H H2 s.heap s2.heap := I2.base
  obtain ⟨⟨oc, ws, t, hoc, hdc, hvc⟩, _, _⟩ := I2.hok c' _ hc
  have rc : codeAny (model X.prog X.w) (X.A.deeper (envOfC qg sg s.heap.objs.size g cdg)) (.call (.ref f) ⟨[u], []⟩) (CR (L2.CX X.prog X.w) (envOfC qg sg s.heap.objs.size g cdg :: X.stack) X.prog X.w H2 s2 Q E) s2 := by
    refine PySem.W.kla_callFunE hr.depth of2 rfl L.co L.gen rfl ⟨c', oc, ws, t, rfl, hoc, hdc, hvc⟩ ?_
    rw [hbind]
    refine wpAny_pure (wpAny_newFunctionEnv L.nocell (fun y hy => ?_) (fun h₁ hns hsb => ⟨I2.nolimit.fresh _ hsb, ?_⟩) L.kind)
    · rw [List.mem_singleton.mp hy]
      exact L.par
    show codeAny _ _ (.expr body (lamEnv X scope s2.heap.objs.size f c')) _ _
    have kp : ∀ b o, s2.heap.get? b = some o → h₁.get? b = some o := fun b o e => hsb.extBut b o (Nat.ne_of_lt (Heap.lt_size e)) (Heap.get?_push_of_some _ e)
    have J : Inv (lamCx X (X.A.deeper (envOfC qg sg s.heap.objs.size g cdg)) (envOfC qg sg s.heap.objs.size g cdg :: X.stack) s2 H2 E scope f c') [] (σ.set io (some v)) H2 { s2 with heap := h₁, toks := s2.toks + [(x, u)].length } :=
      start1 I L I2.env0 hr.hd un hns kp nd hx ru
    refine PySem.W.kla_codeExpr (wpAny_mono ((hbody (X.A.deeper (envOfC qg sg s.heap.objs.size g cdg)) _ s2 H2 rfl (hr.deeper _)).run [] _ _ H2 Q J q) (fun v s' hq => ?_) fun e s' hq => hq)
    obtain ⟨w', H', J', rv, q⟩ := hq
    exact ⟨w', H', J'.os, J'.bare, J'.base, J'.hok, rv, q⟩
  have hxx : Passes (L2.CX X.prog X.w) ((cxOf CXg X.prog X.w X.K X.mg X.base Ng qg sg g cdg X.A X.stack s H Eg).tr pn xe) E := passes_call tk hW
  refine wpAny_call (codeAny_mono rc fun r s' hq => ?_)
  cases r with
  | error e => exact hxx pinsZ σZ H2 s2 e s' I2 hq
  | ok fl =>
    cases fl with
    | ret u => exact I2.after hq
    | next => exact False.elim hq
    | brk => exact False.elim hq
    | cont => exact False.elim hq
end
end LamX1

set_option Elab.async false
set_option linter.all false
set_option maxRecDepth 100000
set_option maxHeartbeats 4000000
namespace LamX1
open PySem PySem.Spec PyProof.Rows L2 LamX
/-- the def that calls what it got as its third: TT, what it makes of the lambda's reading -/
def GivesTo3 (X : Cx) (Ng : List Str) (x : Str) (sg : Scope) (g : Addr) (cdg : Value) (bg : List Stmt) (a : Str) (q : Str) (TT : List V → (XK → V → Hp → VK → Prop) → Hp → VK → Prop) : Prop :=
  ∀ (f c' : Addr) (s : Shared) (H : Hp) (Q : VK) (v1 v2 : V) (tl : XK → V → Hp → VK → Prop),
    (∀ (W : WX) (pn : List (Addr × Obj)) (xe : Value → Shared → Prop) (E : XK) (p1 p2 : Pos) (e : Expr) (ta : TA), Takes ((cxOf C8.CX0 X.prog X.w X.K X.mg X.base Ng x sg g cdg X.A X.stack s H C8.E0).tr pn xe) W → (∀ cls d σ' H', E cls d H' → W cls d σ' H') →
      PA ((cxOf C8.CX0 X.prog X.w X.K X.mg X.base Ng x sg g cdg X.A X.stack s H C8.E0).tr pn xe) [e] ta →
      starEach [e] ((cxOf C8.CX0 X.prog X.w X.K X.mg X.base Ng x sg g cdg X.A X.stack s H C8.E0).tr pn xe).env = [(false, eval e ((cxOf C8.CX0 X.prog X.w X.K X.mg X.base Ng x sg g cdg X.A X.stack s H C8.E0).tr pn xe).env)] →
      PE ((cxOf C8.CX0 X.prog X.w X.K X.mg X.base Ng x sg g cdg X.A X.stack s H C8.E0).tr pn xe) (.Call (.Name a p1) [e] [] p2) (fun σZ HZ Q => σZ[2]? = some (some (.ref f)) ∧ ta σZ HZ fun vs H1 => ∃ v, vs = [v] ∧ H1 c' = some (CodeO c' q) ∧ tl E v H1 Q)) →
    H c' = some (CodeO c' q) → TT [v1, v2] tl H Q →
    ∃ t, PSs (cxOf C8.CX0 X.prog X.w X.K X.mg X.base Ng x sg g cdg X.A X.stack s H C8.E0).nox bg t ∧ t { nx := fun _ H' => Q .non H', rt := Q } (L2.start Ng [v1, v2, .ref f]) H
def tLam3 (T : List (Addr × Str)) (TT : List V → (XK → V → Hp → VK → Prop) → Hp → VK → Prop) (t1 t2 : TE) (io : Nat) (t : XK → TE) : TE := fun σ H Q => t1 σ H fun v1 H1 => t2 σ H1 fun v2 H2 => Tabs T H2 ∧ ∀ H3, ExtN H2 H3 → Tabs T H3 → TT [v1, v2] (fun E v H' Q' => t E (σ.set io (some v)) H' Q') H3 Q
section
variable {X : Cx}
/-- x(e1, e2, lambda y: body) -/
theorem pe_lamcall3 {T : List (Addr × Str)} {TT : List V → (XK → V → Hp → VK → Prop) → Hp → VK → Prop} {x b1 b2 a y : Str} {g c P : Addr} {k io : Nat} {pg : Arguments} {bg : List Stmt} {sg : Scope} {dV kV doc pm cdv ct oc : Value} {an od : Option Addr} {osl : Array (Option Value)} {Ng : List Str}
    {params : Arguments} {body e1 e2 : Expr} {scope : Scope} {t1 t2 : TE} {t : XK → TE} {p lpos pos : Pos} (hg : Gl X x) (hm : X.mg x = some (.ref g)) (hk : PySem.W.keepIn X.K (.ref g) = true)
    (lk : X.K.lookup g = some ⟨oc, od, .func (PySem.W.fnOf x x pg bg sg dV kV doc pm an cdv ct), osl⟩) (hcg : PySem.W.codeIn X.K cdv x = true) (hb : L2.Binds X.K (PySem.W.fnOf x x pg bg sg dV kV doc pm an cdv ct) [b1, b2, a] []) (Sg : FnScope Ng [b1, b2, a] sg) (hNg : Ng[2]? = some a) (hva : Vis sg a)
    (hG : GivesTo3 X Ng x sg g cdv bg a (X.env.qual ++ "<lambda>") TT)
    (h1 : PE X e1 t1) (h2 : PE X e2 t2) (nd : X.N.Nodup) (hy : X.N[io]? = some y)
    (TB : TabB X.base X.mg c P) (hcode : X.env.code = .ref c) (hmT : (P, X.env.qual ++ "<lambda>") ∈ T) (hu : ∀ p ∈ T, p.1 = P → p.2 = X.env.qual ++ "<lambda>") (hr : Room (k + 2) X.A) (L : LamS1 X.env.scope scope y) (hdef : defaultsOf params X.env = ([], []))
    (hbind : ∀ (q : Str) (cl : List (Str × Addr)) (pm cv ctv u : Value), bindArgs (PySem.W.kla_fn "<lambda>" q params body scope cl pm cv ctv) ⟨[u], []⟩ = pure [(y, u)])
    (hbody : ∀ (A : Around) (outer : List Env) (s : Shared) (H : Hp) (E : XK) (f c' : Addr), A.guards = X.A.guards → Room k (A.deeper (lamEnv X scope s.heap.objs.size f c')) → PE (lamCx X A outer s H E scope f c') body (t E))
    (hs : starEach [e1, e2, .Lambda params body scope lpos] X.env = [(false, eval e1 X.env), (false, eval e2 X.env), (false, eval (.Lambda params body scope lpos) X.env)] := by rfl) (hs2 : starEach [e2, .Lambda params body scope lpos] X.env = [(false, eval e2 X.env), (false, eval (.Lambda params body scope lpos) X.env)] := by rfl)
    (hdb : (x == ("__debug__" : Str)) = false := by decide) (hd : (a == ("__debug__" : Str)) = false := by decide) (hcd : (a == ("__classdict__" : Str)) = false := by decide) :
    PE X (.Call (.Name x p) [e1, e2, .Lambda params body scope lpos] [] pos) (tLam3 T TT t1 t2 io t) := by
  refine ⟨fun pins s σ H Q I h => ?_⟩
  refine wpAny_Call_Name_kw (ld_glob I hg hm ?_ hdb)
  refine PySem.W.callWith_K (h₀ := X.base) I.ok.mod.kin hk ?_ (by rw [hs, hs2]) (by rw [hs2]; rfl)
  rw [hs]
  refine Calls.spliced_cons (thn (h1.run pins s σ H _ I h) fun u1 s1 ⟨v1, H1, I1, r1, q1⟩ => ?_)
  refine Calls.spliced_cons (thn (h2.run pins s1 σ H1 _ I1 q1) fun u2 s2 ⟨v2, H2, I2, r2, q2⟩ => ?_)
  obtain ⟨hT, q3⟩ := q2
  refine Calls.spliced_cons (lam_make2 I2 TB hcode hmT hu hT hdef (L.has I.ok) fun f c' pm' ctv H3 s3 I3 eN T3 hf hfn hfr hco => ?_)
  refine Calls.spliced_nil ⟨I3.kIn, ?_⟩
  have rc : codeAny (model X.prog X.w) X.A (.call (.ref g) ⟨[u1, u2, .ref f], []⟩) (CR C8.CX0 X.stack X.prog X.w H3 s3 Q C8.E0) s3 := by
    refine run_ofS (N := Ng) (ps := [b1, b2, a]) (us := [u1, u2, .ref f]) (vs := [v1, v2, .ref f]) lk hcg Sg hr I3.env0 (hb s3 [u1, u2, .ref f] I3.kIn rfl) (.cons r1 (.cons r2 (.cons rfl .nil))) rfl fun hr' => ?_
    obtain ⟨t', ht', hq'⟩ := hG f c' s3 H3 Q v1 v2 (fun E v H' Q' => t E (σ.set io (some v)) H' Q') (fun W pn xe E p1 p2 e ta tk hW ha he => pe_act1 (i := 2) I3 L hf hfn hfr nd hy (fun u => hbind _ _ _ _ _ u) tk hW hr' (fun A outer s H hg hr2 => hbody A outer s H E f c' hg hr2) hNg hva ha he hd hcd) hco (q3 H3 eN T3)
    exact ⟨t', ht'.nox, hq'⟩
  refine wpAny_call (codeAny_mono rc fun r s2 hq => ?_)
  cases r with
  | error e => exact (show False from hq).elim
  | ok fl =>
    cases fl with
    | ret u => exact I3.after hq
    | next => exact False.elim hq
    | brk => exact False.elim hq
    | cont => exact False.elim hq
end
end LamX1

set_option Elab.async false
set_option linter.all false
set_option maxRecDepth 100000
set_option maxHeartbeats 4000000
/-! # X3: the law's own end, where the law makes a lambda: its code object's table is tracked -/
namespace X3
open PySem PySem.Spec L2 PyProof.Rows
/-- the law's call: the script, read only, and one empty table are tracked -/
theorem law_callGT {P : Program} {w : World} {K : PySem.W.Frag} {mg mb : Str → Option Value} {k : Nat} {fa a cd tb : Addr} {fd : FuncData} {x : Str} {sp : Sp} {st : Shared} {us : List Value} {ns : List Int}
    (KI : K.In st.heap) (gns : st.heap.Ns mainGlobals mg) (bns : st.heap.Ns builtinsNs mb) (blt : ∀ y : Str, y ≠ "__name__" → mb y = bootBuiltins y) (lim : st.heap.NoLimit) (bare : st.gens = #[]) (at_ : st.heap.get? a = some { cls := .type "list", data := .seq us.toArray })
    (isT : st.heap.get? tb = some { cls := .none, data := .fields #[] }) (noT : K.lookup tb = none) (hdT : PySem.W.CodeHd st.heap cd tb)
    (bm : ∃ (b : Addr) (ob : Obj), mg "__builtins__" = some (.ref b) ∧ b ≠ builtinsNs ∧ st.heap.get? b = some ob ∧ ob.cls = .type "module" ∧ ob.dict = some builtinsNs ∧ ob.data = .plain)
    (allI : IntsAre us ns) (few : ns.length ≤ sizeLine) (room : Room k callerA) (one : One st.heap) (F : ∀ base : Heap, K.In base → base.Ns mainGlobals mg → One base → LamX.TabB base mg cd tb → FnG P w K mg base CX0 k fa fd [x] sp) (bi : ∀ (s : Shared) (u : Value), BindsTo s fd { pos := [u] } [(x, u)])
    (want : ∀ H : Hp, H tb = some (.tbl #[]) → SqL K H a (ns.map V.int) → sp [.ref a] H (fun v _ => v = .bl true) fun _ _ _ => False) :
    codeAny (model P w) callerA (.call (.ref fa) { pos := [.ref a] }) (fun r s2 => r = .ok (.ret (.bool true)) ∧ OldK st.heap s2.heap ∧ s2.os = st.os ∧ AllBare s2.gens) st := by
  have rs := vals_ints allI
  let ob : Obj := { cls := .type "list", data := .seq us.toArray }
  let ot : Obj := { cls := .none, data := .fields #[] }
  have apart : a ≠ tb := fun z => by
    rw [z, isT] at at_
    cases at_
  let H : Hp := fun b => if b = tb then some (.tbl #[]) else if b = a ∧ K.lookup a = none then some (.frz ob (.lst (ns.map V.int))) else none
  have Ht : H tb = some (.tbl #[]) := if_pos rfl
  have told : ∀ {b o}, H b = some o → (b = tb ∧ o = .tbl #[]) ∨ (b = a ∧ K.lookup a = none ∧ o = .frz ob (.lst (ns.map V.int))) := fun {b o} e => by
    have e' : (if b = tb then some (HO.tbl #[]) else if b = a ∧ K.lookup a = none then some (HO.frz ob (.lst (ns.map V.int))) else none) = some o := e
    split at e'
    · rename_i c
      exact .inl ⟨c, (Option.some.inj e').symm⟩
    · split at e'
      · rename_i c
        exact .inr ⟨c.1, c.2, (Option.some.inj e').symm⟩
      · cases e'
  have sees : SqL K H a (ns.map V.int) := by
    cases lk : K.lookup a with
    | none => exact .inl (.inr ⟨ob, (if_neg apart).trans (if_pos ⟨rfl, lk⟩)⟩)
    | some o =>
      have e := KI a o lk
      have e : ob = o := Option.some.inj (at_.symm.trans e)
      have size : us.toArray.size ≤ sizeLine := by
        rw [List.size_toArray, allI.length]
        exact few
      exact .inr ⟨ob, us.toArray, _, e ▸ lk, rfl, rfl, rfl, size, by simpa using rs⟩
  have okH : HOk P w H st.heap := fun b o e => by
    rcases told e with ⟨z, z2⟩ | ⟨z, _, z2⟩
    · rw [z, z2]
      exact isT
    · rw [z, z2]
      exact ⟨at_, (List.length_map (V.int)).symm ▸ few, us, _, rs, at_⟩
  have untold : ∀ {b o}, st.heap.get? b = some o → o ≠ ob → o ≠ ot → H b = none := fun {b o} e ne ne2 => by
    cases q : H b with
    | none => rfl
    | some z =>
      rcases told q with y | y
      · rw [y.1, isT] at e
        exact absurd (Option.some.inj e).symm ne2
      · rw [y.1, at_] at e
        exact absurd (Option.some.inj e).symm ne
  have nsH : ∀ {b m}, st.heap.Ns b m → (hidT st.heap H).Ns b m := fun {b m} ⟨o, es, ep, e, dt, r⟩ => ⟨o, es, ep, hidT_get e (untold e (fun z => by rw [z] at dt; cases dt) fun z => by rw [z] at dt; cases dt), dt, r⟩
  have KB : K.In (hidT st.heap H) := fun b o lk => by
    refine hidT_get (KI b o lk) ?_
    cases q : H b with
    | none => rfl
    | some z =>
      rcases told q with ⟨y, _⟩ | ⟨y, no, _⟩
      · rw [y, noT] at lk
        cases lk
      · rw [y, no] at lk
        cases lk
  have top : Mod K mg (hidT st.heap H) := ⟨KB, nsH gns, ⟨mb, nsH bns, blt⟩, lim.elim fun m z => ⟨m, nsH z.1, z.2⟩⟩
  have e0 : Env0 P w K mg (hidT st.heap H) callerA [] st H :=
    { frames := rfl, mod := top, bs := fun b o e => of_hidT e, bsz := Nat.le_of_eq (hidT_size _ _), funs := trivial, frf := fun b z => (by cases z), hok := okH, bare := .of_eq bare }
  have one' : One (hidT st.heap H) := by
    obtain ⟨o, es, ep, e, dt⟩ := one
    exact ⟨o, es, ep, hidT_get e (untold e (fun z => by rw [z] at dt; cases dt) fun z => by rw [z] at dt; cases dt), dt⟩
  have tab : LamX.TabB (hidT st.heap H) mg cd tb := by
    refine ⟨?_, ?_, fun z => ?_⟩
    · obtain ⟨o, vs, file, tf, flags, tg, inF, text, tt, e1, r1, r2, r3, rest⟩ := hdT
      refine ⟨o, vs, file, tf, flags, tg, inF, text, tt, hidT_get e1 (untold e1 (fun z => ?_) fun z => ?_), r1, r2, r3, rest⟩
      · rw [z] at r2
        cases r2
      · rw [z] at r2
        cases r2
        simp at r3
    · obtain ⟨b, o, b1, b2, b3, b4, b5, b6⟩ := bm
      refine ⟨b, o, b1, b2, fun q => ?_, fun q => ?_, hidT_get b3 (untold b3 (fun z => ?_) fun z => ?_), b4, b5, b6⟩
      · obtain ⟨o2, es, ep, e, dt, _⟩ := gns
        rw [q, e] at b3
        cases b3
        rw [dt] at b6
        cases b6
      · rw [q, isT] at b3
        cases b3
        cases b6
      · rw [z] at b6
        cases b6
      · rw [z] at b6
        cases b6
    · obtain ⟨o, es, ep, e, dt, _⟩ := gns
      rw [z, isT] at e
      cases e
      cases dt
  refine codeAny_mono ((F _ KB (nsH gns) one' tab).keeps (out := []) rfl room e0 (bi st (.ref a)) (vs := [.ref a]) (.cons rfl .nil) (want H Ht sees)) fun r s2 back => ?_
  match r, back with
  | .error _, no => exact no.elim
  | .ok .next, no => exact no.elim
  | .ok .brk, no => exact no.elim
  | .ok .cont, no => exact no.elim
  | .ok (.ret u), ⟨v, H2, os, bare2, un, ok2, rv, q⟩ =>
    cases (show v = .bl true from q)
    cases (show u = Value.bool true from rv)
    obtain ⟨more, z⟩ := un.tbls tb #[] Ht
    have grown := ok2 tb _ z
    have still : ∀ b o, b ≠ tb → st.heap.get? b = some o → s2.heap.get? b = some o := fun b o ne e => by
      cases q2 : H b with
      | none => exact un.keep b o e q2 nofun nofun
      | some z =>
        rcases told q2 with ⟨y, _⟩ | ⟨y, _, y2⟩
        · exact absurd y ne
        · have s3 := (ok2 b _ (un.frzs b _ _ (y2 ▸ q2))).1
          rw [y] at e s3 ⊢
          rw [at_] at e
          cases e
          exact s3
    refine ⟨rfl, ⟨fun b o e => ?_, fun b o e => ?_⟩, os, bare2⟩
    · by_cases c : b = tb
      · rw [c] at e ⊢
        rw [isT] at e
        cases e
        exact .inr (.inl ⟨(hdT.tab isT).isCodeTable, rfl, #[], more, rfl, by rw [Array.empty_append]; have g := grown; rw [Array.empty_append] at g; exact g⟩)
      · exact .inl (still b o c e)
    · by_cases c : b = tb
      · rw [c]
        exact ⟨_, show s2.heap.get? tb = some { cls := .none, data := .fields (#[] ++ more) } from grown⟩
      · exact ⟨o, still b o c e⟩
/-- a law that makes a lambda: its code object cd, the table tb -/
theorem walk_ofGT {l : PySem.W.OpenLaw} {n k : Nat} {q : Program} {loose : List Str} {XP : (Str → Option Value) → Heap → Prop} {YP : World → Heap → Prop} {d : DefRec} {K : Params → PySem.W.Frag} {sp : World → Addr → Sp} {x : Str} (imp : importsNone q = true) (most : l.most = some n) (few : n ≤ sizeLine) (plain : d.params.defaults = []) (room : Room k callerA)
    (KI : ∀ (w : World) (h : Heap), YP w h → (K w.params).In h) (rec : ((recsOf q).find? fun e => e.name == d.name).isSome = true) (NT : ∀ w : World, PySem.W.noTabs (K w.params) = true)
    (F : ∀ (w : World) (mg : Str → Option Value) (fa : Addr) (h : Heap), YP w h → (K w.params).In h → h.Ns mainGlobals mg → mg d.name = some (.ref fa) → ∃ (fd : FuncData) (c0 : Value) (d0 : Option Addr) (sl : Array (Option Value)), (K w.params).lookup fa = some ⟨c0, d0, .func fd, sl⟩ ∧
      (∀ (s : Shared) (u : Value), BindsTo s fd { pos := [u] } [(x, u)]) ∧ ∀ (cd tb : Addr) (base : Heap), fd.code = .ref cd → (K w.params).In base → base.Ns mainGlobals mg → One base → LamX.TabB base mg cd tb → FnG l.prog w (K w.params) mg base CX0 k fa fd [x] (sp w tb))
    (want : ∀ (w : World) (H : Hp) (a tb : Addr) (ns : List Int), ns.length ≤ n → H tb = some (.tbl #[]) → SqL (K w.params) H a (ns.map V.int) → sp w tb [.ref a] H (fun v _ => v = .bl true) fun _ _ _ => False) : PySem.W.WalkO q loose XP YP l.row.toRowW d [] (fun f vs => PySem.call f vs) := by
  refine Att.attach_call most plain fun w s0 st mg mb fa o pm cd doc a us ns G Y _ _ _ gm at_ allI len bare => ?_
  have T := G.T
  obtain ⟨fd, c0, d0, sl, lk, bi, F'⟩ := F w mg fa _ Y (KI w _ Y) T.g gm
  obtain ⟨dd, hd⟩ := Option.isSome_iff_exists.mp rec
  have hn : dd.name = d.name := beq_iff_eq.mp (List.find?_some (p := fun e : DefRec => e.name == d.name) hd)
  obtain ⟨fa2, o2, fd2, cd2, tb, t1, t2, t3, t4, t5, t6⟩ := T.tab dd (List.mem_of_find?_eq_some hd)
  rw [hn, gm] at t1
  cases t1
  have e1 := (KI w _ Y) _ _ lk
  rw [t2] at e1
  cases e1
  cases t3
  have noT : (K w.params).lookup tb = none := by
    cases z : (K w.params).lookup tb with
    | none => rfl
    | some o =>
      have e2 := (KI w _ Y) _ _ z
      have e3 := t6.2
      rw [e2] at e3
      cases e3
      have h2 := List.all_eq_true.mp (NT w) (tb, _) (PySem.W.mem_of_lookupK z)
      exact absurd (show false = true from h2) Bool.false_ne_true
  refine law_callGT (KI w _ Y) T.g T.b T.builtins T.nolimit bare at_ t6.2 noT (PySem.W.CodeHd.of t5 t6) T.bmain allI (Nat.le_trans len few) room ?_ (fun base KB GB h1 TB => F' cd2 tb base t4 KB GB h1 TB) bi fun H e sees => want w H a tb ns len e sees
  obtain ⟨_, ⟨o, es, ep, e, dt, _⟩, _⟩ := (T.seer imp).mods
  exact ⟨o, es, ep, e, dt⟩
end X3

set_option Elab.async false
set_option linter.all false
set_option maxRecDepth 100000
set_option maxHeartbeats 4000000
/-! # X3: what is told stays told when a code object's table grows -/
namespace X3
open PySem PySem.Spec L2 PyProof.Rows LamX
/-- what is told, without tables of code objects -/
def noTab (G : Hp) : Hp := fun a => match G a with
  | some (.tbl _) => none
  | r => r
theorem noTab_ext (G : Hp) : ExtN G (noTab G) := fun a o e ne => by
  unfold noTab
  rw [e]
  cases o with
  | tbl ps => exact absurd rfl (ne ps)
  | _ => rfl
theorem noTab_get {G : Hp} {a : Addr} {o : HO} (e : noTab G a = some o) : G a = some o ∧ ∀ ps, o ≠ .tbl ps := by
  unfold noTab at e
  cases q : G a with
  | none => rw [q] at e; cases e
  | some u =>
    rw [q] at e
    cases u with
    | tbl ps => cases e
    | _ =>
      cases e
      exact ⟨rfl, nofun⟩
theorem noTab_le (G : Hp) : Le (noTab G) G := fun a o e => (noTab_get e).1
/-- data are no tables -/
theorem ext_rd {G G' : Hp} {a : Addr} {u : HO} (e : ExtN G G') (n : ∀ ps, u ≠ .tbl ps) (h : Rd G a u) : Rd G' a u := by
  rcases h with h | ⟨o, h⟩
  · exact .inl (e _ _ h n)
  · exact .inr ⟨o, e _ _ h nofun⟩
theorem ext_t {K : PySem.W.Frag} {G G' : Hp} {a : Addr} {xs : List V} (e : ExtN G G') (h : SqT K G a xs) : SqT K G' a xs := by
  rcases h with h | h
  · exact .inl (ext_rd e nofun h)
  · exact .inr h
theorem TupN.ext {K : PySem.W.Frag} {G G' : Hp} {a : Addr} {xs : List V} (e : ExtN G G') (h : TupN K G a xs) : TupN K G' a xs := ⟨ext_t e h.sq, h.slim.imp (fun ⟨o, u, z, d⟩ => ⟨o, u, e _ _ z nofun, d⟩) id⟩
def isTbl : HO → Bool
  | .tbl _ => true
  | _ => false
theorem ext_at {G G' : Hp} {a : Addr} {u : HO} (e : ExtN G G') (h : G a = some u) (n : isTbl u = false) : G' a = some u := e _ _ h fun ps z => by
  rw [z] at n
  cases n
theorem ext_dk {G G' : Hp} {a : Addr} {kvs : List (Key × V)} (e : ExtN G G') (h : Rd G a (.dK kvs)) : Rd G' a (.dK kvs) := ext_rd e nofun h
theorem ext_td {G G' : Hp} {a : Addr} {P : Program} {w : World} {ws : List TEnt} (e : ExtN G G') (h : G a = some (TdO P w a ws)) : G' a = some (TdO P w a ws) := ext_at e h rfl
mutual
theorem Dat.ext {K : PySem.W.Frag} {G G' : Hp} (e : ExtN G G') : ∀ {v : V} {d : D}, Dat K G v d → Dat K G' v d
  | _, _, .non => .non
  | _, _, .bl b => .bl b
  | _, _, .int i => .int i
  | _, _, .str x => .str x
  | _, _, .list h r => .list (ext_at e h rfl) (DatL.ext e r)
  | _, _, .tup h r => .tup (TupN.ext e h) (DatL.ext e r)
  | _, _, .wtup h r => .wtup (ext_t e h) (DatL.ext e r)
  | _, _, .dict h r => .dict (ext_dk e h) (DatK.ext e r)
  | _, _, .dt h r => .dt (ext_td e h) (DatT.ext e r)
  | _, _, .fz h r => .fz (ext_at e h rfl) (DatK.ext e r)
  | _, _, .obj h r => .obj (ext_at e h rfl) (DatF.ext e r)
  | _, _, .exc0 h => .exc0 (ext_at e h rfl)
  | _, _, .exc1 h h2 r => .exc1 (ext_at e h rfl) (ext_at e h2 rfl) (DatF.ext e r)
  | _, _, .kset h => .kset (ext_at e h rfl)
  | _, _, .val v => .val v
theorem DatL.ext {K : PySem.W.Frag} {G G' : Hp} (e : ExtN G G') : ∀ {v : List V} {d : List D}, DatL K G v d → DatL K G' v d
  | _, _, .nil => .nil
  | _, _, .cons h r => .cons (Dat.ext e h) (DatL.ext e r)
theorem DatK.ext {K : PySem.W.Frag} {G G' : Hp} (e : ExtN G G') : ∀ {v : List (Key × V)} {d : List (Key × D)}, DatK K G v d → DatK K G' v d
  | _, _, .nil => .nil
  | _, _, .cons h r => .cons (Dat.ext e h) (DatK.ext e r)
theorem DatT.ext {K : PySem.W.Frag} {G G' : Hp} (e : ExtN G G') : ∀ {v : List TEnt} {d : List (List Key × D)}, DatT K G v d → DatT K G' v d
  | _, _, .nil => .nil
  | _, _, .cons z h r => .cons (ext_t e z) (Dat.ext e h) (DatT.ext e r)
theorem DatF.ext {K : PySem.W.Frag} {G G' : Hp} (e : ExtN G G') : ∀ {v : List (Str × V)} {d : List (Str × D)}, DatF K G v d → DatF K G' v d
  | _, _, .nil => .nil
  | _, _, .cons h r => .cons (Dat.ext e h) (DatF.ext e r)
end
theorem Slots.ext {K : PySem.W.Frag} {G G' : Hp} {σ : L2.St} {ρ : Rho} (e : ExtN G G') (s : Slots K G σ ρ) : Slots K G' σ ρ := ⟨s.len, fun i d h =>
  let ⟨v, a, b⟩ := s.get i d h
  ⟨v, a, b.ext e⟩⟩
/-- the world stands, when the tables have grown and the source is none of them -/
theorem Wld.ext {S : Res} {G H H' : Hp} (w : Wld S G H) (e : ExtN H H') (src : ∀ a, S.fp a → H a = H' a) : Wld S (noTab G) H' where
  le := fun a o h => e _ _ (w.le _ _ (noTab_get h).1) (noTab_get h).2
  src := S.loc H H' src w.src
  sep := fun a f => by
    unfold noTab
    rw [w.sep a f]
/-- nothing is one's own: what follows begins anew at H' -/
theorem Rep.anew {K : PySem.W.Frag} {S : Res} {G0 H0 H H' : Hp} {σ : L2.St} {ρ : Rho} (r : Rep K S G0 H0 σ H ρ []) (e : ExtN H H') (src : ∀ a, S.fp a → H a = H' a) : ∃ G, Rep K S G H' σ H' ρ [] := by
  obtain ⟨G, as, z⟩ := r
  have l0 : as = [] := List.length_eq_zero_iff.mp z.alen
  subst l0
  refine ⟨noTab G, noTab G, [], ⟨Stp.refl (z.st.w.ext e src), z.sl.ext (noTab_ext G), rfl, .nil, fun i j h => ?_, fun j a m h => ?_⟩⟩
  · obtain ⟨a, h1, _⟩ := z.own i j h
    simp at h1
  · simp at h
/-- a table that is told at the start stands as it was, row by row -/
theorem Rep.tab {K : PySem.W.Frag} {S : Res} {G0 H0 H : Hp} {σ : L2.St} {ρ : Rho} {μ : Mu} {P : Addr} {ps : Array Value} (r : Rep K S G0 H0 σ H ρ μ) (n : ¬ S.fp P) (h : H0 P = some (.tbl ps)) : H P = some (.tbl ps) := by
  obtain ⟨G, as, z⟩ := r
  exact z.st.hh _ _ n h
end X3

set_option Elab.async false
set_option linter.all false
set_option maxRecDepth 100000
set_option maxHeartbeats 4000000
/-! # X3: a law's rows one by one, ahead of a lambda and behind it -/
namespace X3
open PySem PySem.Spec L2 PyProof.Rows LamX
section
variable {K : PySem.W.Frag} {S : Res} {ρ : Rho} {μ : Mu} {G0 H0 H : Hp} {σ : L2.St} {E : Ends} {N : D → Prop}
/-- what is returned is asked of the data alone -/
def Told (K : PySem.W.Frag) (E : Ends) (N : D → Prop) : Prop := ∀ v d G H, Dat K G v d → N d → E.rt v H
/-- a row, then the rest -/
theorem run_seq {a b : TS} {M : Rho → Mu → Prop} (A : WS K S a ρ μ { nx := M, rt := N }) (s0 : S.ok H0) (r : Rep K S G0 H0 σ H ρ μ) (e : Told K E N)
    (go : ∀ σ H ρ' μ', Rep K S G0 H0 σ H ρ' μ' → M ρ' μ' → b E σ H) : tSeq a b E σ H :=
  A G0 H0 σ H { E with nx := b E } s0 r ⟨fun σ H ρ' μ' r m => go σ H ρ' μ' r m, fun v d G H _ h n => e v d G H h n, fun _ _ _ _ _ z => z.elim, fun _ _ _ _ _ z => z.elim⟩
/-- the rest -/
theorem run_end {a : TS} (A : WS K S a ρ μ { nx := fun _ _ => False, rt := N }) (s0 : S.ok H0) (r : Rep K S G0 H0 σ H ρ μ) (e : Told K E N) : a E σ H :=
  A G0 H0 σ H E s0 r ⟨fun _ _ _ _ _ z => z.elim, fun v d G H _ h n => e v d G H h n, fun _ _ _ _ _ z => z.elim, fun _ _ _ _ _ z => z.elim⟩
/-- the row with the lambda: its test is false, and the rest begins anew -/
theorem run_lam {tt : TT} {t b : TS} {P : Addr} (n : ¬ S.fp P) (h : H0 P = some (.tbl #[])) (r : Rep K S G0 H0 σ H ρ [])
    (R : ∀ σ G H k, Wld S G H → Slots K G σ ρ → H P = some (.tbl #[]) → (∀ G' H', Wld S G' H' → Slots K G' σ ρ → k false H') → tt σ H k)
    (B : WS K S b ρ [] { nx := fun _ _ => False, rt := N }) (e : Told K E N) : tSeq (tIfS tt t tNext) b E σ H := by
  have hP := r.tab n h
  obtain ⟨G, as, z⟩ := r
  have l0 : as = [] := List.length_eq_zero_iff.mp z.alen
  subst l0
  refine R σ G H _ z.st.w z.sl hP fun G' H' w s => ?_
  refine run_end (G0 := G') (H0 := H') B w.src ⟨G', [], ⟨Stp.refl w, s, rfl, .nil, fun i j h => ?_, fun j a m h => ?_⟩⟩ e
  · obtain ⟨a, h1, _⟩ := z.own i j h
    simp at h1
  · simp at h
end
end X3

set_option Elab.async false
set_option linter.all false
set_option maxRecDepth 100000
set_option maxHeartbeats 4000000
/-! # X3: a lambda's code object is no datum -/
namespace X3
open PySem PySem.Spec L2 PyProof.Rows LamX LamX1
def codeW (q : Str) (t : Tok) : Obj := { cls := .none, data := .fields #[.none, .str q t] }
theorem code_wit (a : Addr) (q : Str) (t : Tok) : ∃ h : Heap, h.get? a = some { cls := .none, data := .fields #[.none, .str q t] } := by
  refine ⟨{ objs := (List.replicate a (codeW q t) ++ [codeW q t]).toArray }, ?_⟩
  unfold Heap.get?
  have e : (List.replicate a (codeW q t) ++ [codeW q t]).toArray[a]? = some (codeW q t) := by
    rw [List.getElem?_toArray, List.getElem?_append_right (by simp)]
    simp
  simp only [e]
  rfl
theorem code_ext {a : Addr} {q : Str} {p : Heap → Prop} (t : Tok) (e : HO.ext p = CodeO a q) : ∃ h, h.get? a = some { cls := .none, data := .fields #[.none, .str q t] } ∧ p h := by
  obtain ⟨h, z⟩ := code_wit a q t
  refine ⟨h, z, ?_⟩
  have e2 := HO.ext.inj e
  rw [e2]
  exact ⟨_, _, t, z, rfl, rfl⟩
theorem exO_nc {b : Addr} {q : Str} {c : Value} (t : Tok) : ExO c b ≠ CodeO b q := fun e => by
  obtain ⟨h, z, oe, vs, y, _, d, v1, _⟩ := code_ext t e
  rw [z] at y
  cases y
  cases d
  cases v1
theorem exo_nc {b C : Addr} {q : Str} {d : Option Addr} (t : Tok) : exo b C d ≠ CodeO b q := fun e => by
  obtain ⟨h, z, t1, y⟩ := code_ext t e
  rw [z] at y
  cases y
theorem exd_nc {b : Addr} {q : Str} {fs : List (Str × V)} (t : Tok) : exd b fs ≠ CodeO b q := fun e => by
  obtain ⟨h, z, mA, y, _⟩ := code_ext t e
  obtain ⟨o, es, ep, y, d, _⟩ := y
  rw [z] at y
  cases y
  cases d
theorem td_nc {b : Addr} {q : Str} {P : Program} {w : World} {ws : List TEnt} (t : Tok) : TdO P w b ws ≠ CodeO b q := fun e => by
  obtain ⟨h, z, _, _, xs, _, o, es, ep, y, d, dd, _⟩ := code_ext t e
  rw [z] at y
  cases y
  cases dd
theorem setK_nc {b : Addr} {q : Str} {P : Program} {w : World} {S : Key → Bool} {n : Nat} (t : Tok) : SetK P w b S n ≠ CodeO b q := fun e => by
  obtain ⟨h, z, o, es, ep, t', y, d⟩ := code_ext t e
  rw [z] at y
  cases y
  cases d.2.1
end X3

set_option Elab.async false
set_option linter.all false
set_option maxRecDepth 100000
set_option maxHeartbeats 4000000
/-! # X3: what is told, without code objects -/
namespace X3
open PySem PySem.Spec L2 PyProof.Rows LamX LamX1
open Classical in
noncomputable def noCode (G : Hp) : Hp := fun a => if ∃ q, G a = some (CodeO a q) then none else G a
theorem noCode_get {G : Hp} {a : Addr} {o : HO} (e : noCode G a = some o) : G a = some o := by
  unfold noCode at e
  split at e
  · cases e
  · exact e
theorem noCode_none {G : Hp} {a : Addr} (e : G a = none) : noCode G a = none := by
  unfold noCode
  split
  · rfl
  · exact e
theorem noCode_code {G H : Hp} {a : Addr} {q : Str} (le : Le G H) (e : H a = some (CodeO a q)) : noCode G a = none := by
  unfold noCode
  split
  · rfl
  · rename_i n
    cases z : G a with
    | none => rfl
    | some o =>
      have y := le a o z
      rw [e] at y
      cases y
      exact absurd ⟨q, z⟩ n
theorem nc_at {G : Hp} {a : Addr} {u : HO} (h : G a = some u) (n : ∀ q, u ≠ CodeO a q) : noCode G a = some u := by
  unfold noCode
  split
  · rename_i z
    obtain ⟨q, z⟩ := z
    rw [h] at z
    exact absurd (Option.some.inj z) (n q)
  · exact h
theorem nc_lst {G : Hp} {a : Addr} {xs : List V} (h : G a = some (.lst xs)) : noCode G a = some (.lst xs) := nc_at h fun q z => by cases z
theorem nc_frz {G : Hp} {a : Addr} {o : Obj} {u : HO} (h : G a = some (.frz o u)) : noCode G a = some (.frz o u) := nc_at h fun q z => by cases z
theorem nc_ins {G : Hp} {a C dx : Addr} {fs : List (Str × V)} (h : G a = some (.ins C dx fs)) : noCode G a = some (.ins C dx fs) := nc_at h fun q z => by cases z
theorem nc_dk {G : Hp} {a : Addr} {kvs : List (Key × V)} (h : Rd G a (.dK kvs)) : Rd (noCode G) a (.dK kvs) := by
  rcases h with h | ⟨o, h⟩
  · exact .inl (nc_at h fun q z => by cases z)
  · exact .inr ⟨o, nc_frz h⟩
theorem nc_t {K : PySem.W.Frag} {G : Hp} {a : Addr} {xs : List V} (h : SqT K G a xs) : SqT K (noCode G) a xs := by
  rcases h with (h | ⟨o, h⟩) | h
  · exact .inl (.inl (nc_at h fun q z => by cases z))
  · exact .inl (.inr ⟨o, nc_frz h⟩)
  · exact .inr h
theorem nc_tup {K : PySem.W.Frag} {G : Hp} {a : Addr} {xs : List V} (h : TupN K G a xs) : TupN K (noCode G) a xs := ⟨nc_t h.sq, h.slim.imp (fun ⟨o, u, z, d⟩ => ⟨o, u, nc_frz z, d⟩) id⟩
theorem nc_e0 {G : Hp} {a C : Addr} (h : G a = some (ExO (.ref C) a)) : noCode G a = some (ExO (.ref C) a) := nc_at h fun q => exO_nc 0
theorem nc_e1 {G : Hp} {a C : Addr} {d : Option Addr} (h : G a = some (exo a C d)) : noCode G a = some (exo a C d) := nc_at h fun q => exo_nc 0
theorem nc_ed {G : Hp} {a : Addr} {fs : List (Str × V)} (h : G a = some (exd a fs)) : noCode G a = some (exd a fs) := nc_at h fun q => exd_nc 0
theorem nc_ks {G : Hp} {a : Addr} {P : Program} {w : World} {S : Key → Bool} {n : Nat} (h : G a = some (SetK P w a S n)) : noCode G a = some (SetK P w a S n) := nc_at h fun q => setK_nc 0
theorem nc_td {G : Hp} {a : Addr} {P : Program} {w : World} {ws : List TEnt} (h : G a = some (TdO P w a ws)) : noCode G a = some (TdO P w a ws) := nc_at h fun q => td_nc 0
mutual
theorem Dat.nc {K : PySem.W.Frag} {G : Hp} : ∀ {v : V} {d : D}, Dat K G v d → Dat K (noCode G) v d
  | _, _, .non => .non
  | _, _, .bl b => .bl b
  | _, _, .int i => .int i
  | _, _, .str x => .str x
  | _, _, .list h r => .list (nc_lst h) (DatL.nc r)
  | _, _, .tup h r => .tup (nc_tup h) (DatL.nc r)
  | _, _, .wtup h r => .wtup (nc_t h) (DatL.nc r)
  | _, _, .dict h r => .dict (nc_dk h) (DatK.nc r)
  | _, _, .dt h r => .dt (nc_td h) (DatT.nc r)
  | _, _, .fz h r => .fz (nc_frz h) (DatK.nc r)
  | _, _, .obj h r => .obj (nc_ins h) (DatF.nc r)
  | _, _, .exc0 h => .exc0 (nc_e0 h)
  | _, _, .exc1 h h2 r => .exc1 (nc_e1 h) (nc_ed h2) (DatF.nc r)
  | _, _, .kset h => .kset (nc_ks h)
  | _, _, .val v => .val v
theorem DatL.nc {K : PySem.W.Frag} {G : Hp} : ∀ {v : List V} {d : List D}, DatL K G v d → DatL K (noCode G) v d
  | _, _, .nil => .nil
  | _, _, .cons h r => .cons (Dat.nc h) (DatL.nc r)
theorem DatK.nc {K : PySem.W.Frag} {G : Hp} : ∀ {v : List (Key × V)} {d : List (Key × D)}, DatK K G v d → DatK K (noCode G) v d
  | _, _, .nil => .nil
  | _, _, .cons h r => .cons (Dat.nc h) (DatK.nc r)
theorem DatT.nc {K : PySem.W.Frag} {G : Hp} : ∀ {v : List TEnt} {d : List (List Key × D)}, DatT K G v d → DatT K (noCode G) v d
  | _, _, .nil => .nil
  | _, _, .cons z h r => .cons (nc_t z) (Dat.nc h) (DatT.nc r)
theorem DatF.nc {K : PySem.W.Frag} {G : Hp} : ∀ {v : List (Str × V)} {d : List (Str × D)}, DatF K G v d → DatF K (noCode G) v d
  | _, _, .nil => .nil
  | _, _, .cons h r => .cons (Dat.nc h) (DatF.nc r)
end
theorem Slots.nc {K : PySem.W.Frag} {G : Hp} {σ : L2.St} {ρ : Rho} (s : Slots K G σ ρ) : Slots K (noCode G) σ ρ := ⟨s.len, fun i d h =>
  let ⟨v, a, b⟩ := s.get i d h
  ⟨v, a, b.nc⟩⟩
theorem Wld.nc {S : Res} {G H : Hp} (w : Wld S G H) : Wld S (noCode G) H := ⟨fun a o h => w.le a o (noCode_get h), w.src, fun a f => noCode_none (w.sep a f)⟩
end X3

set_option Elab.async false
set_option linter.all false
set_option maxRecDepth 100000
set_option maxHeartbeats 4000000
/-! # X3: a def that asks a lambda of data, again and again -/
namespace X3
open PySem PySem.Spec L2 PyProof.Rows LamX LamX1
/-- what the def makes of the lambda's reading tl: where tl says True of all that Od names, in each later world, it says True -/
def CourseT (K : PySem.W.Frag) (S : Res) (Pd : D → D → Prop) (Od : D → D → D → Prop) : List V → (XK → V → Hp → VK → Prop) → Hp → VK → Prop := fun vs tl H Q =>
  ∃ G v1 v2 d1 d2, vs = [v1, v2] ∧ Wld S G H ∧ (∀ c q, H c = some (CodeO c q) → G c = none) ∧ Dat K G v1 d1 ∧ Dat K G v2 d2 ∧ Pd d1 d2 ∧
    (∀ E G' H' v d (k : VK), Stp S G H G' H' → Dat K G' v d → Od d1 d2 d → (∀ G2 H2, Stp S G' H' G2 H2 → k (.bl true) H2) → tl E v H' k) ∧
    ∀ G' H', Stp S G H G' H' → Q (.bl true) H'
section
variable {K : PySem.W.Frag} {S : Res} {ρ : Rho} {Pd : D → D → Prop} {Od : D → D → D → Prop} {P : Addr} {q : Str} {t1 t2 : TE} {d1 d2 : D} {io : Nat} {t : XK → TE}
/-- x(e1, e2, lambda y: body), from a row of the law in which nothing is one's own -/
theorem lam_says (fpT : ∀ H, S.ok H → ∀ a, S.fp a → ∀ ps, H a ≠ some (.tbl ps)) (n : ¬ S.fp P) (h1 : WE K S t1 ρ (· = d1)) (h2 : WE K S t2 ρ (· = d2)) (pd : Pd d1 d2)
    (body : ∀ E d, Od d1 d2 d → WE K S (t E) (ρ.set io (.dat d)) (· = .bl true)) :
    ∀ (σ : L2.St) (G H : Hp) (k : VK), Wld S G H → Slots K G σ ρ → H P = some (.tbl #[]) → (∀ G' H', Wld S G' H' → Slots K G' σ ρ → k (.bl true) H') → tLam3 [(P, q)] (CourseT K S Pd Od) t1 t2 io t σ H k := by
  intro σ G H k w s hP go
  refine h1 σ G H _ w s fun v1 x1 G1 H1 s1 D1 e1 => ?_
  subst e1
  refine h2 σ G1 H1 _ s1.w (s.mono s1.gg) fun v2 x2 G2 H2 s2 D2 e2 => ?_
  subst e2
  have st := s1.trans s2
  have hP2 := st.hh P _ n hP
  refine ⟨fun p hp => ?_, fun H3 e3 _ => ?_⟩
  · rw [List.mem_singleton.mp hp]
    exact TabS.nil hP2
  · have w3 : Wld S (noTab G2) H3 := st.w.ext e3 fun a f => by
      cases z : H2 a with
      | none => exact absurd z (S.live H2 st.w.src a f)
      | some o => exact (e3 a o z fun ps y => fpT H2 st.w.src a f ps (y ▸ z)).symm
    have x3 := noTab_ext G2
    refine ⟨noCode (noTab G2), v1, v2, _, _, rfl, w3.nc, fun c q z => noCode_code w3.le z, ((D1.mono s2.gg).ext x3).nc, (D2.ext x3).nc, pd, fun E G' H' v d k' st' D' od kk => ?_, fun G' H' st' => ?_⟩
    · refine body E d od _ G' H' k' st'.w ((((s.mono st.gg).ext x3).nc.mono st'.gg).set D') fun v' d' G4 H4 s4 D4 e4 => ?_
      subst e4
      cases D4
      exact kk G4 H4 s4
    · exact go G' H' st'.w (((s.mono st.gg).ext x3).nc.mono st'.gg)
end
end X3

set_option Elab.async false
set_option linter.all false
set_option maxRecDepth 100000
set_option maxHeartbeats 4000000
/-! # X3: inside a def that got a lambda: its code object stands -/
namespace X3
open PySem PySem.Spec L2 PyProof.Rows LamX LamX1
/-- besides, the code object at c is told -/
def Res.code (S : Res) (c : Addr) (q : Str) : Res where
  fp := fun a => S.fp a ∨ a = c
  ok := fun H => S.ok H ∧ H c = some (CodeO c q)
  loc := fun H H' e z => ⟨S.loc H H' (fun a f => e a (.inl f)) z.1, (e c (.inr rfl)) ▸ z.2⟩
  live := fun H z a f => by
    rcases f with f | f
    · exact S.live H z.1 a f
    · rw [f, z.2]
      nofun
section
variable {K : PySem.W.Frag} {S : Res} {G H G' H' : Hp} {c : Addr} {q : Str}
theorem Wld.less (w : Wld (S.code c q) G H) : Wld S G H := ⟨w.le, w.src.1, fun a f => w.sep a (.inl f)⟩
theorem Wld.more (w : Wld S G H) (h : H c = some (CodeO c q)) (n : G c = none) : Wld (S.code c q) G H := ⟨w.le, ⟨w.src, h⟩, fun a f => by
  rcases f with f | f
  · exact w.sep a f
  · rw [f]
    exact n⟩
theorem Stp.less (w : Wld (S.code c q) G H) (s : Stp (S.code c q) G H G' H') : Stp S G H G' H' where
  gg := s.gg
  hh := fun a o n e => by
    by_cases z : a = c
    · subst z
      rw [w.src.2] at e
      exact s.w.src.2.trans e
    · exact s.hh a o (fun f => f.elim n z) e
  nw := s.nw
  w := s.w.less
theorem Stp.more (w : Wld (S.code c q) G H) (n : ¬ S.fp c) (s : Stp S G H G' H') : Stp (S.code c q) G H G' H' where
  gg := s.gg
  hh := fun a o z e => s.hh a o (fun f => z (.inl f)) e
  nw := s.nw
  w := by
    refine s.w.more (s.hh c _ n w.src.2) ?_
    cases z : G' c with
    | none => rfl
    | some o =>
      rcases s.nw c o z with y | y
      · rw [w.sep c (.inr rfl)] at y
        cases y
      · rw [w.src.2] at y
        cases y
/-- a slot that holds just this value -/
theorem slots_val {σ : L2.St} {ρ : Rho} {i : Nat} {v : V} (h : ρ[i]? = some (.dat (.val v))) (s : Slots K G σ ρ) : σ[i]? = some (some v) := by
  obtain ⟨u, e, d⟩ := s.get i _ h
  cases d
  exact e
/-- a(e): the lambda at f, whose reading is tl, is asked -/
def actT (i : Nat) (f c : Addr) (q : Str) (ta : TA) (tl : V → Hp → VK → Prop) : TE := fun σ H Q => σ[i]? = some (some (.ref f)) ∧ ta σ H fun vs H1 => ∃ v, vs = [v] ∧ H1 c = some (CodeO c q) ∧ tl v H1 Q
theorem we_act {ρ : Rho} {i : Nat} {f : Addr} {ta : TA} {tl : V → Hp → VK → Prop} {d : D} {Q : D → Prop} (n : ¬ S.fp c)
    (hi : ∀ (σ : L2.St) (G : Hp), Slots K G σ ρ → σ[i]? = some (some (.ref f))) (h : WA K (S.code c q) ta ρ (· = [d]))
    (says : ∀ G H v (k : VK), Wld (S.code c q) G H → Dat K G v d → (∀ G2 H2, Stp S G H G2 H2 → k (.bl true) H2) → tl v H k) (hq : Q (.bl true)) :
    WE K (S.code c q) (actT i f c q ta tl) ρ Q := fun σ G H k w s go => by
  refine ⟨hi σ G s, h σ G H _ w s fun vs ds G1 H1 s1 D1 e1 => ?_⟩
  subst e1
  cases D1 with
  | cons a b =>
    cases b
    refine ⟨_, rfl, s1.w.src.2, says G1 H1 _ k s1.w a fun G2 H2 s2 => ?_⟩
    have s3 := Stp.more s1.w n s2
    exact go _ _ G2 H2 (s1.trans s3) (.bl true) hq
end
end X3

set_option Elab.async false
set_option linter.all false
set_option maxRecDepth 100000
set_option maxHeartbeats 4000000
/-! # X3: the row `if not x(e1, e2, lambda y: body): ..` of a law -/
namespace X3
open PySem PySem.Spec L2 PyProof.Rows LamX LamX1
section
variable {K : PySem.W.Frag} {S : Res} {ρ : Rho} {Pd : D → D → Prop} {Od : D → D → D → Prop} {P : Addr} {q : Str} {t1 t2 : TE} {d1 d2 : D} {io : Nat} {t : XK → TE} {G0 H0 H : Hp} {σ : L2.St} {E : Ends} {N : D → Prop}
theorem run_ask {u b : TS} (fpT : ∀ H, S.ok H → ∀ a, S.fp a → ∀ ps, H a ≠ some (.tbl ps)) (n : ¬ S.fp P) (h : H0 P = some (.tbl #[])) (r : Rep K S G0 H0 σ H ρ []) (h1 : WE K S t1 ρ (· = d1)) (h2 : WE K S t2 ρ (· = d2)) (pd : Pd d1 d2)
    (body : ∀ E d, Od d1 d2 d → WE K S (t E) (ρ.set io (.dat d)) (· = .bl true)) (B : WS K S b ρ [] { nx := fun _ _ => False, rt := N }) (e : Told K E N) :
    tSeq (tIfS (tNot (tTest (tLam3 [(P, q)] (CourseT K S Pd Od) t1 t2 io t))) u tNext) b E σ H :=
  run_lam n h r (fun σ G H k w s hP go => lam_says fpT n h1 h2 pd body σ G H _ w s hP fun G' H' w' s' => ⟨true, rfl, go G' H' w' s'⟩) B e
end
end X3

set_option Elab.async false
set_option linter.all false
set_option maxRecDepth 100000
set_option maxHeartbeats 4000000
/-! # X3: a(e) from a row, the world at the call being the base -/
namespace X3
open PySem PySem.Spec L2 PyProof.Rows LamX LamX1
section
variable {K : PySem.W.Frag} {S : Res} {ρ : Rho} {μ : Mu} {G0 H0 H : Hp} {σ : L2.St}
theorem run_act {i : Nat} {f c : Addr} {q : Str} {ta : TA} {tl : V → Hp → VK → Prop} {d : D} {k : VK} (w0 : S.ok H0) (r : Rep K S G0 H0 σ H ρ μ) (n : ¬ S.fp c) (hc : H0 c = some (CodeO c q)) (hi : ρ[i]? = some (.dat (.val (.ref f))))
    (h : WA K S ta (view ρ μ) (· = [d])) (says : ∀ G' H' v (k : VK), Stp S G0 H0 G' H' → Dat K G' v d → (∀ G2 H2, Stp S G' H' G2 H2 → k (.bl true) H2) → tl v H' k)
    (go : ∀ H', Rep K S G0 H0 σ H' ρ μ → k (.bl true) H') : actT i f c q ta tl σ H k := by
  obtain ⟨G, as, r⟩ := r
  refine ⟨slots_val hi r.sl, ?_⟩
  obtain ⟨G1, le, s1, sl, fr⟩ := r.freeze w0
  refine h σ G1 H _ s1.w sl fun vs ds G2 H2 s2 D2 e2 => ?_
  subst e2
  cases D2 with
  | cons a b =>
    cases b
    have st := s1.trans s2
    exact ⟨_, rfl, st.hh c _ n hc, says G2 H2 _ k st a fun G3 H3 s3 => go H3 ⟨G, as, r.unfreeze w0 le fr (s2.trans s3)⟩⟩
end
end X3

set_option Elab.async false
set_option linter.all false
set_option maxRecDepth 100000
set_option maxHeartbeats 4000000
/-! # X3: what the body of a def that asks a lambda wants -/
namespace X3
open PySem PySem.Spec L2 PyProof.Rows LamX LamX1
section
variable {K : PySem.W.Frag} {S : Res} {ρ : Rho} {μ : Mu} {G0 H0 H : Hp} {σ : L2.St} {N : EndsD}
theorem DatL.put {G : Hp} {v : V} {d : D} (h : Dat K G v d) : ∀ {xs : List V} {ds : List D} (n : Nat), DatL K G xs ds → DatL K G (xs.set n v) (ds.set n d)
  | _, _, _, .nil => .nil
  | _, _, 0, .cons _ r => .cons h r
  | _, _, n + 1, .cons a r => .cons a (DatL.put h n r)
/-- the entry -/
theorem rep_start {NN : List Str} {vs : List V} {ds : List D} {G : Hp} (w : Wld S G H) (r : DatL K G vs ds) : Rep K S G H (L2.start NN vs) H (startR NN ds) [] := by
  refine ⟨G, [], .refl w, slots_start r, rfl, List.nodup_nil, fun i j e => ?_, fun j a m e1 _ => by simp at e1⟩
  unfold startR at e
  have z := List.mem_of_getElem? e
  rcases List.mem_append.mp z with z | z
  · obtain ⟨d, _, z⟩ := List.mem_map.mp z
    cases z
  · have z' := List.eq_of_mem_replicate z
    cases z'
/-- x, y = e1, e2: e1 makes what is one's own -/
theorem ws_parO {i j : Nat} {ta te : TE} (hi : i < ρ.length) (h : WF K S ta ρ fun m => WE K S te ρ fun d => N.nx ((ρ.set i (.own μ.length)).set j (.dat d)) (μ ++ [m])) : WS K S (tPar i j (tCons ta (tCons te tNil))) ρ μ N := fun G0 H0 σ H E w0 r f => by
  obtain ⟨G, as, r⟩ := r
  refine h σ G H _ r.st.w r.sl fun a m o G1 H1 s ha ga ho ok q => ?_
  obtain ⟨n1, n2, n3, n4⟩ := r.newp ha
  have r2 := (r.step w0 s).adopt (m := m) (o := o) hi n1 n2 n3 ga (by rw [upd_id ho]; exact ok)
  rw [upd_id ho] at r2
  refine q σ G1 H1 _ s.w (r.sl.mono s.gg) fun v d G2 H2 s2 dd q2 => ⟨_, _, rfl, ?_⟩
  exact f.nx _ _ _ _ ⟨G2, _, (r2.step w0 s2).set dd⟩ q2
/-- x[n] = e: x is a list of one's own -/
theorem ws_lput {i j n : Nat} {te : TE} {ds : List D} (hi : ρ[i]? = some (.own j)) (hj : μ[j]? = some (.lst ds)) (hn : n < ds.length) (h : WE K S te ρ fun d => N.nx ρ (μ.set j (.lst (ds.set n d)))) : WS K S (tAsg te (gSub (tVar i) (tC (.int (n : Nat))) rSetL)) ρ μ N := fun G0 H0 σ H E w0 r f => by
  obtain ⟨G, as, r⟩ := r
  obtain ⟨a, ha, hs⟩ := r.own i j hi
  refine h σ G H _ r.st.w r.sl fun v d G1 H1 s dd q => ?_
  have r1 := r.step w0 s
  obtain ⟨_, _, hg, xs, hx, dx⟩ := r1.cell j a _ ha hj
  refine ⟨_, hs, _, xs, _, n, rfl, rfl, hx, ?_, ?_⟩
  · unfold ixN
    rw [dx.length, if_pos (Int.natCast_nonneg n), if_pos (Int.ofNat_lt.mpr hn), Int.toNat_natCast]
  · exact f.nx _ _ _ _ ⟨G1, as, r1.put (m := .lst (ds.set n d)) w0 ha hj hg ⟨hg, _, upd_same, DatL.put dd n dx⟩⟩ q
/-- if not a(e): .. -/
theorem run_if {i : Nat} {f c : Addr} {q : Str} {ta : TA} {tl : V → Hp → VK → Prop} {d : D} {u b : TS} {E : Ends} (w0 : S.ok H0) (r : Rep K S G0 H0 σ H ρ μ) (n : ¬ S.fp c) (hc : H0 c = some (CodeO c q)) (hi : ρ[i]? = some (.dat (.val (.ref f))))
    (h : WA K S ta (view ρ μ) (· = [d])) (says : ∀ G' H' v (k : VK), Stp S G0 H0 G' H' → Dat K G' v d → (∀ G2 H2, Stp S G' H' G2 H2 → k (.bl true) H2) → tl v H' k)
    (go : ∀ H', Rep K S G0 H0 σ H' ρ μ → b E σ H') : tSeq (tIfS (tNot (tTest (actT i f c q ta tl))) u tNext) b E σ H :=
  run_act w0 r n hc hi h says fun H' r' => ⟨true, rfl, go H' r'⟩
/-- .. and b -/
theorem run_and {i : Nat} {f c : Addr} {q : Str} {ta : TA} {tl : V → Hp → VK → Prop} {d : D} {te : TE} {k : VK} (w0 : S.ok H0) (r : Rep K S G0 H0 σ H ρ μ) (n : ¬ S.fp c) (hc : H0 c = some (CodeO c q)) (hi : ρ[i]? = some (.dat (.val (.ref f))))
    (h : WA K S ta (view ρ μ) (· = [d])) (says : ∀ G' H' v (k : VK), Stp S G0 H0 G' H' → Dat K G' v d → (∀ G2 H2, Stp S G' H' G2 H2 → k (.bl true) H2) → tl v H' k)
    (go : ∀ H', Rep K S G0 H0 σ H' ρ μ → te σ H' k) : tAndV (actT i f c q ta tl) te σ H k :=
  run_act w0 r n hc hi h says fun H' r' => ⟨true, rfl, go H' r'⟩
end
theorem lam3_mono {T : List (Addr × Str)} {TT TT' : List V → (XK → V → Hp → VK → Prop) → Hp → VK → Prop} {t1 t2 : TE} {io : Nat} {t : XK → TE} {σ : L2.St} {H : Hp} {Q : VK} (m1 : ∀ {σ H} {Q Q' : VK}, (∀ v H, Q v H → Q' v H) → t1 σ H Q → t1 σ H Q') (m2 : ∀ {σ H} {Q Q' : VK}, (∀ v H, Q v H → Q' v H) → t2 σ H Q → t2 σ H Q')
    (h : ∀ vs tl H Q, TT vs tl H Q → TT' vs tl H Q) (z : tLam3 T TT t1 t2 io t σ H Q) : tLam3 T TT' t1 t2 io t σ H Q :=
  m1 (fun _ _ z1 => m2 (fun _ _ z2 => ⟨z2.1, fun H3 e3 T3 => h _ _ _ _ (z2.2 H3 e3 T3)⟩) z1) z
section
variable {P : Program} {w : World} {K : PySem.W.Frag} {mg : Str → Option Value} {base : Heap} {x qual : Str} {dstm : Stmt} {f cd : Addr} {fd : FuncData} {N ps : List Str} {k : Nat} {sp : Sp}
/-- okG where the code object is known -/
theorem Fun.okGT (F : Fun K x qual dstm f fd) (hc : fd.code = .ref cd) (sc : FnScope N ps (defScope dstm)) (many : ∀ vs H Q E, sp vs H Q E → vs.length = ps.length)
    (body : ∀ (A : Around) (out : List Env) (st : Shared) (H : Hp) (vs : List V) (Q : VK) (E : XK), A.guards = some [] → Room k (A.deeper (envOfC qual (defScope dstm) st.heap.objs.size f (.ref cd))) → sp vs H Q E →
      ∃ t, PSs (cxOf CX0 P w K mg base N qual (defScope dstm) f (.ref cd) A out st H E).nox (defBody dstm) t ∧ t { nx := fun _ H' => Q .non H', rt := Q } (start N vs) H) : FnG P w K mg base CX0 (k + 1) f fd ps sp where
  many h := many _ _ _ _ h
  keeps {A out st H us vs Q E} guard room e0 bound rs want := by
    obtain ⟨c0, d0, v1, v2, v3, a0, cv, v4, sl, rfl, lk, code⟩ := F.ex
    have hcv : cv = .ref cd := hc
    subst hcv
    have here : ∀ b o, base.get? b = some o → st.heap.get? b = some o := fun b o e => (e0.bs b o e).1
    have KH := e0.mod.kin.keeps here
    refine codeAny_call_function (room.depth) (KH _ _ lk) rfl sc.co sc.gen rfl (PySem.W.codeRec_of KH code) (bound _ _ _ _ ?_)
    refine wpAny_newFunctionEnv_cells sc.kind (fun y hy => ?_) fun env same st1 ne => ?_
    · cases sc.par y.1 (List.of_mem_zip (a := y.1) (b := y.2) hy).1 with
      | inl z => exact .inl z
      | inr z => exact .inr ⟨z, PySem.W.cellsFrom_some _ _ _ (.inl z)⟩
    · cases same
      obtain ⟨t, der, rd⟩ := body A out st H vs Q E guard (room.deeper _) want
      have lim := (e0.mod.nolimit.keeps here).keeps ne.toInCall.keep
      have at_start := inv_start (CX := CX0) (E := E) sc room.hd e0 (many _ _ _ _ want) rs ne
      refine ⟨lim, codeAny_func (wpAny_mono (der.nox.run [] st1 (start N vs) H _ at_start rd) (fun fl st2 z => ?_) fun _ _ z => z)⟩
      match fl, z with
      | .ret u, ⟨v, _, H2, J, rv, q⟩ => exact ⟨v, H2, J.os, J.bare, J.base, J.hok, rv, q⟩
      | .next, ⟨_, H2, J, q⟩ => exact ⟨.non, H2, J.os, J.bare, J.base, J.hok, rfl, q⟩
      | .brk, ⟨_, _, _, no⟩ => exact (show False from no).elim
      | .cont, ⟨_, _, _, no⟩ => exact (show False from no).elim
end
end X3

set_option Elab.async false
set_option linter.all false
set_option maxRecDepth 100000
set_option maxHeartbeats 4000000
/-! # X3: a law that makes a lambda with a parameter, by short words -/
namespace LamX1
open PySem PySem.Spec PyProof.Rows L2 LamX
def lamS1B (sc scope : Scope) (x : Str) : Bool :=
  decide (scope.kind = .function) && !scope.isCoroutine && !scope.isGenerator && decide (scope.names.lookup x = some .local) && scope.names.all fun y => (!decide (y.2 = .local) || decide (y.1 = x)) && !decide (y.2 = .cell) && (!decide (y.2 = .free) || decide (sc.names.lookup y.1 = some .cell) || decide (sc.names.lookup y.1 = some .free))
theorem lamS1_by {sc scope : Scope} {x : Str} (h : lamS1B sc scope x = true) : LamS1 sc scope x := by
  unfold lamS1B at h
  simp only [Bool.and_eq_true, Bool.or_eq_true, Bool.not_eq_true', decide_eq_true_eq, decide_eq_false_iff_not, List.all_eq_true] at h
  obtain ⟨⟨⟨⟨h1, h2⟩, h3⟩, h4⟩, h5⟩ := h
  refine ⟨h1, h2, h3, h4, fun y hy e => ?_, fun y hy => (h5 y hy).1.2, fun y hy e => ?_⟩
  · rcases (h5 y hy).1.1 with z | z
    · exact absurd e z
    · exact z
  · rcases (h5 y hy).2 with (z | z) | z
    · exact absurd e z
    · exact .inl z
    · exact .inr z
end LamX1
namespace X3
open PySem PySem.Spec L2 PyProof.Rows LamX LamX1
section
variable {K : PySem.W.Frag} {S : Res} {ρ : Rho} {H : Hp} {σ : L2.St}
/-- the world behind a law's first row -/
theorem rep_first (ok : S.ok H) (hl : σ.length = ρ.length) (hs : ∀ (i : Nat) (d : X3.D), ρ[i]? = some (SD.dat d) → ∃ v, σ[i]? = some (some v) ∧ ∀ G, Dat K G v d) (no : ∀ (i j : Nat), ρ[i]? ≠ some (SD.own j)) : Rep K S (fun _ => none) H σ H ρ [] := by
  have w : Wld S (fun _ => none) H := ⟨fun a o e => (by cases e), ok, fun _ _ => rfl⟩
  refine ⟨fun _ => none, [], .refl w, ⟨hl, fun i d e => ?_⟩, rfl, List.nodup_nil, fun i j e => absurd e (no i j), fun j a m e1 _ => by simp at e1⟩
  obtain ⟨v, e1, e2⟩ := hs i d e
  exact ⟨v, e1, e2 _⟩
end
section
variable {K : PySem.W.Frag} {S : Res} {ρ : Rho} {Pd : D → D → Prop} {Od : D → D → D → Prop} {P : Addr} {q : Str} {i1 i2 : Nat} {d1 d2 : D} {io : Nat} {t : XK → TE} {G0 H0 H : Hp} {σ : L2.St} {E : Ends} {N : D → Prop}
/-- run_ask, where the def makes more of its argument -/
theorem run_askW {TT : List V → (XK → V → Hp → VK → Prop) → Hp → VK → Prop} {u b : TS} (imp : ∀ vs tl H Q, CourseT K S Pd Od vs tl H Q → TT vs tl H Q) (fpT : ∀ H, S.ok H → ∀ a, S.fp a → ∀ ps, H a ≠ some (.tbl ps)) (n : ¬ S.fp P) (h : H0 P = some (.tbl #[])) (r : Rep K S G0 H0 σ H ρ []) (h1 : ρ[i1]? = some (.dat d1)) (h2 : ρ[i2]? = some (.dat d2)) (pd : Pd d1 d2)
    (body : ∀ E d, Od d1 d2 d → WE K S (t E) (ρ.set io (.dat d)) (· = .bl true)) (B : WS K S b ρ [] { nx := fun _ _ => False, rt := N }) (e : Told K E N) :
    tSeq (tIfS (tNot (tTest (tLam3 [(P, q)] TT (tVar i1) (tVar i2) io t))) u tNext) b E σ H := by
  have z := run_ask (q := q) (io := io) (t := t) (u := u) fpT n h r (we_var h1 rfl) (we_var h2 rfl) pd body B e
  exact lam3_mono (fun hq ⟨v, e, z⟩ => ⟨v, e, hq _ _ z⟩) (fun hq ⟨v, e, z⟩ => ⟨v, e, hq _ _ z⟩) imp z
end
end X3

set_option Elab.async false
set_option linter.all false
set_option maxRecDepth 100000
set_option maxHeartbeats 4000000
/-! # X3: a name's value that is a def is called; lists of ints shown -/
namespace X3
open PySem PySem.Spec L2 PyProof.Rows LamX LamX1
/-- a(e, ..): a holds one of some defs -/
def tCallV (i : Nat) (cs : List (Addr × Sp)) (t : TA) : TE := fun σ H Q => ∃ c ∈ cs, σ[i]? = some (some (.ref c.1)) ∧ t σ H fun vs H1 => c.2 (vs ++ []) H1 Q E0
theorem pe_callDef {X : Cx} {cs : List (Addr × Sp)} {i : Nat} {a : Str} {p pos : Pos} {e : Expr} {es : List Expr} {t : TA} (hcs : ∀ c ∈ cs, ∃ (k : Nat) (fd : FuncData) (ps : List Str), FnOk X.prog X.w X.K X.mg X.base CX0 k c.1 fd ps c.2 ∧ Room k X.A ∧ Binds X.K fd ps [] ∧ PySem.W.keepIn X.K (.ref c.1) = true) (ha : PA X (e :: es) t)
    (hN : X.N[i]? = some a := by rfl) (hv : Vis X.env.scope a := by first | exact Or.inl rfl | exact Or.inr (Or.inl rfl) | exact Or.inr (Or.inr rfl)) (hd : (a == ("__debug__" : Str)) = false := by decide) (hcd : (a == ("__classdict__" : Str)) = false := by decide)
    (he : starEach (e :: es) X.env = (false, eval e X.env) :: starEach es X.env := by rfl) (hpl : (backTo pos (starEach es X.env)).any (·.1) = false := by rfl) : PE X (.Call (.Name a p) (e :: es) [] pos) (tCallV i cs t) where
  run pins s σ H Q I h := by
    obtain ⟨c, hc, hs, ht⟩ := h
    obtain ⟨k, fd, ps, F, room, bi, kp⟩ := hcs c hc
    refine wpAny_Call_Name_kw (thn ((pe_var (pos := p) (i := i) hN hv hd hcd).run pins s σ H (fun v H1 => v = .ref c.1 ∧ H1 = H) I ⟨.ref c.1, hs, rfl, rfl⟩) fun u s1 got => ?_)
    obtain ⟨v, H1, I1, r1, ev, eH⟩ := got
    subst ev
    subst eH
    cases (show u = Value.ref c.1 from r1)
    exact PySem.W.callWith_K (h₀ := X.base) I1.ok.mod.kin kp (thn (ha.run pos pins s1 σ H1 _ I1 ht) fun us s2 ⟨vs, H2, I2, r, q⟩ => ⟨I2.kIn, run_fn F room bi .nil pass0 I2 r q⟩) he hpl
section
variable {K : PySem.W.Frag} {S : Res} {ρ : Rho} {Q : D → Prop}
theorem we_callDef {cs : List (Addr × Sp)} {i : Nat} {f : Addr} {P : Res → List D → (D → Prop) → Prop} {tA : TA} (hm : (f, spD K P) ∈ cs) (hi : ρ[i]? = some (.dat (.val (.ref f)))) (h : WA K S tA ρ fun ds => P S ds Q) : WE K S (tCallV i cs tA) ρ Q := fun σ G H k w sl c =>
  ⟨_, hm, slots_val hi sl, h σ G H _ w sl fun vs ds G' H' s dt q => ⟨S, G', ds, Q, s.w, by rw [List.append_nil]; exact dt, q, fun v d G2 H2 s2 dt2 q2 => c v d G2 H2 (s.trans s2) dt2 q2⟩⟩
end
theorem mem_n {α : Type} {p : α → Prop} : ∀ x ∈ ([] : List α), p x := fun x h => by cases h
theorem mem_c {α : Type} {p : α → Prop} {a : α} {l : List α} (h : p a) (g : ∀ x ∈ l, p x) : ∀ x ∈ a :: l, p x := fun x hx => (List.mem_cons.mp hx).elim (fun e => e ▸ h) (g x)
structure IntsSh (l : List Int) : Prop where
  shw : D.shws (l.map .int) = true
  able : PyData.showableAll (D.rps (l.map .int)) = true
  deep : PyData.depthAll (D.rps (l.map .int)) ≤ 0
  leaf : PyData.leavesShortAll 50 (D.rps (l.map .int)) = true
  bulk : PyData.bulkAll (D.rps (l.map .int)) ≤ l.length
theorem ints_sh : ∀ {l : List Int}, (∀ i ∈ l, i.natAbs < 10 ^ 40) → IntsSh l
  | [], _ => ⟨rfl, rfl, Nat.le_refl 0, rfl, Nat.le_refl 0⟩
  | i :: l, h => by
    have r := ints_sh (l := l) fun j hj => h j (List.mem_cons_of_mem _ hj)
    have hi := h i (by simp)
    have lg : i.natAbs.log2 < 1920 := log_big (Nat.lt_trans hi (by decide +kernel))
    refine ⟨?_, ?_, ?_, ?_, ?_⟩
    · show (decide (i.natAbs.log2 < 1920) && D.shws (l.map .int)) = true
      rw [decide_eq_true lg, r.shw]
      rfl
    · show (decide (i.natAbs.log2 < 1920) && PyData.showableAll (D.rps (l.map .int))) = true
      rw [decide_eq_true lg, r.able]
      rfl
    · show max 0 (PyData.depthAll (D.rps (l.map .int))) ≤ 0
      exact Nat.max_le.mpr ⟨Nat.le_refl 0, r.deep⟩
    · show (decide ((PyData.shown (.int i)).length ≤ 50) && PyData.leavesShortAll 50 (D.rps (l.map .int))) = true
      have e := int_text_length_le10 (k := 40) (by decide) hi
      have e2 : (PyData.shown (.int i)).length ≤ 50 := by
        show (Str.ofString (toString i)).length ≤ 50
        rw [PySem.ofString_length]
        omega
      rw [decide_eq_true e2, r.leaf]
      rfl
    · show 0 + 1 + PyData.bulkAll (D.rps (l.map .int)) ≤ l.length + 1
      have := r.bulk
      omega
/-- a list of ints may be shown -/
theorem ints_shw {l : List Int} (h : ∀ i ∈ l, i.natAbs < 10 ^ 40) (hl : l.length ≤ 1000) : ShwOk (.list (l.map .int)) := by
  have r := ints_sh h
  refine ⟨r.shw, r.able, ?_, ?_⟩
  · show PyData.depthAll (D.rps (l.map .int)) + 1 ≤ 60
    have := r.deep
    omega
  · have b := PyData.shown_le_bulk 50 (by decide) (D.rp (.list (l.map .int))) r.leaf
    have b2 : (D.rp (.list (l.map .int))).bulk ≤ l.length := r.bulk
    have b3 : (1 : Nat) * 60000 ≤ sizeLine := by decide
    omega
end X3

set_option Elab.async false
set_option linter.all false
set_option maxRecDepth 100000
set_option maxHeartbeats 4000000
/-! # X3: values of any kind, beside texts -/
namespace X3
open PySem PySem.Spec PySem.Calls PyProof.Rows L2 MeetsSeq SeqRoads2
theorem str_declines_dict (b : Str) (u : Tok) (l : Addr) (c : Value) (es : Array DictEntry) (ep : Nat) (dd : Option Addr) (sl : Array (Option Value)) :
    Meets (Builtin.«str.__eq__» ⟨[.str b u, .ref l], []⟩) (fun _ R s => s.heap.get? l = some { cls := c, dict := dd, data := .dict es ep, slots := sl } ∧ R (.ok (.ret .notImplemented)) s) :=
  .of_wp fun prog w A R s h => by obtain ⟨hp, g, d, tk, os⟩ := s; obtain ⟨hl, h⟩ := h; wp_walk using AutoSeq1.wpAny_loadPart' hl, wpAny_load hl; exact ⟨_, rfl, h⟩
section
variable {A : Around} {s : Shared}
theorem dict_says_no {prog : Program} {w : World} {E : Value → Shared → Prop} {l : Addr} {b : Str} {u : Tok} {Q : Value → Shared → Prop} (ty : s.TypeIs (.ref l) "dict") (h : Q .notImplemented s) : wpAny (model prog w) A (call (.builtin "dict.__eq__") [.ref l, .str b u]) Q E s := by
  refine wpAny_call_entry PySem.F.slot_dict_eq ty PySem.F.entry_dict_eq ?_ (PySem.F.args_dict_eq_2 _ _)
  show wpAny _ _ (Builtin.Dict.dictSlotArgs "__eq__" ⟨[.ref l, .str b u], []⟩ >>= _) _ _ s
  refine wpAny_bind ?_
  unfold Builtin.Dict.dictSlotArgs
  refine wpAny_bind (wpAny_notOrdered_dict ty ?_)
  show wpAny _ _ (pure (Value.ref l, Value.str b u)) _ _ s
  refine wpAny_pure ?_
  refine wpAny_bind (wpAny_isInstance (T := "str") (typeIs_str s b u) PySem.F.sub_str_dict ?_)
  exact wpAny_bind (wpAny_rule (wpAny_bind (wpAny_pure (wpAny_pure ⟨_, rfl, h⟩))))
theorem plain_dict {l : Addr} {vs : List (Key × Value)} {P : Program} {w : World} (d : s.heap.DictOf (mixKind P w) l vs) : ∃ (es : Array DictEntry) (ep : Nat) (dd : Option Addr) (sl : Array (Option Value)), s.heap.get? l = some { cls := .type "dict", dict := dd, data := .dict es ep, slots := sl } := by
  obtain ⟨⟨cls, dd, data, sl⟩, es, ep, ho, ex, hd, _⟩ := d
  have hc : cls = .type "dict" := ex.1
  have hd : data = .dict es ep := hd
  subst hc hd
  exact ⟨es, ep, dd, sl, ho⟩
theorem EqAt_dict_str {l : Addr} {es : Array DictEntry} {ep : Nat} {dd : Option Addr} {sl : Array (Option Value)} (b : Str) (u : Tok) (ho : s.heap.get? l = some { cls := .type "dict", dict := dd, data := .dict es ep, slots := sl }) (hu : A.units < cLine) : SeqAt.EqAt A s (.ref l) (.str b u) false := fun prog w E Q h => by
  have ty : s.TypeIs (.ref l) "dict" := ⟨_, ho, rfl⟩
  unfold eqBool
  refine wpAny_holding ?_
  refine wpAny_ite_split (fun hab => absurd (eq_of_beq hab) nofun) (fun _ => ?_)
  exact wpAny_bind (SeqAt.rc_eq_decline_or (k := false) ty (typeIs_str s b u) (by decide) PySem.F.sub_str_dict PySem.F.slot_dict_eq PySem.F.slot_str_eq_refl
    (fun _ hq => dict_says_no ty hq)
    (fun _ hq => call_meets PySem.F.slot_str_eq_refl (typeIs_str s b u) PySem.F.entry_str_eq (PySem.F.args_str_eq_2 _ _) (str_declines_dict b u l (.type "dict") es ep dd sl) ⟨ho, hq⟩)
    (fun _ hq => wpAny_of_eq (rfl : isSame (.ref l) (.str b u) = pure false) hq) (.inr hu) (wpAny_truthy_bool h))
theorem EqAt_str_dict {l : Addr} {es : Array DictEntry} {ep : Nat} {dd : Option Addr} {sl : Array (Option Value)} (b : Str) (u : Tok) (ho : s.heap.get? l = some { cls := .type "dict", dict := dd, data := .dict es ep, slots := sl }) (hu : A.units < cLine) : SeqAt.EqAt A s (.str b u) (.ref l) false := fun prog w E Q h => by
  have ty : s.TypeIs (.ref l) "dict" := ⟨_, ho, rfl⟩
  unfold eqBool
  refine wpAny_holding ?_
  refine wpAny_ite_split (fun hab => absurd (eq_of_beq hab) nofun) (fun _ => ?_)
  exact wpAny_bind (SeqAt.rc_eq_decline_or (k := false) (typeIs_str s b u) ty (by decide) PySem.F.sub_dict_str PySem.F.slot_str_eq PySem.F.slot_dict_eq_refl
    (fun _ hq => call_meets PySem.F.slot_str_eq (typeIs_str s b u) PySem.F.entry_str_eq (PySem.F.args_str_eq_2 _ _) (str_declines_dict b u l (.type "dict") es ep dd sl) ⟨ho, hq⟩)
    (fun _ hq => dict_says_no ty hq)
    (fun _ hq => wpAny_of_eq (rfl : isSame (.str b u) (.ref l) = pure false) hq) (.inr hu) (wpAny_truthy_bool h))
end
/-- values that stand beside a text -/
inductive OddV (K : PySem.W.Frag) (H : Hp) : V → Prop
  | non : OddV K H .non
  | bl (b : Bool) : OddV K H (.bl b)
  | int (i : Int) : OddV K H (.int i)
  | str (x : Str) : OddV K H (.str x)
  | lst {a : Addr} {xs : List V} : SqL K H a xs → OddV K H (.ref a)
  | tup {a : Addr} {xs : List V} : SqT K H a xs → OddV K H (.ref a)
  | dict {a : Addr} {kvs : List (Key × V)} : Rd H a (.dK kvs) → OddV K H (.ref a)
def eqZ (z : Str) : Value → Bool
  | .str y _ => y == z
  | _ => false
def eqT (z : Str) : V → Bool
  | .str y => decide (y = z)
  | _ => false
section
variable {X : Cx} {pins : List (Addr × Obj)} {σ : L2.St} {H : Hp} {s : Shared}
theorem eqZ_V {z : Str} : ∀ {v : V} {u : Value}, RelV v u → eqZ z u = eqT z v
  | .non, _, r => by cases r; rfl
  | .bl _, _, r => by cases r; rfl
  | .int _, _, r => by obtain ⟨_, rfl⟩ := r; rfl
  | .str y, _, r => by
    obtain ⟨_, rfl⟩ := r
    show (y == z) = decide (y = z)
    rw [Bool.eq_iff_iff]
    simp
  | .byt _, _, r => by obtain ⟨_, rfl⟩ := r; rfl
  | .flt _, _, r => by obtain ⟨_, rfl⟩ := r; rfl
  | .ref _, _, r => by cases r; rfl
  | .ty _, _, r => by cases r; rfl
theorem odd_str {A : Around} (I : Inv X pins σ H s) (hu : A.units < cLine) {v : V} {u : Value} (r : RelV v u) (o : OddV X.K H v) (z : Str) (t : Tok) : SeqAt.EqAt A s u (.str z t) (eqZ z u) := by
  cases o with
  | non => cases r; exact .none_str z t
  | bl b => cases r; exact .bool_str b z t
  | int i => obtain ⟨t2, rfl⟩ := r; exact .int_str i t2 z t
  | str x => obtain ⟨t2, rfl⟩ := r; exact .str_str x t2 z t
  | lst h =>
    cases r
    obtain ⟨its, _, pl, _⟩ := I.list h
    exact .list_str z t pl.isList hu
  | tup h =>
    cases r
    obtain ⟨its, _, pl, _⟩ := I.tuple h
    exact .tuple_str z t pl hu
  | dict h =>
    cases r
    obtain ⟨_, _, vs, _, d⟩ := (show ObjOk X.prog X.w H s.heap _ (.dK _) from rd_of I.hok h)
    obtain ⟨es, ep, dd, sl, ho⟩ := plain_dict d
    exact EqAt_dict_str z t ho hu
theorem str_odd {A : Around} (I : Inv X pins σ H s) (hu : A.units < cLine) {v : V} {u : Value} (r : RelV v u) (o : OddV X.K H v) (z : Str) (t : Tok) : SeqAt.EqAt A s (.str z t) u (eqZ z u) := by
  cases o with
  | non => cases r; exact .str_none z t
  | bl b => cases r; exact .str_bool z t b
  | int i => obtain ⟨t2, rfl⟩ := r; exact .str_int z t i t2
  | str x =>
    obtain ⟨t2, rfl⟩ := r
    have e : (z == x) = eqZ z (.str x t2) := by
      show (z == x) = (x == z)
      rw [Bool.eq_iff_iff]
      simp only [beq_iff_eq]
      exact eq_comm
    rw [← e]
    exact .str_str z t x t2
  | lst h =>
    cases r
    obtain ⟨its, _, pl, _⟩ := I.list h
    exact .str_list z t pl.isList hu
  | tup h =>
    cases r
    obtain ⟨its, _, pl, _⟩ := I.tuple h
    exact .str_tuple z t pl hu
  | dict h =>
    cases r
    obtain ⟨_, _, vs, _, d⟩ := (show ObjOk X.prog X.w H s.heap _ (.dK _) from rd_of I.hok h)
    obtain ⟨es, ep, dd, sl, ho⟩ := plain_dict d
    exact EqAt_str_dict z t ho hu
theorem vals_mem : ∀ {xs : List V} {us : List Value}, Vals xs us → ∀ u ∈ us, ∃ v ∈ xs, RelV v u
  | _, _, .nil, _, h => by cases h
  | x :: xs, u :: us, .cons r t, u', h => by
    rcases List.mem_cons.mp h with rfl | h
    · exact ⟨x, by simp, r⟩
    · obtain ⟨v, hv, rv⟩ := vals_mem t u' h
      exact ⟨v, List.mem_cons_of_mem _ hv, rv⟩
theorem any_Z {z : Str} : ∀ {xs : List V} {us : List Value}, Vals xs us → us.any (eqZ z) = xs.any (eqT z)
  | _, _, .nil => rfl
  | x :: xs, u :: us, .cons r t => by
    rw [List.any_cons, List.any_cons, eqZ_V r, any_Z t]
/-- a text in a list or tuple of any values -/
def rInO (K : PySem.W.Frag) (neg : Bool) : R2 := fun x y H Q => ∃ z p xs, x = .str z ∧ y = .ref p ∧ (SqL K H p xs ∨ SqT K H p xs) ∧ (∀ v ∈ xs, OddV K H v) ∧ Q (.bl (if neg then !xs.any (eqT z) else xs.any (eqT z))) H
theorem op_inO (hu : X.A.units + 64 < cLine) : OpR X (compareOp .In) (rInO X.K false) := by
  intro pins s σ H x y v u Q I rx ry h
  obtain ⟨z, p, xs, rfl, rfl, hq, odd, q⟩ := h
  cases ry
  obtain ⟨t, rfl⟩ := rx
  have hu1 : X.A.in1.units < cLine := by
    have : X.A.in1.units = X.A.units + 1 := rfl
    omega
  rcases hq with hq | hq
  · obtain ⟨its, r, pl, hz⟩ := I.list hq
    refine SeqAt.in_listAt (eqZ z) pl.isList (fun w hw => ?_) ⟨.bl _, H, I, rfl, ?_⟩
    · obtain ⟨v, hv, rv⟩ := vals_mem r w (by simpa using hw)
      exact odd_str I hu1 rv (odd v hv) z t
    · rw [show its.toArray.any (eqZ z) = its.any (eqZ z) by simp, any_Z r]
      exact q
  · obtain ⟨its, r, pl, hz⟩ := I.tuple hq
    refine SeqAt.in_tupleAt (eqZ z) pl (fun w hw => ?_) ⟨.bl _, H, I, rfl, ?_⟩
    · obtain ⟨v, hv, rv⟩ := vals_mem r w (by simpa using hw)
      exact odd_str I hu1 rv (odd v hv) z t
    · rw [show its.toArray.any (eqZ z) = its.any (eqZ z) by simp, any_Z r]
      exact q
/-- texts, member by member -/
def sameV : List Str → List V → Bool
  | [], [] => true
  | z :: l, v :: vs => eqT z v && sameV l vs
  | _, _ => false
theorem same_range {e : Nat → Bool} : ∀ {l : List Str} {vs : List V} (k : Nat), (∀ j (h1 : j < l.length) (h2 : j < vs.length), e (k + j) = eqT l[j] vs[j]) → ((List.range (min l.length vs.length)).all (fun j => e (k + j)) && l.length == vs.length) = sameV l vs
  | [], [], _, _ => rfl
  | [], _ :: _, _, _ => by simp [sameV]
  | _ :: _, [], _, _ => by simp [sameV]
  | z :: l, v :: vs, k, h => by
    have ih := same_range (e := e) (l := l) (vs := vs) (k + 1) fun j h1 h2 => by
      have := h (j + 1) (by simp; omega) (by simp; omega)
      rw [show k + 1 + j = k + (j + 1) by omega]
      simpa using this
    have h0 := h 0 (by simp) (by simp)
    have e0 : e k = eqT z v := by simpa using h0
    rw [List.length_cons, List.length_cons, Nat.succ_min_succ, List.range_succ_eq_map, List.all_cons, List.all_map]
    show ((e (k + 0) && (List.range (min l.length vs.length)).all fun j => e (k + (j + 1))) && _) = (eqT z v && sameV l vs)
    rw [← ih, Nat.add_zero, e0, Bool.and_assoc]
    congr 2
    · congr 1
      funext j
      rw [show k + (j + 1) = k + 1 + j by omega]
    · simp
/-- a tuple of texts and a tuple of any values -/
def rEqO (K : PySem.W.Frag) : R2 := fun x y H Q => ∃ a b l vs, x = .ref a ∧ y = .ref b ∧ SqT K H a (l.map .str) ∧ SqT K H b vs ∧ (∀ v ∈ vs, OddV K H v) ∧ Q (.bl (sameV l vs)) H
theorem vals_at : ∀ {xs : List V} {us : List Value}, Vals xs us → ∀ {j : Nat} (h1 : j < xs.length) (h2 : j < us.length), RelV xs[j] us[j]
  | x :: xs, u :: us, .cons r t, 0, _, _ => r
  | x :: xs, u :: us, .cons r t, j + 1, h1, h2 => vals_at t (j := j) (by simpa using h1) (by simpa using h2)
theorem op_eqO (hu : X.A.units + 64 < cLine) : OpR X (compareOp .Eq) (rEqO X.K) := by
  intro pins s σ H x y v u Q I rx ry h
  obtain ⟨a, b, l, vs, rfl, rfl, ha, hb, odd, q⟩ := h
  cases rx
  cases ry
  have hu1 : X.A.in1.units < cLine := by
    have : X.A.in1.units = X.A.units + 1 := rfl
    omega
  obtain ⟨us, r1, p1, z1⟩ := I.tuple ha
  obtain ⟨ws, r2, p2, z2⟩ := I.tuple hb
  have l1 : us.length = l.length := by rw [← r1.length, List.length_map]
  have l2 : ws.length = vs.length := r2.length.symm
  let e : Nat → Bool := fun j => match l[j]?, vs[j]? with
    | some z, some v => eqT z v
    | _, _ => false
  refine SeqAt.eq_tupleAt (e := e) p1 p2 (by omega) (fun j h1 h2 => ?_) ⟨.bl _, H, I, rfl, ?_⟩
  · have j1 : j < l.length := by simpa [l1] using h1
    have j2 : j < vs.length := by simpa [l2] using h2
    have rz := vals_at r1 (j := j) (by rw [List.length_map]; exact j1) (by rw [l1]; exact j1)
    have rv := vals_at r2 (j := j) j2 (by rw [l2]; exact j2)
    rw [List.getElem_map] at rz
    obtain ⟨t, ez⟩ := rz
    have ee : e j = eqZ l[j] ws[j] := by
      show (match l[j]?, vs[j]? with | some z, some v => eqT z v | _, _ => false) = _
      rw [List.getElem?_eq_getElem j1, List.getElem?_eq_getElem j2, eqZ_V rv]
    rw [ee]
    have := str_odd I hu1 rv (odd _ (List.getElem_mem j2)) l[j] t
    rw [← ez] at this
    simpa using this
  · have fin := same_range (e := e) (l := l) (vs := vs) 0 fun j h1 h2 => by
      show (match l[0 + j]?, vs[0 + j]? with | some z, some v => eqT z v | _, _ => false) = _
      rw [Nat.zero_add, List.getElem?_eq_getElem h1, List.getElem?_eq_getElem h2]
    simp only [Nat.zero_add] at fin
    rw [List.size_toArray, List.size_toArray, l1, l2, fin]
    exact q
/-- any list beside the empty list -/
def rNeN (K : PySem.W.Frag) : R2 := fun x y H Q => ∃ a b xs, x = .ref a ∧ y = .ref b ∧ SqL K H a xs ∧ SqL K H b [] ∧ Q (.bl (!xs.isEmpty)) H
theorem op_neN (hu : X.A.units + 64 < cLine) : OpR X (compareOp .NotEq) (rNeN X.K) := by
  intro pins s σ H x y v u Q I rx ry h
  obtain ⟨a, b, xs, rfl, rfl, ha, hb, q⟩ := h
  cases rx
  cases ry
  obtain ⟨us, r1, p1, z1⟩ := I.list ha
  obtain ⟨ws, r2, p2, z2⟩ := I.list hb
  cases r2
  cases xs with
  | nil =>
    cases r1
    exact SeqAt.RcNeAt.lists (e := fun _ => true) p1.isList p2.isList rfl (by omega) (fun j h1 h2 => by simp at h1) _ _ _ _ ⟨.bl _, H, I, rfl, q⟩
  | cons x xs =>
    cases r1 with
    | cons r rr => exact SeqAt.RcNeAt.lists_lengths p1.isList p2.isList (by simp) (by omega) _ _ _ _ ⟨.bl _, H, I, rfl, q⟩
end
end X3

set_option Elab.async false
set_option linter.all false
set_option maxRecDepth 100000
set_option maxHeartbeats 4000000
/-! # X3: data of any kind, beside texts -/
namespace X3
open PySem PySem.Spec L2 PyProof.Rows
def oddD : D → Bool
  | .non => true
  | .bl _ => true
  | .int _ => true
  | .str _ => true
  | .list _ => true
  | .tup _ => true
  | .dict _ => true
  | _ => false
/-- a text, and data -/
def eqD (z : Str) : D → Bool
  | .str y => decide (y = z)
  | _ => false
def sameD : List Str → List D → Bool
  | [], [] => true
  | z :: l, d :: ds => eqD z d && sameD l ds
  | _, _ => false
section
variable {K : PySem.W.Frag} {S : Res} {G H : Hp} {Q : D → Prop}
theorem odd_V {v : V} {d : D} (le : Le G H) (dt : Dat K G v d) (h : oddD d = true) : OddV K H v := by
  cases dt with
  | non => exact .non
  | bl => exact .bl _
  | int => exact .int _
  | str => exact .str _
  | list a r => exact .lst (SqL.of (le _ _ a))
  | tup a r => exact .tup (le_t le a.sq)
  | dict a r => exact .dict (le_rd le a)
  | _ => cases h
theorem eqT_D {z : Str} {v : V} {d : D} (dt : Dat K G v d) (h : oddD d = true) : eqT z v = eqD z d := by
  cases dt with
  | non => rfl
  | bl => rfl
  | int => rfl
  | str => rfl
  | list a r => rfl
  | tup a r => rfl
  | dict a r => rfl
  | _ => cases h
theorem odd_Vs (le : Le G H) : ∀ {vs : List V} {ds : List D}, DatL K G vs ds → (∀ d ∈ ds, oddD d = true) → ∀ v ∈ vs, OddV K H v
  | _, _, .nil, _, v, h => by cases h
  | _, _, .cons a r, o, v, h => by
    rcases List.mem_cons.mp h with rfl | h
    · exact odd_V le a (o _ (by simp))
    · exact odd_Vs le r (fun d hd => o d (List.mem_cons_of_mem _ hd)) v h
theorem any_D {z : Str} : ∀ {vs : List V} {ds : List D}, DatL K G vs ds → (∀ d ∈ ds, oddD d = true) → vs.any (eqT z) = ds.any (eqD z)
  | _, _, .nil, _ => rfl
  | _, _, .cons a r, o => by
    rw [List.any_cons, List.any_cons, eqT_D a (o _ (by simp)), any_D r fun d hd => o d (List.mem_cons_of_mem _ hd)]
theorem same_D : ∀ {l : List Str} {vs : List V} {ds : List D}, DatL K G vs ds → (∀ d ∈ ds, oddD d = true) → sameV l vs = sameD l ds
  | [], _, _, .nil, _ => rfl
  | _ :: _, _, _, .nil, _ => rfl
  | [], _, _, .cons _ _, _ => rfl
  | z :: l, _, _, .cons a r, o => by
    show (eqT z _ && sameV l _) = (eqD z _ && sameD l _)
    rw [eqT_D a (o _ (by simp)), same_D r fun d hd => o d (List.mem_cons_of_mem _ hd)]
theorem wr_inO {neg : Bool} {z : Str} {d : D} {ds : List D} (hd : d = .list ds ∨ d = .tup ds) (odd : ∀ e ∈ ds, oddD e = true) (q : Q (.bl (if neg then !ds.any (eqD z) else ds.any (eqD z)))) : WR2 K S (rInO K neg) (.str z) d Q := fun G H vx vy k w dx dy c => by
  cases dx
  have go : ∀ {p : Addr} {xs : List V}, (SqL K H p xs ∨ SqT K H p xs) → DatL K G xs ds → rInO K neg (.str z) (.ref p) H k := fun {p xs} hs r => by
    refine ⟨z, p, xs, rfl, rfl, hs, odd_Vs w.le r odd, ?_⟩
    rw [any_D r odd]
    exact c _ _ G H (.refl w) (.bl _) q
  rcases hd with rfl | rfl
  · cases dy with
    | list a r => exact go (.inl (SqL.of (w.le _ _ a))) r
  · cases dy with
    | tup a r => exact go (.inr (le_t w.le a.sq)) r
theorem datL_txt : ∀ {vs : List V} {l : List Str}, DatL K G vs (l.map .str) → vs = l.map .str
  | _, [], h => by cases h; rfl
  | _, z :: l, h => by
    cases h with
    | cons a r =>
      cases a
      rw [datL_txt r]
      rfl
theorem wr_eqO {l : List Str} {ds : List D} (odd : ∀ e ∈ ds, oddD e = true) (q : Q (.bl (sameD l ds))) : WR2 K S (rEqO K) (.tup (l.map .str)) (.tup ds) Q := fun G H vx vy k w dx dy c => by
  cases dx with
  | tup a r =>
    cases dy with
    | tup b r2 =>
      have e := datL_txt r
      refine ⟨_, _, l, _, rfl, rfl, e ▸ le_t w.le a.sq, le_t w.le b.sq, odd_Vs w.le r2 odd, ?_⟩
      rw [same_D r2 odd]
      exact c _ _ G H (.refl w) (.bl _) q
theorem wr_neN {ds : List D} (q : Q (.bl (!ds.isEmpty))) : WR2 K S (rNeN K) (.list ds) (.list []) Q := fun G H vx vy k w dx dy c => by
  cases dx with
  | list a r =>
    cases dy with
    | list b r2 =>
      cases r2
      refine ⟨_, _, _, rfl, rfl, SqL.of (w.le _ _ a), SqL.of (w.le _ _ b), ?_⟩
      rw [show ∀ {vs : List V} {ds : List D}, DatL K G vs ds → vs.isEmpty = ds.isEmpty from fun r => by cases r <;> rfl] 
      · exact c _ _ G H (.refl w) (.bl _) q
      · exact r
theorem wr_notInD {k l : Nat} {x : D} {ds : List D} (hx : Lay k x) (hd : Lay l (.list ds)) (hk : k ≤ 64) (hl : l ≤ 64) (q : Q (.bl (!(D.pds ds).any fun z => PyData.eqv z x.pd))) : WR2 K S (rNotInD K) x (.list ds) Q := fun G H vx vy c w dx dy cc =>
  ⟨x.pd, D.pds ds, Dp.le w.le (dx.dp hx.pure), Dp.le w.le (dy.dp hd.pure), (hx.eq hd hk hl).2.2.1, (hx.eq hd hk hl).2.2.2, cc _ _ G H (.refl w) (.bl _) q⟩
end
theorem sameD_strs : ∀ {l v : List Str}, sameD l (v.map .str) = decide (l = v)
  | [], [] => rfl
  | [], _ :: _ => rfl
  | _ :: _, [] => rfl
  | z :: l, y :: v => by
    show (decide (y = z) && sameD l (v.map .str)) = _
    rw [sameD_strs]
    by_cases h : y = z
    · by_cases h2 : l = v
      · rw [decide_eq_true h, decide_eq_true h2, decide_eq_true (by rw [h, h2])]
        rfl
      · rw [decide_eq_false h2, decide_eq_false (fun z => h2 (List.cons.inj z).2), Bool.and_false]
    · rw [decide_eq_false h, decide_eq_false (fun z => h (List.cons.inj z).1.symm)]
      rfl
theorem sameD_of : ∀ {l : List Str} {ds : List D}, sameD l ds = true → ds = l.map .str
  | [], [], _ => rfl
  | [], _ :: _, h => by cases h
  | _ :: _, [], h => by cases h
  | z :: l, d :: ds, h => by
    obtain ⟨h1, h2⟩ := Bool.and_eq_true_iff.mp (show (eqD z d && sameD l ds) = true from h)
    rw [sameD_of h2]
    cases d with
    | str y =>
      have : y = z := of_decide_eq_true h1
      rw [this]
      rfl
    | _ => cases h1
theorem any_strs {z : Str} {v : List Str} : (v.map D.str).any (eqD z) = decide (z ∈ v) := by
  induction v with
  | nil => simp
  | cons y v ih =>
    rw [List.map_cons, List.any_cons, ih]
    show (decide (y = z) || decide (z ∈ v)) = decide (z ∈ y :: v)
    rw [Bool.eq_iff_iff, Bool.or_eq_true_iff, decide_eq_true_iff, decide_eq_true_iff, decide_eq_true_iff, List.mem_cons]
    exact or_congr eq_comm Iff.rfl
end X3

set_option Elab.async false
set_option linter.all false
set_option maxRecDepth 100000
set_option maxHeartbeats 4000000
/-! # X3: dicts whose keys are tuples of texts -/
namespace X3
open PySem PySem.Spec L2 PyProof.Rows
abbrev skey (l : List Str) : List Key := l.map .inr
theorem skey_kV (l : List Str) : (skey l).map kV = l.map V.str := by
  unfold skey
  rw [List.map_map]
  rfl
theorem skey_inj {l m : List Str} (e : skey l = skey m) : l = m := by
  have := congrArg (List.map kV) e
  rw [skey_kV, skey_kV] at this
  exact (List.map_inj_right fun a b z => by cases z; rfl).mp this
def getT (kvs : List (List Key × D)) (k : List Key) : Option D := (kvs.find? fun x => decide (x.1 = k)).map (·.2)
def putT (kvs : List (List Key × D)) (k : List Key) (d : D) : List (List Key × D) := if (getT kvs k).isSome = true then kvs.map fun x => if x.1 = k then (x.1, d) else x else kvs ++ [(k, d)]
theorem putT_len (kvs : List (List Key × D)) (k : List Key) (d : D) : (putT kvs k d).length ≤ kvs.length + 1 := by
  unfold putT
  split
  · rw [List.length_map]
    omega
  · rw [List.length_append]
    exact Nat.le_refl _
section
variable {K : PySem.W.Frag} {G H : Hp}
theorem DatT.length : ∀ {ws : List TEnt} {ds : List (List Key × D)}, DatT K G ws ds → ws.length = ds.length
  | _, _, .nil => rfl
  | _, _, .cons _ _ r => congrArg (· + 1) (DatT.length r)
theorem DatT.keys : ∀ {ws : List TEnt} {ds : List (List Key × D)}, DatT K G ws ds → KeysAt K G ws
  | _, _, .nil => fun p h => (by cases h)
  | _, _, .cons z h r => fun p hp => by
    rcases List.mem_cons.mp hp with e | hp
    · rw [e]
      exact z
    · exact DatT.keys r p hp
theorem DatT.get (k : List Key) : ∀ {ws : List TEnt} {ds : List (List Key × D)}, DatT K G ws ds → (tdGet ws k = none ∧ getT ds k = none) ∨ ∃ v d, tdGet ws k = some v ∧ getT ds k = some d ∧ Dat K G v d
  | _, _, .nil => .inl ⟨rfl, rfl⟩
  | _, _, .cons (k := k') (b := b) (v := v) (d := d) z h r => by
    by_cases e : k' = k
    · exact .inr ⟨v, d, by simp [tdGet, List.find?_cons, e], by simp [getT, List.find?_cons, e], h⟩
    · rcases DatT.get k r with ⟨h1, h2⟩ | ⟨v, d, h1, h2, h3⟩
      · exact .inl ⟨by rw [← h1]; simp [tdGet, List.find?_cons, e], by rw [← h2]; simp [getT, List.find?_cons, e]⟩
      · exact .inr ⟨v, d, by rw [← h1]; simp [tdGet, List.find?_cons, e], by rw [← h2]; simp [getT, List.find?_cons, e], h3⟩
theorem DatT.isSome (k : List Key) {ws : List TEnt} {ds : List (List Key × D)} (r : DatT K G ws ds) : (tdGet ws k).isSome = (getT ds k).isSome := by
  rcases r.get k with ⟨h1, h2⟩ | ⟨v, d, h1, h2, _⟩
  · rw [h1, h2]
    rfl
  · rw [h1, h2]
    rfl
theorem DatT.repl {k : List Key} {y : V} {x : D} (dt : Dat K G y x) : ∀ {ws : List TEnt} {ds : List (List Key × D)}, DatT K G ws ds → DatT K G (ws.map fun x => if x.1 = k then (x.1, x.2.1, y) else x) (ds.map fun z => if z.1 = k then (z.1, x) else z)
  | _, _, .nil => .nil
  | _, _, .cons (k := k') z h r => by
    rw [List.map_cons, List.map_cons]
    by_cases e : k' = k
    · rw [if_pos e, if_pos e]
      exact .cons z dt (DatT.repl dt r)
    · rw [if_neg e, if_neg e]
      exact .cons z h (DatT.repl dt r)
theorem DatT.snoc {k : List Key} {b : Addr} {y : V} {x : D} (z : SqT K G b (k.map kV)) (dt : Dat K G y x) : ∀ {ws : List TEnt} {ds : List (List Key × D)}, DatT K G ws ds → DatT K G (ws ++ [(k, b, y)]) (ds ++ [(k, x)])
  | _, _, .nil => .cons z dt .nil
  | _, _, .cons z' h r => .cons z' h (DatT.snoc z dt r)
theorem DatT.put {k : List Key} {b : Addr} {y : V} {x : D} (z : SqT K G b (k.map kV)) (dt : Dat K G y x) {ws : List TEnt} {ds : List (List Key × D)} (r : DatT K G ws ds) : DatT K G (tdPut ws k b y) (putT ds k x) := by
  unfold tdPut putT
  rw [r.isSome k]
  by_cases q : (getT ds k).isSome = true
  · rw [if_pos q, if_pos q]
    exact r.repl dt
  · rw [if_neg q, if_neg q]
    exact r.snoc z dt
/-- a tuple of texts as a key -/
theorem key_at {v : V} {l : List Str} (h : Dat K G v (.tup (l.map .str))) : ∃ b, v = .ref b ∧ SqT K G b ((skey l).map kV) := by
  cases h with
  | tup h r =>
    have e := r.strs
    subst e
    exact ⟨_, rfl, by rw [skey_kV]; exact h.sq⟩
end
section
variable {K : PySem.W.Frag} {S : Res} {ρ : Rho} {Q : D → Prop} {P : Program} {w : World}
theorem we_tget {td ty : TE} (h : WE K S td ρ fun x => WE K S ty ρ fun y => ∃ kvs l d, x = .dt P w kvs ∧ y = .tup (l.map .str) ∧ getT kvs (skey l) = some d ∧ Q d) : WE K S (tTGet P w K td ty) ρ Q := fun σ G H k w' s c =>
  h σ G H _ w' s fun vx x G1 H1 s1 d1 h1 => h1 σ G1 H1 _ s1.w (s.mono s1.gg) fun vy y G2 H2 s2 d2 q => by
    obtain ⟨kvs, l, d, rfl, rfl, e, q⟩ := q
    have d1' := d1.mono s2.gg
    obtain ⟨b, rfl, hb⟩ := key_at d2
    cases d1' with
    | dt a r =>
      rcases r.get (skey l) with ⟨_, h2⟩ | ⟨v, d', g1, g2, g3⟩
      · rw [e] at h2
        cases h2
      · rw [e] at g2
        cases g2
        exact ⟨_, skey l, v, ⟨_, b, rfl, rfl, s2.w.le _ _ a, fun p hp => le_t s2.w.le (r.keys p hp), le_t s2.w.le hb⟩, g1, c _ _ G2 H2 (s1.trans s2) g3 q⟩
theorem we_tin {neg : Bool} {td ty : TE} (h : WE K S ty ρ fun y => WE K S td ρ fun x => ∃ kvs l, x = .dt P w kvs ∧ y = .tup (l.map .str) ∧ Q (.bl (if neg then !(getT kvs (skey l)).isSome else (getT kvs (skey l)).isSome))) : WE K S (tTIn P w K neg ty td) ρ Q := fun σ G H k w' s c =>
  h σ G H _ w' s fun vy y G1 H1 s1 d1 h1 => h1 σ G1 H1 _ s1.w (s.mono s1.gg) fun vx x G2 H2 s2 d2 q => by
    obtain ⟨kvs, l, rfl, rfl, q⟩ := q
    obtain ⟨b, rfl, hb⟩ := key_at (d1.mono s2.gg)
    cases d2 with
    | dt a r =>
      refine ⟨_, skey l, ⟨_, b, rfl, rfl, s2.w.le _ _ a, fun p hp => le_t s2.w.le (r.keys p hp), le_t s2.w.le hb⟩, ?_⟩
      rw [r.isSome]
      exact c _ _ G2 H2 (s1.trans s2) (.bl _) q
/-- x + y, a list of one's own -/
theorem wf_plus {ta tb : TE} {Q : M → Prop} (h : WE K S ta ρ fun x => WE K S tb ρ fun y => ∃ xs ys, x = .list xs ∧ y = .list ys ∧ xs.length + ys.length ≤ 100000 ∧ Q (.lst (xs ++ ys))) : WF K S (tOp rPlus ta tb) ρ Q := fun σ G H k w' sl c =>
  h σ G H _ w' sl fun vx x G1 H1 s1 d1 h1 => h1 σ G1 H1 _ s1.w (sl.mono s1.gg) fun vy y G2 H2 s2 d2 q => by
    obtain ⟨xs, ys, rfl, rfl, hl, q⟩ := q
    have d1' := d1.mono s2.gg
    cases d1' with
    | list a1 r1 =>
      cases d2 with
      | list a2 r2 =>
        refine .inr (.inl ⟨_, _, _, _, rfl, rfl, s2.w.le _ _ a1, s2.w.le _ _ a2, by rw [r1.length, r2.length]; exact Nat.le_trans hl (by decide), fun p hp => ?_⟩)
        have s := s1.trans s2
        have gp := s2.w.fresh hp
        exact c p (.lst (xs ++ ys)) _ G2 (upd H2 p _) (s.trans (.junk s2.w (Le.new hp))) (s.first hp) gp upd_same ⟨gp, _, upd_same, r1.append r2⟩ q
end
section
variable {K : PySem.W.Frag} {S : Res} {ρ : Rho} {μ : Mu} {N : EndsD} {P : Program} {w : World}
/-- d[y] = v, d one's own -/
theorem ws_tput {i j : Nat} {kvs : List (List Key × D)} {ty tv : TE} (hi : ρ[i]? = some (.own j)) (hj : μ[j]? = some (.dt P w kvs)) (hz : kvs.length < 100000) (h : WE K S tv ρ fun z => WE K S ty ρ fun y => ∃ l : List Str, y = .tup (l.map .str) ∧ N.nx ρ (μ.set j (.dt P w (putT kvs (skey l) z)))) :
    WS K S (sTPut P w K (tVar i) ty tv) ρ μ N := fun G0 H0 σ H E w0 r f => by
  obtain ⟨G, as, r⟩ := r
  obtain ⟨a, ha, hs⟩ := r.own i j hi
  refine h σ G H _ r.st.w r.sl fun vz z G1 H1 s1 d1 h1 => ⟨_, hs, ?_⟩
  have r1 := r.step w0 s1
  refine h1 σ G1 H1 _ s1.w r1.sl fun vy y G2 H2 s2 d2 q => ?_
  obtain ⟨l, rfl, q⟩ := q
  obtain ⟨b, rfl, hb⟩ := key_at d2
  have r2 := r1.step w0 s2
  obtain ⟨_, _, hg, xs, hx, dx⟩ := r2.cell j a _ ha hj
  have le := r2.st.w.le
  refine ⟨a, b, xs, skey l, rfl, rfl, hx, fun p hp => le_t le (dx.keys p hp), le_t le hb, by rw [dx.length]; exact Nat.lt_of_lt_of_le hz (by decide), ?_⟩
  exact f.nx _ _ _ _ ⟨G2, as, r2.put (m := .dt P w (putT kvs (skey l) z)) w0 ha hj hg ⟨hg, _, upd_same, dx.put hb (d1.mono s2.gg)⟩⟩ q
/-- what was one's own is told as it stands -/
theorem ws_release {i j : Nat} {ds : List D} {t : TS} (hi : ρ[i]? = some (.own j)) (hj : μ[j]? = some (.lst ds)) (h : WS K S t (ρ.set i (.dat (.list ds))) (μ.set j .gone) N) : WS K S t ρ μ N := fun G0 H0 σ H E w0 r f => by
  obtain ⟨G, as, r⟩ := r
  obtain ⟨a, ha, hs⟩ := r.own i j hi
  obtain ⟨h0, h1, hg, xs, hx, dx⟩ := r.cell j a _ ha hj
  have nf := r.nfp w0 (List.mem_of_getElem? ha)
  have leG : Le G (upd G a (.lst xs)) := Le.new hg
  have ne : ∀ {k b}, as[k]? = some b → k ≠ j → b ≠ a := fun {k b} e1 hk z => by
    subst z
    obtain ⟨l1, e3⟩ := List.getElem?_eq_some_iff.mp e1
    obtain ⟨l2, e4⟩ := List.getElem?_eq_some_iff.mp ha
    exact hk ((List.getElem_inj r.nd).mp (e3.trans e4.symm))
  refine h G0 H0 σ H E w0 ⟨upd G a (.lst xs), as, ⟨⟨r.st.gg.trans leG, r.st.hh, fun b o e => ?_, ⟨fun b o e => ?_, r.st.w.src, fun b fb => ?_⟩⟩, ⟨?_, fun k d e => ?_⟩, by rw [List.length_set]; exact r.alen, r.nd, fun i' j' e => ?_, fun k b m e1 e2 => ?_⟩⟩ f
  · by_cases z : b = a
    · subst z
      exact .inr h0
    · rw [upd_ne z] at e
      exact r.st.nw b o e
  · by_cases z : b = a
    · subst z
      rw [upd_same] at e
      rw [← e]
      exact hx
    · rw [upd_ne z] at e
      exact r.st.w.le b o e
  · rw [upd_ne (fun z => nf (by rw [← z]; exact fb))]
    exact r.st.w.sep b fb
  · rw [List.length_set]
    exact r.sl.len
  · by_cases z : k = i
    · subst z
      rw [List.getElem?_set_self (List.getElem?_eq_some_iff.mp hi).1] at e
      cases e
      exact ⟨_, hs, .list upd_same (dx.mono leG)⟩
    · rw [List.getElem?_set_ne (Ne.symm z)] at e
      obtain ⟨v, e1, e2⟩ := r.sl.get k d e
      exact ⟨v, e1, e2.mono leG⟩
  · by_cases z : i' = i
    · subst z
      rw [List.getElem?_set_self (List.getElem?_eq_some_iff.mp hi).1] at e
      cases e
    · rw [List.getElem?_set_ne (Ne.symm z)] at e
      exact r.own i' j' e
  · by_cases z : k = j
    · subst z
      rw [ha] at e1
      cases e1
      rw [List.getElem?_set_self (List.getElem?_eq_some_iff.mp hj).1] at e2
      cases e2
      exact ⟨h0, h1, trivial⟩
    · rw [List.getElem?_set_ne (Ne.symm z)] at e2
      have nb := ne e1 z
      obtain ⟨c0, c1, c2⟩ := r.cell k b m e1 e2
      refine ⟨c0, c1, ?_⟩
      cases m with
      | gone => trivial
      | lst ds =>
        obtain ⟨q1, xs, q2, q3⟩ := c2
        exact ⟨by rw [upd_ne nb]; exact q1, xs, q2, q3.mono leG⟩
      | dict ds =>
        obtain ⟨q1, xs, q2, q3⟩ := c2
        exact ⟨by rw [upd_ne nb]; exact q1, xs, q2, q3.mono leG⟩
      | dt P w ds =>
        obtain ⟨q1, xs, q2, q3⟩ := c2
        exact ⟨by rw [upd_ne nb]; exact q1, xs, q2, q3.mono leG⟩
      | kset P w S n =>
        obtain ⟨q1, q2⟩ := c2
        exact ⟨by rw [upd_ne nb]; exact q1, q2⟩
      | obj x C fs =>
        obtain ⟨q0, q1, dx, vs, q2, q3⟩ := c2
        exact ⟨q0, by rw [upd_ne nb]; exact q1, dx, vs, q2, q3.mono leG⟩
/-- a, b = {x: y}, [z, ..] -/
theorem ws_parT {i j : Nat} {tk tv : TE} {ta : TA} (hi : i < ρ.length) (hj : j < ρ.length)
    (h : WE K S tk ρ fun y => ∃ l : List Str, y = .tup (l.map .str) ∧ WE K S tv ρ fun d => WA K S ta ρ fun xs => xs.length ≤ 100000 ∧ N.nx ((ρ.set i (.own μ.length)).set j (.own (μ.length + 1))) (μ ++ [.dt P w [(skey l, d)]] ++ [.lst xs])) :
    WS K S (tPar i j (tCons (tTDisp P w K tk tv) (tCons (tLst ta) tNil))) ρ μ N := fun G0 H0 σ H E w0 r f => by
  obtain ⟨G, as, r⟩ := r
  intro p hp
  have s0 : Stp S G H G (upd H p (TdO P w p [])) := .junk r.st.w (Le.new hp)
  obtain ⟨n1, n2, n3, n4⟩ := r.newp hp
  refine h σ G _ _ s0.w r.sl fun vy y G1 H1 s1 d1 h1 => ?_
  obtain ⟨l, rfl, h1⟩ := h1
  refine h1 σ G1 H1 _ s1.w (r.sl.mono s1.gg) fun vd d G2 H2 s2 d2 h2 => ?_
  obtain ⟨b, rfl, hb⟩ := key_at (d1.mono s2.gg)
  have s12 := s1.trans s2
  have g2 := s12.keepNone n4 (by rw [upd_same]; exact Option.some_ne_none _)
  have e2 : H2 p = some (TdO P w p []) := s12.hh p _ n3 upd_same
  refine ⟨b, skey l, rfl, e2, le_t s2.w.le hb, ?_⟩
  have s3 : Stp S G H G2 (upd H2 p (TdO P w p [(skey l, b, vd)])) := (s0.trans s12).poke hp g2 n3
  have r3 := r.step w0 s3
  refine h2 σ G2 _ _ s3.w r3.sl fun vs xs G4 H4 s4 d4 q4 => ⟨by rw [d4.length]; exact Nat.le_trans q4.1 (by decide), fun q hq => ⟨_, _, rfl, ?_⟩⟩
  have r4 := r3.step w0 s4
  have g4 := s4.keepNone g2 (by rw [upd_same]; exact Option.some_ne_none _)
  have e4 : H4 p = some (TdO P w p [(skey l, b, vd)]) := s4.hh p _ n3 upd_same
  have r5 := r4.adopt (m := .dt P w [(skey l, d)]) (o := TdO P w p [(skey l, b, vd)]) hi n1 n2 n3 g4 ⟨g4, _, upd_same, .cons (le_t s4.gg hb) (d2.mono s4.gg) .nil⟩
  rw [upd_id e4] at r5
  obtain ⟨m1, m2, m3, m4⟩ := r5.newp hq
  have r7 := r5.adopt (i := j) (m := .lst xs) (o := .lst vs) (by rw [List.length_set]; exact hj) m1 m2 m3 m4 ⟨m4, _, upd_same, d4⟩
  rw [show (μ ++ [M.dt P w [(skey l, d)]]).length = μ.length + 1 by simp] at r7
  exact f.nx _ _ _ _ ⟨G4, _, r7⟩ q4.2
end
end X3

set_option Elab.async false
set_option linter.all false
set_option maxRecDepth 100000
set_option maxHeartbeats 4000000
/-! # X3: sorted(x): a list of data that are alike, a dict whose keys are tuples of texts -/
namespace X3
open PySem PySem.Spec L2 PyProof.Rows PySem.W
/-- what is sorted: values, each with what it reads as -/
def ZsOk (K : PySem.W.Frag) (H : Hp) (zs : List (V × PyData)) : Prop := (∀ z ∈ zs, Dp K H z.1 z.2 ∧ z.2.depth ≤ 50) ∧ AllAlike (zs.map (·.2)) ∧ Sortable (zs.map (·.2))
def zsS (zs : List (V × PyData)) : List V := (zs.mergeSort (dataLe false (·.2))).map (·.1)
def rSortedD (K : PySem.W.Frag) : List V → Hp → VK → Prop := fun vs H Q => ∃ (a : Addr) (zs : List (V × PyData)), vs = [.ref a] ∧ SqL K H a (zs.map (·.1)) ∧ ZsOk K H zs ∧ ∀ p, H p = none → Q (.ref p) (upd H p (.lst (zsS zs)))
theorem each_vals : ∀ {zs : List (V × PyData)} {us : List Value}, Vals (zs.map (·.1)) us → EachIs (fun u z => RelV z.1 u) us zs
  | [], _, r => by
    cases r
    exact .nil
  | z :: zs, _, r => by
    cases r with
    | cons h t => exact .cons h (each_vals t)
theorem vals_each : ∀ {zs : List (V × PyData)} {us : List Value}, EachIs (fun u z => RelV z.1 u) us zs → Vals (zs.map (·.1)) us
  | _, _, .nil => .nil
  | _, _, .cons h t => .cons h (vals_each t)
section
variable {X : Cx} {pins : List (Addr × Obj)} {σ : L2.St} {H : Hp} {s : Shared}
theorem each_reads (I : Inv X pins σ H s) : ∀ {zs : List (V × PyData)} {us : List Value}, (∀ z ∈ zs, Dp X.K H z.1 z.2) → EachIs (fun u z => RelV z.1 u) us zs → EachIs (fun u z => ∃ as, Reads s.heap u z.2 as) us zs
  | _, _, _, .nil => .nil
  | _, _, h, .cons r t => .cons (Dp.reads I _ _ _ (h _ (by simp)) r) (each_reads I (fun z hz => h z (List.mem_cons_of_mem _ hz)) t)
theorem each_len {α β : Type} {R : α → β → Prop} : ∀ {as : List α} {bs : List β}, EachIs R as bs → as.length = bs.length
  | _, _, .nil => rfl
  | _, _, .cons _ t => by rw [List.length_cons, List.length_cons, each_len t]
theorem cr_sortedD (hu : X.A.units + 64 < cLine) : CallR X (.builtin "sorted") (rSortedD X.K) := by
  intro pins s σ H vs us Q I r h
  obtain ⟨a, zs, rfl, hs, ⟨hd, hal, hk⟩, q⟩ := h
  obtain ⟨its, rv, hl, hlen⟩ := I.list hs
  rw [Vals.ref1 r]
  have e := each_vals rv
  have el : its.length = zs.length := each_len e
  have few : zs.length ≤ sizeLine := by
    first
    | (rw [List.length_map] at hlen; exact hlen)
    | omega
  refine sorted_data (enc := fun z : V × PyData => z.2) hl.isList e (each_reads I (fun z hz => (hd z hz).1) e) hal hk few (fun z hz => ?_) fun out ho eo => ?_
  · have := (hd z hz).2
    omega
  obtain ⟨ep, he'⟩ := PyProof.Rows.sortedAll_at s.heap its (List.toArray out)
  refine ⟨.ref _, upd H (s.heap.objs.size + 1) (.lst (zsS zs)), I.laid (t' := s.toks) (fun _ _ => PyProof.Rows.sortedAll_old) (Nat.le_succ _) ⟨?_, out, ep, vals_each eo, ?_⟩, rfl, q _ (I.hok.fresh (Nat.le_succ _))⟩
  · unfold zsS
    rw [List.length_map, List.length_mergeSort]
    exact few
  · exact he'
end
end X3

set_option Elab.async false
set_option linter.all false
set_option maxRecDepth 100000
set_option maxHeartbeats 4000000
namespace X3
open PySem PySem.Spec L2 PyProof.Rows PySem.W
def rSortedTd (P : Program) (w : World) (K : PySem.W.Frag) : List V → Hp → VK → Prop := fun vs H Q => ∃ (a : Addr) (kvs : List TEnt) (zs : List (V × PyData)), vs = [.ref a] ∧ H a = some (TdO P w a kvs) ∧ zs.map (·.1) = kvs.map (fun e => V.ref e.2.1) ∧ ZsOk K H zs ∧ ∀ p, H p = none → Q (.ref p) (upd H p (.lst (zsS zs)))
theorem td_vals : ∀ {kvs : List TEnt} {xs : List (List Key × Addr × Value)}, TdRel kvs xs → Vals (kvs.map fun e => V.ref e.2.1) (xs.map fun x => Value.ref x.2.1)
  | _, _, .nil => .nil
  | _, _, .cons h t => .cons (by dsimp only; rw [h.2.1]; rfl) (td_vals t)
section
variable {X : Cx}
theorem cr_sortedTd (hcalm : X.calm = true) (hu : X.A.units + 64 < cLine) : CallR X (.builtin "sorted") (rSortedTd X.prog X.w X.K) := by
  intro pins s σ H vs us Q I r h
  obtain ⟨a, kvs, zs, rfl, e, ez, ⟨hd, hal, hk⟩, q⟩ := h
  rw [Vals.ref1 r]
  obtain ⟨⟨z, y, xs, rel, o, es, ep, ho, hx, hdat, hes, _⟩, _⟩ := I.hok a _ e
  have raw : s.heap.DictRaw a es ep := ⟨o, ho, hx, hdat⟩
  have sz : es.size = kvs.length := by
    rw [← Array.length_toList, hes, List.length_map, ← rel.length]
  have zl : zs.length = kvs.length := by
    have := congrArg List.length ez
    rw [List.length_map, List.length_map] at this
    exact this
  refine Calls.call_function_entry PyProof.Rows.kind_sorted PyProof.Rows.plain_sorted PyProof.Rows.entry_sorted (PyProof.Rows.args_sorted1 _) ?_
  unfold Builtin.«sorted»
  refine wpAny_bind (m := checkCount "sorted" 1 1 _) (wpAny_pure ?_)
  refine wpAny_bind (PySem.W.kdu_collect (A := X.A.in1) (KdlSrc.rawDict (es := es) (ep := ep) y) (I.ok.hd hcalm) raw (by rw [sz]; exact z) fun h1 tk acc keep got => ?_)
  have ea : acc.toList = xs.map fun x => Value.ref x.2.1 := by
    refine List.ext_getElem (by rw [Array.length_toList, got.1, List.length_map, sz, rel.length]) fun j j1 j2 => ?_
    have j3 : j < xs.length := by simpa using j2
    rw [Array.getElem_toList]
    obtain ⟨hi, ev⟩ := got.2 j acc[j] (by rw [Array.getElem?_eq_getElem])
    rw [ev, List.getElem_map]
    have el : es.toList[j]? = some (entryOfKey (tupleKind (mixKind X.prog X.w)) xs[j]) := by
      rw [hes, List.getElem?_map, List.getElem?_eq_getElem]
      rfl
    rw [Array.getElem?_toList, Array.getElem?_eq_getElem hi] at el
    rw [Option.some.inj el]
    rfl
  have rv : Vals (zs.map (·.1)) acc.toList := by
    rw [ez, ea]
    exact td_vals rel
  have I1 : Inv X pins σ H { s with heap := h1, toks := tk } := I.kept keep
  have ev := each_vals rv
  have al : acc.toList.length = zs.length := each_len ev
  have few : acc.toList.length ≤ sizeLine := by rw [al, zl]; exact z
  refine wpAny_bind (wpAny_newList ?_ few)
  have at1 : (h1.push (seqObj "list" acc.toList.toArray 0)).get? h1.objs.size = some (seqObj "list" acc.toList.toArray 0) := Heap.get?_push_size _ rfl
  have old : ∀ b u, h1.get? b = some u → (sortingHeap (h1.push (seqObj "list" acc.toList.toArray 0)) h1.objs.size acc.toList).get? b = some u := fun b u g => sortingHeap_old (Nat.ne_of_lt (Heap.lt_size g)) (Heap.get?_push_of_some _ g)
  have er : EachIs (fun u z => ∃ as, Reads (sortingHeap (h1.push (seqObj "list" acc.toList.toArray 0)) h1.objs.size acc.toList) u z.2 as) acc.toList zs := (each_reads I1 (fun z hz => (hd z hz).1) ev).mono fun _ _ ⟨as, g⟩ => ⟨as, PyProof.Rows.Reads.keeps old g⟩
  show wpAny _ _ _ _ _ { s with heap := h1.push (seqObj "list" acc.toList.toArray 0), toks := tk }
  refine wpAny_bind (wpAny_holding (wpAny_call_entry PyProof.Rows.slot_list_sort ⟨_, at1, rfl⟩ PyProof.Rows.entry_list_sort
    (list_sort_vals (s := { s with heap := h1.push (seqObj "list" acc.toList.toArray 0), toks := tk }) (κ := dataKind (sortingHeap (h1.push (seqObj "list" acc.toList.toArray 0)) h1.objs.size acc.toList) (zs.map (·.2))) at1
      (SortsAt.data (s := { s with heap := sortingHeap (h1.push (seqObj "list" acc.toList.toArray 0)) h1.objs.size acc.toList, toks := tk }) (each_map (R := fun v d => ∃ as, Reads (sortingHeap (h1.push (seqObj "list" acc.toList.toArray 0)) h1.objs.size acc.toList) v d as) (fun z : V × PyData => z.2) er) hal hk (bound_map fun z hz => by have := (hd z hz).2; show _ + 1 + 1 + _ < cLine; omega)) few ⟨_, rfl, ?_⟩)
    (PyProof.Rows.args_list_sort _)))
  have eo := sortVals_data false ev er hal
  obtain ⟨e', he'⟩ := PyProof.Rows.sortedHeap_at (vs := acc.toList) (out := (sortVals (dataKind (sortingHeap (h1.push (seqObj "list" acc.toList.toArray 0)) h1.objs.size acc.toList) (zs.map (·.2))) false acc.toList acc.toList).toArray) at1
  refine wpAny_pure ⟨_, rfl, .ref h1.objs.size, upd H h1.objs.size (.lst (zsS zs)), I1.laid (t' := tk) (fun b u g => ?_) (Nat.le_refl _)
    (show ObjOk X.prog X.w _ _ _ (.lst (zsS zs)) from ⟨?_, _, e', vals_each eo, he'⟩), rfl, q _ (I1.hok.fresh (Nat.le_refl _))⟩
  · have hb : b < h1.objs.size := Heap.lt_size g
    rw [PyProof.Rows.sortedHeap_old (Nat.ne_of_lt hb) (by rw [size_push']; exact Nat.lt_succ_of_lt hb)]
    exact Heap.get?_push_of_some _ g
  · unfold zsS
    rw [List.length_map, List.length_mergeSort, zl]
    exact z
end
end X3

set_option Elab.async false
set_option linter.all false
set_option maxRecDepth 100000
set_option maxHeartbeats 4000000
/-! # X3: three names at once; long lists of one's own; sorted data -/
namespace X3
open PySem PySem.Spec L2 PyProof.Rows PySem.W
section
variable {K : PySem.W.Frag} {S : Res} {ρ : Rho} {μ : Mu} {N : EndsD} {P : Program} {w : World}
/-- a, b = x, y where y reads what is one's own -/
theorem ws_parv1 {i j : Nat} {t1 t2 : TE} (h : WE K S t1 ρ fun x => WE K S t2 (view ρ μ) fun y => scalD y = true ∧ N.nx ((ρ.set i (.dat x)).set j (.dat y)) μ) : WS K S (tPar i j (tCons t1 (tCons t2 tNil))) ρ μ N := fun G0 H0 σ H E w0 r f => by
  obtain ⟨G, as, r⟩ := r
  refine h σ G H _ r.st.w r.sl fun vx x G1 H1 s1 d1 h1 => ?_
  have r1 := r.step w0 s1
  obtain ⟨G2, le, s2, sl, fr⟩ := r1.freeze w0
  refine h1 σ G2 H1 _ s2.w sl fun vy y G3 H3 s3 d3 q => ?_
  have r3 := r1.unfreeze w0 le fr s3
  exact ⟨_, _, rfl, f.nx _ _ _ _ ⟨G1, as, (r3.set d1).set (scal_any d3 q.1)⟩ q.2⟩
/-- a, b, c = {x: y}, [z, ..], u -/
theorem ws_par3T {i j l : Nat} {tk tv te : TE} {ta : TA} (hi : i < ρ.length) (hj : j < ρ.length)
    (h : WE K S tk ρ fun y => ∃ l0 : List Str, y = .tup (l0.map .str) ∧ WE K S tv ρ fun d => WA K S ta ρ fun xs => xs.length ≤ 100000 ∧ WE K S te ρ fun z => N.nx (((ρ.set i (.own μ.length)).set j (.own (μ.length + 1))).set l (.dat z)) (μ ++ [.dt P w [(skey l0, d)]] ++ [.lst xs])) :
    WS K S (tPar3 i j l (tCons (tTDisp P w K tk tv) (tCons (tLst ta) (tCons te tNil)))) ρ μ N := fun G0 H0 σ H E w0 r f => by
  obtain ⟨G, as, r⟩ := r
  intro p hp
  have s0 : Stp S G H G (upd H p (TdO P w p [])) := .junk r.st.w (Le.new hp)
  obtain ⟨n1, n2, n3, n4⟩ := r.newp hp
  refine h σ G _ _ s0.w r.sl fun vy y G1 H1 s1 d1 h1 => ?_
  obtain ⟨l0, rfl, h1⟩ := h1
  refine h1 σ G1 H1 _ s1.w (r.sl.mono s1.gg) fun vd d G2 H2 s2 d2 h2 => ?_
  obtain ⟨b, rfl, hb⟩ := key_at (d1.mono s2.gg)
  have s12 := s1.trans s2
  have g2 := s12.keepNone n4 (by rw [upd_same]; exact Option.some_ne_none _)
  have e2 : H2 p = some (TdO P w p []) := s12.hh p _ n3 upd_same
  refine ⟨b, skey l0, rfl, e2, le_t s2.w.le hb, ?_⟩
  have s3 : Stp S G H G2 (upd H2 p (TdO P w p [(skey l0, b, vd)])) := (s0.trans s12).poke hp g2 n3
  have r3 := r.step w0 s3
  refine h2 σ G2 _ _ s3.w r3.sl fun vs xs G4 H4 s4 d4 q4 => ⟨by rw [d4.length]; exact Nat.le_trans q4.1 (by decide), fun q hq => ?_⟩
  have r4 := r3.step w0 s4
  have g4 := s4.keepNone g2 (by rw [upd_same]; exact Option.some_ne_none _)
  have e4 : H4 p = some (TdO P w p [(skey l0, b, vd)]) := s4.hh p _ n3 upd_same
  have pq : p ≠ q := fun z => by
    rw [z, hq] at e4
    cases e4
  obtain ⟨m1, m2, m3, m4⟩ := r4.newp hq
  have s5 : Stp S G4 H4 G4 (upd H4 q (.lst vs)) := .junk r4.st.w (Le.new hq)
  have r5 := r4.step w0 s5
  refine q4.2 σ G4 _ _ s5.w r5.sl fun vz z G6 H6 s6 d6 q6 => ⟨_, _, _, rfl, ?_⟩
  have r6 := r5.step w0 s6
  have ep5 : (upd H4 q (HO.lst vs)) p = some (TdO P w p [(skey l0, b, vd)]) := by rw [upd_ne pq]; exact e4
  have g6 := s6.keepNone g4 (by rw [ep5]; exact Option.some_ne_none _)
  have k6 := s6.keepNone m4 (by rw [upd_same]; exact Option.some_ne_none _)
  have e6 : H6 p = some (TdO P w p [(skey l0, b, vd)]) := s6.hh p _ n3 ep5
  have f6 : H6 q = some (.lst vs) := s6.hh q _ m3 upd_same
  have r7 := r6.adopt (m := .dt P w [(skey l0, d)]) (o := TdO P w p [(skey l0, b, vd)]) hi n1 n2 n3 g6 ⟨g6, _, upd_same, .cons (le_t s6.gg (le_t s4.gg hb)) ((d2.mono s4.gg).mono s6.gg) .nil⟩
  rw [upd_id e6] at r7
  have r8 := r7.adopt (i := j) (m := .lst xs) (o := .lst vs) (by rw [List.length_set]; exact hj) m1 (fun z => (List.mem_append.mp z).elim m2 fun z => pq (List.mem_singleton.mp z).symm) m3 k6 ⟨k6, _, upd_same, d4.mono s6.gg⟩
  rw [upd_id f6, show (μ ++ [M.dt P w [(skey l0, d)]]).length = μ.length + 1 by simp] at r8
  exact f.nx _ _ _ _ ⟨G6, _, r8.set d6⟩ q6
theorem ws_appendB {i j : Nat} {te : TE} {ds : List D} (hi : ρ[i]? = some (.own j)) (hj : μ[j]? = some (.lst ds)) (hz : ds.length < 12000000) (h : WE K S te ρ fun d => N.nx ρ (μ.set j (.lst (ds ++ [d])))) :
    WS K S (tDrop (tBM K "list" rAppend (tVar i) (tCons te tNil))) ρ μ N := fun G0 H0 σ H E w0 r f => by
  obtain ⟨G, as, r⟩ := r
  obtain ⟨a, ha, hs⟩ := r.own i j hi
  obtain ⟨_, _, _, xs, hx, _⟩ := r.cell j a _ ha hj
  refine ⟨_, hs, Or.inl ⟨rfl, _, SqL.of hx⟩, ?_⟩
  refine h σ G H _ r.st.w r.sl fun v d G' H' s dt q => ?_
  have r' := r.step w0 s
  obtain ⟨_, _, hg, ys, hy, hd⟩ := r'.cell j a _ ha hj
  refine ⟨a, ys, v, rfl, rfl, hy, by rw [hd.length]; exact Nat.lt_of_lt_of_le hz (by decide), ?_⟩
  exact f.nx _ _ _ _ ⟨G', as, r'.put (m := .lst (ds ++ [d])) w0 ha hj hg ⟨hg, _, upd_same, hd.append (.cons dt .nil)⟩⟩ q
end
end X3

set_option Elab.async false
set_option linter.all false
set_option maxRecDepth 100000
set_option maxHeartbeats 4000000
/-! # X3: a def that hands back what another one makes; three names at once, read off one's own -/
namespace X3
open PySem PySem.Spec L2 PyProof.Rows PySem.W
section
variable {K : PySem.W.Frag} {S : Res} {ρ : Rho} {μ : Mu} {N : EndsD}
/-- the body of a def: return f(..), a list that f makes -/
theorem body_ofC {P : Res → List X3.D → (List X3.D → Prop) → Prop} {tA : TA} {E : XK} {NN : List Str} {vs : List V} {ds : List X3.D} {G H : Hp} {Qv : VK} {q : List X3.D → Prop} (w : Wld S G H) (r : DatL K G vs ds)
    (c : ∀ a xs es G' H', Stp S G H G' H' → G' a = none → H a = none → H' a = some (.lst xs) → DatL K G' xs es → q es → Qv (.ref a) H')
    (h : WA K S tA (startR NN ds) fun ds' => P S ds' q) : tRet (tCall (spF K P) [] E tA) { nx := fun _ H' => Qv .non H', rt := Qv } (L2.start NN vs) H := by
  show tCall (spF K P) [] E tA (L2.start NN vs) H fun v H' => Qv v H'
  exact h _ G H _ w (slots_start r) fun vs' ds' G' H' s dt hp => ⟨S, G', ds', q, s.w, by rw [List.append_nil]; exact dt, hp, fun a xs es G2 H2 s2 ga ha hx dx q2 => c a xs es G2 H2 (s.trans s2) ga (s.first ha) hx dx q2⟩
/-- x, y, z = f(..), [..], e: all read what is one's own; f hands back a new list of tuples of texts, the display is a new list of texts -/
theorem ws_par3VF {P : Res → List X3.D → (List X3.D → Prop) → Prop} {tA : TA} {E : XK} {tl te : TE} {i j l : Nat} (hμ : μ.all plainM = true)
    (h : WA K S tA (view ρ μ) fun ds => P S ds fun es => (∃ os : List (List Str), es = os.map fun o => .tup (o.map .str)) ∧ WF K S tl (view ρ μ) fun m => ∃ ns : List Str, m = .lst (ns.map .str) ∧ WE K S te (view ρ μ) fun d => scalD d = true ∧ N.nx (((ρ.set i (.dat (.list es))).set j (.dat (.list (ns.map .str)))).set l (.dat d)) μ) :
    WS K S (tPar3 i j l (tCons (tCall (spF K P) [] E tA) (tCons tl (tCons te tNil)))) ρ μ N := fun G0 H0 σ H E0 w0 r f => by
  obtain ⟨G, as, r⟩ := r
  obtain ⟨G1, le, s1, sl, fr⟩ := r.freeze w0
  refine h σ G1 H _ s1.w sl fun vs ds G' H' s dt q => ⟨S, G', ds, _, s.w, by rw [List.append_nil]; exact dt, q, fun a xs es G2 H2 s2 ga ha hx dx q2 => ?_⟩
  obtain ⟨⟨os, rfl⟩, q3⟩ := q2
  have s12 := s.trans s2
  have haH : H a = none := s.first ha
  have s3 : Stp S G1 H (upd G2 a (.lst xs)) H2 := s12.gel ga haH hx (s.w.nfp ha)
  refine q3 σ (upd G2 a (.lst xs)) H2 _ s3.w (sl.mono s3.gg) fun b m o G4 H4 s4 hb gb ho okc q4 => ?_
  obtain ⟨ns, rfl, q4⟩ := q4
  obtain ⟨_, bs, hbs, dbs⟩ := okc
  have s34 := s3.trans s4
  have hbH : H b = none := s3.first hb
  have s5 : Stp S G1 H (upd G4 b (.lst bs)) H4 := s34.gel gb hbH hbs (s3.w.nfp hb)
  refine q4 σ (upd G4 b (.lst bs)) H4 _ s5.w (sl.mono s5.gg) fun v d G3 H3 s6 dd q6 => ⟨_, _, _, rfl, ?_⟩
  obtain ⟨sd, q6⟩ := q6
  have s7 := s5.trans s6
  have pl : ∀ {j : Nat} {m : M}, μ[j]? = some m → plainM m = true := fun {j m} e => List.all_eq_true.mp hμ _ (List.mem_of_getElem? e)
  have cell : ∀ b ∈ as, H b ≠ none ∧ G b = none ∧ ((∃ ys, G3 b = some (.lst ys)) ∨ ∃ ys, G3 b = some (.dK ys)) := fun b mb => by
    obtain ⟨j, hj, e⟩ := List.mem_iff_getElem.mp mb
    have hm : j < μ.length := by rw [← r.alen]; exact hj
    have hm2 := List.getElem?_eq_getElem hm
    have pm := pl hm2
    obtain ⟨_, c1, c⟩ := r.cell j b μ[j] (by rw [List.getElem?_eq_getElem hj, e]) hm2
    refine ⟨c1, ?_⟩
    generalize μ[j] = m at c pm
    cases m with
    | lst ds =>
      obtain ⟨c0, ys, hy, _⟩ := c
      exact ⟨c0, .inl ⟨ys, s7.gg _ _ (by rw [fr b mb]; exact hy)⟩⟩
    | dict ds =>
      obtain ⟨c0, ys, hy, _⟩ := c
      exact ⟨c0, .inr ⟨ys, s7.gg _ _ (by rw [fr b mb]; exact hy)⟩⟩
    | gone => cases pm
    | dt P w ds => cases pm
    | kset P w S n => cases pm
    | obj x C fs => cases pm
  let Gz : Hp := fun b => if b ∈ as then none else G3 b
  have g2 : ∀ b o, Gz b = some o ↔ b ∉ as ∧ G3 b = some o := fun b o => by
    show (if b ∈ as then none else G3 b) = some o ↔ _
    by_cases z : b ∈ as
    · rw [if_pos z]
      exact ⟨fun y => (by cases y), fun y => absurd z y.1⟩
    · rw [if_neg z]
      exact ⟨fun y => ⟨z, y⟩, fun y => y.2⟩
  have leG : Le G Gz := fun b o e => (g2 b o).mpr ⟨fun z => (by rw [(cell b z).2.1] at e; cases e), s7.gg _ _ (le _ _ e)⟩
  have st := s1.trans s7
  have st2 : Stp S G0 H0 Gz H3 := ⟨r.st.gg.trans leG, st.hh, fun b o e => st.nw b o ((g2 b o).mp e).2, ⟨fun b o e => s7.w.le b o ((g2 b o).mp e).2, s7.w.src, fun b fb => by
    show (if b ∈ as then none else G3 b) = none
    rw [if_neg (fun z => r.nfp w0 z fb)]
    exact s7.w.sep b fb⟩⟩
  have r' := r.unfreeze w0 le fr s7
  have r2 : RepG K S G0 H0 Gz σ H3 ρ μ as := ⟨st2, r.sl.mono leG, r.alen, r.nd, r.own, fun j b m e1 e2 => by
    obtain ⟨c0, c1, c2⟩ := r'.cell j b m e1 e2
    have gb : Gz b = none := if_pos (List.mem_of_getElem? e1)
    have pm := pl e2
    refine ⟨c0, c1, ?_⟩
    cases m with
    | lst ds =>
      obtain ⟨_, ys, hy, dy⟩ := c2
      exact ⟨gb, ys, hy, dy.mono leG⟩
    | dict ds =>
      obtain ⟨_, ys, hy, dy⟩ := c2
      exact ⟨gb, ys, hy, dy.mono leG⟩
    | gone => cases pm
    | dt P w ds => cases pm
    | kset P w S n => cases pm
    | obj x C fs => cases pm⟩
  have no : ∀ {b : Addr} {o : HO}, G3 b = some o → (∀ ys, o ≠ .lst ys) → (∀ ys, o ≠ .dK ys) → b ∉ as := fun {b o} e n1 n2 z => by
    rcases (cell b z).2.2 with ⟨ys, y⟩ | ⟨ys, y⟩
    · rw [e] at y
      exact n1 ys (Option.some.inj y)
    · rw [e] at y
      exact n2 ys (Option.some.inj y)
  have one : ∀ {v : V} {xs : List Str}, Dat K G3 v (.tup (xs.map .str)) → Dat K Gz v (.tup (xs.map .str)) := fun {v xs} dt => by
    have all : (xs.map X3.D.str).all scalD = true := by
      rw [List.all_eq_true]
      intro x hx
      obtain ⟨y, _, rfl⟩ := List.mem_map.mp hx
      rfl
    cases dt with
    | tup h1 r1 =>
      refine .tup ⟨?_, h1.slim.imp (fun ⟨o, u, z, y⟩ => ⟨o, u, (g2 _ _).mpr ⟨no z (fun _ e => by cases e) (fun _ e => by cases e), z⟩, y⟩) id⟩ (scal_L r1 all)
      rcases h1.sq with (z | ⟨o, z⟩) | z
      · exact .inl (.inl ((g2 _ _).mpr ⟨no z (fun _ e => by cases e) (fun _ e => by cases e), z⟩))
      · exact .inl (.inr ⟨o, (g2 _ _).mpr ⟨no z (fun _ e => by cases e) (fun _ e => by cases e), z⟩⟩)
      · exact .inr z
  have many : ∀ (os : List (List Str)) (xs : List V), DatL K G3 xs (os.map fun o => .tup (o.map .str)) → DatL K Gz xs (os.map fun o => .tup (o.map .str)) := fun os => by
    induction os with
    | nil =>
      intro xs h
      cases h
      exact .nil
    | cons o os ih =>
      intro xs h
      cases h with
      | cons a r => exact .cons (one a) (ih _ r)
  have na : a ∉ as := fun z => (cell a z).1 haH
  have nb : b ∉ as := fun z => (cell b z).1 hbH
  have ga3 : G3 a = some (.lst xs) := (s4.gg.trans ((Le.new gb).trans s6.gg)) _ _ upd_same
  have gb3 : G3 b = some (.lst bs) := s6.gg _ _ upd_same
  have dl : Dat K Gz (.ref a) (.list (os.map fun o => .tup (o.map .str))) := .list ((g2 _ _).mpr ⟨na, ga3⟩) (many os xs ((dx.mono (Le.new ga)).mono (s4.gg.trans ((Le.new gb).trans s6.gg))))
  have e2 := dbs.strs
  subst e2
  have d2 : Dat K Gz (.ref b) (.list (ns.map .str)) := .list ((g2 _ _).mpr ⟨nb, gb3⟩) (datL_strs ns)
  exact f.nx _ _ _ _ ⟨Gz, as, ((r2.set (i := i) dl).set (i := j) d2).set (i := l) (scal_any dd sd)⟩ q6
end
end X3

set_option Elab.async false
set_option linter.all false
set_option maxRecDepth 100000
set_option maxHeartbeats 4000000
/-! # X3: sorted lists and dicts of tuples of texts -/
namespace X3
open PySem PySem.Spec L2 PyProof.Rows PySem.W
abbrev txT (o : List Str) : D := .tup (o.map .str)
abbrev wtT (o : List Str) : D := .wtup (o.map .str)
def leT (a b : List Str) : Bool := dataLe false D.pd (txT a) (txT b)
theorem toks_cons {x : Str} {l : List Str} : keyToksAll (D.pds ((x :: l).map .str)) = .inl 1 :: .inr x.cps.toList :: keyToksAll (D.pds (l.map .str)) := by
  show keyToksAll (PyData.str x :: D.pds (l.map .str)) = _
  rw [toks_all_cons]
  rfl
theorem toks_inj : ∀ {a b : List Str}, keyToksAll (D.pds (a.map .str)) = keyToksAll (D.pds (b.map .str)) → a = b
  | [], [], _ => rfl
  | [], y :: b, h => by
    rw [toks_cons] at h
    cases h
  | x :: a, [], h => by
    rw [toks_cons] at h
    cases h
  | x :: a, y :: b, h => by
    rw [toks_cons, toks_cons] at h
    injection h with _ h
    injection h with h1 h2
    rw [toks_inj h2, str_of_cps (Sum.inr.inj h1)]
theorem leT_of {a b : List Str} : leT a b = !PyProof.Rows.lexLt itemOrd (keyToksAll (D.pds (b.map .str))) (keyToksAll (D.pds (a.map .str))) := rfl
theorem leT_anti {a b : List Str} (h1 : leT a b = true) (h2 : leT b a = true) : a = b := by
  rw [leT_of, Bool.not_eq_true'] at h1 h2
  exact toks_inj (PyProof.Rows.lex_total _ _ h2 h1)
theorem leT_trans (a b c : List Str) (h1 : leT a b = true) (h2 : leT b c = true) : leT a c = true := by
  rw [leT_of, Bool.not_eq_true'] at h1 h2 ⊢
  cases e : PyProof.Rows.lexLt itemOrd (keyToksAll (D.pds (c.map .str))) (keyToksAll (D.pds (a.map .str))) with
  | false => rfl
  | true =>
    rcases PyProof.Rows.lex_negTrans _ (keyToksAll (D.pds (b.map .str))) _ e with z | z
    · rw [z] at h2
      cases h2
    · rw [z] at h1
      cases h1
theorem leT_total (a b : List Str) : (leT a b || leT b a) = true := by
  cases e : leT a b with
  | true => rfl
  | false =>
    rw [leT_of, Bool.not_eq_false'] at e
    cases e2 : leT b a with
    | true => rfl
    | false =>
      rw [leT_of, Bool.not_eq_false'] at e2
      have := PyProof.Rows.lex_trans _ _ _ e e2
      rw [PyProof.Rows.lex_irrefl] at this
      cases this
theorem sortT_same {l m : List (List Str)} (p : l.Perm m) : l.mergeSort leT = m.mergeSort leT := by
  have s1 := List.pairwise_mergeSort leT_trans leT_total l
  have s2 := List.pairwise_mergeSort leT_trans leT_total m
  exact List.Perm.eq_of_pairwise (le := fun a b => leT a b = true) (fun a b _ _ x y => leT_anti x y) s1 s2 ((List.mergeSort_perm l leT).trans (p.trans (List.mergeSort_perm m leT).symm))
theorem alike_txts : ∀ (a b : List Str), alikeAll (D.pds (a.map .str)) (D.pds (b.map .str)) = true
  | [], _ => by
    show alikeAll [] _ = true
    rw [alikeAll]
  | _ :: _, [] => by
    show alikeAll (_ :: _) [] = true
    rw [alikeAll]
  | x :: a, y :: b => by
    show alikeAll (PyData.str x :: _) (PyData.str y :: _) = true
    rw [alikeAll, show alike (.str x) (.str y) = true by rw [alike]]
    exact alike_txts a b
theorem pds_map {α : Type} {f : α → D} : ∀ {l : List α}, D.pds (l.map f) = l.map fun x => (f x).pd
  | [] => rfl
  | x :: l => by
    show (f x).pd :: D.pds (l.map f) = _
    rw [pds_map]
    rfl
theorem alike_tups (os : List (List Str)) : AllAlike (os.map fun o => (txT o).pd) := fun d hd d' hd' => by
  obtain ⟨a, _, rfl⟩ := List.mem_map.mp hd
  obtain ⟨b, _, rfl⟩ := List.mem_map.mp hd'
  show alike (.tuple (D.pds (a.map .str))) (.tuple (D.pds (b.map .str))) = true
  rw [alike]
  exact alike_txts a b
theorem sortable_tups {os : List (List Str)} (ne : ∀ o ∈ os, o ≠ []) : Sortable (os.map fun o => (txT o).pd) := .inl fun d hd => by
  obtain ⟨a, ha, rfl⟩ := List.mem_map.mp hd
  cases a with
  | nil => exact absurd rfl (ne _ ha)
  | cons x a => exact ⟨.str x, D.pds (a.map .str), rfl⟩
theorem dep_txts : ∀ (a : List Str), PyData.depthAll (D.pds (a.map .str)) = 0
  | [] => rfl
  | x :: a => by
    show max (PyData.str x).depth (PyData.depthAll (D.pds (a.map .str))) = 0
    rw [dep_txts a]
    rfl
theorem dep_tup (o : List Str) : (txT o).pd.depth ≤ 50 := by
  show PyData.depthAll (D.pds (o.map .str)) + 1 ≤ 50
  rw [dep_txts]
  decide
section
variable {K : PySem.W.Frag} {S : Res} {Q : D → Prop} {P : Program} {w : World}
theorem datL_tups {G : Hp} {f : List Str → D} : ∀ {zs : List (V × List Str)}, (∀ z ∈ zs, Dat K G z.1 (f z.2)) → DatL K G (zs.map (·.1)) (zs.map fun z => f z.2)
  | [], _ => .nil
  | z :: zs, h => .cons (h z (by simp)) (datL_tups fun y hy => h y (List.mem_cons_of_mem _ hy))
theorem tups_datL {G : Hp} {f : List Str → D} : ∀ {os : List (List Str)} {xs : List V}, DatL K G xs (os.map f) → ∃ zs : List (V × List Str), xs = zs.map (·.1) ∧ os = zs.map (·.2) ∧ ∀ z ∈ zs, Dat K G z.1 (f z.2)
  | [], _, h => by
    cases h
    exact ⟨[], rfl, rfl, fun z hz => by cases hz⟩
  | o :: os, _, h => by
    cases h with
    | cons a r =>
      rename_i v vs
      obtain ⟨zs, h1, h2, h3⟩ := tups_datL r
      refine ⟨(v, o) :: zs, by rw [h1]; rfl, by rw [h2]; rfl, fun z hz => ?_⟩
      rcases List.mem_cons.mp hz with e | hz
      · rw [e]
        exact a
      · exact h3 z hz
theorem zsS_tups {zs : List (V × List Str)} : zsS (zs.map fun z => (z.1, (txT z.2).pd)) = (zs.mergeSort fun a b => leT a.2 b.2).map (·.1) := by
  unfold zsS
  rw [← List.map_mergeSort (r := fun a b : V × List Str => leT a.2 b.2) (s := dataLe false (·.2)) (f := fun z : V × List Str => (z.1, (txT z.2).pd)) fun a _ b _ => rfl, List.map_map]
  rfl
theorem snd_sort {zs : List (V × List Str)} : (zs.mergeSort fun a b => leT a.2 b.2).map (·.2) = (zs.map (·.2)).mergeSort leT :=
  List.map_mergeSort (r := fun a b : V × List Str => leT a.2 b.2) (s := leT) (f := (·.2)) fun a _ b _ => rfl
theorem out_tups {G : Hp} {f : List Str → D} {zs : List (V × List Str)} (h : ∀ z ∈ zs, Dat K G z.1 (f z.2)) : DatL K G (zsS (zs.map fun z => (z.1, (txT z.2).pd))) (((zs.map (·.2)).mergeSort leT).map f) := by
  rw [zsS_tups, ← snd_sort, List.map_map]
  exact datL_tups fun z hz => h z (List.mem_mergeSort.mp hz)
theorem wc_sortedT {os : List (List Str)} (ne : ∀ o ∈ os, o ≠ []) (q : Q (.list ((os.mergeSort leT).map txT))) : WRC K S (rSortedD K) [.list (os.map txT)] Q := fun G H vs k w dx c => by
  cases dx with
  | cons a r =>
    cases r
    cases a with
    | list h r =>
      obtain ⟨zs, rfl, rfl, hz⟩ := tups_datL r
      refine ⟨_, zs.map fun z => (z.1, (txT z.2).pd), rfl, ?_, ⟨fun y hy => ?_, ?_, ?_⟩, fun p hp => ?_⟩
      · rw [List.map_map]
        exact SqL.of (w.le _ _ h)
      · obtain ⟨z, hz2, rfl⟩ := List.mem_map.mp hy
        exact ⟨Dp.le w.le ((hz z hz2).dp (by
          show D.pures (z.2.map .str) = true
          induction z.2 with
          | nil => rfl
          | cons x l ih => exact ih)), dep_tup z.2⟩
      · have := alike_tups (zs.map (·.2))
        rw [List.map_map] at this ⊢
        exact this
      · have := sortable_tups ne
        rw [List.map_map] at this ⊢
        exact this
      · exact c _ _ (upd G p (.lst _)) (upd H p (.lst _)) (.new w hp) (.list upd_same (out_tups fun z hz2 => (hz z hz2).mono (Le.new (w.fresh hp)))) q
theorem td_zs {G : Hp} : ∀ {os : List (List Str)} {ws : List TEnt} {kvs : List (List Key × D)}, DatT K G ws kvs → kvs.map (·.1) = os.map skey → ∃ zs : List (V × List Str), zs.map (·.1) = ws.map (fun e => V.ref e.2.1) ∧ os = zs.map (·.2) ∧ ∀ z ∈ zs, Dat K G z.1 (wtT z.2)
  | [], _, _, .nil, _ => ⟨[], rfl, rfl, fun z hz => by cases hz⟩
  | [], _, _, .cons _ _ _, h => by cases h
  | o :: os, _, _, .nil, h => by cases h
  | o :: os, _, _, .cons (k := kk) (b := b) hb _ r, h => by
    rw [List.map_cons, List.map_cons] at h
    injection h with h1 h2
    obtain ⟨zs, e1, e2, e3⟩ := td_zs r h2
    refine ⟨(.ref b, o) :: zs, by rw [List.map_cons, List.map_cons, e1], by rw [e2]; rfl, fun z hz => ?_⟩
    rcases List.mem_cons.mp hz with e | hz
    · rw [e]
      rw [show kk = skey o from h1, skey_kV] at hb
      exact .wtup hb (datL_strs o)
    · exact e3 z hz
theorem wt_dp {G : Hp} {v : V} {o : List Str} (h : Dat K G v (wtT o)) : Dp K G v (txT o).pd := by
  cases h with
  | wtup a r =>
    refine .tup a (r.dp ?_)
    induction o with
    | nil => rfl
    | cons x l ih => exact pures_strs
where
  pures_strs {l : List Str} : D.pures (l.map .str) = true := by
    induction l with
    | nil => rfl
    | cons x l ih => exact ih
theorem wc_sortedTd {kvs : List (List Key × D)} {os : List (List Str)} (hk : kvs.map (·.1) = os.map skey) (ne : ∀ o ∈ os, o ≠ []) (q : Q (.list ((os.mergeSort leT).map wtT))) : WRC K S (rSortedTd P w K) [.dt P w kvs] Q := fun G H vs k w' dx c => by
  cases dx with
  | cons a r =>
    cases r
    cases a with
    | dt h r =>
      obtain ⟨zs, e1, rfl, hz⟩ := td_zs r hk
      refine ⟨_, _, zs.map fun z => (z.1, (txT z.2).pd), rfl, w'.le _ _ h, ?_, ⟨fun y hy => ?_, ?_, ?_⟩, fun p hp => ?_⟩
      · rw [List.map_map]
        exact e1
      · obtain ⟨z, hz2, rfl⟩ := List.mem_map.mp hy
        exact ⟨Dp.le w'.le (wt_dp (hz z hz2)), dep_tup z.2⟩
      · have := alike_tups (zs.map (·.2))
        rw [List.map_map] at this ⊢
        exact this
      · have := sortable_tups ne
        rw [List.map_map] at this ⊢
        exact this
      · exact c _ _ (upd G p (.lst _)) (upd H p (.lst _)) (.new w' hp) (.list upd_same (out_tups (f := wtT) fun z hz2 => (hz z hz2).mono (Le.new (w'.fresh hp)))) q
theorem wts_dp {G : Hp} : ∀ {os : List (List Str)} {xs : List V}, DatL K G xs (os.map wtT) → DpAll K G xs (D.pds (os.map txT))
  | [], _, h => by
    cases h
    exact .nil
  | o :: os, _, h => by
    cases h with
    | cons a r => exact .cons (wt_dp a) (wts_dp r)
/-- != of keys, sorted, and of tuples -/
theorem wr_neW {k : Nat} {as bs : List (List Str)} (la : ∀ o ∈ as, Lay k (txT o)) (lb : ∀ o ∈ bs, Lay k (txT o)) (hk : k ≤ 60) (q : Q (.bl (!PyData.eqv (D.pd (.list (as.map txT))) (D.pd (.list (bs.map txT)))))) : WR2 K S (rNeD K) (.list (as.map wtT)) (.list (bs.map txT)) Q := fun G H vx vy kk w dx dy c => by
  have L1 : Lay (k + 1) (.list (as.map txT)) := Lay.list fun d hd => by
    obtain ⟨o, ho, rfl⟩ := List.mem_map.mp hd
    exact la o ho
  have L2 : Lay (k + 1) (.list (bs.map txT)) := Lay.list fun d hd => by
    obtain ⟨o, ho, rfl⟩ := List.mem_map.mp hd
    exact lb o ho
  have h := L1.eq L2 (by omega) (by omega)
  cases dx with
  | list h1 r1 => exact ⟨_, _, Dp.le w.le (.lst (SqL.of h1) (wts_dp r1)), Dp.le w.le (dy.dp h.2.1), h.2.2.1, h.2.2.2, c _ _ G H (.refl w) (.bl _) q⟩
end
end X3

set_option Elab.async false
set_option linter.all false
set_option maxRecDepth 100000
set_option maxHeartbeats 4000000
/-! # X3: sorted data of any one kind; xs.extend(ys); len of a dict; enumerate(xs, 1) -/
namespace X3
open PySem PySem.Spec L2 PyProof.Rows PySem.W
/-! ### sorted(x), data of one kind -/
section
variable {α : Type} {e : α → D}
def leG (e : α → D) (a b : α) : Bool := dataLe false D.pd (e a) (e b)
theorem leG_of {a b : α} : leG e a b = !PyProof.Rows.lexLt itemOrd (keyToks (e b).pd) (keyToks (e a).pd) := rfl
theorem leG_anti (inj : ∀ a b : α, keyToks (e a).pd = keyToks (e b).pd → a = b) {a b : α} (h1 : leG e a b = true) (h2 : leG e b a = true) : a = b := by
  rw [leG_of, Bool.not_eq_true'] at h1 h2
  exact inj _ _ (PyProof.Rows.lex_total _ _ h2 h1)
theorem leG_trans (a b c : α) (h1 : leG e a b = true) (h2 : leG e b c = true) : leG e a c = true := by
  rw [leG_of, Bool.not_eq_true'] at h1 h2 ⊢
  cases z : PyProof.Rows.lexLt itemOrd (keyToks (e c).pd) (keyToks (e a).pd) with
  | false => rfl
  | true =>
    rcases PyProof.Rows.lex_negTrans _ (keyToks (e b).pd) _ z with z | z
    · rw [z] at h2
      cases h2
    · rw [z] at h1
      cases h1
theorem leG_total (a b : α) : (leG e a b || leG e b a) = true := by
  cases z : leG e a b with
  | true => rfl
  | false =>
    rw [leG_of, Bool.not_eq_false'] at z
    cases z2 : leG e b a with
    | true => rfl
    | false =>
      rw [leG_of, Bool.not_eq_false'] at z2
      have := PyProof.Rows.lex_trans _ _ _ z z2
      rw [PyProof.Rows.lex_irrefl] at this
      cases this
theorem sortG_same (inj : ∀ a b : α, keyToks (e a).pd = keyToks (e b).pd → a = b) {l m : List α} (p : l.Perm m) : l.mergeSort (leG e) = m.mergeSort (leG e) := by
  have s1 := List.pairwise_mergeSort (le := leG e) leG_trans leG_total l
  have s2 := List.pairwise_mergeSort (le := leG e) leG_trans leG_total m
  exact List.Perm.eq_of_pairwise (le := fun a b => leG e a b = true) (fun a b _ _ x y => leG_anti inj x y) s1 s2 ((List.mergeSort_perm l _).trans (p.trans (List.mergeSort_perm m _).symm))
theorem sortG_is (inj : ∀ a b : α, keyToks (e a).pd = keyToks (e b).pd → a = b) {l m : List α} (p : l.Perm m) (s : m.Pairwise fun a b => leG e a b = true) : l.mergeSort (leG e) = m :=
  List.Perm.eq_of_pairwise (le := fun a b => leG e a b = true) (fun a b _ _ x y => leG_anti inj x y) (List.pairwise_mergeSort (le := leG e) leG_trans leG_total l) s ((List.mergeSort_perm l _).trans p)
end
section
variable {K : PySem.W.Frag} {S : Res} {Q : D → Prop} {α : Type} {e : α → D}
theorem datL_of {G : Hp} : ∀ {zs : List (V × α)}, (∀ z ∈ zs, Dat K G z.1 (e z.2)) → DatL K G (zs.map (·.1)) (zs.map fun z => e z.2)
  | [], _ => .nil
  | z :: zs, h => .cons (h z (by simp)) (datL_of fun y hy => h y (List.mem_cons_of_mem _ hy))
theorem of_datL {G : Hp} : ∀ {os : List α} {xs : List V}, DatL K G xs (os.map e) → ∃ zs : List (V × α), xs = zs.map (·.1) ∧ os = zs.map (·.2) ∧ ∀ z ∈ zs, Dat K G z.1 (e z.2)
  | [], _, h => by
    cases h
    exact ⟨[], rfl, rfl, fun z hz => by cases hz⟩
  | o :: os, _, h => by
    cases h with
    | cons a r =>
      rename_i v vs
      obtain ⟨zs, h1, h2, h3⟩ := of_datL r
      refine ⟨(v, o) :: zs, by rw [h1]; rfl, by rw [h2]; rfl, fun z hz => ?_⟩
      rcases List.mem_cons.mp hz with y | hz
      · rw [y]
        exact a
      · exact h3 z hz
theorem out_of {G : Hp} {zs : List (V × α)} (h : ∀ z ∈ zs, Dat K G z.1 (e z.2)) : DatL K G (zsS (zs.map fun z => (z.1, (e z.2).pd))) (((zs.map (·.2)).mergeSort (leG e)).map e) := by
  have e1 : zsS (zs.map fun z => (z.1, (e z.2).pd)) = (zs.mergeSort fun a b => leG e a.2 b.2).map (·.1) := by
    unfold zsS
    rw [← List.map_mergeSort (r := fun a b : V × α => leG e a.2 b.2) (s := dataLe false (·.2)) (f := fun z : V × α => (z.1, (e z.2).pd)) fun a _ b _ => rfl, List.map_map]
    rfl
  have e2 : (zs.mergeSort fun a b => leG e a.2 b.2).map (·.2) = (zs.map (·.2)).mergeSort (leG e) :=
    List.map_mergeSort (r := fun a b : V × α => leG e a.2 b.2) (s := leG e) (f := (·.2)) fun a _ b _ => rfl
  rw [e1, ← e2, List.map_map]
  exact datL_of fun z hz => h z (List.mem_mergeSort.mp hz)
theorem wc_sortedG {l : List α} (pu : ∀ a ∈ l, D.pure (e a) = true) (dp : ∀ a ∈ l, (e a).pd.depth ≤ 50) (al : ∀ a b : α, alike (e a).pd (e b).pd = true) (so : Sortable (l.map fun a => (e a).pd)) (q : Q (.list ((l.mergeSort (leG e)).map e))) : WRC K S (rSortedD K) [.list (l.map e)] Q := fun G H vs k w dx c => by
  cases dx with
  | cons a r =>
    cases r
    cases a with
    | list h r =>
      obtain ⟨zs, rfl, rfl, hz⟩ := of_datL r
      refine ⟨_, zs.map fun z => (z.1, (e z.2).pd), rfl, ?_, ⟨fun y hy => ?_, ?_, ?_⟩, fun p hp => ?_⟩
      · rw [List.map_map]
        exact SqL.of (w.le _ _ h)
      · obtain ⟨z, hz2, rfl⟩ := List.mem_map.mp hy
        exact ⟨Dp.le w.le ((hz z hz2).dp (pu _ (List.mem_map_of_mem hz2))), dp _ (List.mem_map_of_mem hz2)⟩
      · intro d hd d' hd'
        rw [List.map_map] at hd hd'
        obtain ⟨a, _, rfl⟩ := List.mem_map.mp hd
        obtain ⟨b, _, rfl⟩ := List.mem_map.mp hd'
        exact al a.2 b.2
      · rw [List.map_map] at so ⊢
        exact so
      · exact c _ _ (upd G p (.lst _)) (upd H p (.lst _)) (.new w hp) (.list upd_same (out_of fun z hz2 => (hz z hz2).mono (Le.new (w.fresh hp)))) q
end
/-! whole numbers, lists of them -/
theorem int_inj (a b : Int) (h : keyToks (X3.D.int a).pd = keyToks (X3.D.int b).pd) : a = b := by
  have h' : [(Sum.inl a : Int ⊕ List Nat)] = [.inl b] := h
  injection h' with h1
  exact Sum.inl.inj h1
theorem ints_toks : ∀ {a b : List Int}, keyToksAll (D.pds (a.map .int)) = keyToksAll (D.pds (b.map .int)) → a = b
  | [], [], _ => rfl
  | [], y :: b, h => by
    have h' : [(Sum.inl 0 : Int ⊕ List Nat)] = .inl 1 :: ([.inl y] ++ keyToksAll (D.pds (b.map .int))) := h
    cases h'
  | x :: a, [], h => by
    have h' : (Sum.inl 1 : Int ⊕ List Nat) :: ([.inl x] ++ keyToksAll (D.pds (a.map .int))) = [.inl 0] := h
    cases h'
  | x :: a, y :: b, h => by
    have h' : (Sum.inl 1 : Int ⊕ List Nat) :: ([.inl x] ++ keyToksAll (D.pds (a.map .int))) = .inl 1 :: ([.inl y] ++ keyToksAll (D.pds (b.map .int))) := h
    injection h' with _ h1
    injection h1 with h2 h3
    rw [ints_toks h3, Sum.inl.inj h2]
abbrev intsL (l : List Int) : X3.D := .list (l.map .int)
theorem intsL_inj (a b : List Int) (h : keyToks (intsL a).pd = keyToks (intsL b).pd) : a = b := ints_toks h
theorem leG_int {a b : Int} : leG X3.D.int a b = decide (a ≤ b) := by
  have e : leG X3.D.int a b = !dataLt (.int b) (.int a) := rfl
  rw [e, dataLt_int]
  by_cases h : b < a
  · rw [decide_eq_true h, decide_eq_false (by omega)]
    rfl
  · rw [decide_eq_false h, decide_eq_true (by omega)]
    rfl
theorem pure_ints : ∀ (l : List Int), D.pures (l.map .int) = true
  | [] => rfl
  | x :: l => by
    show (true && D.pures (l.map .int)) = true
    rw [pure_ints l]
    rfl
theorem alike_ints : ∀ (a b : List Int), alikeAll (D.pds (a.map .int)) (D.pds (b.map .int)) = true
  | [], _ => by
    show alikeAll [] _ = true
    rw [alikeAll]
  | _ :: _, [] => by
    show alikeAll (_ :: _) [] = true
    rw [alikeAll]
  | x :: a, y :: b => by
    show alikeAll (PyData.int x :: _) (PyData.int y :: _) = true
    rw [alikeAll, show alike (.int x) (.int y) = true by rw [alike]]
    exact alike_ints a b
theorem dep_ints : ∀ (a : List Int), PyData.depthAll (D.pds (a.map .int)) = 0
  | [] => rfl
  | x :: a => by
    show max (PyData.int x).depth (PyData.depthAll (D.pds (a.map .int))) = 0
    rw [dep_ints a]
    rfl
section
variable {K : PySem.W.Frag} {S : Res} {Q : X3.D → Prop}
theorem wc_sortedI {l : List Int} (q : Q (intsL (l.mergeSort (leG X3.D.int)))) : WRC K S (rSortedD K) [intsL l] Q :=
  wc_sortedG (e := X3.D.int) (fun _ _ => rfl) (fun _ _ => by show (0 : Nat) ≤ 50; decide) (fun a b => by show alike (.int a) (.int b) = true; rw [alike]) (.inr fun d hd => by
    obtain ⟨a, _, rfl⟩ := List.mem_map.mp hd
    exact ⟨fun z => (nomatch z), fun xs z => nomatch z⟩) q
theorem wc_sortedIs {l : List (List Int)} (q : Q (.list ((l.mergeSort (leG intsL)).map intsL))) : WRC K S (rSortedD K) [.list (l.map intsL)] Q :=
  wc_sortedG (e := intsL) (fun a _ => pure_ints a) (fun a _ => by
    show PyData.depthAll (D.pds (a.map .int)) + 1 ≤ 50
    rw [dep_ints]
    decide) (fun a b => by
    show alike (.list (D.pds (a.map .int))) (.list (D.pds (b.map .int))) = true
    rw [alike]
    exact alike_ints a b) (.inr fun d hd => by
    obtain ⟨a, _, rfl⟩ := List.mem_map.mp hd
    exact ⟨fun z => (nomatch z), fun xs z => nomatch z⟩) q
end
/-! ### xs.extend(ys) -/
section
variable {K : PySem.W.Frag} {S : Res} {ρ : Rho} {N : EndsD} {μ : Mu} {te : TE} {i : Nat} {Q : X3.D → Prop}
theorem ws_extend {j : Nat} {ds : List X3.D} (hi : ρ[i]? = some (.own j)) (hj : μ[j]? = some (.lst ds)) (h : WE K S te ρ fun d => ∃ es, d = .list es ∧ ds.length + es.length ≤ 100000 ∧ N.nx ρ (μ.set j (.lst (ds ++ es)))) :
    WS K S (tDrop (tBM K "list" L2.rExtend (tVar i) (tCons te tNil))) ρ μ N := fun G0 H0 σ H E w0 r f => by
  obtain ⟨G, as, r⟩ := r
  obtain ⟨a, ha, hs⟩ := r.own i j hi
  obtain ⟨_, _, _, xs, hx, _⟩ := r.cell j a _ ha hj
  refine ⟨_, hs, Or.inl ⟨rfl, _, SqL.of hx⟩, ?_⟩
  refine h σ G H _ r.st.w r.sl fun v d G' H' s dt q => ?_
  obtain ⟨es, rfl, hl, q⟩ := q
  have r' := r.step w0 s
  obtain ⟨_, _, hg, ys, hy, hd⟩ := r'.cell j a _ ha hj
  cases dt with
  | list h1 r1 =>
    rename_i b zs
    refine ⟨a, b, ys, zs, rfl, rfl, hy, s.w.le _ _ h1, by rw [hd.length, r1.length]; exact Nat.le_trans hl (by decide), ?_⟩
    exact f.nx _ _ _ _ ⟨G', as, r'.put (m := .lst (ds ++ es)) w0 ha hj hg ⟨hg, _, upd_same, hd.append r1⟩⟩ q
/-! ### len(d) -/
def rLenDict : List V → Hp → VK → Prop := fun vs H Q => ∃ a kvs, vs = [.ref a] ∧ Rd H a (.dK kvs) ∧ Q (.int (kvs.length : Nat)) H
theorem call_lenDict {X : Cx} : CallR X (.builtin "len") rLenDict := by
  intro pins s σ H vs us Q I r h
  obtain ⟨a, kvs, rfl, hd, q⟩ := h
  rw [Vals.ref1 r]
  exact d_len I hd fun t s' I' => ⟨.int _, H, I', ⟨t, rfl⟩, q⟩
theorem wc_lenDict {kvs : List (Key × X3.D)} (q : Q (.int (kvs.length : Nat))) : WRC K S rLenDict [.dict kvs] Q := fun G H vs k w dx c => by
  cases dx with
  | cons a r =>
    cases r
    cases a with
    | dict h r =>
      refine ⟨_, _, rfl, le_rd w.le h, ?_⟩
      rw [r.length]
      exact c _ _ G H (.refl w) (.int _) q
end
/-! ### enumerate(xs, 1) -/
/-- the list at a as it stands at each turn, each item in a new pair, counted from 1 -/
def Ite1 (K : PySem.W.Frag) (a : Addr) : It :=
  ⟨fun i H => ∃ (xs : List V) (x : V), SqL K H a xs ∧ xs[i]? = some x, fun i H v H' => ∃ T x, v = .ref T ∧ H T = none ∧ H' = upd H T (.tup [.int ((i : Nat) + 1), x]) ∧ ∀ xs, SqL K H a xs → xs[i]? = some x, fun i H => ∃ xs : List V, SqL K H a xs ∧ xs.length ≤ i⟩
theorem turn_enum1 {P : Program} {w : World} {K : PySem.W.Frag} {elts : List Expr} {kk : Nat} {tpos : Pos} (a e it : Addr) :
    Turn P w K (.Tuple elts kk tpos) (Ite1 K a) [e, it] e (fun i h => (∃ old, IsEnum h e it (((i : Nat) : Int) + 1) old) ∧ h.IsListIter it a i ∧ e ≠ it) where
  mem := by simp
  obj := fun i h st b hb => by
    obtain ⟨⟨old, he⟩, ⟨o, ho, hc, hd⟩, _⟩ := st
    have e' : b = e ∨ b = it := by simpa using hb
    rcases e' with z | z
    · rw [z]
      exact ⟨_, he, fun v q => nomatch q⟩
    · rw [z]
      exact ⟨o, ho, fun v q => by
        rw [hd] at q
        cases q⟩
  keep := fun i h h' st k => by
    obtain ⟨⟨old, he⟩, hi, hne⟩ := st
    exact ⟨⟨old, k e (by simp) _ he⟩, hi.at fun o q => k it (by simp) o q, hne⟩
  item := by
    intro X hP hw hK hc i pins s σ H E I hf st hg
    cases hP
    cases hw
    cases hK
    obtain ⟨⟨old, he⟩, hit, hne⟩ := st
    obtain ⟨xs, x, hq, hx⟩ := hg
    obtain ⟨its, rv, p, hz⟩ := I.list hq
    obtain ⟨u, hu, ru⟩ := rv.get hx
    have hel : e < s.heap.objs.size := Heap.lt_size he
    have hil : it < s.heap.objs.size := by
      obtain ⟨_, q, _⟩ := hit
      exact Heap.lt_size q
    have whole : s.heap.IsList a its.toArray := p.isList
    have tne : a ≠ it := fun z => by
      obtain ⟨o1, h1, c1, _⟩ := hit
      obtain ⟨o2, h2, c2, _⟩ := whole
      rw [z, h1] at h2
      cases h2
      rw [c1] at c2
      exact absurd (Value.type.inj c2) (by decide)
    have tne2 : a ≠ e := fun z => by
      obtain ⟨o2, h2, c2, _⟩ := whole
      rw [z, he] at h2
      cases h2
      exact absurd (Value.type.inj c2) (by decide)
    have D := Draws.list (prog := X.prog) (w := X.w) (A := X.A.in1) (I.ok.hd hc) it a tne its.toArray
    have hi : i < its.toArray.size := by
      have z := List.getElem?_eq_some_iff.mp hu
      simpa using z.1
    refine wpAny_pyNext_enum_itemC D he ⟨hit, whole⟩ hi hne (by simp [hne, tne2.symm]) fun x' h' tk px ho hst' hT hsz hk => ?_
    have ex : x' = u := by
      have px' : its[i]? = some x' := by simpa using px
      rw [hu] at px'
      exact (Option.some.inj px').symm
    subst ex
    refine ⟨_, rfl, wpAny_letOwnedTupleGo_enum (s := { s with heap := h', toks := tk + 1 }) ho fun h'' he' sb => ?_⟩
    have hT2 : h''.get? s.heap.objs.size = some { cls := .type "tuple", data := .seq #[.int (((i : Nat) : Int) + 1) tk, x'] } := (sb.2 _ (Nat.ne_of_gt hel)).trans hT
    have new : ObjOk X.prog X.w (upd H s.heap.objs.size (.tup [.int ((i : Nat) + 1), x])) h'' s.heap.objs.size (.tup [.int ((i : Nat) + 1), x]) :=
      ⟨by show 2 ≤ sizeLine; decide, [.int (((i : Nat) : Int) + 1) tk, x'], .cons ⟨_, rfl⟩ (.cons ru .nil), ⟨_, hT2, rfl, _, rfl⟩⟩
    have I1 : Inv X pins σ (upd H s.heap.objs.size (.tup [.int ((i : Nat) + 1), x])) { s with heap := h'', toks := tk + 1 } :=
      I.turnedNew (ch := [e, it]) (fun b ob hb q => (sb.2 b (fun z => hb (by simp [z]))).trans (hk b ob (fun z => hb (by simp [z])) (fun z => hb (by simp [z])) q)) hf (Nat.le_refl _) new
    refine ⟨.ref s.heap.objs.size, _, I1, rfl, ⟨_, x, rfl, I.hok.fresh (Nat.le_refl _), rfl, fun ys hy => ?_⟩, ⟨⟨x', ?_⟩, ?_, hne⟩, fun b hb => ?_⟩
    · rw [I.list_inj hy hq]
      exact hx
    · have e1 : ((i + 1 : Nat) : Int) + 1 = (i : Int) + 1 + 1 := by omega
      rw [e1]
      exact he'
    · obtain ⟨o, h1, r⟩ := hst'.1
      exact ⟨o, (sb.2 it (Ne.symm hne)).trans h1, r⟩
    · have hb' : b < s.heap.objs.size := by
        have e' : b = e ∨ b = it := by simpa using hb
        rcases e' with z | z
        · rw [z]
          exact hel
        · rw [z]
          exact hil
      rw [upd_ne (Nat.ne_of_lt hb')]
      exact (hf b hb).1
  done := by
    intro X hP hw hK hc i pins s σ H E I hf st hg
    cases hP
    cases hw
    cases hK
    obtain ⟨⟨old, he⟩, hit, hne⟩ := st
    obtain ⟨xs, hq, hx⟩ := hg
    obtain ⟨its, rv, p, hz⟩ := I.list hq
    obtain ⟨f0, f1, f2, f3, f4, f5⟩ := hf it (by simp)
    have hl := rv.length
    have T : s.TypeIs (.ref e) "enumerate" := ⟨_, he, rfl⟩
    unfold pyNext
    refine wpAny_bind (wpAny_attempt (wpAny_callSpecial?_slot (name := Str.ofString "__next__") T F.slot_enumerate_next (wpAny_call_entry F.slot_enumerate_next T F.entry_enumerate_next ?_ (F.args_enumerate_next_1 _))))
    show wpAny _ _ (field (.ref e) 2 >>= _) _ _ _
    refine wpAny_bind (wpAny_field he rfl (x := .ref it) rfl (wpAny_bind (wpAny_nextOf_list_end (I.ok.hd hc) hit p.isList (by simp; omega) fun h' x eb z => ?_)))
    obtain ⟨o, ho, cls⟩ := z
    refine wpAny_bind (wpAny_isInstance (T := "StopIteration") (b := true) ⟨o, ho, cls⟩ isSubtype_stop (wpAny_pure ?_))
    exact ⟨rfl, I.turned (t' := s.toks) (fun b o hb q => eb b o hb q) f0 f1 f3 f4 f5⟩
  self := fun A i s Q E st h => let ⟨⟨_, he⟩, _⟩ := st; wpAny_pyIter_enum he h
def iEnum1 (K : PySem.W.Frag) (ta : TA) : TI := fun σ H R => ta σ H fun vs H1 => ∃ a xs, vs = [.ref a, .int 1] ∧ SqL K H1 a xs ∧ R (Ite1 K a) H1
theorem pi_enum1 {X : Cx} {e e1 : Expr} {ta : TA} {p pos tpos : Pos} {elts : List Expr} {kk : Nat} (hg : Gl X "enumerate") (hm : X.mg "enumerate" = none) (ha : PA X [e, e1] ta) (hs : starEach [e, e1] X.env = (false, eval e X.env) :: starEach [e1] X.env := by rfl) (hpl : (backTo pos (starEach [e1] X.env)).any (·.1) = false := by rfl) :
    PI X (.Tuple elts kk tpos) (.Call (.Name "enumerate" p) [e, e1] [] pos) (iEnum1 X.K ta) where
  run pins s0 σ H R I h := by
    refine Call_ (ld_blt I hg hm PyProof.Rows.boot_enumerate (PyProof.Rows.callWith_type1 (thn (ha.run pos pins s0 σ H _ I h) fun us st ⟨vs, H1, I1, rs, a, xs, ex, hq, q⟩ => ?_) hs hpl))
    subst ex
    obtain ⟨u1, u2, rfl, r1, r2⟩ := rs.two
    cases r1
    obtain ⟨t2, rfl⟩ := r2
    obtain ⟨its, rv, p', hz⟩ := I1.list hq
    refine enum_begins (begins_list a its.toArray) p'.isList (by decide) (by decide) fun h' he hit hsz hk => wpAny_pyIter_enum he ?_
    have I2 : Inv X pins σ H1 { st with heap := h' } := I1.kept (t' := st.toks) hk
    refine ⟨st.heap.objs.size + 1, [st.heap.objs.size + 1, st.heap.objs.size], _, _, H1, rfl, I2, turn_enum1 a (st.heap.objs.size + 1) st.heap.objs.size, ⟨⟨.none, he⟩, ⟨_, hit, rfl, rfl⟩, Nat.succ_ne_self _⟩, fun b hb => ?_, q⟩
    have e' : b = st.heap.objs.size + 1 ∨ b = st.heap.objs.size := by simpa using hb
    have far : st.heap.objs.size ≤ b := by
      rcases e' with z | z
      · rw [z]
        exact Nat.le_succ _
      · rw [z]
        exact Nat.le_refl _
    exact I1.fpOk far (I1.hok.fresh far)
section
variable {K : PySem.W.Frag} {S : Res} {ρ : Rho} {tA : TA} {P : List X3.D → Prop}
/-- enumerated data, from 1 on -/
def enumD1 (ds : List X3.D) : List X3.D := (List.range ds.length).zipWith (fun i d => .wtup [.int ((i : Nat) + 1), d]) ds
theorem enumD1_len (ds : List X3.D) : (enumD1 ds).length = ds.length := by simp [enumD1]
theorem enumD1_get {ds : List X3.D} {i : Nat} {d : X3.D} (h : ds[i]? = some d) : (enumD1 ds)[i]? = some (.wtup [.int ((i : Nat) + 1), d]) := by
  have hl := (List.getElem?_eq_some_iff.mp h).1
  unfold enumD1
  rw [List.getElem?_zipWith, List.getElem?_range hl, h]
theorem iter_enum1 {G : Hp} {a : Addr} {xs : List V} {ds : List X3.D} (h : G a = some (.lst xs)) (r : DatL K G xs ds) : IterOk K S (Ite1 K a) G (enumD1 ds) :=
  ⟨fun H => SqL K H a xs, fun i H v H' => ∃ T x, v = .ref T ∧ H T = none ∧ H' = upd H T (.tup [.int ((i : Nat) + 1), x]) ∧ xs[i]? = some x,
    ⟨fun i H hi q => ⟨xs, xs[i]'(by rw [enumD1_len, ← r.length] at hi; exact hi), q, by rw [enumD1_len, ← r.length] at hi; simp [hi]⟩, fun H q => ⟨xs, q, by rw [enumD1_len, r.length]; exact Nat.le_refl _⟩,
      fun i H x H' hi q y => by
        obtain ⟨T, x', e1, e2, e3, e4⟩ := y
        exact ⟨T, x', e1, e2, e3, e4 xs q⟩⟩,
    fun H le => SqL.of (le _ _ h), fun i H v H' G1 hi le w y => by
      obtain ⟨T, x, rfl, hT, rfl, hx⟩ := y
      obtain ⟨d, e1, e2⟩ := r.getV hx
      exact ⟨_, _, enumD1_get e1, .new w hT, .wtup (SqT.of upd_same) (.cons (.int _) (.cons ((e2.mono le).mono (Le.new (w.fresh hT))) .nil))⟩⟩
theorem wi_enum1 (h : WA K S tA ρ fun vs => ∃ ds, vs = [.list ds, .int 1] ∧ P (enumD1 ds)) : WI K S (iEnum1 K tA) ρ P := fun σ G H R w s c =>
  h σ G H _ w s fun vs ds G' H' st dt q => by
    obtain ⟨ds, rfl, q⟩ := q
    cases dt with
    | cons a r =>
      cases r with
      | cons a1 r =>
        cases r
        cases a1
        cases a with
        | list h1 r => exact ⟨_, _, rfl, SqL.of (st.w.le _ _ h1), c _ _ G' H' st (iter_enum1 h1 r) q⟩
end
end X3

set_option Elab.async false
set_option linter.all false
set_option maxRecDepth 100000
set_option maxHeartbeats 4000000
namespace X3
open PySem L2
section
variable {K : PySem.W.Frag} {S : Res} {ρ : Rho} {N : EndsD} {μ : Mu}
/-- the body of a def that hands back a new dict, made by its last row -/
theorem body_ofRD {t : TS} {te : TE} {NN : List Str} {vs : List V} {ds : List X3.D} {G H : Hp} {Qv : VK} {q : List (Key × X3.D) → Prop} (w : Wld S G H) (r : DatL K G vs ds)
    (c : ∀ a xs es G' H', Stp S G H G' H' → G' a = none → H a = none → H' a = some (.dK xs) → DatK K G' xs es → q es → Qv (.ref a) H')
    (h : WS K S t (startR NN ds) [] { nx := fun ρ μ => μ = [] ∧ WF K S te ρ fun m => ∃ es, m = .dict es ∧ q es, rt := fun _ => False, bk := fun _ _ => False, ct := fun _ _ => False }) :
    tSeq t (tRet te) { nx := fun _ H' => Qv .non H', rt := Qv } (L2.start NN vs) H := by
  show t { nx := fun σ H => tRet te { nx := fun _ H' => Qv .non H', rt := Qv } σ H, rt := Qv } (L2.start NN vs) H
  refine h G H _ H _ w.src ⟨G, [], .refl w, slots_start r, rfl, List.nodup_nil, fun i j e => ?_, fun j a m e1 _ => by simp at e1⟩ ⟨?_, fun _ _ _ _ _ _ z => z.elim, fun _ _ _ _ _ z => z.elim, fun _ _ _ _ _ z => z.elim⟩
  · unfold startR at e
    have z := List.mem_of_getElem? e
    rcases List.mem_append.mp z with z | z
    · obtain ⟨d, _, z⟩ := List.mem_map.mp z
      cases z
    · have z' := List.eq_of_mem_replicate z
      cases z'
  · rintro σ1 H1 ρ1 μ1 ⟨G1, as, r1⟩ ⟨rfl, hf⟩
    refine hf σ1 G1 H1 Qv r1.st.w r1.sl fun a m o G2 H2 s2 ha ga ho ok ⟨es, e, hq⟩ => ?_
    subst e
    obtain ⟨_, xs, hx, dx⟩ := ok
    have ha0 : H a = none := r1.st.first ha
    exact c a xs es G2 H2 (r1.st.trans s2) ga ha0 hx dx hq
/-- three rows, and a new list made by the last one -/
theorem body_ofR3 {t1 t2 t3 : TS} {te : TE} {NN : List Str} {vs : List V} {ds : List X3.D} {G H : Hp} {Qv : VK} {q : List X3.D → Prop} (w : Wld S G H) (r : DatL K G vs ds)
    (c : ∀ a xs es G' H', Stp S G H G' H' → G' a = none → H a = none → H' a = some (.lst xs) → DatL K G' xs es → q es → Qv (.ref a) H')
    (h : WS K S (tSeq t1 (tSeq t2 t3)) (startR NN ds) [] { nx := fun ρ μ => μ = [] ∧ WF K S te ρ fun m => ∃ es, m = .lst es ∧ q es, rt := fun _ => False, bk := fun _ _ => False, ct := fun _ _ => False }) :
    tSeq t1 (tSeq t2 (tSeq t3 (tRet te))) { nx := fun _ H' => Qv .non H', rt := Qv } (L2.start NN vs) H :=
  body_ofR (t := tSeq t1 (tSeq t2 t3)) w r c h
end
end X3

set_option Elab.async false
set_option linter.all false
set_option maxRecDepth 100000
set_option maxHeartbeats 4000000
/-! # X3: what is one's own read in a block; a new list within what is handed back; fields in tuples; max of a dict's values; locked dicts -/
namespace X3
open PySem PySem.Spec PyProof.Rows L2
/-! ### max(d.values()) -/
def rMaxV (K : PySem.W.Frag) : List V → Hp → VK → Prop := fun vs H Q => ∃ (x : V) (ns : List Int), vs = [x] ∧ IntsOf K H x ns ∧ ns ≠ [] ∧ ∀ m ∈ ns, (∀ z ∈ ns, z ≤ m) → Q (.int m) H
theorem cr_maxV {X : Cx} (hc : X.calm = true) : CallR X (.builtin "max") (rMaxV X.K) := by
  intro pins s σ H vs us Q I r h
  obtain ⟨x, ns, rfl, io, ne, q⟩ := h
  cases r with
  | cons r0 rr =>
  cases rr
  have pos : 0 < ns.length := List.length_pos_iff.mpr ne
  refine call_max_walk (walk_ints I hc io r0 fun g J fp wr P St V st low vals kp => ?_)
  refine ⟨J, fp, wr, ns.length, P, St, _, rfl, V, st, low, pos, CmpOf.ints_gt (fun i => ns.getD i 0) vals, fun z h2 t2 pz k2 => ?_⟩
  obtain ⟨t3, rfl⟩ := vals _ _ pz
  obtain ⟨a1, a2⟩ := argBest_gt (fun i => ns.getD i 0) (ns.length - 1)
  refine ⟨.int _, H, I.kept (kp h2 k2), ⟨_, rfl⟩, q _ (getD_mem (by omega)) fun w hw => ?_⟩
  obtain ⟨j, hj, rfl⟩ := mem_getD hw
  exact a2 j (by omega)
/-! ### o.f, o.g = .. -/
def gFld (K : PySem.W.Frag) (to : TE) (f : Str) : TG := fun v σ H Q => to σ H fun x H1 => ∃ a C dx fs, x = .ref a ∧ H1 a = some (.ins C dx fs) ∧ Cls K C ∧ NoAttr K C f ∧ fs.length < 1000 ∧ Q σ (upd H1 a (.ins C dx (putF f v fs)))
theorem pg_fld {X : Cx} {o : Expr} {f : Str} {pos : Pos} {to : TE} (ho : PE X o to) : PG X (.Attribute o f pos) (gFld X.K to f) := by
  refine ⟨fun pins s σ H v u Q I r h => ?_⟩
  rw [assign_Attribute]
  refine wpAny_bind (wpAny_holding (thn (ho.run pins s σ H _ I h) fun ov s1 ⟨x, H1, I1, rx, a, C, dx, fs, ex, ea, c, n, l, q⟩ => ?_))
  subst ex
  obtain rfl : ov = Value.ref a := rx
  refine wpAny_bind (wpAny_standAt (wpAny_bind (wpAny_holding (setattr_ok I1 ea c n l r fun s3 I3 => ?_))))
  exact wpAny_release ⟨σ, _, I3, q⟩
section
variable {K : PySem.W.Frag} {S : Res} {ρ : Rho} {Q : X3.D → Prop} {N : EndsD} {μ : Mu}
theorem we_maxVals {te : TE} (h : WE K S te ρ fun x => ∃ (kvs : List (Key × X3.D)) (ns : List Int), x = .dict kvs ∧ kvs.map (·.2) = ns.map X3.D.int ∧ ns ≠ [] ∧ ∀ m ∈ ns, (∀ z ∈ ns, z ≤ m) → Q (.int m)) : WE K S (tCB (rMaxV K) (tCons (tVals te) tNil)) ρ Q := fun σ G H k w sl c =>
  h σ G H _ w sl fun v x G1 H1 s1 d1 q => by
    obtain ⟨kvs, ns, rfl, e, ne, q1⟩ := q
    cases d1 with
    | dict a r =>
      rename_i ad ks
      refine ⟨ad, ks, rfl, le_rd s1.w.le a, fun p hp => ?_⟩
      have st := s1.trans (Stp.junk s1.w (Le.new (o := ViewO p ad) hp))
      exact ⟨.ref p, ns, rfl, .inr ⟨p, _, _, rfl, upd_same, le_rd (Le.new hp) (le_rd s1.w.le a), r.ints e⟩, ne, fun m hm hle => c _ _ G1 _ st (.int _) (q1 m hm hle)⟩
/-! ### dicts that are locked for good -/
theorem we_varF {i : Nat} {kvs : List (Key × X3.D)} (hi : ρ[i]? = some (.dat (.fz kvs))) (q : Q (.dict kvs)) : WE K S (tVar i) ρ Q := we_fz hi (we_var (List.getElem?_set_self (List.getElem?_eq_some_iff.mp hi).1) q)
theorem we_callFDL {P : Res → List X3.D → (List (Key × X3.D) → Prop) → Prop} {tA : TA} {E : XK} (h : WA K S tA ρ fun ds => P S ds fun es => Q (.fz es)) : WE K S (tLockT (tCall (spFD K P) [] E tA)) ρ Q := fun σ G H k w sl c =>
  h σ G H _ w sl fun vs ds G' H' s dt q => ⟨S, G', ds, _, s.w, by rw [List.append_nil]; exact dt, q, fun a xs es G2 H2 s2 ga ha hx dx q2 => ⟨a, xs, rfl, hx, fun od =>
    c _ _ _ _ (s.trans (s2.gelF ga ha (s.w.nfp ha))) (.fz upd_same (dx.mono (Le.new ga))) q2⟩⟩
theorem wi_itemsZ {te : TE} {P2 : List X3.D → Prop} (h : WE K S te ρ fun x => ∃ kvs, x = .fz kvs ∧ P2 (kvs.map pairD)) : WI K S (iItems te) ρ P2 := fun σ G H R w sl c =>
  h σ G H _ w sl fun v x G1 H1 s1 d1 q => by
    obtain ⟨kvs, rfl, q⟩ := q
    cases d1 with
    | fz a r => exact ⟨_, _, _, rfl, s1.w.le _ _ a, c _ _ G1 H1 s1 (iter_items a r) q⟩
/-! ### fields of one's own object that read it -/
theorem ws_fldv {i j : Nat} {x C : Addr} {f : Str} {fs : List (Str × X3.D)} {te : TE} (hi : ρ[i]? = some (.own j)) (hj : μ[j]? = some (.obj x C fs)) (cl : Cls K C) (no : NoAttr K C f) (few : fs.length < 1000) (h : WE K S te (view ρ μ) fun d => scalD d = true ∧ N.nx ρ (μ.set j (.obj x C (putFD f d fs)))) :
    WS K S (sFld K (tVar i) te f) ρ μ N := fun G0 H0 σ H E w0 r fit => by
  obtain ⟨G, as, r⟩ := r
  obtain ⟨a, ha, hs⟩ := r.own i j hi
  obtain ⟨G1, le, s1, sl, fr⟩ := r.freeze w0
  refine h σ G1 H _ s1.w sl fun v d G' H' s dt q => ⟨_, hs, ?_⟩
  have r' := r.unfreeze w0 le fr s
  obtain ⟨_, _, ea, hg, dx, vs, hx, df⟩ := r'.cell j a _ ha hj
  refine ⟨a, C, dx, vs, rfl, hx, cl, no, by rw [df.length]; exact few, ?_⟩
  exact fit.nx _ _ _ _ ⟨G, as, r'.put (m := .obj x C (putFD f d fs)) w0 ha hj hg ⟨ea, hg, dx, _, upd_same, df.put (scal_any dt q.1)⟩⟩ q.2
theorem DatF.lookupD {G : Hp} {f : Str} {d : X3.D} : ∀ {vs : List (Str × V)} {ds : List (Str × X3.D)}, DatF K G vs ds → ds.lookup f = some d → ∃ v, vs.lookup f = some v ∧ Dat K G v d
  | _, _, .nil, e => by cases e
  | _, _, .cons (k := g) h r, e => by
    rw [lookup_cons] at e ⊢
    by_cases c : f = g
    · rw [if_pos c] at e ⊢
      cases e
      exact ⟨_, rfl, h⟩
    · rw [if_neg c] at e ⊢
      exact DatF.lookupD r e
theorem putFD_len {f : Str} {d : X3.D} : ∀ fs : List (Str × X3.D), (putFD f d fs).length ≤ fs.length + 1
  | [] => Nat.le_refl _
  | (g, x) :: r => by
    unfold putFD
    split
    · exact Nat.le_succ _
    · exact Nat.succ_le_succ (putFD_len r)
/-- o.f, o.g = h(o.k, ..), o one's own -/
theorem ws_fld2 {i j : Nat} {x C : Addr} {f g k0 : Str} {fs : List (Str × X3.D)} {d0 : X3.D} {P : Res → List X3.D → (X3.D → Prop) → Prop} {tA : TA} {Ex : XK} (hi : ρ[i]? = some (.own j)) (hj : μ[j]? = some (.obj x C fs)) (cl : Cls K C) (nf : NoAttr K C f) (ng : NoAttr K C g) (nk : NoAttr K C k0)
    (lk : fs.lookup k0 = some d0) (few : fs.length + 1 < 1000) (h : WA K S tA ρ fun ds => P S (d0 :: ds) fun d => ∃ d1 d2, d = .tup [d1, d2] ∧ N.nx ρ (μ.set j (.obj x C (putFD g d2 (putFD f d1 fs))))) :
    WS K S (tAsg (tCall (spD K P) [] Ex (tCons (tFld K (tVar i) k0) tA)) (gTup K 2 (gCons (gFld K (tVar i) f) (gCons (gFld K (tVar i) g) gNil)))) ρ μ N := fun G0 H0 σ H E w0 r fit => by
  obtain ⟨G, as, r⟩ := r
  obtain ⟨a, ha, hs⟩ := r.own i j hi
  obtain ⟨_, _, ea, hg, dx, vs, hx, df⟩ := r.cell j a _ ha hj
  obtain ⟨v0, e0, dv0⟩ := df.lookupD lk
  refine ⟨_, hs, a, C, dx, vs, v0, rfl, hx, cl, nk, e0, ?_⟩
  refine h σ G H _ r.st.w r.sl fun ws ds G1 H1 s1 d1 q => ⟨S, G1, d0 :: ds, _, s1.w, by rw [List.append_nil]; exact .cons (dv0.mono s1.gg) d1, q, fun v d G2 H2 s2 dd q2 => ?_⟩
  obtain ⟨y1, y2, rfl, q2⟩ := q2
  have r2 := (r.step w0 s1).step w0 s2
  obtain ⟨_, _, _, hg2, dx2, vs2, hx2, df2⟩ := r2.cell j a _ ha hj
  cases dd with
  | tup hq dl =>
    cases dl with
    | cons dy1 dl =>
      cases dl with
      | cons dy2 dl =>
        cases dl
        refine ⟨_, _, rfl, le_t s2.w.le hq.sq, rfl, ?_⟩
        refine ⟨_, _, rfl, _, hs, a, C, dx2, vs2, rfl, hx2, cl, nf, by rw [df2.length]; exact Nat.lt_of_succ_lt few, ?_⟩
        have r3 := r2.put (m := .obj x C (putFD f y1 fs)) (o := .ins C dx2 (putF f _ vs2)) w0 ha hj hg2 ⟨ea, hg2, dx2, _, upd_same, df2.put dy1⟩
        have df3 : DatF K G2 (putF f _ vs2) (putFD f y1 fs) := df2.put dy1
        refine ⟨_, _, rfl, _, hs, a, C, dx2, _, rfl, upd_same, cl, ng, ?_, ?_⟩
        · rw [df3.length]
          exact Nat.lt_of_le_of_lt (putFD_len fs) few
        · have hj2 : (μ.set j (.obj x C (putFD f y1 fs)))[j]? = some (.obj x C (putFD f y1 fs)) := List.getElem?_set_self (List.getElem?_eq_some_iff.mp hj).1
          have r4 := r3.put (m := .obj x C (putFD g y2 (putFD f y1 fs))) w0 ha hj2 hg2 ⟨ea, hg2, dx2, _, upd_same, df3.put dy2⟩
          rw [List.set_set] at r4
          exact ⟨rfl, fit.nx _ _ _ _ ⟨G2, as, r4⟩ q2⟩
/-! ### a new list within what is handed back -/
/-- of three rows: the body of a def that hands back a list of its own -/
theorem body_ofF3 {t1 t2 t3 : TS} {NN : List Str} {vs : List V} {ds : List X3.D} {G H : Hp} {Qv : VK} {q : List X3.D → Prop} {i : Nat} (w : Wld S G H) (r : DatL K G vs ds)
    (c : ∀ a xs es G' H', Stp S G H G' H' → G' a = none → H a = none → H' a = some (.lst xs) → DatL K G' xs es → q es → Qv (.ref a) H')
    (h : WS K S (tSeq t1 (tSeq t2 t3)) (startR NN ds) [] { nx := fun ρ μ => ∃ j es, ρ[i]? = some (.own j) ∧ μ[j]? = some (.lst es) ∧ q es, rt := fun _ => False, bk := fun _ _ => False, ct := fun _ _ => False }) :
    tSeq t1 (tSeq t2 (tSeq t3 (tRet (tVar i)))) { nx := fun _ H' => Qv .non H', rt := Qv } (L2.start NN vs) H := body_ofF (t := t1) (u := tSeq t2 t3) w r c h
def spW (K : PySem.W.Frag) (P : Res → List X3.D → (List X3.D → (X3.D → X3.D) → Prop) → Prop) : Sp := fun vs H Q _ => ∃ (S : Res) (G : Hp) (ds : List X3.D) (q : List X3.D → (X3.D → X3.D) → Prop), Wld S G H ∧ DatL K G vs ds ∧ P S ds q ∧
  ∀ v a xs es wd G' H', Stp S G H G' H' → G' a = none → H a = none → H' a = some (.lst xs) → DatL K G' xs es → Dat K G' v (wd (.val (.ref a))) → q es wd → Q v H'
/-- of five rows: a dict of four is handed back, its third value a new list -/
theorem body_ofW {t1 t2 t3 t4 : TS} {e1 e2 e4 : TE} {tA : TA} {P : Res → List X3.D → (List X3.D → Prop) → Prop} {Ex : XK} {k1 k2 k3 k4 : Str} {NN : List Str} {vs : List V} {ds : List X3.D} {G H : Hp} {Qv : VK} {q : List X3.D → (X3.D → X3.D) → Prop} (w : Wld S G H) (r : DatL K G vs ds)
    (c : ∀ v a xs es wd G' H', Stp S G H G' H' → G' a = none → H a = none → H' a = some (.lst xs) → DatL K G' xs es → Dat K G' v (wd (.val (.ref a))) → q es wd → Qv v H')
    (h : WS K S (tSeq t1 (tSeq t2 (tSeq t3 t4))) (startR NN ds) [] { nx := fun ρ μ => μ = [] ∧ WE K S e1 ρ fun d1 => WE K S e2 ρ fun d2 => WA K S tA ρ fun ds' => P S ds' fun es => WE K S e4 ρ fun d4 => q es (fun o => .dict (mergeD [] [(.inr k1, d1), (.inr k2, d2), (.inr k3, o), (.inr k4, d4)])), rt := fun _ => False, bk := fun _ _ => False, ct := fun _ _ => False }) :
    tSeq t1 (tSeq t2 (tSeq t3 (tSeq t4 (tRet (tDisp [(tC (.str k1), e1), (tC (.str k2), e2), (tC (.str k3), tCall (spF K P) [] Ex tA), (tC (.str k4), e4)]))))) { nx := fun _ H' => Qv .non H', rt := Qv } (L2.start NN vs) H := by
  show tSeq t1 (tSeq t2 (tSeq t3 t4)) { nx := fun σ H => tRet (tDisp [(tC (.str k1), e1), (tC (.str k2), e2), (tC (.str k3), tCall (spF K P) [] Ex tA), (tC (.str k4), e4)]) { nx := fun _ H' => Qv .non H', rt := Qv } σ H, rt := Qv } (L2.start NN vs) H
  refine h G H _ H _ w.src ⟨G, [], .refl w, slots_start r, rfl, List.nodup_nil, fun i j e => ?_, fun j a m e1 _ => by simp at e1⟩ ⟨?_, fun _ _ _ _ _ _ z => z.elim, fun _ _ _ _ _ z => z.elim, fun _ _ _ _ _ z => z.elim⟩
  · unfold startR at e
    have z := List.mem_of_getElem? e
    rcases List.mem_append.mp z with z | z
    · obtain ⟨d, _, z⟩ := List.mem_map.mp z
      cases z
    · have z' := List.eq_of_mem_replicate z
      cases z'
  · rintro σ1 H1 ρ1 μ1 ⟨G1, as, r1⟩ ⟨_, hq⟩
    intro p hp
    have w1 := r1.st.w
    have s0 : Stp S G1 H1 G1 (upd H1 p (.dK [])) := .junk w1 (Le.new hp)
    have nfp := w1.nfp hp
    refine hq σ1 G1 _ _ s0.w r1.sl fun v1 d1 G2 H2 s2 dt1 hq => hq σ1 G2 H2 _ s2.w (r1.sl.mono s2.gg) fun v2 d2 G3 H3 s3 dt2 hq => hq σ1 G3 H3 _ s3.w (r1.sl.mono (s2.gg.trans s3.gg)) fun us ds' G4 H4 s4 dts hp' => ⟨S, G4, ds', _, s4.w, by rw [List.append_nil]; exact dts, hp', fun a xs es G5 H5 s5 ga ha hx dx hq => hq σ1 G5 H5 _ s5.w (r1.sl.mono (s2.gg.trans (s3.gg.trans (s4.gg.trans s5.gg)))) fun v4 d4 G6 H6 s6 dt4 hq => ?_⟩
    have s26 := ((((s0.trans s2).trans s3).trans s4).trans s5).trans s6
    have at2 : H6 p = some (.dK []) := ((((s2.trans s3).trans s4).trans s5).trans s6).hh p _ nfp upd_same
    have gp1 : G1 p = none := w1.fresh hp
    have gp : G6 p = none := ((((s2.trans s3).trans s4).trans s5).trans s6).keepNone gp1 (by rw [upd_same]; exact Option.some_ne_none _)
    have hxa : H5 a ≠ none := by rw [hx]; exact Option.some_ne_none _
    have ga6 : G6 a = none := s6.keepNone ga hxa
    have nfa : ¬ S.fp a := fun z => by
      have := (s4.w.nfp ha)
      exact this z
    have hx6 : H6 a = some (.lst xs) := s6.hh a _ nfa hx
    have nap : a ≠ p := fun z => by
      rw [z, at2] at hx6
      cases hx6
    have s14 := ((s0.trans s2).trans s3).trans s4
    have ha1 : H1 a = none := by
      cases e : H1 a with
      | none => rfl
      | some o =>
        have := s14.hh a o nfa e
        rw [ha] at this
        cases this
    have haH : H a = none := by
      cases e : H a with
      | none => rfl
      | some o =>
        have := r1.st.hh a o nfa e
        rw [ha1] at this
        cases this
    have hpH : H p = none := by
      cases e : H p with
      | none => rfl
      | some o =>
        have := r1.st.hh p o nfp e
        rw [hp] at this
        cases this
    refine ⟨at2, [(.inr k1, v1), (.inr k2, v2), (.inr k3, .ref a), (.inr k4, v4)], rfl, (by show 4 ≤ 15; decide), ?_⟩
    have st := ((r1.st.trans s26).poke (o := .dK (mergeK [] [(.inr k1, v1), (.inr k2, v2), (.inr k3, .ref a), (.inr k4, v4)])) hpH gp nfp).gel gp hpH upd_same nfp
    have gg26 : Le G2 G6 := s3.gg.trans (s4.gg.trans (s5.gg.trans s6.gg))
    have gg36 : Le G3 G6 := s4.gg.trans (s5.gg.trans s6.gg)
    have dk : DatK K G6 [(.inr k1, v1), (.inr k2, v2), (.inr k3, .ref a), (.inr k4, v4)] [(.inr k1, d1), (.inr k2, d2), (.inr k3, .val (.ref a)), (.inr k4, d4)] :=
      .cons (dt1.mono gg26) (.cons (dt2.mono gg36) (.cons (.val _) (.cons dt4 .nil)))
    exact c (.ref p) a xs es _ _ _ st (by rw [upd_ne nap]; exact ga6) haH (by rw [upd_ne nap]; exact hx6) (dx.mono (s6.gg.trans (Le.new gp))) (.dict (.inl upd_same) ((dk.merge .nil).mono (Le.new gp))) hq
/-- x = f(..); a, b, c = e, the new list in x, e': the new list is one's own -/
theorem ws_callW {i i1 i2 i3 : Nat} {P : Res → List X3.D → (List X3.D → (X3.D → X3.D) → Prop) → Prop} {tA : TA} {Ex : XK} {te : TE} {u : TS} (h2 : i2 < ρ.length) (n12 : i1 ≠ i2) (n23 : i3 ≠ i2)
    (h : WA K S tA ρ fun ds => P S ds fun es wd => ∀ a : Addr, WE K S te (ρ.set i (.dat (wd (.val (.ref a))))) fun d => ∃ d1 d3, d = .tup [d1, .val (.ref a), d3] ∧ WS K S u ((((ρ.set i (.dat (wd (.val (.ref a))))).set i1 (.dat d1)).set i2 (.own μ.length)).set i3 (.dat d3)) (μ ++ [.lst es]) N) :
    WS K S (tSeq (tAsg (tCall (spW K P) [] Ex tA) (gName i)) (tSeq (tAsg te (gTup K 3 (gCons (gName i1) (gCons (gName i2) (gCons (gName i3) gNil))))) u)) ρ μ N := fun G0 H0 σ H E w0 r fit => by
  obtain ⟨G, as, r⟩ := r
  refine h σ G H _ r.st.w r.sl fun vs ds G1 H1 s1 dt hp => ⟨S, G1, ds, _, s1.w, by rw [List.append_nil]; exact dt, hp, fun v a xs es wd G2 H2 s2 ga ha hx dx dv hq => ?_⟩
  have r1 := r.step w0 s1
  obtain ⟨n1, n2, n3, n4⟩ := r1.newp ha
  have r2 := (r1.step w0 s2).set (i := i) dv
  refine hq a (σ.set i (some v)) G2 H2 _ s2.w r2.sl fun v3 d3 G3 H3 s3 dt3 q3 => ?_
  obtain ⟨d1, d3, rfl, q⟩ := q3
  have r3 := r2.step w0 s3
  have ga3 := s3.keepNone ga (by rw [hx]; exact Option.some_ne_none _)
  have hx3 : H3 a = some (.lst xs) := s3.hh a _ n3 hx
  cases dt3 with
  | tup hq dl =>
    cases dl with
    | cons dy1 dl =>
      cases dl with
      | cons dy2 dl =>
        cases dl with
        | cons dy3 dl =>
          cases dl
          cases dy2
          refine ⟨_, _, rfl, le_t s3.w.le hq.sq, rfl, _, _, rfl, _, _, rfl, _, _, rfl, rfl, ?_⟩
          have r4 := (r3.set (i := i1) dy1).adopt (i := i2) (m := .lst es) (o := .lst xs) (by rw [List.length_set, List.length_set]; exact h2) n1 n2 n3 ga3 ⟨ga3, _, upd_same, dx.mono s3.gg⟩
          rw [upd_id hx3] at r4
          exact q G0 H0 _ H3 E w0 ⟨G3, _, r4.set (i := i3) dy3⟩ fit
/-! ### blocks in which what is one's own is read, and may be told in slots -/
structure BSt (K : PySem.W.Frag) (S : Res) (G0 H0 Gs Gm : Hp) (as : List Addr) (μ : Mu) (G : Hp) (σ : L2.St) (H : Hp) (ρ ρm : Rho) : Prop where
  r : RepG K S G0 H0 Gm σ H ρm μ as
  le : Le Gm G
  st : Stp S Gs H0 G H
  fr : ∀ a ∈ as, G a = H a
  sl : Slots K G σ ρ
theorem RepG.setNo {G0 H0 G H : Hp} {σ : L2.St} {as : List Addr} (r : RepG K S G0 H0 G σ H ρ μ as) (i : Nat) (v : V) : RepG K S G0 H0 G (σ.set i (some v)) H (ρ.set i .no) μ as :=
  ⟨r.st, ⟨by rw [List.length_set, List.length_set]; exact r.sl.len, fun j d e => by
    by_cases x : i = j
    · subst x
      by_cases y : i < ρ.length
      · rw [List.getElem?_set_self y] at e
        cases e
      · rw [List.getElem?_eq_none (by simpa using y)] at e
        cases e
    · rw [List.getElem?_set_ne x] at e ⊢
      exact r.sl.get j d e⟩, r.alen, r.nd, fun k j e => by
    by_cases x : i = k
    · subst x
      by_cases y : i < ρ.length
      · rw [List.getElem?_set_self y] at e
        cases e
      · rw [List.getElem?_eq_none (by simpa using y)] at e
        cases e
    · rw [List.getElem?_set_ne x] at e ⊢
      exact r.own k j e, r.cell⟩
theorem BSt.step {G0 H0 Gs Gm G H G' H' : Hp} {as : List Addr} {σ : L2.St} {ρm : Rho} (b : BSt K S G0 H0 Gs Gm as μ G σ H ρ ρm) (w0 : S.ok H0) (s : Stp S G H G' H') : BSt K S G0 H0 Gs Gm as μ G' σ H' ρ ρm := by
  refine ⟨b.r.unfreeze w0 b.le b.fr s, b.le.trans s.gg, b.st.trans s, fun a ha => ?_, b.sl.mono s.gg⟩
  obtain ⟨j, hj, e⟩ := List.mem_iff_getElem.mp ha
  have hm : j < μ.length := by rw [← b.r.alen]; exact hj
  have ne := (b.r.cell j a μ[j] (by rw [List.getElem?_eq_getElem hj, e]) (List.getElem?_eq_getElem hm)).2.1
  cases e2 : H a with
  | none => exact absurd e2 ne
  | some o =>
    have g1 : G a = some o := by rw [b.fr a ha, e2]
    have g2 := s.gg a o g1
    rw [g2, s.w.le a o g2]
theorem BSt.set {G0 H0 Gs Gm G H : Hp} {as : List Addr} {σ : L2.St} {ρm : Rho} {i : Nat} {v : V} {d : X3.D} (b : BSt K S G0 H0 Gs Gm as μ G σ H ρ ρm) (dt : Dat K G v d) : BSt K S G0 H0 Gs Gm as μ G (σ.set i (some v)) H (ρ.set i (.dat d)) (ρm.set i .no) :=
  ⟨b.r.setNo i v, b.le, b.st, b.fr, b.sl.set dt⟩
theorem BSt.debase {G0 H0 Gs Gm G H : Hp} {as : List Addr} {σ : L2.St} {ρm : Rho} (b : BSt K S G0 H0 Gs Gm as μ G σ H ρ ρm) : BSt K S G0 H0 G Gm as μ G σ H ρ ρm :=
  ⟨b.r, b.le, ⟨.refl _, b.st.hh, fun _ _ e => .inl e, b.st.w⟩, b.fr, b.sl⟩
theorem Stp.rebase {S : Res} {Gs H0 G1 H1 G H : Hp} (sb : Stp S Gs H0 G1 H1) (s : Stp S G1 H0 G H) : Stp S Gs H0 G H :=
  ⟨sb.gg.trans s.gg, s.hh, fun a o e => (s.nw a o e).elim (fun z => sb.nw a o z) .inr, s.w⟩
theorem BSt.rebase {G0 H0 Gs Gm G1 H1 G H : Hp} {as : List Addr} {σ : L2.St} {ρm : Rho} (sb : Stp S Gs H0 G1 H1) (b : BSt K S G0 H0 G1 Gm as μ G σ H ρ ρm) : BSt K S G0 H0 Gs Gm as μ G σ H ρ ρm := ⟨b.r, b.le, sb.rebase b.st, b.fr, b.sl⟩
structure BFit (K : PySem.W.Frag) (S : Res) (G0 H0 Gs Gm : Hp) (as : List Addr) (μ : Mu) (E : Ends) (Nx Ct : Rho → Rho → Prop) (Rt : X3.D → Prop) : Prop where
  nx : ∀ σ H G ρ ρm, BSt K S G0 H0 Gs Gm as μ G σ H ρ ρm → Nx ρ ρm → E.nx σ H
  ct : ∀ σ H G ρ ρm, BSt K S G0 H0 Gs Gm as μ G σ H ρ ρm → Ct ρ ρm → E.ct σ H
  rt : ∀ v d G H, Stp S Gs H0 G H → Dat K G v d → Rt d → E.rt v H
/-- t, where ρ is told with what is one's own as it stands, ρm what will be told behind -/
def BK (K : PySem.W.Frag) (S : Res) (t : TS) (ρ ρm : Rho) (μ : Mu) (Nx Ct : Rho → Rho → Prop) (Rt : X3.D → Prop) : Prop :=
  ∀ G0 H0 Gs Gm as G σ H (E : Ends), S.ok H0 → BSt K S G0 H0 Gs Gm as μ G σ H ρ ρm → BFit K S G0 H0 Gs Gm as μ E Nx Ct Rt → t E σ H
section
variable {ρm : Rho} {Nx Ct : Rho → Rho → Prop} {Rt : X3.D → Prop} {t u : TS} {te : TE} {tt : TT} {i : Nat}
theorem bk_next (q : Nx ρ ρm) : BK K S tNext ρ ρm μ Nx Ct Rt := fun G0 H0 Gs Gm as G σ H E w0 b f => f.nx _ _ _ _ _ b q
theorem bk_ct (q : Ct ρ ρm) : BK K S tCont ρ ρm μ Nx Ct Rt := fun G0 H0 Gs Gm as G σ H E w0 b f => f.ct _ _ _ _ _ b q
theorem bk_seq (h : BK K S t ρ ρm μ (fun ρ' ρm' => BK K S u ρ' ρm' μ Nx Ct Rt) Ct Rt) : BK K S (tSeq t u) ρ ρm μ Nx Ct Rt := fun G0 H0 Gs Gm as G σ H E w0 b f =>
  h G0 H0 Gs Gm as G σ H { E with nx := u E } w0 b ⟨fun σ' H' G' ρ' ρm' b' q => q G0 H0 Gs Gm as G' σ' H' E w0 b' f, f.ct, f.rt⟩
theorem bk_asg (h : WE K S te ρ fun d => Nx (ρ.set i (.dat d)) (ρm.set i .no)) : BK K S (tAsg te (gName i)) ρ ρm μ Nx Ct Rt := fun G0 H0 Gs Gm as G σ H E w0 b f =>
  h σ G H _ b.st.w b.sl fun v d G' H' s dt q => f.nx _ _ _ _ _ ((b.step w0 s).set dt) q
theorem bk_ret (h : WE K S te ρ Rt) : BK K S (tRet te) ρ ρm μ Nx Ct Rt := fun G0 H0 Gs Gm as G σ H E w0 b f =>
  h σ G H _ b.st.w b.sl fun v d G' H' s dt q => f.rt v d G' H' (b.st.trans s) dt q
theorem bk_if (h : WT K S tt ρ fun c => if c = true then BK K S t ρ ρm μ Nx Ct Rt else BK K S u ρ ρm μ Nx Ct Rt) : BK K S (tIfS tt t u) ρ ρm μ Nx Ct Rt := fun G0 H0 Gs Gm as G σ H E w0 b f =>
  h σ G H _ b.st.w b.sl fun c G' H' s q => by
    cases c with
    | true => exact q G0 H0 Gs Gm as G' σ H' E w0 (b.step w0 s) f
    | false => exact q G0 H0 Gs Gm as G' σ H' E w0 (b.step w0 s) f
theorem bk_imp {Nx' Ct' : Rho → Rho → Prop} {Rt' : X3.D → Prop} (h : BK K S t ρ ρm μ Nx Ct Rt) (h1 : ∀ a b, Nx a b → Nx' a b) (h2 : ∀ a b, Ct a b → Ct' a b) (h3 : ∀ d, Rt d → Rt' d) : BK K S t ρ ρm μ Nx' Ct' Rt' := fun G0 H0 Gs Gm as G σ H E w0 b f =>
  h G0 H0 Gs Gm as G σ H E w0 b ⟨fun σ H G ρ ρm b q => f.nx _ _ _ _ _ b (h1 _ _ q), fun σ H G ρ ρm b q => f.ct _ _ _ _ _ b (h2 _ _ q), fun v d G H s dt q => f.rt v d G H s dt (h3 _ q)⟩
/-- a for: one name -/
theorem bk_for {wi : TI} {tb : TS} (I : List X3.D → Rho → Rho → Prop)
    (h : WI K S wi ρ fun ds => I [] ρ ρm ∧ (∀ pre d post ρ' ρm', ds = pre ++ d :: post → I pre ρ' ρm' → BK K S tb (ρ'.set i (.dat d)) (ρm'.set i .no) μ (I (pre ++ [d])) (I (pre ++ [d])) Rt) ∧ ∀ ρ' ρm', I ds ρ' ρm' → Nx ρ' ρm') :
    BK K S (tFor wi (gName i) tb) ρ ρm μ Nx Ct Rt := fun G0 H0 Gs Gm as G σ H E w0 b f => by
  refine h σ G H _ b.st.w b.sl fun J ds G' H' s it q => ?_
  obtain ⟨i0, turn, fin⟩ := q
  obtain ⟨Gd, Y, wk, gd, yl⟩ := it.ex
  have b1 := b.step w0 s
  have sb := b1.st
  refine for_it wk (fun n σ H => ∃ ρ' ρm' G2, BSt K S G0 H0 G' Gm as μ G2 σ H ρ' ρm' ∧ I (ds.take n) ρ' ρm') ⟨ρ, ρm, G', b1.debase, i0⟩ ?_ ?_ ?_
  · rintro n σ1 H1 _ ⟨ρ', ρm', G2, b2, _⟩
    exact gd H1 (b2.st.gg.trans b2.st.w.le)
  · rintro n x σ1 H1 H2 hn ⟨ρ', ρm', G2, b2, iv⟩ y
    obtain ⟨d, G3, e, st3, dt⟩ := yl n H1 x H2 G2 hn b2.st.gg b2.st.w y
    have b3 := b2.step w0 st3
    have ed : ds = ds.take n ++ d :: ds.drop (n + 1) := by
      obtain ⟨hl, e2⟩ := List.getElem?_eq_some_iff.mp e
      rw [← e2, ← List.drop_eq_getElem_cons hl, List.take_append_drop]
    have et : ds.take n ++ [d] = ds.take (n + 1) := by
      rw [List.take_add_one, e]
      rfl
    have hb := turn (ds.take n) d (ds.drop (n + 1)) ρ' ρm' ed iv
    rw [et] at hb
    refine hb G0 H0 G' Gm as G3 (σ1.set i (some x)) H2 { E with nx := _, ct := _, bk := E.nx } w0 (b3.set dt) ⟨?_, ?_, ?_⟩
    · exact fun σ5 H5 G5 ρ5 ρm5 b5 q5 => ⟨ρ5, ρm5, G5, b5, q5⟩
    · exact fun σ5 H5 G5 ρ5 ρm5 b5 q5 => ⟨ρ5, ρm5, G5, b5, q5⟩
    · exact fun v d5 G5 H5 s5 dt5 q5 => f.rt v d5 G5 H5 (sb.rebase s5) dt5 q5
  · rintro σ1 H1 ⟨ρ', ρm', G2, b2, iv⟩
    rw [List.take_length] at iv
    exact f.nx _ _ _ _ _ (b2.rebase sb) (fin ρ' ρm' iv)
/-- the block is left -/
theorem ws_block (h : BK K S t (view ρ μ) ρ μ (fun _ ρm' => WS K S u ρm' μ N) (fun _ _ => False) N.rt) : WS K S (tSeq t u) ρ μ N := fun G0 H0 σ H E w0 r f => by
  obtain ⟨G, as, r⟩ := r
  obtain ⟨G1, le, s1, sl, fr⟩ := r.freeze w0
  exact h G0 H0 G0 G as G1 σ H { E with nx := u E } w0 ⟨r, le, s1, fr, sl⟩ ⟨fun σ' H' G' ρ' ρm' b q => q G0 H0 σ' H' E w0 ⟨G, as, b.r⟩ f, fun _ _ _ _ _ _ z => z.elim, f.rt⟩
end
end
end X3

set_option Elab.async false
set_option linter.all false
set_option maxRecDepth 100000
set_option maxHeartbeats 4000000
namespace X3
open PySem PySem.Spec PyProof.Rows L2
/-! ### list(text) -/
def signs (x : Str) : List V := x.cps.toList.map fun c => .str ⟨#[c]⟩
def rListS : List V → Hp → VK → Prop := fun vs H Q => ∃ x, vs = [.str x] ∧ x.cps.size ≤ 100000 ∧ ∀ l, H l = none → Q (.ref l) (upd H l (.lst (signs x)))
theorem vals_of : ∀ {xs : List V} {us : List Value}, xs.length = us.length → (∀ (i : Nat) (v : Value), us[i]? = some v → ∃ x, xs[i]? = some x ∧ RelV x v) → Vals xs us
  | [], [], _, _ => .nil
  | x :: xs, u :: us, hl, h => .cons (by
      obtain ⟨y, e, r⟩ := h 0 u rfl
      cases e
      exact r) (vals_of (by simpa using hl) fun i v e => by simpa using h (i + 1) v (by simpa using e))
theorem call_listS {X : Cx} (hc : X.calm = true) : CallR X (.type "list") rListS := by
  intro pins s σ H vs us Q I r h
  obtain ⟨x, rfl, hl, q⟩ := h
  obtain ⟨u, rfl, rx⟩ := vals1 r
  obtain ⟨t, rfl⟩ := rx
  refine call_list_str (I.ok.hd hc) x t (fun h' tk acc' c' kp e it => ?_) (Nat.le_trans hl (by decide))
  have rv : Vals (signs x) acc'.toList := by
    refine vals_of ?_ fun i v hv => ?_
    · unfold signs
      rw [List.length_map, Array.length_toList, Array.length_toList, it.1]
    · obtain ⟨c, u, hcx, rfl⟩ := it.2 i v (by simpa using hv)
      refine ⟨.str ⟨#[c]⟩, ?_, u, rfl⟩
      unfold signs
      rw [List.getElem?_map, show x.cps.toList[i]? = some c by simpa using hcx]
      rfl
  refine ⟨.ref s.heap.objs.size, _, I.laid (t' := tk) kp (Nat.le_refl _) (show ObjOk X.prog X.w _ h' _ (.lst (signs x)) from ⟨?_, acc'.toList, c', rv, by simpa using e⟩), rfl, q _ (I.hok.fresh (Nat.le_refl _))⟩
  unfold signs
  rw [List.length_map, Array.length_toList]
  exact Nat.le_trans hl (by decide)
section
variable {K : PySem.W.Frag} {S : Res} {ρ : Rho} {N : EndsD} {μ : Mu} {te : TE} {i : Nat} {Q : X3.D → Prop}
theorem signs_datL {G : Hp} : ∀ {l : List Nat}, DatL K G (l.map fun c => V.str ⟨#[c]⟩) (l.map fun c => X3.D.str ⟨#[c]⟩)
  | [] => .nil
  | c :: l => .cons (.str _) signs_datL
theorem wc_listS {x : Str} (hl : x.cps.size ≤ 100000) (q : Q (.list (x.cps.toList.map fun c => .str ⟨#[c]⟩))) : WRC K S rListS [.str x] Q := fun G H vs k w dx c => by
  cases dx with
  | cons a r =>
    cases a
    cases r
    exact ⟨x, rfl, hl, fun p hp => c _ _ _ _ (.new w hp) (.list upd_same signs_datL) q⟩
/-- xs[n] = e, where e reads one's own list, and is a tuple of texts -/
theorem strs_datL2 {G : Hp} : ∀ {vs : List V} {xs : List Str}, DatL K G vs (xs.map .str) → vs = xs.map .str
  | _, [], h => by
    cases h
    rfl
  | _, x :: xs, h => by
    cases h with
    | cons a r =>
      cases a
      rw [strs_datL2 r]
      rfl
theorem datL_txts2 {G : Hp} : ∀ {xs : List Str}, DatL K G (xs.map .str) (xs.map .str)
  | [] => .nil
  | x :: xs => .cons (.str x) datL_txts2
theorem ws_lputT {i n : Nat} {ds : List X3.D} (hi : ρ[i]? = some (.own 0)) (hn : n < ds.length) (h : WE K S te (view ρ [.lst ds]) fun d => ∃ xs : List Str, d = .tup (xs.map .str) ∧ N.nx ρ [.lst (ds.set n d)]) :
    WS K S (tAsg te (gSub (tVar i) (tC (.int (n : Nat))) rSetL)) ρ [.lst ds] N := fun G0 H0 σ H E w0 r f => by
  obtain ⟨G, as, r⟩ := r
  obtain ⟨a, ha, hs⟩ := r.own i 0 hi
  obtain ⟨h0, h1, hg, xs, hx, dx⟩ := r.cell 0 a _ ha rfl
  have eas : as = [a] := by
    have hl := r.alen
    match as, hl, ha with
    | [b], _, ha => rw [show b = a from Option.some.inj ha]
  subst eas
  obtain ⟨G1, le, s1, sl, fr⟩ := r.freeze w0
  refine h σ G1 H _ s1.w sl fun v d G' H' s dt q => ?_
  obtain ⟨zs, rfl, q⟩ := q
  have nf := r.nfp w0 (List.mem_of_getElem? ha)
  have hx' : H' a = some (.lst xs) := s.hh a _ nf hx
  have s2 := s1.trans s
  have leG : Le G (fun x => if x = a then none else G' x) := fun b o e => by
    have nb : b ≠ a := fun z => by
      rw [z, hg] at e
      cases e
    show (if b = a then none else G' b) = some o
    rw [if_neg nb]
    exact s.gg b o (le b o e)
  have st : Stp S G0 H0 (fun x => if x = a then none else G' x) H' := by
    refine ⟨r.st.gg.trans leG, s2.hh, fun b o e => ?_, ⟨fun b o e => ?_, s2.w.src, fun b fb => ?_⟩⟩
    · have e' : (if b = a then none else G' b) = some o := e
      by_cases z : b = a
      · rw [if_pos z] at e'
        cases e'
      · rw [if_neg z] at e'
        exact s2.nw b o e'
    · have e' : (if b = a then none else G' b) = some o := e
      by_cases z : b = a
      · rw [if_pos z] at e'
        cases e'
      · rw [if_neg z] at e'
        exact s2.w.le b o e'
    · show (if b = a then none else G' b) = none
      by_cases z : b = a
      · rw [if_pos z]
      · rw [if_neg z]
        exact s2.w.sep b fb
  cases dt with
  | tup hq r2 =>
    rename_i b vs
    have ev := strs_datL2 r2
    have nb : b ≠ a ∨ ∃ o, K.lookup b = some o := by
      rcases hq.sq with (z | ⟨o, z⟩) | ⟨o, _, _, z, _⟩
      · refine .inl fun e => ?_
        have := s.w.le b _ z
        rw [e, hx'] at this
        cases this
      · refine .inl fun e => ?_
        have := s.w.le b _ z
        rw [e, hx'] at this
        cases this
      · exact .inr ⟨o, z⟩
    have ne : ∀ {u : HO}, G' b = some u → (∀ ys, u ≠ .lst ys) → b ≠ a := fun {u} z nl e => by
      have := s.w.le b _ z
      rw [e, hx'] at this
      exact nl xs (Option.some.inj this).symm
    have dt2 : Dat K (fun x => if x = a then none else G' x) (.ref b) (.tup (zs.map .str)) := by
      refine .tup (xs := vs) ⟨?_, ?_⟩ (by rw [ev]; exact datL_txts2)
      · rcases hq.sq with (z | ⟨o, z⟩) | z
        · exact .inl (.inl (by show (if b = a then none else G' b) = _; rw [if_neg (ne z fun _ e => by cases e)]; exact z))
        · exact .inl (.inr ⟨o, by show (if b = a then none else G' b) = _; rw [if_neg (ne z fun _ e => by cases e)]; exact z⟩)
        · exact .inr z
      · exact hq.slim.imp (fun ⟨o, u, z, q⟩ => ⟨o, u, by show (if b = a then none else G' b) = _; rw [if_neg (ne z fun _ e => by cases e)]; exact z, q⟩) id
    have r' : RepG K S G0 H0 (fun x => if x = a then none else G' x) σ H' ρ [.lst ds] [a] := by
      refine ⟨st, r.sl.mono leG, rfl, r.nd, r.own, fun j c m e1 e2 => ?_⟩
      cases j with
      | zero =>
        cases e1
        cases e2
        exact ⟨h0, by rw [hx']; exact Option.some_ne_none _, by show (if a = a then none else G' a) = none; rw [if_pos rfl], xs, hx', dx.mono leG⟩
      | succ j => simp at e1
    obtain ⟨_, _, hg2, ys, hy, hd⟩ := r'.cell 0 a _ rfl rfl
    refine ⟨_, hs, _, ys, _, n, rfl, rfl, hy, ?_, ?_⟩
    · unfold ixN
      rw [hd.length, if_pos (Int.natCast_nonneg n), if_pos (Int.ofNat_lt.mpr hn), Int.toNat_natCast]
    have r5 := r'.put (j := 0) (m := .lst (ds.set n (.tup (zs.map .str)))) (o := .lst (ys.set n (.ref b))) w0 rfl rfl hg2 ⟨hg2, _, upd_same, DatL.put dt2 n hd⟩
    exact f.nx _ _ _ _ ⟨_, [a], r5⟩ q
end
end X3

set_option Elab.async false
set_option linter.all false
set_option maxRecDepth 100000
set_option maxHeartbeats 4000000
namespace Tk
open PySem L2 X3
def topS (i : Nat) : Stmt := PySem.Challenge.pw_takenout_k45_whole_least_sayings.main.body.getD i (.Pass ⟨0, 0, 0, 0⟩)
def cLETTERS : Str := "abcdefghijklmnopqrstuvwxyz"
def cDIGITS : Str := "0123456789"
def cBEHIND : Str := "behind"
def cAHEAD : Str := "ahead"
/-- what the top has written of names that are read -/
structure Txt (K : PySem.W.Frag) (mg : Str → Option Value) (tk : Nat → Tok) : Prop where
  nisinstance : mg "isinstance" = none
  nlist : mg "list" = none
  ntuple : mg "tuple" = none
  nstr : mg "str" = none
  nint : mg "int" = none
  nbool : mg "bool" = none
  nlen : mg "len" = none
  nall : mg "all" = none
  nset : mg "set" = none
  nenumerate : mg "enumerate" = none
  nrange : mg "range" = none
  nmin : mg "min" = none
  nmax : mg "max" = none
  ndict : mg "dict" = none
  nrepr : mg "repr" = none
  nabs : mg "abs" = none
  nreversed : mg "reversed" = none
  nany : mg "any" = none
  nsorted : mg "sorted" = none
  nsum : mg "sum" = none
  nzip : mg "zip" = none

  gBEHIND : mg "BEHIND" = some (.str cBEHIND (tk 0))

abbrev letter (c : Nat) : Prop := c ∈ cLETTERS.cps.toList
abbrev digit (c : Nat) : Prop := c ∈ cDIGITS.cps.toList
structure WordOk (x : Str) : Prop where
  lo : 1 ≤ x.length
  hi : x.length ≤ 12
  first : ∃ c, x.cps.toList[0]? = some c ∧ letter c
  all : ∀ c ∈ x.cps.toList, letter c ∨ digit c
theorem wi_str {K : PySem.W.Frag} {S : Res} {ρ : Rho} {te : TE} {P : List X3.D → Prop} (h : WE K S te ρ fun d => ∃ x, d = .str x ∧ P (x.cps.toList.map fun c => .str ⟨#[c]⟩)) : WI K S (iStr te) ρ P := fun σ G H R w s c =>
  h σ G H _ w s fun v d G' H' st dt q => by
    obtain ⟨x, rfl, q⟩ := q
    cases dt
    refine ⟨x, rfl, c _ _ G' H' st ⟨_, _, by rw [List.length_map, Array.length_toList]; exact walk_str, fun _ _ => trivial, fun i H v H' G1 hi le w y => ?_⟩ q⟩
    obtain ⟨rfl, ch, hc, rfl⟩ := y
    exact ⟨_, G1, by rw [List.getElem?_map, Array.getElem?_toList, hc]; rfl, .refl w, .str _⟩
/-- the defs that are called: where they stand, what they promise -/
structure Prom (P : Program) (w : World) (K : PySem.W.Frag) (mg : Str → Option Value) (base : Heap) (x : Str) (f : Addr) (fd : FuncData) (ps : List Str) (k : Nat) (sp : Sp) : Prop where
  g : mg x = some (.ref f)
  kp : PySem.W.keepIn K (.ref f) = true
  b : Binds K fd ps []
  F : FnOk P w K mg base CX0 k f fd ps sp
section
variable {K : PySem.W.Frag}
def rLists (K : PySem.W.Frag) : List V → Hp → VK → Prop := fun xs H Q => ∃ p ys, xs = [.ref p] ∧ (SqL K H p ys ∨ SqT K H p ys) ∧ ∀ l, H l = none → Q (.ref l) (upd H l (.lst ys))
theorem wc_lists {S : Res} {Q : X3.D → Prop} {d : X3.D} {ds : List X3.D} (h : d = .list ds ∨ d = .tup ds) (q : Q (.list ds)) : WRC K S (rLists K) [d] Q := wc_list h q
end
end Tk

set_option Elab.async false
set_option linter.all false
set_option maxRecDepth 100000
set_option maxHeartbeats 4000000
namespace Tk
open PySem L2 X3
/-! ### the source of what is drawn -/
def sd (c : Addr) (l m t : Int) : List (Key × V) := [(.inr "cells", .ref c), (.inr "left", .int l), (.inr "mixed", .int m), (.inr "turn", .int t)]
theorem k_cl : ¬ (Sum.inr ("cells" : Str) : Key) = Sum.inr ("left" : Str) := by decide +kernel
theorem k_cm : ¬ (Sum.inr ("cells" : Str) : Key) = Sum.inr ("mixed" : Str) := by decide +kernel
theorem k_ct : ¬ (Sum.inr ("cells" : Str) : Key) = Sum.inr ("turn" : Str) := by decide +kernel
theorem k_lm : ¬ (Sum.inr ("left" : Str) : Key) = Sum.inr ("mixed" : Str) := by decide +kernel
theorem k_lt : ¬ (Sum.inr ("left" : Str) : Key) = Sum.inr ("turn" : Str) := by decide +kernel
theorem k_mt : ¬ (Sum.inr ("mixed" : Str) : Key) = Sum.inr ("turn" : Str) := by decide +kernel
theorem sd_c {c : Addr} {l m t : Int} : valV (sd c l m t) (.inr "cells") = some (.ref c) := valV_pos rfl
theorem sd_l {c : Addr} {l m t : Int} : valV (sd c l m t) (.inr "left") = some (.int l) := (valV_neg k_cl).trans (valV_pos rfl)
theorem sd_m {c : Addr} {l m t : Int} : valV (sd c l m t) (.inr "mixed") = some (.int m) := (valV_neg k_cm).trans ((valV_neg k_lm).trans (valV_pos rfl))
theorem sd_t {c : Addr} {l m t : Int} : valV (sd c l m t) (.inr "turn") = some (.int t) := (valV_neg k_ct).trans ((valV_neg k_lt).trans ((valV_neg k_mt).trans (valV_pos rfl)))
theorem put_l {c : Addr} {l m t x : Int} : putK (sd c l m t) (.inr "left") (.int x) = sd c x m t := by
  unfold putK sd
  simp [show ¬ (("cells" : Str) = "left") by decide +kernel, show ¬ (("mixed" : Str) = "left") by decide +kernel, show ¬ (("turn" : Str) = "left") by decide +kernel]
theorem put_m {c : Addr} {l m t x : Int} : putK (sd c l m t) (.inr "mixed") (.int x) = sd c l x t := by
  unfold putK sd
  simp [show ¬ (("cells" : Str) = "mixed") by decide +kernel, show ¬ (("left" : Str) = "mixed") by decide +kernel, show ¬ (("turn" : Str) = "mixed") by decide +kernel]
theorem put_t {c : Addr} {l m t x : Int} : putK (sd c l m t) (.inr "turn") (.int x) = sd c l m x := by
  unfold putK sd
  simp [show ¬ (("cells" : Str) = "turn") by decide +kernel, show ¬ (("left" : Str) = "turn") by decide +kernel, show ¬ (("mixed" : Str) = "turn") by decide +kernel]
theorem merge_sd {c : Addr} {l m t : Int} : mergeK [] (sd c l m t) = sd c l m t := by
  unfold mergeK sd
  simp only [List.foldl]
  unfold putK
  simp [show ¬ (("cells" : Str) = "left") by decide +kernel, show ¬ (("cells" : Str) = "mixed") by decide +kernel, show ¬ (("cells" : Str) = "turn") by decide +kernel, show ¬ (("left" : Str) = "mixed") by decide +kernel, show ¬ (("left" : Str) = "turn") by decide +kernel, show ¬ (("mixed" : Str) = "turn") by decide +kernel]
def absI (z : Int) : Int := if z < 0 then -z else z
structure SrcAt (s c : Addr) (H : Hp) : Prop where
  ne : s ≠ c
  ex : ∃ (cells : List Int) (l m t : Int), H s = some (.dK (sd c l m t)) ∧ H c = some (.lst (cells.map V.int)) ∧ cells.length ≤ 63
def srcR (s c : Addr) : Res where
  fp := fun a => a = s ∨ a = c
  ok := SrcAt s c
  loc := fun H H' h ⟨ne, cells, l, m, t, h1, h2, h3⟩ => ⟨ne, cells, l, m, t, (h s (.inl rfl)).symm.trans h1, (h c (.inr rfl)).symm.trans h2, h3⟩
  live := fun H ⟨ne, cells, l, m, t, h1, h2, h3⟩ a h => by
    rcases h with h | h
    · rw [h, h1]
      exact Option.some_ne_none _
    · rw [h, h2]
      exact Option.some_ne_none _
/-- what is asked of a draw -/
def pPick : Res → List X3.D → (X3.D → Prop) → Prop := fun S ds q => ∃ (s c : Addr) (n : Int), S = srcR s c ∧ ds = [.val (.ref s), .int n] ∧ 1 ≤ n ∧ n < 1000000 ∧ ∀ i : Int, 0 ≤ i → i < n → q (.int i)
/-- between two turns of a draw's while -/
def pickW (s c : Addr) (n : Int) (H : Hp) (mm : Nat) (σ : L2.St) (H2 : Hp) : Prop := ∃ (cells : List Int) (l m t : Int), mm = cells.length ∧ σ = [some (.ref s), some (.int n), none, none] ∧ H2 s = some (.dK (sd c l m t)) ∧ H2 c = some (.lst (cells.map V.int)) ∧ cells.length ≤ 63 ∧ ∀ b o, ¬ (b = s ∨ b = c) → H b = some o → H2 b = some o
theorem max_n {n : Int} (h : 1 ≤ n) : (if n > 1 then n else 1) = n := by
  split
  · rfl
  · omega
def spSource (K : PySem.W.Frag) : Sp := fun vs H Q _ => ∃ (a : Addr) (ns : List Int), vs = [.ref a] ∧ SqL K H a (ns.map V.int) ∧ ns.length ≤ 63 ∧
  ∀ s c H', H s = none → H c = none → Le H H' → SrcAt s c H' → Q (.ref s) H'
abbrev sSource : Stmt := topS 9
abbrev sPick : Stmt := topS 10
theorem scSource : FnScope ["script", "mixed", "cell"] ["script"] (defScope sSource) := ⟨rfl, rfl, rfl, by decide +kernel, rfl, by decide +kernel, by decide +kernel⟩
theorem scPick : FnScope ["source", "many", "left", "mixed"] ["source", "many"] (defScope sPick) := ⟨rfl, rfl, rfl, by decide +kernel, rfl, by decide +kernel, by decide +kernel⟩
section
variable {P : Program} {w : World} {K : PySem.W.Frag} {mg : Str → Option Value} {base : Heap}
theorem ok_source {f : Addr} {fd : FuncData} (F : Fun K "_law_source" "_law_source" sSource f fd) (nAbs : mg "abs" = none) (nInt : mg "int" = none) : FnOk P w K mg base CX0 1 f fd ["script"] (spSource K) := by
  refine F.ok scSource (fun vs H Q E h => ?_) (fun cdv A outer s H vs Q E hr h => ?_)
  · obtain ⟨a, ns, rfl, _⟩ := h
    rfl
  · obtain ⟨a, ns, rfl, hs, hl, k⟩ := h
    refine ⟨_, pss_cons (ps_set (i := 1) scSource.nd rfl (Or.inl rfl) pe_int)
      (pss_cons (ps_for PassesOwn.never rfl (pi_list (pv 0)) (pg_name (i := 2) scSource.nd rfl (Or.inl rfl))
        (pss_one (ps_set (i := 1) scSource.nd rfl (Or.inl rfl) (pe_op op_mod (pe_callTy call_int1 (by rfl) nInt PyProof.Rows.boot_int (pa_cons (pe_op op_add (pe_op op_add (pe_op op_mul (pv 1) pe_int) (pe_op op_mul (pv 2) pe_int)) pe_int) pa_nil)) pe_int))))
      (pss_one (ps_ret (pe_disp (pps_cons pe_str (pe_revL (pe_lc (own := [("cell", 2)]) (g := gName 2) (tt := tYes) rfl scSource.nd (pi_list (pv 0)) (blkOk_by (N := ["script", "mixed", "cell"]) (sc := defScope sSource) (by decide +kernel)) (fun _ _ _ _ _ => pg_name (i := 2) scSource.nd rfl (Or.inl rfl)) (fun _ _ _ _ _ => pts_nil) (fun _ _ _ _ _ => (pe_callB call_abs (by rfl) nAbs PyProof.Rows.boot_abs (pa_cons (pv 2) pa_nil)))))
        (pps_cons pe_str pe_int (pps_cons pe_str (pv 1) (pps_cons pe_str pe_int pps_nil)))) (by decide +kernel) rfl (by simp) (by decide))))), ?_⟩
    refine ⟨_, rfl, a, rfl, ⟨_, hs⟩, for_list (K := K) (a := a) (xs := ns.map V.int) (fun i σ H2 => ∃ (m : Int) (v : Option V), σ = [some (.ref a), some (.int m), v] ∧ H2 = H) ⟨11, none, rfl, rfl⟩ (fun i σ H2 _ ⟨_, _, _, e⟩ => by rw [e]; exact hs) ?_ ?_⟩
    · rintro i y σ H2 hi ⟨m, v, rfl, rfl⟩
      obtain ⟨z, rfl⟩ : ∃ z, y = V.int z := by
        rw [List.getElem?_map] at hi
        cases e : ns[i]? with
        | none =>
          rw [e] at hi
          cases hi
        | some z =>
          rw [e] at hi
          exact ⟨z, (Option.some.inj hi).symm⟩
      refine ⟨_, rfl, _, _, rfl, rfl, .inr ⟨by decide, by decide⟩, _, rfl, _, _, rfl, rfl, .inr ⟨by decide, by decide⟩, _, _, rfl, rfl, _, _, rfl, rfl, .inl ⟨_, rfl, _, _, rfl, rfl, (by show (0 : Int) < 2147483629; decide), ?_⟩⟩
      exact ⟨_, _, rfl, rfl⟩
    · rintro σ H2 ⟨m, v, rfl, rfl⟩
      intro p hp
      have hs1 : SqL K (upd H2 p (.dK [])) a (ns.map V.int) := le_l (Le.new hp) hs
      refine ⟨_, rfl, a, rfl, ⟨_, hs1⟩, fun q hq => lc_list (xs := ns.map V.int) (fun i H3 => H3 = upd (upd H2 p (.dK [])) q (.lst (((ns.take i).map absI).map V.int))) rfl (fun i H3 _ e => by rw [e]; exact le_l (Le.new hq) hs1) ?_ ?_⟩
      · rintro i x H3 hi rfl
        have hi' := hi
        rw [List.getElem?_map] at hi
        cases e : ns[i]? with
        | none =>
          rw [e] at hi
          cases hi
        | some z =>
          rw [e] at hi
          have ex : x = V.int z := (Option.some.inj hi).symm
          subst ex
          refine ⟨rfl, ?_⟩
          unfold tYes
          dsimp only
          rw [if_pos rfl]
          refine ⟨_, rfl, _, rfl, _, upd_same, ?_, ?_⟩
          · simp only [List.length_map, List.length_take]
            exact Nat.lt_of_le_of_lt (Nat.le_trans (Nat.min_le_right _ _) hl) (by decide)
          · rw [upd_upd, List.take_add_one, e]
            simp [absI]
      · rintro H3 rfl
        have npq : p ≠ q := fun z => by
          rw [← z, upd_same] at hq
          cases hq
        refine ⟨q, _, rfl, SqL.of upd_same, fun c hc => ?_⟩
        have nqc : q ≠ c := ne_of_none upd_same hc
        have npc : p ≠ c := ne_of_none (o := .dK []) (by rw [upd_ne npq, upd_same]) hc
        refine ⟨_, rfl, by rw [upd_ne npc, upd_ne npq, upd_same], sd c 1 m 0, rfl, (by decide : 4 ≤ 15), ?_⟩
        rw [merge_sd]
        have le1 : Le H2 (upd H2 p (.dK [])) := Le.new hp
        have le2 : Le H2 (upd (upd H2 p (.dK [])) q (.lst (((ns.take (ns.map V.int).length).map absI).map V.int))) := le1.trans (Le.new hq)
        have hc2 : H2 c = none := (le2.trans (Le.refl _)).none hc
        refine k p c _ hp hc2 (fun b o e => ?_) ⟨npc, ((ns.map absI).reverse), 1, m, 0, upd_same, ?_, ?_⟩
        · rw [upd_ne (ne_of_none e hp), upd_ne (ne_of_none e hc2)]
          exact le2 b o e
        · rw [upd_ne npc.symm, upd_same, List.take_of_length_le (by simp)]
          simp
        · simp only [List.length_reverse, List.length_map]
          exact hl
theorem ok_pick {f : Addr} {fd : FuncData} (F : Fun K "_law_pick" "_law_pick" sPick f fd) (nLen : mg "len" = none) (nMax : mg "max" = none) (nInt : mg "int" = none) : FnOk P w K mg base CX0 1 f fd ["source", "many"] (spD K pPick) := by
  refine F.ok scPick (fun vs H Q E h => ?_) (fun cdv A outer s H vs Q E hr h => ?_)
  · obtain ⟨S, G, ds, q, _, r, ⟨s, c, n, _, rfl, _⟩, _⟩ := h
    exact r.length
  · obtain ⟨S, G, ds, q, w0, r, ⟨s, c, n, rfl, rfl, h1, h2, hq⟩, k⟩ := h
    have hu := hu_of hr
    refine ⟨_, Evl.pss_cut (ps_while PassesOwn.never (PW.pt (pw_and (pt_cmpR op_gt (pv 1) pe_int (nomark _)) (pw_and (pt_cmpR op_lt (pe_dget hu (pv 0) pe_str (fun _ _ => rfl)) pe_int (nomark _))
        (pw_and1 (pt_cmpR op_gt (pe_callB call_len (by rfl) nLen PySem.boot_len (pa_cons (pe_dget hu (pv 0) pe_str (fun _ _ => rfl)) pa_nil)) pe_int (nomark _))))))
        (pss_one (ps_dput hu (pv 0) pe_str (pe_bm0 PySem.F.plainAttrs_list PySem.F.slot_list_pop PySem.F.type_list_pop mt_pop (pe_dget hu (pv 0) pe_str (fun _ _ => rfl))) rfl)))
      (pss_cons (ps_set (i := 2) scPick.nd rfl (Or.inl rfl) (pe_dget hu (pv 0) pe_str (fun _ _ => rfl)))
      (pss_cons (ps_if (PW.pt (pw_or (pt_cmpR op_lt (pv 1) pe_int (nomark _)) (pw_or1 (pt_cmpR op_gt (pv 2) pe_int (nomark _)))))
        (pss_cons (ps_dput hu (pv 0) pe_str (pe_op op_fdiv (pv 2) (pe_callB (call_max2 rfl) (by rfl) nMax PyProof.Rows.boot_max (pa_cons pe_int (pa_cons (pv 1) pa_nil)))) rfl)
          (pss_one (ps_ret (pe_op op_mod (pe_callTy call_int1 (by rfl) nInt PyProof.Rows.boot_int (pa_cons (pv 2) pa_nil)) (pe_callB (call_max2 rfl) (by rfl) nMax PyProof.Rows.boot_max (pa_cons pe_int (pa_cons (pv 1) pa_nil))))))) pss_nil)
      (pss_cons (ps_dput hu (pv 0) pe_str (pe_op op_add (pe_dget hu (pv 0) pe_str (fun _ _ => rfl)) pe_int) rfl)
      (pss_cons (ps_set (i := 3) scPick.nd rfl (Or.inl rfl) (pe_op op_mod (pe_callTy call_int1 (by rfl) nInt PyProof.Rows.boot_int (pa_cons (pe_op op_add (pe_dget hu (pv 0) pe_str (fun _ _ => rfl)) (pe_op op_mul (pe_dget hu (pv 0) pe_str (fun _ _ => rfl)) pe_int)) pa_nil)) pe_int))
      (pss_cons (ps_set (i := 3) scPick.nd rfl (Or.inl rfl) (pe_op op_mod (pe_callTy call_int1 (by rfl) nInt PyProof.Rows.boot_int (pa_cons (pe_op op_add (pe_op op_mul (pv 3) (pv 3)) (pe_op op_mul (pe_dget hu (pv 0) pe_str (fun _ _ => rfl)) pe_int)) pa_nil)) pe_int))
      (pss_cons (ps_dput hu (pv 0) pe_str (pv 3) rfl)
      (pss_one (ps_ret (pe_op op_mod (pe_callTy call_int1 (by rfl) nInt PyProof.Rows.boot_int (pa_cons (pe_op op_fdiv (pv 3) pe_int) pa_nil)) (pv 1)))))))))), ?_⟩
    cases r with
    | cons r0 rr =>
    cases rr with
    | cons r1 rr =>
    cases rr
    cases r1
    cases r0
    -- what stays
    have keep : ∀ {H2 : Hp}, (∀ b o, ¬ (b = s ∨ b = c) → H b = some o → H2 b = some o) → SrcAt s c H2 → ∀ i : Int, 0 ≤ i → i < n → Q (.int i) H2 := fun {H2} h2 sa i i0 i1 =>
      k _ _ G H2 ⟨Le.refl _, h2, fun _ _ e => .inl e, ⟨fun b o e => h2 b o (fun z => by rw [w0.sep b z] at e; cases e) (w0.le b o e), sa, w0.sep⟩⟩ (.int i) (hq i i0 i1)
    obtain ⟨nsc, cells, l, m, t, hs, hc, hlen⟩ := w0.src
    refine ⟨fun σ H2 => ∃ mm, pickW s c n H mm σ H2, ?_, ?_⟩
    · refine ⟨pickW s c n H, ⟨_, cells, l, m, t, rfl, rfl, hs, hc, hlen, fun _ _ _ e => e⟩, ?_⟩
      rintro mm σ H2 ⟨cells, l, m, t, rfl, rfl, hs, hc, hlen, kp⟩
      refine ⟨_, rfl, _, _, rfl, rfl, _, rfl, ?_⟩
      refine ite2 (fun _ => ?_) (fun _ => ?_)
      · refine ⟨_, rfl, s, .int l, rfl, sd_l ▸ DGet.k (k := .inr "left") hs, _, _, rfl, rfl, _, rfl, ?_⟩
        refine ite2 (fun _ => ?_) (fun _ => ?_)
        · refine ⟨_, rfl, s, .ref c, rfl, sd_c ▸ DGet.k (k := .inr "cells") hs, _, cells.length, rfl, .inl ⟨_, SqL.of hc, by simp⟩, _, _, rfl, rfl, _, rfl, ?_⟩
          refine ite2 (fun hpos => ?_) (fun _ => ?_)
          · have hp : 0 < cells.length := by
              have := of_decide_eq_true hpos
              omega
            obtain ⟨x, hx⟩ : ∃ x, cells[cells.length - 1]? = some x := ⟨_, List.getElem?_eq_getElem (by omega)⟩
            refine ⟨fun σ' H' => ∃ m', m' < cells.length ∧ pickW s c n H m' σ' H', fun σ' H' z => z, ?_⟩
            refine ⟨_, rfl, s, .ref c, rfl, sd_c ▸ DGet.k (k := .inr "cells") hs, .inl ⟨rfl, _, SqL.of hc⟩, c, _, .int x, rfl, rfl, hc, (by rw [List.length_map, List.getElem?_map, hx]; rfl), ?_⟩
            refine ⟨_, rfl, s, _, rfl, DPut.k (k := .inr "left") (by rw [upd_ne nsc]; exact hs) (by show 4 < sizeLine; decide), ?_⟩
            refine ⟨cells.length - 1, by omega, cells.dropLast, x, m, t, by simp, rfl, by rw [upd_same, put_l], ?_, ?_, fun b o nb e => ?_⟩
            · rw [upd_ne (Ne.symm nsc), upd_same, List.map_dropLast]
            · simp
              omega
            · rw [upd_ne fun z => nb (.inl z), upd_ne fun z => nb (.inr z)]
              exact kp b o nb e
          · exact ⟨_, cells, l, m, t, rfl, rfl, hs, hc, hlen, kp⟩
        · exact ⟨_, cells, l, m, t, rfl, rfl, hs, hc, hlen, kp⟩
      · exact ⟨_, cells, l, m, t, rfl, rfl, hs, hc, hlen, kp⟩
    · rintro σ H2 ⟨_, cells, l, m, t, _, rfl, hs, hc, hlen, kp⟩
      refine ⟨_, rfl, s, .int l, rfl, sd_l ▸ DGet.k (k := .inr "left") hs, ?_⟩
      have gone : ∀ (x y z : Int), SrcAt s c (upd H2 s (.dK (sd c x y z))) ∧ ∀ b o, ¬ (b = s ∨ b = c) → H b = some o → (upd H2 s (.dK (sd c x y z))) b = some o := fun x y z =>
        ⟨⟨nsc, cells, x, y, z, upd_same, by rw [upd_ne (Ne.symm nsc)]; exact hc, hlen⟩, fun b o nb e => by rw [upd_ne fun z => nb (.inl z)]; exact kp b o nb e⟩
      have four : ∀ x y z : Int, (sd c x y z).length < sizeLine := fun _ _ _ => by show 4 < sizeLine; decide
      refine ⟨_, rfl, _, _, rfl, rfl, _, rfl, ?_⟩
      refine ite2 (fun _ => iteT ?a1) (fun _ => ⟨_, rfl, _, _, rfl, rfl, _, rfl, ite2 (fun _ => ?a2) (fun _ => ?a3)⟩)
      case a3 =>
        -- source['turn'] = source['turn'] + 1 ..
        refine ⟨_, rfl, s, .int t, rfl, sd_t ▸ DGet.k (k := .inr "turn") hs, _, _, rfl, rfl, ?_⟩
        refine ⟨_, rfl, s, _, rfl, DPut.k (k := .inr "turn") hs (four _ _ _), ?_⟩
        rw [put_t]
        refine ⟨_, rfl, s, .int m, rfl, sd_m ▸ DGet.k (k := .inr "mixed") upd_same, ?_⟩
        refine ⟨_, rfl, s, .int (t + 1), rfl, sd_t ▸ DGet.k (k := .inr "turn") upd_same, _, _, rfl, rfl, .inr ⟨by decide, by decide⟩, _, _, rfl, rfl, .inl ⟨_, rfl, _, _, rfl, rfl, (by show (0 : Int) < 998244353; decide), ?_⟩⟩
        have b1 := Int.emod_nonneg (m + (t + 1) * 104729) (show (998244353 : Int) ≠ 0 by decide)
        have b2 := Int.emod_lt_of_pos (m + (t + 1) * 104729) (show (0 : Int) < 998244353 by decide)
        refine ⟨_, rfl, _, rfl, _, _, rfl, rfl, .inl ⟨by omega, by omega⟩, ?_⟩
        refine ⟨_, rfl, s, .int (t + 1), rfl, sd_t ▸ DGet.k (k := .inr "turn") upd_same, _, _, rfl, rfl, .inr ⟨by decide, by decide⟩, _, _, rfl, rfl, .inl ⟨_, rfl, _, _, rfl, rfl, (by show (0 : Int) < 2147483647; decide), ?_⟩⟩
        refine ⟨_, rfl, _, rfl, s, _, rfl, DPut.k (k := .inr "mixed") upd_same (four _ _ _), ?_⟩
        rw [put_m, upd_upd]
        refine ⟨_, rfl, _, _, rfl, rfl, ⟨by decide, by decide⟩, .inl ⟨_, rfl, _, rfl, _, _, rfl, rfl, (by show (0 : Int) < n; omega), ?_⟩⟩
        obtain ⟨g1, g2⟩ := gone l ((((m + (t + 1) * 104729) % 998244353) * ((m + (t + 1) * 104729) % 998244353) + (t + 1) * 17) % 2147483647) (t + 1)
        exact keep g2 g1 _ (Int.emod_nonneg _ (by omega)) (Int.emod_lt_of_pos _ (by omega))
      all_goals
        refine ⟨_, rfl, _, rfl, _, _, rfl, ?_⟩
        rw [max_n h1]
        refine ⟨_, _, rfl, rfl, ⟨by omega, by omega⟩, ?_⟩
        refine ⟨_, rfl, s, _, rfl, DPut.k (k := .inr "left") hs (four _ _ _), ?_⟩
        rw [put_l]
        refine ⟨_, rfl, .inl ⟨_, rfl, _, rfl, _, _, rfl, ?_⟩⟩
        rw [max_n h1]
        refine ⟨_, _, rfl, rfl, (by show (0 : Int) < n; omega), ?_⟩
        obtain ⟨g1, g2⟩ := gone (l / n) m t
        exact keep g2 g1 _ (Int.emod_nonneg _ (by omega)) (Int.emod_lt_of_pos _ (by omega))
end
end Tk

set_option Elab.async false
set_option linter.all false
set_option maxRecDepth 100000
set_option maxHeartbeats 4000000
namespace Tk
open PySem L2 X3
abbrev slaw_mixed : Stmt := topS 12
theorem sclaw_mixed : FnScope ["source", "things", "rest", "lap"] ["source", "things"] (defScope slaw_mixed) := ⟨rfl, rfl, rfl, by decide +kernel, rfl, by decide +kernel, by decide +kernel⟩
abbrev slaw_of : Stmt := topS 11
theorem sclaw_of : FnScope ["source", "some"] ["source", "some"] (defScope slaw_of) := ⟨rfl, rfl, rfl, by decide +kernel, rfl, by decide +kernel, by decide +kernel⟩

theorem DatL.perm {K : PySem.W.Frag} {G : Hp} {us ys : List V} (p : us.Perm ys) : ∀ {xs : List X3.D}, DatL K G ys xs → ∃ zs : List X3.D, zs.Perm xs ∧ DatL K G us zs := by
  induction p with
  | nil => exact fun {xs} h => ⟨xs, .refl _, h⟩
  | cons x _ ih =>
    intro xs h
    cases h with
    | cons a r =>
      obtain ⟨zs, hp, hz⟩ := ih r
      exact ⟨_ :: zs, .cons _ hp, .cons a hz⟩
  | swap x y l =>
    intro xs h
    cases h with
    | cons a r =>
      cases r with
      | cons b r => exact ⟨_ :: _ :: _, .swap _ _ _, .cons b (.cons a r)⟩
  | trans _ _ ih1 ih2 =>
    intro xs h
    obtain ⟨zs, hp, hz⟩ := ih2 h
    obtain ⟨ws, hp2, hw⟩ := ih1 hz
    exact ⟨ws, hp2.trans hp, hw⟩
theorem wr_ixAnyT {K : PySem.W.Frag} {S : Res} {Q : X3.D → Prop} {ds : List X3.D} {i : Int} (h0 : 0 ≤ i) (h1 : i < ds.length) (q : ∀ d ∈ ds, Q d) : WR2 K S (rIx K) (.tup ds) (.int i) Q := by
  obtain ⟨n, rfl⟩ := Int.eq_ofNat_of_zero_le h0
  have hl : n < ds.length := by omega
  exact wr_ixT (atI_nat (List.getElem?_eq_getElem hl)) (q _ (List.getElem_mem hl))
theorem perm_erase {α : Type} : ∀ {l : List α} {n : Nat} (h : n < l.length), (l[n] :: l.eraseIdx n).Perm l
  | _ :: _, 0, _ => .refl _
  | a :: l, n + 1, h => (List.Perm.swap a _ _).trans (.cons a (perm_erase (l := l) (n := n) (Nat.lt_of_succ_lt_succ h)))
theorem seqIx {i : Int} {n : Nat} (h0 : 0 ≤ i) (h1 : i < n) : PySem.seqIndex? i n = some i.toNat := by
  unfold PySem.seqIndex?
  simp [show ¬ i < 0 by omega, h0, h1]
section
variable {P : Program} {w : World} {K : PySem.W.Frag} {mg : Str → Option Value} {tk : Nat → Tok} {base : Heap}
def pOf : Res → List X3.D → (X3.D → Prop) → Prop := fun S ds q => ∃ (s c : Addr) (x : X3.D) (xs : List X3.D), S = srcR s c ∧ ds = [.val (.ref s), x] ∧ (x = .list xs ∨ x = .tup xs) ∧ xs ≠ [] ∧ xs.length < 100000 ∧ ∀ d ∈ xs, q d
theorem ok_law_of {f : Addr} {fd : FuncData} (F : Fun K "_law_of" "_law_of" slaw_of f fd) (T : Txt K mg tk) {f1 : Addr} {d1 : FuncData} (D1 : Prom P w K mg base "_law_pick" f1 d1 ["source", "many"] 1 (spD K pPick)) : FnOk P w K mg base CX0 2 f fd ["source", "some"] (spD K (pOf)) := by
  refine F.ok sclaw_of (fun vs H Q E h => ?_) (fun cdv A outer s H vs Q E hr h => ?_)
  · obtain ⟨S, G, ds, q, _, r, ⟨s, c, x, xs, _, rfl, _⟩, _⟩ := h
    exact r.length
  · obtain ⟨S, G, ds, q, w0, r, ⟨s, c, x, xs, rfl, rfl, hx, ne, hl, hq⟩, k⟩ := h
    refine ⟨_, (pss_one (ps_ret (pe_ix (r := rIx K) ix_seq (pv 1) (pe_call D1.F (hr.mono (by decide)) (by rfl) D1.g D1.kp D1.b .nil pass0 (pa_cons (pv 0) (pa_cons (pe_callB (r := rCount K) call_len (by rfl) T.nlen PySem.boot_len (pa_cons (pv 1) pa_nil)) pa_nil))) (fun _ _ => rfl)))), ?_⟩
    refine body_of w0 r k ?_
    have h1 : 1 ≤ xs.length := List.length_pos_iff.mpr ne
    rcases hx with rfl | rfl
    · repeat (first | with_reducible refine we_call ?_ | refine wc_lenR (n := xs.length) (by rfl) ?_ | (first | with_reducible refine we_op ?_ | with_reducible refine we_lst ?_ | with_reducible refine wa_cons ?_ | with_reducible refine wa_nil ?_ | with_reducible refine we_cb ?_ | with_reducible refine we_tup ?_ | with_reducible refine we_un ?_ | with_reducible refine we_int ?_ | with_reducible refine we_str ?_ | with_reducible refine we_bl ?_ | with_reducible refine we_non ?_ | with_reducible refine we_val ?_ | with_reducible refine we_chain ?_ | with_reducible refine we_andV ?_ | with_reducible refine we_orV ?_ | with_reducible refine we_notV ?_ | with_reducible refine we_if ?_ | with_reducible refine we_fld ?_ | with_reducible refine we_dget ?_ | with_reducible refine we_din ?_ | with_reducible refine we_dnotin ?_ | with_reducible refine wt_or ?_ | with_reducible refine wt_and ?_ | with_reducible refine wt_not ?_ | with_reducible refine wt_b ?_ | with_reducible refine wt_test ?_ | with_reducible refine ws_seq ?_ | with_reducible refine ws_ret ?_ | with_reducible refine ws_if ?_ | with_reducible refine ws_asg ?_ | with_reducible refine ws_next ?_ | with_reducible refine wp_i ?_ | with_reducible refine wr_ib ?_ | with_reducible refine we_eqS ?_ | with_reducible refine we_neS ?_ | with_reducible refine we_eqI ?_ | with_reducible refine we_neI ?_ | with_reducible refine wp_l (Nat.le_of_ble_eq_true rfl) ?_ | with_reducible refine ⟨_, rfl, ?_⟩ | with_reducible refine iteT ?_ | with_reducible refine iteF ?_ | with_reducible refine iteNT ?_ | with_reducible refine iteNF ?_ | with_reducible refine wr_notN (fun u z => nomatch z) ?_ | with_reducible refine wr_isN (fun u z => nomatch z) ?_ | refine (And.intro (a := _ ≤ _) (Nat.le_of_ble_eq_true rfl) ?_) | refine we_var (by rfl) ?_))
      exact ⟨s, c, xs.length, rfl, rfl, by omega, by omega, fun i h0 h1 => wr_ixAny h0 h1 hq⟩
    · repeat (first | with_reducible refine we_call ?_ | refine wc_lenR (n := xs.length) (by rfl) ?_ | (first | with_reducible refine we_op ?_ | with_reducible refine we_lst ?_ | with_reducible refine wa_cons ?_ | with_reducible refine wa_nil ?_ | with_reducible refine we_cb ?_ | with_reducible refine we_tup ?_ | with_reducible refine we_un ?_ | with_reducible refine we_int ?_ | with_reducible refine we_str ?_ | with_reducible refine we_bl ?_ | with_reducible refine we_non ?_ | with_reducible refine we_val ?_ | with_reducible refine we_chain ?_ | with_reducible refine we_andV ?_ | with_reducible refine we_orV ?_ | with_reducible refine we_notV ?_ | with_reducible refine we_if ?_ | with_reducible refine we_fld ?_ | with_reducible refine we_dget ?_ | with_reducible refine we_din ?_ | with_reducible refine we_dnotin ?_ | with_reducible refine wt_or ?_ | with_reducible refine wt_and ?_ | with_reducible refine wt_not ?_ | with_reducible refine wt_b ?_ | with_reducible refine wt_test ?_ | with_reducible refine ws_seq ?_ | with_reducible refine ws_ret ?_ | with_reducible refine ws_if ?_ | with_reducible refine ws_asg ?_ | with_reducible refine ws_next ?_ | with_reducible refine wp_i ?_ | with_reducible refine wr_ib ?_ | with_reducible refine we_eqS ?_ | with_reducible refine we_neS ?_ | with_reducible refine we_eqI ?_ | with_reducible refine we_neI ?_ | with_reducible refine wp_l (Nat.le_of_ble_eq_true rfl) ?_ | with_reducible refine ⟨_, rfl, ?_⟩ | with_reducible refine iteT ?_ | with_reducible refine iteF ?_ | with_reducible refine iteNT ?_ | with_reducible refine iteNF ?_ | with_reducible refine wr_notN (fun u z => nomatch z) ?_ | with_reducible refine wr_isN (fun u z => nomatch z) ?_ | refine (And.intro (a := _ ≤ _) (Nat.le_of_ble_eq_true rfl) ?_) | refine we_var (by rfl) ?_))
      exact ⟨s, c, xs.length, rfl, rfl, by omega, by omega, fun i h0 h1 => wr_ixAnyT h0 h1 hq⟩
def pMixed : Res → List X3.D → (X3.D → Prop) → Prop := fun S ds q => ∃ (s c : Addr) (d : X3.D) (xs : List X3.D), S = srcR s c ∧ ds = [.val (.ref s), d] ∧ (d = .list xs ∨ d = .tup xs) ∧ xs.length < 10000 ∧ ∀ ys : List X3.D, ys.Perm xs → q (.list ys)
def mixW (s c a D : Addr) (H : Hp) (ys : List V) (i : Nat) (H2 : Hp) : Prop := ∃ us vs : List V, H2 D = some (.lst us) ∧ H2 a = some (.lst vs) ∧ us.length = i ∧ (us ++ vs).Perm ys ∧ SrcAt s c H2 ∧ ∀ b o, ¬ (b = s ∨ b = c) → H b = some o → H2 b = some o
theorem ok_law_mixed {f : Addr} {fd : FuncData} (F : Fun K "_law_mixed" "_law_mixed" slaw_mixed f fd) (T : Txt K mg tk) {f1 : Addr} {d1 : FuncData} (D1 : Prom P w K mg base "_law_pick" f1 d1 ["source", "many"] 1 (spD K pPick)) : FnOk P w K mg base CX0 2 f fd ["source", "things"] (spD K (pMixed)) := by
  refine F.ok sclaw_mixed (fun vs H Q E h => ?_) (fun cdv A outer s H vs Q E hr h => ?_)
  · obtain ⟨S, G, ds, q, _, r, ⟨s, c, d, xs, _, rfl, _⟩, _⟩ := h
    exact r.length
  · obtain ⟨S, G, ds, q, w0, r, ⟨s, c, d, xs, rfl, rfl, hd, hl, hq⟩, k⟩ := h
    refine ⟨_, (pss_cons (ps_set (i := 2) sclaw_mixed.nd rfl (Or.inr rfl) (pe_callTy (r := rLists K) call_list_of (by rfl) T.nlist (by decide +kernel) (pa_cons (pv 1) pa_nil)))
      (pss_one (ps_ret (pe_lc (own := [("lap", 3)]) (g := gName 3)  (tt := tYes) rfl sclaw_mixed.nd (pi_range1 (by rfl) T.nrange (pa_cons (pe_callB (r := rCount K) call_len (by rfl) T.nlen PySem.boot_len (pa_cons (pv 2) pa_nil)) pa_nil)) (blkOk_by (N := ["source", "things", "rest", "lap"]) (sc := defScope slaw_mixed) (by decide +kernel)) (fun _ _ _ _ _ => (pg_name (i := 3) sclaw_mixed.nd rfl (Or.inl rfl))) (fun _ _ _ _ _ => pts_nil) (fun _ _ _ _ _ => (show PE _ _ (tBM K "list" rPopAt _ _) from pe_bm PySem.F.plainAttrs_list PySem.F.slot_list_pop PySem.F.type_list_pop mt_popAt (pv 2) (pa_cons (pe_call D1.F (hr.mono (by decide)) (by rfl) D1.g D1.kp D1.b .nil pass0 (pa_cons (pv 0) (pa_cons (pe_callB (r := rCount K) call_len (by rfl) T.nlen PySem.boot_len (pa_cons (pv 2) pa_nil)) pa_nil))) pa_nil))))))), ?_⟩
    cases r with
    | cons r0 rr =>
    cases rr with
    | cons r1 rr =>
    cases rr
    cases r0
    obtain ⟨p, ys, rfl, hp, dl⟩ : ∃ p ys, ‹V› = .ref p ∧ (SqL K H p ys ∨ SqT K H p ys) ∧ DatL K G ys xs := by
      rcases hd with rfl | rfl
      · cases r1 with
        | list h1 r => exact ⟨_, _, rfl, .inl (SqL.of (w0.le _ _ h1)), r⟩
      · cases r1 with
        | tup h1 r => exact ⟨_, _, rfl, .inr (le_t w0.le h1.sq), r⟩
    have hyl := dl.length
    refine ⟨_, rfl, p, ys, rfl, hp, fun a ha => ?_⟩
    refine ⟨_, rfl, _, ys.length, rfl, .inl ⟨_, SqL.of upd_same, rfl⟩, ys.length, rfl, by omega, by omega, fun D hD => ?_⟩
    rw [Int.toNat_natCast]
    have nfa : ¬ (a = s ∨ a = c) := w0.nfp ha
    have na : a ≠ D := fun z => by
      rw [← z, upd_same] at hD
      cases hD
    have hD0 : H D = none := by
      rw [upd_ne (Ne.symm na)] at hD
      exact hD
    have nfD : ¬ (D = s ∨ D = c) := w0.nfp hD0
    refine lc_range (lo := 0) (n := ys.length) (fun i H2 => mixW s c a D H ys i H2) ?_ ?_ ?_
    · refine ⟨[], ys, upd_same, by rw [upd_ne na, upd_same], rfl, .refl _, ?_, fun b o nb e => ?_⟩
      · exact (srcR s c).loc H _ (fun b fb => by rw [upd_ne (fun z => nfD (by rw [← z]; exact fb)), upd_ne (fun z => nfa (by rw [← z]; exact fb))]) w0.src
      · rw [upd_ne (ne_of_none e hD0), upd_ne (ne_of_none e ha)]
        exact e
    · rintro i H2 hi ⟨us, vs, hD2, ha2, hlen, hperm, sa, fr⟩
      have hvl : vs.length + i = ys.length := by
        have := hperm.length_eq
        simp at this
        omega
      refine ⟨rfl, ?_⟩
      unfold tYes
      dsimp only
      rw [if_pos rfl]
      refine ⟨_, rfl, .inl ⟨rfl, _, SqL.of ha2⟩, ?_⟩
      refine ⟨_, rfl, _, rfl, _, vs.length, rfl, .inl ⟨_, SqL.of ha2, rfl⟩, ?_⟩
      have wH : Wld (srcR s c) G H2 := ⟨fun b o e => fr b o (fun z => by rw [w0.sep b z] at e; cases e) (w0.le b o e), sa, w0.sep⟩
      refine ⟨srcR s c, G, [.val (.ref s), .int (vs.length : Nat)], fun d => ∃ j : Int, d = .int j ∧ 0 ≤ j ∧ j < vs.length, wH, .cons (.val _) (.cons (.int _) .nil), ⟨s, c, _, rfl, rfl, by omega, by omega, fun j h0 h1 => ⟨j, rfl, h0, h1⟩⟩, ?_⟩
      rintro v d G' H3 st dt ⟨j, rfl, h0, h1⟩
      cases dt
      have hD3 := st.hh _ _ nfD hD2
      have ha3 := st.hh _ _ nfa ha2
      have hj : j.toNat < vs.length := by omega
      refine ⟨a, vs, j, j.toNat, vs[j.toNat], rfl, rfl, ha3, by omega, by omega, seqIx h0 h1, List.getElem?_eq_getElem hj, ?_⟩
      refine ⟨us, by rw [upd_ne (Ne.symm na)]; exact hD3, by rw [hlen]; exact Nat.lt_of_lt_of_le (Nat.lt_trans hi (by omega : ys.length < 100000)) (by decide), us ++ [vs[j.toNat]], vs.eraseIdx j.toNat, upd_same, by rw [upd_ne na, upd_same], by simp [hlen], ?_, ?_, fun b o nb e => ?_⟩
      · refine List.Perm.trans ?_ hperm
        rw [List.append_assoc]
        exact List.Perm.append_left _ (perm_erase hj)
      · exact (srcR s c).loc H3 _ (fun b fb => by rw [upd_ne (fun z => nfD (by rw [← z]; exact fb)), upd_ne (fun z => nfa (by rw [← z]; exact fb))]) st.w.src
      · rw [upd_ne (ne_of_none e hD0), upd_ne (ne_of_none e ha)]
        exact st.hh b o nb (fr b o nb e)
    · rintro H2 ⟨us, vs, hD2, ha2, hlen, hperm, sa, fr⟩
      have hv0 : vs = [] := by
        have := hperm.length_eq
        simp at this
        exact List.length_eq_zero_iff.mp (by omega)
      subst hv0
      rw [List.append_nil] at hperm
      obtain ⟨zs, hz, dz⟩ := DatL.perm hperm dl
      have gD : G D = none := w0.le.none hD0
      have st : Stp (srcR s c) G H G H2 := ⟨Le.refl _, fr, fun _ _ e => .inl e, ⟨fun b o e => fr b o (fun z => by rw [w0.sep b z] at e; cases e) (w0.le b o e), sa, w0.sep⟩⟩
      exact k _ _ (upd G D (.lst us)) H2 (st.gel gD hD0 hD2 nfD) (.list upd_same (dz.mono (Le.new gD))) (hq zs hz)
end
end Tk

set_option Elab.async false
set_option linter.all false
set_option maxRecDepth 100000
set_option maxHeartbeats 4000000
namespace X3
open PySem L2
theorem wf_dnew {K : PySem.W.Frag} {S : Res} {ρ : Rho} {Q : M → Prop} (q : Q (.dict [])) : WF K S tDNewK ρ Q := fun σ G H k w sl c p hp => c p (.dict []) _ G _ (.junk w (Le.new hp)) hp (w.fresh hp) upd_same ⟨w.fresh hp, _, upd_same, .nil⟩ q
end X3
namespace Tk
open PySem L2 X3
abbrev splaces_of : Stmt := topS 2
theorem scplaces_of : FnScope ["order", "place", "name"] ["order"] (defScope splaces_of) := ⟨rfl, rfl, rfl, by decide +kernel, rfl, by decide +kernel, by decide +kernel⟩

theorem idxOf_first {x : Str} : ∀ {l : List Str} {m : Nat}, m < l.idxOf x → l[m]? ≠ some x
  | a :: l, m, h => by
    rw [List.idxOf_cons] at h
    by_cases e : a = x
    · subst e
      simp at h
    · have e' : (a == x) = false := by simpa using e
      rw [e'] at h
      cases m with
      | zero => simpa using e
      | succ m =>
        rw [List.getElem?_cons_succ]
        exact idxOf_first (by simpa using h)
theorem idxOf_at {x : Str} {l : List Str} (h : x ∈ l) : l[l.idxOf x]? = some x := by
  have hlt := List.idxOf_lt_length_of_mem h
  rw [List.getElem?_eq_getElem hlt, List.getElem_idxOf]
theorem idxOf_get {o : List Str} {x : Str} {j : Nat} (nd : o.Nodup) (h : o[j]? = some x) : o.idxOf x = j := by
  obtain ⟨hj, e⟩ := List.getElem?_eq_some_iff.mp h
  have h1 := idxOf_at (List.mem_of_getElem? h)
  obtain ⟨hk, e2⟩ := List.getElem?_eq_some_iff.mp h1
  exact (List.getElem_inj nd).mp (e2.trans e.symm)
theorem cut_to {xs : List X3.D} {n : Nat} : cutD xs none (some (n : Int)) = xs.take n := by
  unfold cutD
  rw [HT.sIx_none, HT.sIx_nat]
  simp
theorem cut_from {xs : List X3.D} {n : Nat} : cutD xs (some (n : Int)) none = xs.drop n := by
  unfold cutD
  rw [HT.sIx_none, HT.sIx_nat]
  by_cases h : n ≤ xs.length
  · rw [Nat.min_eq_left h, List.take_of_length_le (by simp)]
  · rw [Nat.min_eq_right (by omega), List.drop_eq_nil_of_le (Nat.le_refl _), List.drop_eq_nil_of_le (by omega)]
    simp
theorem getK_none {kvs : List (Key × X3.D)} {k : Key} (h : k ∉ kvs.map (·.1)) : getK kvs k = none := by
  cases e : getK kvs k with
  | none => rfl
  | some v => exact absurd (getK_pairs.mp (by rw [e]; rfl)) h
def PlOk (o : List Str) (kvs : List (Key × X3.D)) : Prop := ∀ n ∈ o, getK kvs (.inr n) = some (.int (o.idxOf n : Nat))
def strsD (o : List Str) : X3.D := .tup (o.map .str)
structure NamesOk (ns : List Str) : Prop where
  nd : ns.Nodup
  ok : ∀ n ∈ ns, WordOk n
theorem letters_small : ∀ c ∈ cLETTERS.cps.toList, c < 1114112 := by decide +kernel
theorem digits_small : ∀ c ∈ cDIGITS.cps.toList, c < 1114112 := by decide +kernel
theorem WordOk.small {x : Str} (h : WordOk x) : ∀ c ∈ x.cps.toList, c < 1114112 := fun c hc => (h.all c hc).elim (letters_small c) (digits_small c)
theorem word_lay {k : Nat} {x : Str} (h : WordOk x) : Lay k (.str x) := Lay.str h.small
theorem we_neNil {K : PySem.W.Frag} {S : Res} {Q : X3.D → Prop} {k : Nat} {xs : List X3.D} (h : ∀ d ∈ xs, Lay k d) (hk : k ≤ 60) (q : Q (.bl (!xs.isEmpty))) : WR2 K S (rNeA K) (.list xs) (.list []) Q := by
  refine we_neD ((Lay.list h).eq (Lay.list (k := 0) (ds := []) fun d z => (by cases z)) (by omega) (by omega)) ?_
  cases xs with
  | nil => exact q
  | cons a l => exact q
theorem we_eqNil {K : PySem.W.Frag} {S : Res} {Q : X3.D → Prop} {k : Nat} {xs : List X3.D} (h : ∀ d ∈ xs, Lay k d) (hk : k ≤ 60) (q : Q (.bl xs.isEmpty)) : WR2 K S (rEqA K) (.list xs) (.list []) Q := by
  refine we_eqD ((Lay.list h).eq (Lay.list (k := 0) (ds := []) fun d z => (by cases z)) (by omega) (by omega)) ?_
  cases xs with
  | nil => exact q
  | cons a l => exact q
theorem strs_lay {o : List Str} (h : ∀ x ∈ o, WordOk x) : Lay 1 (strsD o) := Lay.tup fun d hd => by
  obtain ⟨x, hx, rfl⟩ := List.mem_map.mp hd
  exact word_lay (h x hx)
theorem eqvAll_strs : ∀ {a b : List Str}, PyData.eqvAll (D.pds (a.map .str)) (D.pds (b.map .str)) = decide (a = b)
  | [], [] => rfl
  | [], _ :: _ => rfl
  | _ :: _, [] => rfl
  | x :: a, y :: b => by
    show (x == y && PyData.eqvAll (D.pds (a.map .str)) (D.pds (b.map .str))) = _
    rw [eqvAll_strs]
    by_cases h : x = y
    · by_cases h2 : a = b
      · rw [decide_eq_true h2, decide_eq_true (by rw [h, h2]), h]
        rw [show (y == y) = true from beq_self_eq_true y]
        rfl
      · rw [decide_eq_false h2, decide_eq_false (fun z => h2 (List.cons.inj z).2), Bool.and_false]
    · rw [show (x == y) = false from beq_false_of_ne h, decide_eq_false (fun z => h (List.cons.inj z).1)]
      rfl
theorem eqv_strs {a b : List Str} : PyData.eqv (strsD a).pd (strsD b).pd = decide (a = b) := eqvAll_strs
theorem erase_map {α β : Type} {f : α → β} : ∀ (l : List α) (k : Nat), (l.map f).eraseIdx k = (l.eraseIdx k).map f
  | [], _ => rfl
  | _ :: _, 0 => rfl
  | a :: l, k + 1 => congrArg (f a :: ·) (erase_map l k)
theorem erase_perm {α : Type} {l : List α} {k : Nat} {x : α} (h : l[k]? = some x) (j : Nat) : ((l.eraseIdx k).take j ++ [x] ++ (l.eraseIdx k).drop j).Perm l := by
  obtain ⟨hk, e⟩ := List.getElem?_eq_some_iff.mp h
  have h1 : (x :: l.eraseIdx k).Perm l := by
    rw [← e]
    exact perm_erase hk
  refine List.Perm.trans ?_ h1
  rw [List.append_assoc, List.singleton_append]
  refine List.perm_middle.trans (.cons _ ?_)
  rw [List.take_append_drop]
theorem iteB {c : Bool} {A B : Prop} (h : c = false) (b : B) : if c = true then A else B := by rw [if_neg (by rw [h]; exact Bool.false_ne_true)]; exact b
theorem iteE {c : Bool} {A B : Prop} (h : c = true) (a : A) : if c = true then A else B := by rw [if_pos h]; exact a
section
variable {P : Program} {w : World} {K : PySem.W.Frag} {mg : Str → Option Value} {tk : Nat → Tok} {base : Heap}
def pPlaces : Res → List X3.D → (X3.D → Prop) → Prop := fun _ ds q => ∃ (o : List Str) (d : X3.D), ds = [d] ∧ (d = .list (o.map .str) ∨ d = strsD o) ∧ o.Nodup ∧ o.length ≤ 1000 ∧ ∀ kvs, PlOk o kvs → q (.dict kvs)
theorem ok_places_of {f : Addr} {fd : FuncData} (F : Fun K "places_of" "places_of" splaces_of f fd) (T : Txt K mg tk) : FnOk P w K mg base CX0 1 f fd ["order"] (spD K (pPlaces)) := by
  refine F.ok scplaces_of (fun vs H Q E h => ?_) (fun cdv A outer s H vs Q E hr h => ?_)
  · obtain ⟨S, G, ds, q, _, r, ⟨o, d0, rfl, hd0, nd, hl, hq⟩, _⟩ := h
    exact r.length
  · obtain ⟨S, G, ds, q, w0, r, ⟨o, d0, rfl, hd0, nd, hl, hq⟩, k⟩ := h
    have hu := hu64 hr
    have hu1 := hu_of hr
    refine ⟨_, (pss_one (ps_ret (pe_dc (own := [("place", 1), ("name", 2)]) (g := gTup K 2 (gCons (gName 1) (gCons (gName 2) gNil))) (tt := tYes) rfl scplaces_of.nd (pi_or (pi_enum (by rfl) T.nenumerate (pa_cons (pv 0) pa_nil)) (pi_enumT (by rfl) T.nenumerate (pa_cons (pv 0) pa_nil))) (blkOk_by (N := ["order", "place", "name"]) (sc := defScope splaces_of) (by decide +kernel)) (fun _ _ _ _ _ => (pg_tup rfl (pgs_cons (pg_name (i := 1) scplaces_of.nd rfl (Or.inl rfl)) (pgs_cons (pg_name (i := 2) scplaces_of.nd rfl (Or.inl rfl)) pgs_nil)))) (fun _ _ _ _ _ => pts_nil) (fun _ _ _ _ _ => (pv 2)) (fun _ _ _ _ _ => (pv 1))))), ?_⟩
    refine body_of w0 r k ?_
    refine ws_ret (we_dc (is := [1, 2]) (fun pre out => out.length ≤ pre.length ∧ ∀ i < pre.length, ∀ n, o[i]? = some n → getK out (.inr n) = some (.int (i : Nat))) (fun i hi => by simpa using hi) (wi_imp (P' := fun ds => ds = enumD (o.map .str)) ?_ ?_))
    · rcases hd0 with rfl | rfl
      · exact wi_or1 <| wi_enumL <| wa_cons <| we_var (by rfl) <| wa_nil ⟨_, rfl, rfl⟩
      · exact wi_or2 <| wi_enumT <| wa_cons <| we_var (by rfl) <| wa_nil ⟨_, rfl, rfl⟩
    rintro _ rfl
    refine ⟨⟨Nat.le_refl _, fun i hi => absurd hi (Nat.not_lt_zero _)⟩, ?_, ?_⟩
    · rintro pre d post out hd ⟨hlen, hin⟩
      obtain ⟨y, hy, rfl⟩ := enum_split hd
      rw [List.getElem?_map] at hy
      obtain ⟨n, hn, rfl⟩ := Option.map_eq_some_iff.mp hy
      have hlt := (List.getElem?_eq_some_iff.mp hn).1
      refine wg_wtup rfl (wgs_cons (wg_name (wgs_cons (wg_name (wgs_nil (wt_yes ?_))))))
      rw [if_pos rfl]
      refine we_var (by rfl) (we_var (by rfl) ⟨.inr n, rfl, by omega, Nat.le_trans (putD_len _ _ _) (by simp; omega), fun i hi m hm => ?_⟩)
      rw [getK_put]
      by_cases e : i = pre.length
      · subst e
        rw [hn] at hm
        cases hm
        rw [if_pos rfl]
      · have hi' : i < pre.length := by
          simp at hi
          omega
        have ne : ¬ (Sum.inr m : Key) = .inr n := fun z => by
          have z' := Sum.inr.inj z
          subst z'
          have h1 := List.getElem?_eq_some_iff.mp hm
          have h2 := List.getElem?_eq_some_iff.mp hn
          obtain ⟨a1, a2⟩ := h1
          obtain ⟨b1, b2⟩ := h2
          exact e ((List.getElem_inj nd).mp (a2.trans b2.symm))
        rw [if_neg ne]
        exact hin i hi' m hm
    · rintro out ⟨_, hin⟩
      refine hq out fun n hn => ?_
      have hlt := List.idxOf_lt_length_of_mem hn
      exact hin _ (by rw [enumD_len, List.length_map]; exact hlt) n (by rw [List.getElem?_eq_getElem hlt, List.getElem_idxOf])
end
end Tk

set_option Elab.async false
set_option linter.all false
set_option maxRecDepth 100000
set_option maxHeartbeats 4000000
namespace Tk
open PySem L2 X3
abbrev slaw_names : Stmt := topS 13
theorem sclaw_names : FnScope ["source", "many", "shift", "names", "tails", "k", "letter"] ["source", "many"] (defScope slaw_names) := ⟨rfl, rfl, rfl, by decide +kernel, rfl, by decide +kernel, by decide +kernel⟩

/-! ### drawn names -/
def dg (m : Nat) : Str := cutS (Str.ofString (toString ((100 : Int) + (m : Nat)))) (some 1) none
theorem dg_all : ∀ m < 100, (dg m).cps.toList.length = 2 ∧ (∀ c ∈ (dg m).cps.toList, digit c) ∧ (dg m).cps.toList = [48 + m / 10, 48 + m % 10] := by decide +kernel
theorem dg_inj {m n : Nat} (hm : m < 100) (hn : n < 100) (h : dg m = dg n) : m = n := by
  have h1 := (dg_all m hm).2.2
  have h2 := (dg_all n hn).2.2
  rw [h, h2] at h1
  simp at h1
  omega
def tailsS : List Str := ["", "", "", "k", "kkkkkkkkk"]
theorem tails_ok : ∀ t ∈ tailsS, t.cps.toList.length ≤ 9 ∧ ∀ c ∈ t.cps.toList, letter c := by
  intro t ht
  simp only [tailsS, List.mem_cons, List.not_mem_nil, or_false] at ht
  rcases ht with rfl | rfl | rfl | rfl | rfl <;> exact ⟨by decide +kernel, by decide +kernel⟩
def NameAt (sh : Int) (j : Nat) (n : Str) : Prop := ∃ (ch : Nat) (t : Str), letter ch ∧ t ∈ tailsS ∧ n.cps.toList = ch :: ((dg ((sh + 37 * (j : Nat)) % 100).toNat).cps.toList ++ t.cps.toList)
theorem NameAt.word {sh : Int} {j : Nat} {n : Str} (h : NameAt sh j n) : WordOk n := by
  obtain ⟨ch, t, hc, ht, e⟩ := h
  have hm : ((sh + 37 * (j : Nat)) % 100).toNat < 100 := by omega
  obtain ⟨d1, d2, _⟩ := dg_all _ hm
  obtain ⟨t1, t2⟩ := tails_ok t ht
  have hl : n.length = 3 + t.cps.toList.length := by
    rw [cps_len, e, List.length_cons, List.length_append, d1]
    omega
  refine ⟨by omega, by omega, ⟨ch, by rw [e]; rfl, hc⟩, fun c hcm => ?_⟩
  rw [e] at hcm
  rcases List.mem_cons.mp hcm with rfl | hcm
  · exact .inl hc
  · rcases List.mem_append.mp hcm with z | z
    · exact .inr (d2 c z)
    · exact .inl (t2 c z)
theorem NameAt.inj {sh : Int} {i j : Nat} {n : Str} (hi : i < 100) (hj : j < 100) (h1 : NameAt sh i n) (h2 : NameAt sh j n) : i = j := by
  obtain ⟨ch, t, hc, ht, e⟩ := h1
  obtain ⟨ch', t', hc', ht', e'⟩ := h2
  have hm : ((sh + 37 * (i : Nat)) % 100).toNat < 100 := by omega
  have hm' : ((sh + 37 * (j : Nat)) % 100).toNat < 100 := by omega
  rw [e] at e'
  injection e' with _ e2
  have l1 := (dg_all _ hm).1
  have l2 := (dg_all _ hm').1
  have e3 := List.append_inj_left e2 (by rw [l1, l2])
  have := dg_inj hm hm' (str_ext e3)
  omega
theorem names_of {sh : Int} {ns : List Str} (hl : ns.length ≤ 100) (h : ∀ j n, ns[j]? = some n → NameAt sh j n) : NamesOk ns := by
  refine ⟨List.pairwise_iff_getElem.mpr fun i j hi hj hij e => ?_, fun n hn => ?_⟩
  · have h1 := h i _ (List.getElem?_eq_getElem hi)
    have h2 := h j _ (List.getElem?_eq_getElem hj)
    rw [e] at h1
    have := h1.inj (by omega) (by omega) h2
    omega
  · obtain ⟨j, hj, rfl⟩ := List.mem_iff_getElem.mp hn
    exact (h j _ (List.getElem?_eq_getElem hj)).word
theorem atLetter {i : Int} (h0 : 0 ≤ i) (h1 : i < 26) : ∃ ch, atI ("abcdefghijklmnopqrstuvwxyz" : Str).cps.toList i = some ch ∧ letter ch := by
  have hl : ("abcdefghijklmnopqrstuvwxyz" : Str).cps.toList.length = 26 := by decide +kernel
  have hlt : i.toNat < ("abcdefghijklmnopqrstuvwxyz" : Str).cps.toList.length := by omega
  have e : ((i.toNat : Nat) : Int) = i := by omega
  refine ⟨("abcdefghijklmnopqrstuvwxyz" : Str).cps.toList[i.toNat], ?_, List.getElem_mem hlt⟩
  have := atI_nat (List.getElem?_eq_getElem hlt)
  rw [e] at this
  exact this
theorem str_len100 : ∀ m < 100, (Str.ofString (toString ((100 : Int) + (m : Nat)))).length ≤ 100000 := by decide +kernel
theorem perm_map_inv {α β : Type} {f : α → β} {ws ys : List β} (p : ws.Perm ys) : ∀ {l : List α}, ws = l.map f → ∃ zs : List α, zs.Perm l ∧ ys = zs.map f := by
  induction p with
  | nil => exact fun {l} h => ⟨l, .refl _, h⟩
  | cons x _ ih =>
    intro l h
    cases l with
    | nil => cases h
    | cons a l =>
      injection h with h1 h2
      obtain ⟨zs, hp, hz⟩ := ih h2
      exact ⟨a :: zs, .cons _ hp, by rw [List.map_cons, hz, h1]⟩
  | swap x y l' =>
    intro l h
    match l, h with
    | a :: b :: l, h =>
      injection h with h1 h2
      injection h2 with h2 h3
      exact ⟨b :: a :: l, .swap _ _ _, by rw [List.map_cons, List.map_cons, h1, h2, h3]⟩
  | trans _ _ ih1 ih2 =>
    intro l h
    obtain ⟨zs, hp, hz⟩ := ih1 h
    obtain ⟨us, hp2, hu⟩ := ih2 hz
    exact ⟨us, hp2.trans hp, hu⟩
/-- what a mixing gives of things of one kind -/
theorem mixed_map {α : Type} {f : α → X3.D} {ys : List X3.D} {l : List α} (p : ys.Perm (l.map f)) : ∃ zs : List α, zs.Perm l ∧ ys = zs.map f := perm_map_inv p.symm rfl
def wordB (x : Str) : Bool := decide (1 ≤ x.length) && decide (x.length ≤ 12) && (match x.cps.toList with
  | [] => false
  | c :: _ => decide (letter c)) && x.cps.toList.all fun c => decide (letter c) || decide (digit c)
theorem wordB_ok {x : Str} (h : wordB x = true) : WordOk x := by
  unfold wordB at h
  simp only [Bool.and_eq_true, decide_eq_true_eq] at h
  obtain ⟨⟨⟨h1, h2⟩, h3⟩, h4⟩ := h
  refine ⟨h1, h2, ?_, fun c hc => ?_⟩
  · cases e : x.cps.toList with
    | nil =>
      rw [e] at h3
      cases h3
    | cons c l =>
      rw [e] at h3
      exact ⟨c, rfl, of_decide_eq_true h3⟩
  · have := List.all_eq_true.mp h4 c hc
    simpa using this
theorem names_take {l zs : List Str} (n : Nat) (hp : zs.Perm l) (nd : l.Nodup) (ok : ∀ x ∈ l, WordOk x) : NamesOk (zs.take n) :=
  ⟨(hp.nodup_iff.mpr nd).sublist (List.take_sublist _ _), fun x hx => ok x (hp.mem_iff.mp ((List.take_sublist _ _).mem hx))⟩
theorem rng0 (n : Nat) : rng 0 n = (List.range n).map fun i => X3.D.int (i : Nat) := by
  unfold rng
  refine List.map_congr_left fun i _ => ?_
  rw [Int.zero_add]
section
variable {P : Program} {w : World} {K : PySem.W.Frag} {mg : Str → Option Value} {tk : Nat → Tok} {base : Heap}
def pNames0 : Res → List X3.D → (X3.D → Prop) → Prop := fun S ds q => ∃ (s c : Addr) (many : Nat), S = srcR s c ∧ ds = [.val (.ref s), .int (many : Nat)] ∧ many ≤ 100 ∧ ∀ ns : List Str, ns.length = many → NamesOk ns → q (.list (ns.map .str))
theorem ok_law_names {f : Addr} {fd : FuncData} (F : Fun K "_law_names" "_law_names" slaw_names f fd) (T : Txt K mg tk) {f1 : Addr} {d1 : FuncData}
    (D1 : Prom P w K mg base "_law_pick" f1 d1 ["source", "many"] 1 (spD K (pPick))) : FnOk P w K mg base CX0 2 f fd ["source", "many"] (spD K (pNames0)) := by
  refine F.ok sclaw_names (fun vs H Q E h => ?_) (fun cdv A outer s H vs Q E hr h => ?_)
  · obtain ⟨S, G, ds, q, _, r, ⟨s, c, many, rfl, rfl, hm, hq⟩, _⟩ := h
    exact r.length
  · obtain ⟨S, G, ds, q, w0, r, ⟨s, c, many, rfl, rfl, hm, hq⟩, k⟩ := h
    have hu := hu64 hr
    have hu1 := hu_of hr
    refine ⟨_, (pss_cons (ps_par3 rfl sclaw_names.nd (i := 2) (j := 3) (l := 4) rfl rfl rfl (by decide) (by decide) (by decide) rfl rfl rfl (pa_cons (pe_call D1.F (hr.mono (by decide)) (by rfl) D1.g D1.kp D1.b .nil pass0 (pa_cons (pv 0) (pa_cons pe_int pa_nil))) (pa_cons (pe_lst pa_nil) (pa_cons (pe_lst (pa_cons pe_str (pa_cons pe_str (pa_cons pe_str (pa_cons pe_str (pa_cons pe_str pa_nil)))))) pa_nil))) rfl)
      (pss_cons (ps_for PassesOwn.never rfl (pi_range1 (by rfl) T.nrange (pa_cons (pv 1) pa_nil)) (pg_name (i := 5) sclaw_names.nd rfl (Or.inl rfl)) (pss_cons (ps_set (i := 6) sclaw_names.nd rfl (Or.inl rfl) (pe_ix (r := rIx K) ix_seq pe_str (pe_call D1.F (hr.mono (by decide)) (by rfl) D1.g D1.kp D1.b .nil pass0 (pa_cons (pv 0) (pa_cons pe_int pa_nil))) (fun _ _ => rfl)))
      (pss_one (ps_expr (show PE _ _ (tBM K "list" rAppend _ _) from pe_bm PySem.F.plainAttrs_list PySem.F.slot_list_append PySem.F.type_list_append mt_append (pv 3) (pa_cons (pe_op op_plus (pe_op op_plus (pv 6) (pe_slice (r := rSlS) sl_str (pe_callTy (r := rStrI) call_strI (by rfl) T.nstr PyProof.Rows.boot_str (pa_cons (pe_op op_plus pe_int (pe_op op_mod (pe_callTy call_int1 (by rfl) T.nint PyProof.Rows.boot_int (pa_cons (pe_op op_plus (pv 2) (pe_op op_times pe_int (pv 5))) pa_nil)) pe_int)) pa_nil)) (po_some pe_int) po_none)) (pe_ix (r := rIx K) ix_seq (pv 4) (pe_call D1.F (hr.mono (by decide)) (by rfl) D1.g D1.kp D1.b .nil pass0 (pa_cons (pv 0) (pa_cons pe_int pa_nil))) (fun _ _ => rfl))) pa_nil))))))
      (pss_one (ps_ret (pv 3))))), ?_⟩
    refine body_of w0 r k ?_

    refine ws_seq (ws_par3N (by decide) (Nat.le_of_ble_eq_true rfl) ?_)
    refine we_call (wa_cons (we_var (by rfl) (wa_cons (we_int (wa_nil ⟨s, c, 100, rfl, rfl, by decide, by decide, fun sh sh0 sh1 => ?_⟩)))))
    repeat (first | (first | with_reducible refine we_op ?_ | with_reducible refine we_lst ?_ | with_reducible refine wa_cons ?_ | with_reducible refine wa_nil ?_ | with_reducible refine we_cb ?_ | with_reducible refine we_tup ?_ | with_reducible refine we_un ?_ | with_reducible refine we_int ?_ | with_reducible refine we_str ?_ | with_reducible refine we_bl ?_ | with_reducible refine we_non ?_ | with_reducible refine we_val ?_ | with_reducible refine we_chain ?_ | with_reducible refine we_andV ?_ | with_reducible refine we_orV ?_ | with_reducible refine we_notV ?_ | with_reducible refine we_if ?_ | with_reducible refine we_fld ?_ | with_reducible refine we_dget ?_ | with_reducible refine we_din ?_ | with_reducible refine we_dnotin ?_ | with_reducible refine wt_or ?_ | with_reducible refine wt_and ?_ | with_reducible refine wt_not ?_ | with_reducible refine wt_b ?_ | with_reducible refine wt_test ?_ | with_reducible refine wp_i ?_ | with_reducible refine wr_ib ?_ | with_reducible refine we_eqS ?_ | with_reducible refine we_neS ?_ | with_reducible refine we_eqI ?_ | with_reducible refine we_neI ?_ | with_reducible refine wp_l (Nat.le_of_ble_eq_true rfl) ?_ | with_reducible refine ⟨_, rfl, ?_⟩ | with_reducible refine iteT ?_ | with_reducible refine iteF ?_ | with_reducible refine iteNT ?_ | with_reducible refine iteNF ?_ | with_reducible refine wr_notN (fun u z => nomatch z) ?_ | with_reducible refine wr_isN (fun u z => nomatch z) ?_ | refine (And.intro (a := _ ≤ _) (Nat.le_of_ble_eq_true rfl) ?_) | refine we_var (by rfl) ?_))
    refine ws_seq (ws_rng (is := [5]) many (fun i ρ' μ' => ∃ x5 x6, ∃ ns : List Str, ρ' = [.dat (.val (.ref s)), .dat (.int (many : Nat)), .dat (.int sh), .own 0, .dat (.list (tailsS.map .str)), x5, x6] ∧ μ' = [.lst (ns.map .str)] ∧ ns.length = i ∧ ∀ j n, ns[j]? = some n → NameAt sh j n) (wi_rng1 (wa_cons (we_var (by rfl) (wa_nil ⟨many, rfl, by omega, by omega, rfl, ⟨_, _, [], rfl, rfl, rfl, fun j n h => by simp at h⟩, ?_, ?_⟩)))))
    · rintro i ρ' μ' hi ⟨x5, x6, ns, rfl, rfl, hlen, hns⟩
      refine wg_name <| ws_seq <| ws_asg <| we_op <| we_str <| we_call <| wa_cons <| we_var (by rfl) <| wa_cons <| we_int <| wa_nil ⟨s, c, 26, rfl, rfl, by decide, by decide, fun li l0 l1 => ?_⟩
      obtain ⟨ch, hat, hch⟩ := atLetter l0 l1
      refine wr_ixS (by decide +kernel) hat ?_
      refine ws_append (j := 0) (by rfl) (by rfl) (by rw [List.length_map]; omega) ?_
      have hm0 : ((sh + 37 * (i : Nat)) % 100).toNat < 100 := by omega
      have hme : (((sh + 37 * (i : Nat)) % 100).toNat : Int) = (sh + 37 * (i : Nat)) % 100 := by omega
      obtain ⟨d1, d2, _⟩ := dg_all _ hm0
      have hdl : (dg ((sh + 37 * (i : Nat)) % 100).toNat).length = 2 := by rw [cps_len]; exact d1
      refine we_op (we_op (we_var (by rfl) (we_slS ?_)))
      refine we_cb <| wa_cons <| we_op <| we_int <| we_op <| we_cb <| wa_cons <| we_op <| we_var (by rfl) <| we_op <| we_int <| we_var (by rfl) <| wr_or1 <| wr_ci (.inl ⟨by decide, by decide⟩) <| wp_i <| wa_nil <| wc_int <| we_int <| wr_ci (by show (0 : Int) < 100; decide) <| wp_i <| wa_nil <| wc_strI (log_small (by omega) (by omega)) ?_
      rw [← hme]
      refine wo_some (we_int ⟨_, rfl, wo_none ⟨_, rfl, str_len100 _ hm0, wp_s ?_ ?_⟩⟩)
      · show (1 : Nat) + (dg _).length ≤ 100000
        omega
      refine we_op <| we_var (by rfl) <| we_call <| wa_cons <| we_var (by rfl) <| wa_cons <| we_int <| wa_nil ⟨s, c, 5, rfl, rfl, by decide, by decide, fun ti t0 t1 => wr_ixAny (ds := tailsS.map .str) t0 t1 fun td htd => ?_⟩
      obtain ⟨t, ht, rfl⟩ := List.mem_map.mp htd
      obtain ⟨t1, t2⟩ := tails_ok t ht
      refine wp_s ?_ ?_
      · rw [cps_len, cps_app, List.length_append, cps_len t]
        show (1 : Nat) + (dg ((sh + 37 * (i : Nat)) % 100).toNat).cps.toList.length + t.cps.toList.length ≤ 100000
        omega
      refine ⟨_, _, ns ++ [(⟨#[ch]⟩ ++ dg ((sh + 37 * (i : Nat)) % 100).toNat) ++ t], rfl, by simp [dg], by simp [hlen], fun j n hj => ?_⟩
      by_cases hlt : j < ns.length
      · rw [List.getElem?_append_left hlt] at hj
        exact hns j n hj
      · rw [List.getElem?_append_right (by omega)] at hj
        have hj0 : j - ns.length = 0 := by
          by_cases z : j - ns.length = 0
          · exact z
          · rw [List.getElem?_eq_none (by simp; omega)] at hj
            cases hj
        rw [hj0] at hj
        have hn : _ = n := Option.some.inj hj
        have hji : j = i := by omega
        subst hn hji
        exact ⟨ch, t, hch, ht, by rw [cps_app, cps_app]; rfl⟩
    · rintro ρ' μ' ⟨x5, x6, ns, rfl, rfl, hlen, hns⟩
      refine ws_ret ?_
      refine we_var (by rfl) ?_
      exact hq ns hlen (names_of (by omega) hns)
end
end Tk

set_option Elab.async false
set_option linter.all false
set_option maxRecDepth 100000
set_option maxHeartbeats 4000000
namespace Tk
open PySem L2 X3
/-! ### least sets that hit all of some groups -/
def Hit (Gs : List (List Str)) (T : List Str) : Prop := ∀ g ∈ Gs, ∃ x ∈ g, x ∈ T
/-- each member is alone in some group -/
def Priv (Gs : List (List Str)) (T : List Str) : Prop := ∀ x ∈ T, ∃ g ∈ Gs, x ∈ g ∧ ∀ y ∈ T, y ∈ g → y = x
structure MinH (Gs : List (List Str)) (T : List Str) : Prop where
  hit : Hit Gs T
  pr : Priv Gs T
def Same (a b : List Str) : Prop := ∀ x, x ∈ a ↔ x ∈ b
theorem Same.symm {a b : List Str} (h : Same a b) : Same b a := fun x => (h x).symm
theorem Same.trans {a b c : List Str} (h : Same a b) (g : Same b c) : Same a c := fun x => (h x).trans (g x)
theorem MinH.same {Gs : List (List Str)} {a b : List Str} (s : Same a b) (h : MinH Gs a) : MinH Gs b :=
  ⟨fun g hg => let ⟨x, h1, h2⟩ := h.hit g hg; ⟨x, h1, (s x).mp h2⟩, fun x hx => let ⟨g, h1, h2, h3⟩ := h.pr x ((s x).mpr hx); ⟨g, h1, h2, fun y hy hg => h3 y ((s y).mpr hy) hg⟩⟩
/-- the program's test -/
def privB (Gs : List (List Str)) (T : List Str) : Bool := T.all fun x => Gs.any fun g => decide (T.filter (fun y => decide (y ∈ g)) = [x])
theorem privB_iff {Gs : List (List Str)} {T : List Str} (nd : T.Nodup) : privB Gs T = true ↔ Priv Gs T := by
  unfold privB Priv
  rw [List.all_eq_true]
  refine forall_congr' fun x => forall_congr' fun hx => ?_
  rw [List.any_eq_true]
  constructor
  · rintro ⟨g, hg, e⟩
    have e' := of_decide_eq_true e
    have m : x ∈ T.filter fun y => decide (y ∈ g) := by rw [e']; simp
    refine ⟨g, hg, of_decide_eq_true (List.mem_filter.mp m).2, fun y hy hyg => ?_⟩
    have m2 : y ∈ T.filter fun y => decide (y ∈ g) := List.mem_filter.mpr ⟨hy, decide_eq_true hyg⟩
    rw [e'] at m2
    exact List.mem_singleton.mp m2
  · rintro ⟨g, hg, h1, h2⟩
    refine ⟨g, hg, decide_eq_true ?_⟩
    have p : (T.filter fun y => decide (y ∈ g)).Perm [x] := (List.perm_ext_iff_of_nodup (nd.sublist List.filter_sublist) (List.nodup_cons.mpr ⟨by simp, List.nodup_nil⟩)).mpr fun y => by
      rw [List.mem_filter, decide_eq_true_iff, List.mem_singleton]
      exact ⟨fun z => h2 y z.1 z.2, fun z => by rw [z]; exact ⟨hx, h1⟩⟩
    exact List.perm_singleton.mp p
/-- one group more -/
def growH (Gs : List (List Str)) (g : List Str) (h : List Str) : List (List Str) := if h.any (fun x => decide (x ∈ g)) = true then [h] else (g.map fun x => h ++ [x]).filter (privB (Gs ++ [g]))
def hitsFrom : List (List Str) → List (List Str) → List (List Str) → List (List Str)
  | _, [], L => L
  | Gs, g :: r, L => hitsFrom (Gs ++ [g]) r (L.flatMap (growH Gs g))
def hitsL (Gs : List (List Str)) : List (List Str) := hitsFrom [] Gs [[]]
structure HitsOk (Gs : List (List Str)) (L : List (List Str)) : Prop where
  ok : ∀ h ∈ L, h.Nodup ∧ MinH Gs h
  all : ∀ T : List Str, T.Nodup → MinH Gs T → ∃ h ∈ L, Same h T
  one : L.Pairwise fun a b => ¬ Same a b
theorem hits_start : HitsOk [] [[]] := by
  refine ⟨fun h hh => ?_, fun T _ hm => ⟨[], by simp, fun x => ⟨fun z => (by cases z), fun z => ?_⟩⟩, List.pairwise_singleton _ _⟩
  · rw [List.mem_singleton.mp hh]
    exact ⟨List.nodup_nil, fun g hg => (by cases hg), fun x hx => (by cases hx)⟩
  · obtain ⟨g, hg, _⟩ := hm.pr x z
    cases hg
section
variable {Gs : List (List Str)} {g : List Str}
theorem any_hit {h : List Str} : h.any (fun x => decide (x ∈ g)) = true ↔ ∃ x ∈ h, x ∈ g := by
  rw [List.any_eq_true]
  exact ⟨fun ⟨x, a, b⟩ => ⟨x, a, of_decide_eq_true b⟩, fun ⟨x, a, b⟩ => ⟨x, a, decide_eq_true b⟩⟩
theorem mem_grow {h t : List Str} (hn : h.Nodup) : t ∈ growH Gs g h ↔ ((∃ x ∈ h, x ∈ g) ∧ t = h) ∨ ((¬ ∃ x ∈ h, x ∈ g) ∧ ∃ x ∈ g, t = h ++ [x] ∧ Priv (Gs ++ [g]) t) := by
  unfold growH
  by_cases c : ∃ x ∈ h, x ∈ g
  · rw [if_pos (any_hit.mpr c)]
    simp [c]
  · rw [if_neg (fun z => c (any_hit.mp z)), List.mem_filter, List.mem_map]
    constructor
    · rintro ⟨⟨x, hx, rfl⟩, e⟩
      refine .inr ⟨c, x, hx, rfl, (privB_iff ?_).mp e⟩
      exact List.nodup_append.mpr ⟨hn, by simp, fun a ha b hb e => c ⟨a, ha, by rw [e, List.mem_singleton.mp hb]; exact hx⟩⟩
    · rintro (⟨z, _⟩ | ⟨_, x, hx, rfl, hp⟩)
      · exact absurd z c
      · refine ⟨⟨x, hx, rfl⟩, (privB_iff ?_).mpr hp⟩
        exact List.nodup_append.mpr ⟨hn, by simp, fun a ha b hb e => c ⟨a, ha, by rw [e, List.mem_singleton.mp hb]; exact hx⟩⟩
theorem grow_ok {h t : List Str} (hn : h.Nodup) (hm : MinH Gs h) (ht : t ∈ growH Gs g h) : t.Nodup ∧ MinH (Gs ++ [g]) t := by
  rcases (mem_grow hn).mp ht with ⟨⟨x, hx, hxg⟩, rfl⟩ | ⟨c, x, hx, rfl, hp⟩
  · refine ⟨hn, fun g' hg' => ?_, fun y hy => ?_⟩
    · rcases List.mem_append.mp hg' with z | z
      · exact hm.hit g' z
      · rw [List.mem_singleton.mp z]
        exact ⟨x, hxg, hx⟩
    · obtain ⟨g', h1, h2⟩ := hm.pr y hy
      exact ⟨g', List.mem_append_left _ h1, h2⟩
  · refine ⟨List.nodup_append.mpr ⟨hn, by simp, fun a ha b hb e => c ⟨a, ha, by rw [e, List.mem_singleton.mp hb]; exact hx⟩⟩, fun g' hg' => ?_, hp⟩
    rcases List.mem_append.mp hg' with z | z
    · obtain ⟨y, h1, h2⟩ := hm.hit g' z
      exact ⟨y, h1, List.mem_append_left _ h2⟩
    · rw [List.mem_singleton.mp z]
      exact ⟨x, hx, by simp⟩
/-- each least set comes out -/
theorem grow_all {L : List (List Str)} (H : HitsOk Gs L) {T : List Str} (nd : T.Nodup) (hm : MinH (Gs ++ [g]) T) : ∃ t ∈ L.flatMap (growH Gs g), Same t T := by
  by_cases all : ∀ x ∈ T, ∃ g' ∈ Gs, x ∈ g' ∧ ∀ y ∈ T, y ∈ g' → y = x
  · obtain ⟨h, hL, hs⟩ := H.all T nd ⟨fun g' hg' => hm.hit g' (List.mem_append_left _ hg'), all⟩
    obtain ⟨x, hxg, hxT⟩ := hm.hit g (by simp)
    exact ⟨h, List.mem_flatMap.mpr ⟨h, hL, (mem_grow (H.ok h hL).1).mpr (.inl ⟨⟨x, (hs x).mpr hxT, hxg⟩, rfl⟩)⟩, hs⟩
  · obtain ⟨x, hx, no⟩ : ∃ x ∈ T, ¬ ∃ g' ∈ Gs, x ∈ g' ∧ ∀ y ∈ T, y ∈ g' → y = x := Classical.byContradiction fun z => all fun x hx => Classical.byContradiction fun q => z ⟨x, hx, q⟩
    obtain ⟨g0, h0, hxg0, only⟩ := hm.pr x hx
    have e0 : g0 = g := by
      rcases List.mem_append.mp h0 with z | z
      · exact absurd ⟨g0, z, hxg0, only⟩ no
      · exact List.mem_singleton.mp z
    rw [e0] at hxg0 only
    have nd' : (T.filter fun y => !decide (y = x)).Nodup := nd.sublist List.filter_sublist
    have mem' : ∀ y, y ∈ (T.filter fun y => !decide (y = x)) ↔ y ∈ T ∧ y ≠ x := fun y => by
      rw [List.mem_filter]
      simp
    have hm' : MinH Gs (T.filter fun y => !decide (y = x)) := by
      refine ⟨fun g' hg' => ?_, fun y hy => ?_⟩
      · obtain ⟨z, hz1, hz2⟩ := hm.hit g' (List.mem_append_left _ hg')
        by_cases e : ∃ y ∈ T, y ∈ g' ∧ y ≠ x
        · obtain ⟨y, y1, y2, y3⟩ := e
          exact ⟨y, y2, (mem' y).mpr ⟨y1, y3⟩⟩
        · have ze : z = x := Classical.byContradiction fun q => e ⟨z, hz2, hz1, q⟩
          rw [ze] at hz1
          exact absurd ⟨g', hg', hz1, fun y hy hyg => Classical.byContradiction fun q => e ⟨y, hy, hyg, q⟩⟩ no
      · obtain ⟨y1, y2⟩ := (mem' y).mp hy
        obtain ⟨g', h1, h2, h3⟩ := hm.pr y y1
        rcases List.mem_append.mp h1 with z | z
        · exact ⟨g', z, h2, fun u hu hug => h3 u ((mem' u).mp hu).1 hug⟩
        · rw [List.mem_singleton.mp z] at h2
          exact absurd (only y y1 h2) y2
    obtain ⟨h, hL, hs⟩ := H.all _ nd' hm'
    have c : ¬ ∃ y ∈ h, y ∈ g := by
      rintro ⟨y, hy, hyg⟩
      obtain ⟨y1, y2⟩ := (mem' y).mp ((hs y).mp hy)
      exact y2 (only y y1 hyg)
    have sT : Same (h ++ [x]) T := fun y => by
      rw [List.mem_append, List.mem_singleton, hs y, mem' y]
      constructor
      · rintro (⟨z, _⟩ | rfl)
        · exact z
        · exact hx
      · intro z
        by_cases q : y = x
        · exact .inr q
        · exact .inl ⟨z, q⟩
    exact ⟨h ++ [x], List.mem_flatMap.mpr ⟨h, hL, (mem_grow (H.ok h hL).1).mpr (.inr ⟨c, x, hxg0, rfl, (hm.same sT.symm).pr⟩)⟩, sT⟩
/-- what comes of two that differ differs -/
theorem grow_ne {h1 h2 t1 t2 : List Str} (n1 : h1.Nodup) (n2 : h2.Nodup) (m1 : MinH Gs h1) (m2 : MinH Gs h2) (ne : ¬ Same h1 h2) (k1 : t1 ∈ growH Gs g h1) (k2 : t2 ∈ growH Gs g h2) : ¬ Same t1 t2 := by
  have mix : ∀ {a b : List Str} {x : Str}, MinH Gs a → MinH Gs b → x ∈ g → (¬ ∃ y ∈ b, y ∈ g) → ¬ Same a (b ++ [x]) := fun {a b x} ma mb hx c s => by
    have hxa : x ∈ a := (s x).mpr (by simp)
    obtain ⟨g', h1, h2, h3⟩ := ma.pr x hxa
    obtain ⟨y, y1, y2⟩ := mb.hit g' h1
    have := h3 y ((s y).mpr (List.mem_append_left _ y2)) y1
    rw [this] at y2
    exact c ⟨x, y2, hx⟩
  rcases (mem_grow n1).mp k1 with ⟨_, rfl⟩ | ⟨c1, x1, hx1, rfl, _⟩
  · rcases (mem_grow n2).mp k2 with ⟨_, rfl⟩ | ⟨c2, x2, hx2, rfl, _⟩
    · exact ne
    · exact mix m1 m2 hx2 c2
  · rcases (mem_grow n2).mp k2 with ⟨_, rfl⟩ | ⟨c2, x2, hx2, rfl, _⟩
    · exact fun s => mix m2 m1 hx1 c1 s.symm
    · intro s
      have e : x1 = x2 := by
        rcases List.mem_append.mp ((s x1).mp (by simp)) with z | z
        · exact absurd ⟨x1, z, hx1⟩ c2
        · exact List.mem_singleton.mp z
      subst e
      refine ne fun y => ⟨fun hy => ?_, fun hy => ?_⟩
      · rcases List.mem_append.mp ((s y).mp (List.mem_append_left _ hy)) with z | z
        · exact z
        · rw [List.mem_singleton.mp z] at hy
          exact absurd ⟨x1, hy, hx1⟩ c1
      · rcases List.mem_append.mp ((s y).mpr (List.mem_append_left _ hy)) with z | z
        · exact z
        · rw [List.mem_singleton.mp z] at hy
          exact absurd ⟨x1, hy, hx1⟩ c2
theorem grow_one {h : List Str} (gn : g.Nodup) : (growH Gs g h).Pairwise fun a b => ¬ Same a b := by
  unfold growH
  by_cases c : h.any (fun x => decide (x ∈ g)) = true
  · rw [if_pos c]
    exact List.pairwise_singleton _ _
  · rw [if_neg c]
    refine List.Pairwise.filter _ (List.pairwise_map.mpr (gn.imp_of_mem fun {a b} ha hb hab s => ?_))
    rcases List.mem_append.mp ((s a).mp (by simp)) with z | z
    · exact c (any_hit.mpr ⟨a, z, ha⟩)
    · exact hab (List.mem_singleton.mp z)
theorem hits_step {L : List (List Str)} (H : HitsOk Gs L) (gn : g.Nodup) : HitsOk (Gs ++ [g]) (L.flatMap (growH Gs g)) := by
  refine ⟨fun t ht => ?_, fun T nd hm => grow_all H nd hm, List.pairwise_flatMap.mpr ⟨fun h _ => grow_one gn, H.one.imp_of_mem fun {a b} ha hb hab x hx y hy => ?_⟩⟩
  · obtain ⟨h, hL, hg⟩ := List.mem_flatMap.mp ht
    exact grow_ok (H.ok h hL).1 (H.ok h hL).2 hg
  · exact grow_ne (H.ok a ha).1 (H.ok b hb).1 (H.ok a ha).2 (H.ok b hb).2 hab hx hy
end
theorem hits_from : ∀ {r Gs L : List (List Str)}, HitsOk Gs L → (∀ g ∈ r, g.Nodup) → HitsOk (Gs ++ r) (hitsFrom Gs r L)
  | [], Gs, L, H, _ => by
    rw [List.append_nil]
    exact H
  | g :: r, Gs, L, H, hr => by
    have h := hits_from (r := r) (hits_step H (hr g (by simp))) fun g' h' => hr g' (List.mem_cons_of_mem _ h')
    rw [List.append_assoc] at h
    exact h
theorem hits_ok {Gs : List (List Str)} (h : ∀ g ∈ Gs, g.Nodup) : HitsOk Gs (hitsL Gs) := hits_from hits_start h
theorem hitsFrom_app : ∀ {a b Gs L : List (List Str)}, hitsFrom Gs (a ++ b) L = hitsFrom (Gs ++ a) b (hitsFrom Gs a L)
  | [], b, Gs, L => by rw [List.append_nil]; rfl
  | g :: a, b, Gs, L => by
    show hitsFrom (Gs ++ [g]) (a ++ b) _ = _
    rw [hitsFrom_app, List.append_assoc]
    rfl
theorem hitsL_snoc {Gs : List (List Str)} {g : List Str} : hitsL (Gs ++ [g]) = (hitsL Gs).flatMap (growH Gs g) := by
  unfold hitsL
  rw [hitsFrom_app]
  rfl
/-! ### how many -/
theorem len_le {α : Type} [DecidableEq α] : ∀ {l m : List α}, l.Nodup → (∀ x ∈ l, x ∈ m) → l.length ≤ m.length
  | [], _, _, _ => Nat.zero_le _
  | a :: l, m, nd, h => by
    obtain ⟨n1, n2⟩ := List.nodup_cons.mp nd
    have ih := len_le (l := l) (m := m.erase a) n2 fun x hx => (List.mem_erase_of_ne (fun (e : x = a) => n1 (by rw [← e]; exact hx))).mpr (h x (List.mem_cons_of_mem _ hx))
    have := List.length_erase_of_mem (h a (by simp))
    have pos := List.length_pos_of_mem (h a (by simp))
    rw [List.length_cons]
    omega
def subsL (ns : List Str) : List (List Str) := ns.foldl (fun L n => L ++ L.map (· ++ [n])) [[]]
theorem subsL_snoc {ns : List Str} {n : Str} : subsL (ns ++ [n]) = subsL ns ++ (subsL ns).map (· ++ [n]) := by simp [subsL, List.foldl_append]
theorem subs_len : ∀ (k : Nat) (ns : List Str), ns.length = k → (subsL ns).length = 2 ^ k
  | 0, ns, h => by
    rw [List.length_eq_zero_iff.mp h]
    rfl
  | k + 1, ns, h => by
    rcases List.eq_nil_or_concat ns with e | ⟨us, y, e⟩
    · rw [e] at h
      cases h
    · rw [List.concat_eq_append] at e
      subst e
      rw [subsL_snoc, List.length_append, List.length_map, subs_len k us (by simp at h; exact h), Nat.pow_succ]
      omega
theorem mem_subs : ∀ (k : Nat) (ns : List Str), ns.length = k → ∀ T, T ∈ subsL ns ↔ T.Sublist ns
  | 0, ns, h, T => by
    rw [List.length_eq_zero_iff.mp h]
    show T ∈ [[]] ↔ _
    rw [List.mem_singleton, List.sublist_nil]
  | k + 1, ns, h, T => by
    rcases List.eq_nil_or_concat ns with e | ⟨us, y, e⟩
    · rw [e] at h
      cases h
    · rw [List.concat_eq_append] at e
      subst e
      have ih := mem_subs k us (by simp at h; exact h)
      rw [subsL_snoc, List.mem_append, List.mem_map]
      constructor
      · rintro (z | ⟨a, ha, rfl⟩)
        · exact ((ih T).mp z).trans (List.sublist_append_left _ _)
        · exact ((ih a).mp ha).append (List.Sublist.refl _)
      · intro s
        obtain ⟨a, b, rfl, h1, h2⟩ := List.sublist_append_iff.mp s
        rcases List.eq_nil_or_concat b with e | ⟨b', z, e⟩
        · rw [e, List.append_nil]
          exact .inl ((ih a).mpr h1)
        · rw [List.concat_eq_append] at e
          rw [e] at h2
          have hl := h2.length_le
          simp at hl
          subst hl
          have hz : z = y := by
            have := h2.mem (show z ∈ [] ++ [z] by simp)
            exact List.mem_singleton.mp this
          rw [e, hz]
          exact .inr ⟨a, (ih a).mpr h1, rfl⟩
theorem subs_nd : ∀ (k : Nat) (ns : List Str), ns.length = k → ns.Nodup → (subsL ns).Nodup
  | 0, ns, h, _ => by
    rw [List.length_eq_zero_iff.mp h]
    exact List.nodup_cons.mpr ⟨by simp, List.nodup_nil⟩
  | k + 1, ns, h, nd => by
    rcases List.eq_nil_or_concat ns with e | ⟨us, y, e⟩
    · rw [e] at h
      cases h
    · rw [List.concat_eq_append] at e
      subst e
      obtain ⟨n1, _, n3⟩ := List.nodup_append.mp nd
      have ih := subs_nd k us (by simp at h; exact h) n1
      rw [subsL_snoc]
      refine List.nodup_append.mpr ⟨ih, List.pairwise_map.mpr (ih.imp fun {a b} hab e => hab (List.append_cancel_right e)), fun a ha b hb e => ?_⟩
      obtain ⟨c, _, rfl⟩ := List.mem_map.mp hb
      rw [e] at ha
      exact n3 y (((mem_subs _ us rfl _).mp ha).mem (show y ∈ c ++ [y] by simp)) y (by simp) rfl
/-- the names of a set in a sequence -/
def canL (ns : List Str) (T : List Str) : List Str := ns.filter fun x => decide (x ∈ T)
theorem canL_same {ns T : List Str} (h : ∀ x ∈ T, x ∈ ns) : Same (canL ns T) T := fun x => by
  unfold canL
  rw [List.mem_filter, decide_eq_true_iff]
  exact ⟨fun z => z.2, fun z => ⟨h x z, z⟩⟩
theorem canL_eq {ns a b : List Str} (s : Same a b) : canL ns a = canL ns b := List.filter_congr fun x _ => decide_eq_decide.mpr (s x)
theorem canL_sub {ns T : List Str} : (canL ns T).Sublist ns := List.filter_sublist
theorem canL_self {ns T : List Str} (nd : ns.Nodup) (h : T.Sublist ns) : canL ns T = T := by
  refine List.Sublist.eq_of_length ?_ ?_ |>.symm
  · have := h.filter (fun x => decide (x ∈ T))
    rw [List.filter_eq_self.mpr fun x hx => decide_eq_true hx] at this
    exact this
  · exact ((List.perm_ext_iff_of_nodup (nd.sublist h) (nd.sublist canL_sub)).mpr fun x => ((canL_same fun x hx => h.mem hx) x).symm).length_eq
theorem hits_few {ns : List Str} {Gs L : List (List Str)} (H : HitsOk Gs L) (hs : ∀ h ∈ L, ∀ x ∈ h, x ∈ ns) : L.length ≤ 2 ^ ns.length := by
  have nd : (L.map (canL ns)).Nodup := List.pairwise_map.mpr (H.one.imp_of_mem fun {a b} ha hb hab e => hab (((canL_same (hs a ha)).symm.trans (by rw [e]; exact fun _ => Iff.rfl)).trans (canL_same (hs b hb))))
  have h := len_le (m := subsL ns) nd fun x hx => by
    obtain ⟨a, _, rfl⟩ := List.mem_map.mp hx
    exact (mem_subs _ ns rfl _).mpr canL_sub
  rw [List.length_map, subs_len _ ns rfl] at h
  exact h
theorem grow_few {Gs : List (List Str)} {g h : List Str} {c : Nat} (hc : g.length ≤ c) (h1 : 1 ≤ c) : (growH Gs g h).length ≤ c := by
  unfold growH
  split
  · exact h1
  · refine Nat.le_trans (List.length_filter_le _ _) ?_
    rw [List.length_map]
    exact hc
theorem flat_few {α β : Type} {f : α → List β} {c : Nat} : ∀ {L : List α}, (∀ x ∈ L, (f x).length ≤ c) → (L.flatMap f).length ≤ L.length * c
  | [], _ => by simp
  | a :: L, h => by
    rw [List.flatMap_cons, List.length_append, List.length_cons, Nat.add_mul, Nat.one_mul]
    have := flat_few fun x hx => h x (List.mem_cons_of_mem _ hx)
    have := h a (by simp)
    omega
theorem hits_in {ns : List Str} {Gs : List (List Str)} (hg : ∀ g ∈ Gs, ∀ x ∈ g, x ∈ ns) {T : List Str} (h : Priv Gs T) : ∀ x ∈ T, x ∈ ns := fun x hx => let ⟨g, h1, h2, _⟩ := h x hx; hg g h1 x h2
end Tk

set_option Elab.async false
set_option linter.all false
set_option maxRecDepth 100000
set_option maxHeartbeats 4000000
namespace X3
open PySem PySem.Spec L2 PyProof.Rows
section
variable {K : PySem.W.Frag} {S : Res} {ρ : Rho} {N : EndsD} {te : TE}
theorem strs_datL {G : Hp} : ∀ {vs : List V} {xs : List Str}, DatL K G vs (xs.map .str) → vs = xs.map .str
  | _, [], h => by
    cases h
    rfl
  | _, x :: xs, h => by
    cases h with
    | cons a r =>
      cases a
      rw [strs_datL r]
      rfl
theorem datL_txts {G : Hp} : ∀ {xs : List Str}, DatL K G (xs.map .str) (xs.map .str)
  | [] => .nil
  | x :: xs => .cons (.str x) datL_txts
/-- xs.append(e), where e reads one's own list, and is a tuple of texts -/
theorem ws_appendT {i : Nat} {ds : List X3.D} (hi : ρ[i]? = some (.own 0)) (hz : ds.length < 100000) (h : WE K S te (view ρ [.lst ds]) fun d => ∃ xs : List Str, d = .tup (xs.map .str) ∧ N.nx ρ [.lst (ds ++ [d])]) :
    WS K S (tDrop (tBM K "list" rAppend (tVar i) (tCons te tNil))) ρ [.lst ds] N := fun G0 H0 σ H E w0 r f => by
  obtain ⟨G, as, r⟩ := r
  obtain ⟨a, ha, hs⟩ := r.own i 0 hi
  obtain ⟨h0, h1, hg, xs, hx, dx⟩ := r.cell 0 a _ ha rfl
  have eas : as = [a] := by
    have hl := r.alen
    match as, hl, ha with
    | [b], _, ha => rw [show b = a from Option.some.inj ha]
  subst eas
  obtain ⟨G1, le, s1, sl, fr⟩ := r.freeze w0
  refine ⟨_, hs, Or.inl ⟨rfl, _, SqL.of hx⟩, ?_⟩
  refine h σ G1 H _ s1.w sl fun v d G' H' s dt q => ?_
  obtain ⟨zs, rfl, q⟩ := q
  have nf := r.nfp w0 (List.mem_of_getElem? ha)
  have hx' : H' a = some (.lst xs) := s.hh a _ nf hx
  have s2 := s1.trans s
  have leG : Le G (fun x => if x = a then none else G' x) := fun b o e => by
    have nb : b ≠ a := fun z => by
      rw [z, hg] at e
      cases e
    show (if b = a then none else G' b) = some o
    rw [if_neg nb]
    exact s.gg b o (le b o e)
  have st : Stp S G0 H0 (fun x => if x = a then none else G' x) H' := by
    refine ⟨r.st.gg.trans leG, s2.hh, fun b o e => ?_, ⟨fun b o e => ?_, s2.w.src, fun b fb => ?_⟩⟩
    · have e' : (if b = a then none else G' b) = some o := e
      by_cases z : b = a
      · rw [if_pos z] at e'
        cases e'
      · rw [if_neg z] at e'
        exact s2.nw b o e'
    · have e' : (if b = a then none else G' b) = some o := e
      by_cases z : b = a
      · rw [if_pos z] at e'
        cases e'
      · rw [if_neg z] at e'
        exact s2.w.le b o e'
    · show (if b = a then none else G' b) = none
      by_cases z : b = a
      · rw [if_pos z]
      · rw [if_neg z]
        exact s2.w.sep b fb
  cases dt with
  | tup hq r2 =>
    rename_i b vs
    have ev := strs_datL r2
    have nb : b ≠ a ∨ ∃ o, K.lookup b = some o := by
      rcases hq.sq with (z | ⟨o, z⟩) | ⟨o, _, _, z, _⟩
      · refine .inl fun e => ?_
        have := s.w.le b _ z
        rw [e, hx'] at this
        cases this
      · refine .inl fun e => ?_
        have := s.w.le b _ z
        rw [e, hx'] at this
        cases this
      · exact .inr ⟨o, z⟩
    have ne : ∀ {u : HO}, G' b = some u → (∀ ys, u ≠ .lst ys) → b ≠ a := fun {u} z nl e => by
      have := s.w.le b _ z
      rw [e, hx'] at this
      exact nl xs (Option.some.inj this).symm
    have dt2 : Dat K (fun x => if x = a then none else G' x) (.ref b) (.tup (zs.map .str)) := by
      refine .tup (xs := vs) ⟨?_, ?_⟩ (by rw [ev]; exact datL_txts)
      · rcases hq.sq with (z | ⟨o, z⟩) | z
        · exact .inl (.inl (by show (if b = a then none else G' b) = _; rw [if_neg (ne z fun _ e => by cases e)]; exact z))
        · exact .inl (.inr ⟨o, by show (if b = a then none else G' b) = _; rw [if_neg (ne z fun _ e => by cases e)]; exact z⟩)
        · exact .inr z
      · exact hq.slim.imp (fun ⟨o, u, z, q⟩ => ⟨o, u, by show (if b = a then none else G' b) = _; rw [if_neg (ne z fun _ e => by cases e)]; exact z, q⟩) id
    have r' : RepG K S G0 H0 (fun x => if x = a then none else G' x) σ H' ρ [.lst ds] [a] := by
      refine ⟨st, r.sl.mono leG, rfl, r.nd, r.own, fun j c m e1 e2 => ?_⟩
      cases j with
      | zero =>
        cases e1
        cases e2
        exact ⟨h0, by rw [hx']; exact Option.some_ne_none _, by show (if a = a then none else G' a) = none; rw [if_pos rfl], xs, hx', dx.mono leG⟩
      | succ j => simp at e1
    obtain ⟨_, _, hg2, ys, hy, hd⟩ := r'.cell 0 a _ rfl rfl
    refine ⟨a, ys, .ref b, rfl, rfl, hy, by rw [hd.length]; exact Nat.lt_of_lt_of_le hz (by decide), ?_⟩
    have r5 := r'.put (j := 0) (m := .lst (ds ++ [.tup (zs.map .str)])) (o := .lst (ys ++ [.ref b])) w0 rfl rfl hg2 ⟨hg2, _, upd_same, hd.append (.cons dt2 .nil)⟩
    exact f.nx _ _ _ _ ⟨_, [a], r5⟩ q
end
end X3
namespace Tk
open PySem L2 X3
abbrev slaw_words : Stmt := topS 14
theorem sclaw_words : FnScope ["source", "many", "way", "some", "k"] ["source", "many"] (defScope slaw_words) := ⟨rfl, rfl, rfl, by decide +kernel, rfl, by decide +kernel, by decide +kernel⟩
abbrev slaw_moved : Stmt := topS 15
theorem sclaw_moved : FnScope ["source", "order", "rest", "k", "name"] ["source", "order"] (defScope slaw_moved) := ⟨rfl, rfl, rfl, by decide +kernel, rfl, by decide +kernel, by decide +kernel⟩
abbrev slaw_near_order : Stmt := topS 16
theorem sclaw_near_order : FnScope ["source", "order", "way", "k", "lap"] ["source", "order"] (defScope slaw_near_order) := ⟨rfl, rfl, rfl, by decide +kernel, rfl, by decide +kernel, by decide +kernel⟩
abbrev slaw_orders : Stmt := topS 17
theorem sclaw_orders : FnScope ["source", "most", "many", "found", "lap"] ["source", "most", "many"] (defScope slaw_orders) := ⟨rfl, rfl, rfl, by decide +kernel, rfl, by decide +kernel, by decide +kernel⟩
abbrev slaw_drawn_side : Stmt := topS 24
theorem sclaw_drawn_side : FnScope ["source"] ["source"] (defScope slaw_drawn_side) := ⟨rfl, rfl, rfl, by decide +kernel, rfl, by decide +kernel, by decide +kernel⟩

def tenS : List Str := ["a", "aa", "aaa", "b", "ab", "ba", "bab", "to", "day", "today"]
def stepS (i : Nat) : Str := ("step" : Str) ++ Str.ofString (toString ((i : Nat) : Int))
def stepsS : List Str := (List.range 49).map fun i => stepS (1 + i)
theorem ten_ok : tenS.all wordB = true := by decide +kernel
theorem ten_nd : tenS.Nodup := by decide +kernel
theorem steps_ok : stepsS.all wordB = true := by decide +kernel
theorem steps_nd : stepsS.Nodup := by decide +kernel
theorem step_len : ∀ i < 49, ("step" : Str).length + (Str.ofString (toString ((1 + i : Nat) : Int))).length ≤ 100000 := by decide +kernel
section
variable {P : Program} {w : World} {K : PySem.W.Frag} {mg : Str → Option Value} {tk : Nat → Tok} {base : Heap}
def pLWords : Res → List X3.D → (X3.D → Prop) → Prop := fun S ds q => ∃ (s c : Addr) (many : Nat), S = srcR s c ∧ ds = [.val (.ref s), .int (many : Nat)] ∧ many ≤ 45 ∧ ∀ ns : List Str, ns.length = many → NamesOk ns → q (.list (ns.map .str))
theorem ok_law_words {f : Addr} {fd : FuncData} (F : Fun K "_law_words" "_law_words" slaw_words f fd) (T : Txt K mg tk) {f1 f2 f3 : Addr} {d1 d2 d3 : FuncData}
    (D1 : Prom P w K mg base "_law_pick" f1 d1 ["source", "many"] 1 (spD K (pPick)))
    (D2 : Prom P w K mg base "_law_names" f2 d2 ["source", "many"] 2 (spD K (pNames0)))
    (D3 : Prom P w K mg base "_law_mixed" f3 d3 ["source", "things"] 2 (spD K (pMixed))) : FnOk P w K mg base CX0 3 f fd ["source", "many"] (spD K (pLWords)) := by
  refine F.ok sclaw_words (fun vs H Q E h => ?_) (fun cdv A outer s H vs Q E hr h => ?_)
  · obtain ⟨S, G, ds, q, _, r, ⟨s, c, many, rfl, rfl, hm, hq⟩, _⟩ := h
    exact r.length
  · obtain ⟨S, G, ds, q, w0, r, ⟨s, c, many, rfl, rfl, hm, hq⟩, k⟩ := h
    have hu := hu64 hr
    have hu1 := hu_of hr
    refine ⟨_, (pss_cons (ps_set (i := 2) sclaw_words.nd rfl (Or.inl rfl) (pe_call D1.F (hr.mono (by decide)) (by rfl) D1.g D1.kp D1.b .nil pass0 (pa_cons (pv 0) (pa_cons pe_int pa_nil))))
      (pss_cons (ps_if (pt_cmpR (r := rEqA K) (op_eqA hu) (pv 2) pe_int (nomark _)) (pss_one (ps_ret (pe_call D2.F (hr.mono (by decide)) (by rfl) D2.g D2.kp D2.b .nil pass0 (pa_cons (pv 0) (pa_cons (pv 1) pa_nil))))) pss_nil)
      (pss_cons (ps_set (i := 3) sclaw_words.nd rfl (Or.inl rfl) (pe_lst (pa_cons pe_str (pa_cons pe_str (pa_cons pe_str (pa_cons pe_str (pa_cons pe_str (pa_cons pe_str (pa_cons pe_str (pa_cons pe_str (pa_cons pe_str (pa_cons pe_str pa_nil))))))))))))
      (pss_cons (ps_if (PW.pt (pw_or (pt_cmpR (r := rEqA K) (op_eqA hu) (pv 2) pe_int (nomark _)) (pw_or1 (pt_cmpR op_gt (pv 1) (pe_callB (r := rCount K) call_len (by rfl) T.nlen PySem.boot_len (pa_cons (pv 3) pa_nil)) (nomark _))))) (pss_one (ps_setLc (i := 3) (own := [("k", 4)]) (g := gName 4)  (tt := tYes) rfl sclaw_words.nd rfl rfl (by with_unfolding_all rfl) (pi_range2 (by rfl) T.nrange (pa_cons pe_int (pa_cons pe_int pa_nil))) (blkOk_by (N := ["source", "many", "way", "some", "k"]) (sc := defScope slaw_words) (by decide +kernel)) (fun _ _ _ _ _ => (pg_name (i := 4) sclaw_words.nd rfl (Or.inl rfl))) (fun _ _ _ _ _ => pts_nil) (fun _ _ _ _ _ => (pe_op op_plus pe_str (pe_callB (r := rStrI) call_reprI (by rfl) T.nrepr PyProof.Rows.boot_repr (pa_cons (pv 4) pa_nil)))))) pss_nil)
      (pss_one (ps_ret (pe_slice (r := rSlL K) sl_list (pe_call D3.F (hr.mono (by decide)) (by rfl) D3.g D3.kp D3.b .nil pass0 (pa_cons (pv 0) (pa_cons (pv 3) pa_nil))) po_none (po_some (pv 1))))))))), ?_⟩
    refine body_of w0 r k ?_

    refine ws_seq <| ws_asg <| we_call <| wa_cons <| we_var (by rfl) <| wa_cons <| we_int <| wa_nil ⟨s, c, 3, rfl, rfl, by decide, by decide, fun way w0 w1 => ?_⟩
    refine ws_seq <| ws_if <| wt_test <| we_op <| we_var (by rfl) <| we_int <| we_eqI ⟨_, rfl, ?_⟩
    by_cases h : way = 0
    · exact iteD h <| ws_ret <| we_call <| wa_cons <| we_var (by rfl) <| wa_cons <| we_var (by rfl) <| wa_nil ⟨s, c, many, rfl, rfl, by omega, fun ns hl ok => hq ns hl ok⟩
    refine iteDN h <| ws_next <| ws_seq <| ws_asg <| we_lst <| wa_cons <| we_str <| wa_cons <| we_str <| wa_cons <| we_str <| wa_cons <| we_str <| wa_cons <| we_str <| wa_cons <| we_str <| wa_cons <| we_str <| wa_cons <| we_str <| wa_cons <| we_str <| wa_cons <| we_str <| wa_nil ⟨Nat.le_of_ble_eq_true rfl, ?_⟩
    have e10 : (([.str "a", .str "aa", .str "aaa", .str "b", .str "ab", .str "ba", .str "bab", .str "to", .str "day", .str "today"] : List X3.D)) = tenS.map .str := rfl
    have t10 : LenD (.list (tenS.map X3.D.str)) 10 := rfl
    refine ws_mid (fun ρ' μ' => ∃ (x4 : SD) (l : List Str), ρ' = [.dat (.val (.ref s)), .dat (.int (many : Nat)), .dat (.int way), .dat (.list (l.map .str)), x4] ∧ μ' = [] ∧ l.Nodup ∧ (∀ x ∈ l, WordOk x) ∧ many ≤ l.length ∧ l.length ≤ 49) ?_ ?_
    · have big : WS K (srcR s c) _ [.dat (.val (.ref s)), .dat (.int (many : Nat)), .dat (.int way), .dat (.list (tenS.map .str)), .no] [] { nx := fun ρ' μ' => ∃ (x4 : SD) (l : List Str), ρ' = [.dat (.val (.ref s)), .dat (.int (many : Nat)), .dat (.int way), .dat (.list (l.map .str)), x4] ∧ μ' = [] ∧ l.Nodup ∧ (∀ x ∈ l, WordOk x) ∧ many ≤ l.length ∧ l.length ≤ 49, rt := q } := ws_asg (i := 3) <| we_mapY (is := [4]) (vs := [4]) (te := tOp rPlus (tC (V.str (Str.ofString "step"))) (tCB rStrI (tCons (tVar 4) tNil))) (List.range 49) (fun i => .int ((1 + i : Nat) : Int)) (fun i => .str (stepS (1 + i))) (fun i hi => by simpa using hi) <| wi_rng2 (tA := tCons (tC (V.int 1)) (tCons (tC (V.int 50)) tNil)) <| wa_cons <| we_int <| wa_cons <| we_int <| wa_nil ⟨1, 50, rfl, by decide, by
        show rng 1 49 = _
        unfold rng
        exact List.map_congr_left fun i _ => by rw [Int.natCast_add]; rfl, by rw [List.length_range]; decide, fun i hi => wg_name <| we_op <| we_str <| we_cb <| wa_cons <| we_var (by rfl) <| wa_nil <| wc_strI (log_small (by have := List.mem_range.mp hi; omega) (by have := List.mem_range.mp hi; omega)) <| wp_s (step_len i (List.mem_range.mp hi)) rfl, by
        refine ⟨.no, stepsS, ?_, rfl, steps_nd, fun x hx => wordB_ok (List.all_eq_true.mp steps_ok x hx), Nat.le_trans hm (by decide +kernel), by decide +kernel⟩
        unfold stepsS
        rw [List.map_map]
        rfl⟩
      refine ws_if <| wt_or <| wt_test <| we_op <| we_var (by rfl) <| we_int <| we_eqI ⟨_, rfl, ?_⟩
      by_cases h2 : way = 2
      · exact iteD h2 <| iteT big
      refine iteDN h2 <| wt_test <| we_op <| we_var (by rfl) <| we_cb <| wa_cons <| we_var (by rfl) <| wa_nil <| wc_lenR t10 <| wr_ib (g := fun i j => decide (i > j)) ⟨_, rfl, ?_⟩
      by_cases h3 : (many : Int) > ((10 : Nat) : Int)
      · exact iteD h3 big
      · exact iteDN h3 <| ws_next ⟨_, tenS, rfl, rfl, ten_nd, fun x hx => wordB_ok (List.all_eq_true.mp ten_ok x hx), by show many ≤ 10; omega, by decide⟩
    · rintro ρ' μ' ⟨x4, l, rfl, rfl, lnd, lok, hml, hl49⟩
      refine ws_ret <| we_slL <| we_call <| wa_cons <| we_var (by rfl) <| wa_cons <| we_var (by rfl) <| wa_nil ⟨s, c, _, l.map .str, rfl, rfl, .inl rfl, by rw [List.length_map]; omega, fun ys hp => ?_⟩
      obtain ⟨zs, hz, rfl⟩ := mixed_map hp
      refine wo_none <| wo_some <| we_var (by rfl) ⟨_, rfl, _, rfl, ?_⟩
      rw [cut_to, ← List.map_take]
      refine hq _ ?_ (names_take many hz lnd lok)
      rw [List.length_take, hz.length_eq]
      exact Nat.min_eq_left hml
def pLMoved : Res → List X3.D → (X3.D → Prop) → Prop := fun S ds q => ∃ (s c : Addr) (o : List Str), S = srcR s c ∧ ds = [.val (.ref s), strsD o] ∧ o ≠ [] ∧ o.length ≤ 900 ∧ ∀ o' : List Str, o'.Perm o → q (strsD o')
theorem ok_law_moved {f : Addr} {fd : FuncData} (F : Fun K "_law_moved" "_law_moved" slaw_moved f fd) (T : Txt K mg tk) {f1 : Addr} {d1 : FuncData}
    (D1 : Prom P w K mg base "_law_pick" f1 d1 ["source", "many"] 1 (spD K (pPick))) : FnOk P w K mg base CX0 2 f fd ["source", "order"] (spD K (pLMoved)) := by
  refine F.ok sclaw_moved (fun vs H Q E h => ?_) (fun cdv A outer s H vs Q E hr h => ?_)
  · obtain ⟨S, G, ds, q, _, r, ⟨s, c, o, rfl, rfl, ne, hl, hq⟩, _⟩ := h
    exact r.length
  · obtain ⟨S, G, ds, q, w0, r, ⟨s, c, o, rfl, rfl, ne, hl, hq⟩, k⟩ := h
    have hu := hu64 hr
    have hu1 := hu_of hr
    refine ⟨_, (pss_cons (ps_par rfl sclaw_moved.nd (i := 2) (j := 3) rfl rfl (by decide) rfl rfl (pa_cons (pe_callTy (r := rLists K) call_list_of (by rfl) T.nlist (by decide +kernel) (pa_cons (pv 1) pa_nil)) (pa_cons (pe_call D1.F (hr.mono (by decide)) (by rfl) D1.g D1.kp D1.b .nil pass0 (pa_cons (pv 0) (pa_cons (pe_callB (r := rCount K) call_len (by rfl) T.nlen PySem.boot_len (pa_cons (pv 1) pa_nil)) pa_nil))) pa_nil)) rfl)
      (pss_cons (ps_set (i := 4) sclaw_moved.nd rfl (Or.inl rfl) (show PE _ _ (tBM K "list" rPopAt _ _) from pe_bm PySem.F.plainAttrs_list PySem.F.slot_list_pop PySem.F.type_list_pop mt_popAt (pv 2) (pa_cons (pv 3) pa_nil)))
      (pss_cons (ps_expr (show PE _ _ (tBM K "list" rInsert _ _) from pe_bm PySem.F.plainAttrs_list PySem.F.slot_list_insert PySem.F.type_list_insert mt_insertN (pv 2) (pa_cons (pe_call D1.F (hr.mono (by decide)) (by rfl) D1.g D1.kp D1.b .nil pass0 (pa_cons (pv 0) (pa_cons (pe_op op_plus (pe_callB (r := rCount K) call_len (by rfl) T.nlen PySem.boot_len (pa_cons (pv 2) pa_nil)) pe_int) pa_nil))) (pa_cons (pv 4) pa_nil))))
      (pss_one (ps_ret (pe_callTy (r := rTupN K) call_tupN (by rfl) T.ntuple PyProof.Rows.boot_tuple (pa_cons (pv 2) pa_nil))))))), ?_⟩
    refine body_of w0 r k ?_

    have pos : 0 < o.length := List.length_pos_iff.mpr ne
    refine ws_seq <| ws_parO (Nat.le_of_ble_eq_true rfl) <| wf_list <| we_var (by rfl) ⟨_, .inr rfl, we_call <| wa_cons <| we_var (by rfl) <| wa_cons <| we_cb <| wa_cons <| we_var (by rfl) <| wa_nil <| wc_lenR (d := strsD o) (n := o.length) (show o.length = (o.map X3.D.str).length by simp) <| wa_nil ⟨s, c, o.length, rfl, rfl, by omega, by omega, fun p p0 p1 => ?_⟩⟩
    obtain ⟨p, rfl⟩ := Int.eq_ofNat_of_zero_le p0
    have hp1 : p < o.length := by omega
    refine ws_seq <| ws_popAt (j := 0) (by rfl) (by rfl) <| we_var (by rfl) ⟨p, .str o[p], rfl, by omega, by rw [List.getElem?_map, List.getElem?_eq_getElem hp1]; rfl, ?_⟩
    have el : ((o.map X3.D.str).eraseIdx p).length = o.length - 1 := by rw [List.length_eraseIdx_of_lt (by rw [List.length_map]; exact hp1), List.length_map]
    refine ws_seq <| ws_insert (j := 0) (x := .str o[p]) (by rfl) (by rfl) (by rfl) (by rw [el]; omega) rfl <| we_call <| wa_cons <| we_var (by rfl) <| wa_cons <| we_op <| we_cb <| wa_cons <| we_var (by rfl) <| wa_nil <| wc_lenR (d := .list ((o.map .str).eraseIdx p)) (n := o.length - 1) el.symm <| we_int <| wp_i <| wa_nil ⟨s, c, ((o.length - 1 : Nat) : Int) + 1, rfl, rfl, by omega, by omega, fun r r0 r1 => ?_⟩
    obtain ⟨r, rfl⟩ := Int.eq_ofNat_of_zero_le r0
    refine ⟨r, rfl, by omega, ws_ret <| we_cb <| wa_cons <| we_var (by rfl) <| wa_nil <| wc_tupleR (.inl rfl) ?_⟩
    rw [erase_map, ← List.map_take, ← List.map_drop]
    have := hq _ (erase_perm (List.getElem?_eq_getElem hp1) r)
    rw [strsD, List.map_append, List.map_append] at this
    exact this
def pLNear : Res → List X3.D → (X3.D → Prop) → Prop := fun S ds q => ∃ (s c : Addr) (o : List Str), S = srcR s c ∧ ds = [.val (.ref s), strsD o] ∧ (∀ x ∈ o, WordOk x) ∧ o.length ≤ 900 ∧ ∀ o' : List Str, o'.Perm o → q (strsD o')
theorem ok_law_near_order {f : Addr} {fd : FuncData} (F : Fun K "_law_near_order" "_law_near_order" slaw_near_order f fd) (T : Txt K mg tk) {f1 f2 f3 : Addr} {d1 d2 d3 : FuncData}
    (D1 : Prom P w K mg base "_law_pick" f1 d1 ["source", "many"] 1 (spD K (pPick)))
    (D2 : Prom P w K mg base "_law_mixed" f2 d2 ["source", "things"] 2 (spD K (pMixed)))
    (D3 : Prom P w K mg base "_law_moved" f3 d3 ["source", "order"] 2 (spD K (pLMoved))) : FnOk P w K mg base CX0 3 f fd ["source", "order"] (spD K (pLNear)) := by
  refine F.ok sclaw_near_order (fun vs H Q E h => ?_) (fun cdv A outer s H vs Q E hr h => ?_)
  · obtain ⟨S, G, ds, q, _, r, ⟨s, c, o, rfl, rfl, ok, hl, hq⟩, _⟩ := h
    exact r.length
  · obtain ⟨S, G, ds, q, w0, r, ⟨s, c, o, rfl, rfl, ok, hl, hq⟩, k⟩ := h
    have hu := hu64 hr
    have hu1 := hu_of hr
    refine ⟨_, (pss_cons (ps_set (i := 2) sclaw_near_order.nd rfl (Or.inl rfl) (pe_call D1.F (hr.mono (by decide)) (by rfl) D1.g D1.kp D1.b .nil pass0 (pa_cons (pv 0) (pa_cons pe_int pa_nil))))
      (pss_cons (ps_if (PW.pt (pw_or (pt_cmpR (r := rEqA K) (op_eqA hu) (pv 1) (pe_tupN pa_nil) (nomark _)) (pw_or1 (pt_cmpR (r := rEqA K) (op_eqA hu) (pv 2) pe_int (nomark _))))) (pss_one (ps_ret (pe_callTy (r := rTupN K) call_tupN (by rfl) T.ntuple PyProof.Rows.boot_tuple (pa_cons (pe_call D2.F (hr.mono (by decide)) (by rfl) D2.g D2.kp D2.b .nil pass0 (pa_cons (pv 0) (pa_cons (pe_callTy (r := rLists K) call_list_of (by rfl) T.nlist (by decide +kernel) (pa_cons (pv 1) pa_nil)) pa_nil))) pa_nil)))) pss_nil)
      (pss_cons (ps_if (pt_cmpR (r := rEqA K) (op_eqA hu) (pv 2) pe_int (nomark _)) (pss_one (ps_ret (show PE _ _ (tRevT K _) from pe_revT (pv 1)))) pss_nil)
      (pss_cons (ps_if (pt_cmpR (r := rEqA K) (op_eqA hu) (pv 2) pe_int (nomark _)) (pss_cons (ps_set (i := 3) sclaw_near_order.nd rfl (Or.inl rfl) (pe_call D1.F (hr.mono (by decide)) (by rfl) D1.g D1.kp D1.b .nil pass0 (pa_cons (pv 0) (pa_cons (pe_callB (r := rCount K) call_len (by rfl) T.nlen PySem.boot_len (pa_cons (pv 1) pa_nil)) pa_nil))))
      (pss_one (ps_ret (pe_op (r := rCatN K) op_catN (pe_slice (r := rSlN K) sl_tupN (pv 1) (po_some (pv 3)) po_none) (pe_slice (r := rSlN K) sl_tupN (pv 1) po_none (po_some (pv 3))))))) pss_nil)
      (pss_cons (ps_for PassesOwn.never rfl (pi_range1 (by rfl) T.nrange (pa_cons (pe_op op_plus pe_int (pe_call D1.F (hr.mono (by decide)) (by rfl) D1.g D1.kp D1.b .nil pass0 (pa_cons (pv 0) (pa_cons pe_int pa_nil)))) pa_nil)) (pg_name (i := 4) sclaw_near_order.nd rfl (Or.inl rfl)) (pss_one (ps_set (i := 1) sclaw_near_order.nd rfl (Or.inl rfl) (pe_call D3.F (hr.mono (by decide)) (by rfl) D3.g D3.kp D3.b .nil pass0 (pa_cons (pv 0) (pa_cons (pv 1) pa_nil))))))
      (pss_one (ps_ret (pv 1)))))))), ?_⟩
    refine body_of w0 r k ?_

    refine ws_seq <| ws_asg <| we_call <| wa_cons <| we_var (by rfl) <| wa_cons <| we_int <| wa_nil ⟨s, c, 6, rfl, rfl, by decide, by decide, fun way w0 w1 => ?_⟩
    have mixd : WE K (srcR s c) (tCB (rTupN K) (tCons (tCall (spD K pMixed) [] E0 (tCons (tVar 0) (tCons (tCB (rLists K) (tCons (tVar 1) tNil)) tNil))) tNil)) [.dat (.val (.ref s)), .dat (strsD o), .dat (.int way), .no, .no] q := by
      refine we_cb <| wa_cons <| we_call <| wa_cons <| we_var (by rfl) <| wa_cons <| we_cb <| wa_cons <| we_var (by rfl) <| wa_nil <| wc_lists (.inr rfl) <| wa_nil ⟨s, c, _, o.map .str, rfl, rfl, .inl rfl, by rw [List.length_map]; omega, fun ys hp => ?_⟩
      obtain ⟨zs, hz, rfl⟩ := mixed_map hp
      exact wa_nil <| wc_tupleR (.inl rfl) (hq zs hz)
    refine ws_seq <| ws_if <| wt_or <| wt_test <| we_op <| we_var (by rfl) <| we_tup <| wa_nil ⟨Nat.zero_le _, we_eqD ((strs_lay ok).eq (strs_lay (o := []) fun x h => by cases h) (by decide) (by decide)) ?_⟩
    rw [show (X3.D.tup []).pd = (strsD []).pd from rfl, eqv_strs]
    refine ⟨_, rfl, ?_⟩
    by_cases h0 : o = []
    · exact iteD h0 <| iteT <| ws_ret mixd
    refine iteDN h0 <| wt_test <| we_op <| we_var (by rfl) <| we_int <| we_eqI ⟨_, rfl, ?_⟩
    by_cases h1 : way = 0
    · exact iteD h1 <| ws_ret mixd
    have pos : 0 < o.length := List.length_pos_iff.mpr h0
    refine iteDN h1 <| ws_next <| ws_seq <| ws_if <| wt_test <| we_op <| we_var (by rfl) <| we_int <| we_eqI ⟨_, rfl, ?_⟩
    by_cases h2 : way = 1
    · refine iteD h2 <| ws_ret <| we_revT <| we_var (by rfl) ⟨_, rfl, ?_⟩
      rw [← List.map_reverse]
      exact hq _ (List.reverse_perm o)
    refine iteDN h2 <| ws_next <| ws_seq <| ws_if <| wt_test <| we_op <| we_var (by rfl) <| we_int <| we_eqI ⟨_, rfl, ?_⟩
    by_cases h3 : way = 2
    · refine iteD h3 <| ws_seq <| ws_asg <| we_call <| wa_cons <| we_var (by rfl) <| wa_cons <| we_cb <| wa_cons <| we_var (by rfl) <| wa_nil <| wc_lenR (d := strsD o) (n := o.length) (show o.length = (o.map X3.D.str).length by simp) <| wa_nil ⟨s, c, o.length, rfl, rfl, by omega, by omega, fun p p0 p1 => ?_⟩
      obtain ⟨p, rfl⟩ := Int.eq_ofNat_of_zero_le p0
      refine ws_ret <| we_op <| we_slN <| we_var (by rfl) <| wo_some <| we_var (by rfl) ⟨_, rfl, wo_none ⟨_, rfl, ?_⟩⟩
      rw [cut_from]
      refine we_slN <| we_var (by rfl) <| wo_none <| wo_some <| we_var (by rfl) ⟨_, rfl, _, rfl, ?_⟩
      rw [cut_to]
      refine wr_catN (by rw [List.length_drop, List.length_take, List.length_map]; omega) ?_
      rw [← List.map_drop, ← List.map_take, ← List.map_append]
      refine hq _ ?_
      exact List.perm_append_comm.trans (by rw [List.take_append_drop])
    refine iteDN h3 <| ws_next <| ws_seq <| ws_rngV (is := [4]) <| wa_cons <| we_op <| we_int <| we_call <| wa_cons <| we_var (by rfl) <| wa_cons <| we_int <| wa_nil ⟨s, c, 3, rfl, rfl, by decide, by decide, fun n n0 n1 => wp_i ?_⟩
    obtain ⟨n, rfl⟩ := Int.eq_ofNat_of_zero_le n0
    refine wa_nil ⟨1 + n, by rw [Int.natCast_add]; rfl, by omega, fun i ρ' μ' => ∃ (x4 : SD) (o' : List Str), ρ' = [.dat (.val (.ref s)), .dat (strsD o'), .dat (.int way), .no, x4] ∧ μ' = [] ∧ o'.Perm o, ⟨_, o, rfl, rfl, .refl _⟩, ?_, ?_⟩
    · rintro i ρ' μ' hi ⟨x4, o', rfl, rfl, hp⟩
      have l' : o'.length = o.length := hp.length_eq
      exact wg_name <| ws_asg <| we_call <| wa_cons <| we_var (by rfl) <| wa_cons <| we_var (by rfl) <| wa_nil ⟨s, c, o', rfl, rfl, fun z => by rw [z] at l'; simp at l'; omega, by omega, fun o2 h2 => ⟨_, o2, rfl, rfl, h2.trans hp⟩⟩
    · rintro ρ' μ' ⟨x4, o', rfl, rfl, hp⟩
      exact ws_ret <| we_var (by rfl) (hq o' hp)
def pLOrders : Res → List X3.D → (X3.D → Prop) → Prop := fun S ds q => ∃ (s c : Addr) (most many : Nat), S = srcR s c ∧ ds = [.val (.ref s), .int (most : Nat), .int (many : Nat)] ∧ most ≤ 40 ∧ 1 ≤ many ∧ many ≤ 100 ∧ ∀ (ns : List Str) (os : List (List Str)), NamesOk ns → ns.length ≤ most → os ≠ [] → os.length ≤ many → (∀ o ∈ os, o.Perm ns) → q (.list (os.map strsD))
theorem ok_law_orders {f : Addr} {fd : FuncData} (F : Fun K "_law_orders" "_law_orders" slaw_orders f fd) (T : Txt K mg tk) {f1 f2 f3 f4 f5 : Addr} {d1 d2 d3 d4 d5 : FuncData}
    (D1 : Prom P w K mg base "_law_words" f1 d1 ["source", "many"] 3 (spD K (pLWords)))
    (D2 : Prom P w K mg base "_law_pick" f2 d2 ["source", "many"] 1 (spD K (pPick)))
    (D3 : Prom P w K mg base "_law_near_order" f3 d3 ["source", "order"] 3 (spD K (pLNear)))
    (D4 : Prom P w K mg base "_law_of" f4 d4 ["source", "some"] 2 (spD K (pOf)))
    (D5 : Prom P w K mg base "_law_mixed" f5 d5 ["source", "things"] 2 (spD K (pMixed))) : FnOk P w K mg base CX0 4 f fd ["source", "most", "many"] (spD K (pLOrders)) := by
  refine F.ok sclaw_orders (fun vs H Q E h => ?_) (fun cdv A outer s H vs Q E hr h => ?_)
  · obtain ⟨S, G, ds, q, _, r, ⟨s, c, most, many, rfl, rfl, hm, m1, m2, hq⟩, _⟩ := h
    exact r.length
  · obtain ⟨S, G, ds, q, w0, r, ⟨s, c, most, many, rfl, rfl, hm, m1, m2, hq⟩, k⟩ := h
    have hu := hu64 hr
    have hu1 := hu_of hr
    refine ⟨_, (pss_cons (ps_set (i := 3) sclaw_orders.nd rfl (Or.inl rfl) (pe_lst (pa_cons (pe_callTy (r := rTupN K) call_tupN (by rfl) T.ntuple PyProof.Rows.boot_tuple (pa_cons (pe_call D1.F (hr.mono (by decide)) (by rfl) D1.g D1.kp D1.b .nil pass0 (pa_cons (pv 0) (pa_cons (pe_call D2.F (hr.mono (by decide)) (by rfl) D2.g D2.kp D2.b .nil pass0 (pa_cons (pv 0) (pa_cons (pe_op op_plus (pv 1) pe_int) pa_nil))) pa_nil))) pa_nil)) pa_nil)))
      (pss_cons (ps_for PassesOwn.never rfl (pi_range1 (by rfl) T.nrange (pa_cons (pe_call D2.F (hr.mono (by decide)) (by rfl) D2.g D2.kp D2.b .nil pass0 (pa_cons (pv 0) (pa_cons (pv 2) pa_nil))) pa_nil)) (pg_name (i := 4) sclaw_orders.nd rfl (Or.inl rfl)) (pss_one (ps_expr (show PE _ _ (tBM K "list" rAppend _ _) from pe_bm PySem.F.plainAttrs_list PySem.F.slot_list_append PySem.F.type_list_append mt_append (pv 3) (pa_cons (pe_call D3.F (hr.mono (by decide)) (by rfl) D3.g D3.kp D3.b .nil pass0 (pa_cons (pv 0) (pa_cons (pe_call D4.F (hr.mono (by decide)) (by rfl) D4.g D4.kp D4.b .nil pass0 (pa_cons (pv 0) (pa_cons (pv 3) pa_nil))) pa_nil))) pa_nil)))))
      (pss_one (ps_ret (pe_call D5.F (hr.mono (by decide)) (by rfl) D5.g D5.kp D5.b .nil pass0 (pa_cons (pv 0) (pa_cons (pv 3) pa_nil))))))), ?_⟩
    refine body_of w0 r k ?_

    refine ws_seq <| ws_own (Nat.le_of_ble_eq_true rfl) <| wf_lst <| wa_cons <| we_cb <| wa_cons <| we_call <| wa_cons <| we_var (by rfl) <| wa_cons <| we_call <| wa_cons <| we_var (by rfl) <| wa_cons <| we_op <| we_var (by rfl) <| we_int <| wp_i <| wa_nil ⟨s, c, (most : Nat) + 1, rfl, rfl, by omega, by omega, fun n n0 n1 => ?_⟩
    obtain ⟨n, rfl⟩ := Int.eq_ofNat_of_zero_le n0
    refine wa_nil ⟨s, c, n, rfl, rfl, by omega, fun ns hl ok => wa_nil <| wc_tupleR (.inl rfl) <| wa_nil ⟨Nat.le_of_ble_eq_true rfl, ?_⟩⟩
    refine ws_seq <| ws_rngV (is := [4]) <| wa_cons <| we_call <| wa_cons <| we_var (by rfl) <| wa_cons <| we_var (by rfl) <| wa_nil ⟨s, c, many, rfl, rfl, by omega, by omega, fun m m0 mm => ?_⟩
    obtain ⟨m, rfl⟩ := Int.eq_ofNat_of_zero_le m0
    refine wa_nil ⟨m, rfl, by omega, fun i ρ' μ' => ∃ (x4 : SD) (os : List (List Str)), ρ' = [.dat (.val (.ref s)), .dat (.int (most : Nat)), .dat (.int (many : Nat)), .own 0, x4] ∧ μ' = [.lst (os.map strsD)] ∧ os.length = i + 1 ∧ ∀ o ∈ os, o.Perm ns, ⟨_, [ns], rfl, rfl, rfl, fun o ho => by rw [List.mem_singleton.mp ho]⟩, ?_, ?_⟩
    · rintro i ρ' μ' hi ⟨x4, os, rfl, rfl, hol, hop⟩
      refine wg_name <| ws_appendT (by rfl) (by rw [List.length_map]; omega) <| we_call <| wa_cons <| we_var (by rfl) <| wa_cons <| we_call <| wa_cons <| we_var (by rfl) <| wa_cons <| we_var (by rfl) <| wa_nil ⟨s, c, _, os.map strsD, rfl, rfl, .inl rfl, fun z => by rw [List.map_eq_nil_iff.mp z] at hol; simp at hol, by rw [List.length_map]; omega, fun d hd => ?_⟩
      obtain ⟨o, ho, rfl⟩ := List.mem_map.mp hd
      have hp := hop o ho
      refine wa_nil ⟨s, c, o, rfl, rfl, fun x hx => ok.ok x (hp.mem_iff.mp hx), by rw [hp.length_eq]; omega, fun o' h => ⟨o', rfl, _, os ++ [o'], rfl, by rw [List.map_append]; rfl, by rw [List.length_append, List.length_singleton, hol], fun z hz => ?_⟩⟩
      rcases List.mem_append.mp hz with y | y
      · exact hop z y
      · rw [List.mem_singleton.mp y]
        exact h.trans hp
    · rintro ρ' μ' ⟨x4, os, rfl, rfl, hol, hop⟩
      refine ws_ret <| we_call <| wa_cons <| we_var (by rfl) <| wa_cons <| we_var (by rfl) <| wa_nil ⟨s, c, _, os.map strsD, rfl, rfl, .inl rfl, by rw [List.length_map]; omega, fun ys hp => ?_⟩
      obtain ⟨zs, hz, rfl⟩ := mixed_map hp
      refine hq ns zs ok (by omega) (fun z => ?_) (by rw [hz.length_eq]; omega) fun o ho => hop o (hz.mem_iff.mp ho)
      have := hz.length_eq
      rw [z, hol] at this
      simp at this
def pLSide : Res → List X3.D → (X3.D → Prop) → Prop := fun S ds q => ∃ (s c : Addr), S = srcR s c ∧ ds = [.val (.ref s)] ∧ ∀ side, side = cBEHIND ∨ side = cAHEAD → q (.str side)
theorem ok_law_drawn_side {f : Addr} {fd : FuncData} (F : Fun K "_law_drawn_side" "_law_drawn_side" slaw_drawn_side f fd) (T : Txt K mg tk) {f1 : Addr} {d1 : FuncData}
    (D1 : Prom P w K mg base "_law_of" f1 d1 ["source", "some"] 2 (spD K (pOf))) : FnOk P w K mg base CX0 3 f fd ["source"] (spD K (pLSide)) := by
  refine F.ok sclaw_drawn_side (fun vs H Q E h => ?_) (fun cdv A outer s H vs Q E hr h => ?_)
  · obtain ⟨S, G, ds, q, _, r, ⟨s, c, rfl, rfl, hq⟩, _⟩ := h
    exact r.length
  · obtain ⟨S, G, ds, q, w0, r, ⟨s, c, rfl, rfl, hq⟩, k⟩ := h
    have hu := hu64 hr
    have hu1 := hu_of hr
    refine ⟨_, (pss_one (ps_ret (pe_call D1.F (hr.mono (by decide)) (by rfl) D1.g D1.kp D1.b .nil pass0 (pa_cons (pv 0) (pa_cons (pe_lst (pa_cons pe_str (pa_cons pe_str pa_nil))) pa_nil))))), ?_⟩
    refine body_of w0 r k ?_

    refine ws_ret <| we_call <| wa_cons <| we_var (by rfl) <| wa_cons <| we_lst <| wa_cons <| we_str <| wa_cons <| we_str <| wa_nil ⟨Nat.le_of_ble_eq_true rfl, wa_nil ⟨s, c, _, _, rfl, rfl, .inl rfl, by simp, Nat.le_of_ble_eq_true rfl, fun sd hsd => ?_⟩⟩
    simp only [List.mem_cons, List.not_mem_nil, or_false] at hsd
    rcases hsd with rfl | rfl
    · exact hq _ (.inl rfl)
    · exact hq _ (.inr rfl)
end
end Tk

set_option Elab.async false
set_option linter.all false
set_option maxRecDepth 100000
set_option maxHeartbeats 4000000
namespace Tk
open PySem L2 X3
abbrev slaw_turned : Stmt := topS 18
theorem sclaw_turned : FnScope ["side", "order"] ["side", "order"] (defScope slaw_turned) := ⟨rfl, rfl, rfl, by decide +kernel, rfl, by decide +kernel, by decide +kernel⟩
abbrev slaw_keeps : Stmt := topS 19
theorem sclaw_keeps : FnScope ["side", "order", "saying", "name", "some", "turned", "one"] ["side", "order", "saying"] (defScope slaw_keeps) := ⟨rfl, rfl, rfl, by decide +kernel, rfl, by decide +kernel, by decide +kernel⟩
abbrev slaw_subsets : Stmt := topS 20
theorem sclaw_subsets : FnScope ["names", "found", "name", "some"] ["names"] (defScope slaw_subsets) := ⟨rfl, rfl, rfl, by decide +kernel, rfl, by decide +kernel, by decide +kernel⟩
abbrev slaw_kept_by_all : Stmt := topS 21
theorem sclaw_kept_by_all : FnScope ["side", "orders", "sayings", "saying", "order"] ["side", "orders", "sayings"] (defScope slaw_kept_by_all) := ⟨rfl, rfl, rfl, by decide +kernel, rfl, by decide +kernel, by decide +kernel⟩
abbrev slaw_is_within : Stmt := topS 22
theorem sclaw_is_within : FnScope ["less", "some", "name"] ["less", "some"] (defScope slaw_is_within) := ⟨rfl, rfl, rfl, by decide +kernel, rfl, by decide +kernel, by decide +kernel⟩

def sayD (p : Str × List Str) : X3.D := .tup [.str p.1, .tup (p.2.map .str)]
def turnL (side : Str) (o : List Str) : List Str := if side = cBEHIND then o else o.reverse
/-- the names ahead of a name in an order read from its side -/
def preL (side : Str) (o : List Str) (n : Str) : List Str := (turnL side o).take ((turnL side o).idxOf n)
def keepsB (side : Str) (o : List Str) (n : Str) (ss : List Str) : Bool := (preL side o n).any fun x => decide (x ∈ ss)
theorem turn_perm {side : Str} {o : List Str} : (turnL side o).Perm o := by
  unfold turnL
  split
  · exact .refl _
  · exact List.reverse_perm o
theorem fil_any {α β : Type} {f : α → β} {p : α → Bool} {l : List α} : (!((l.filter p).map f).isEmpty) = l.any p := by
  induction l with
  | nil => rfl
  | cons a l ih =>
    by_cases h : p a = true
    · rw [List.filter_cons_of_pos h, List.any_cons, h]
      rfl
    · rw [List.filter_cons_of_neg h, ih, List.any_cons, Bool.not_eq_true _ |>.mp h]
      rfl
theorem fil_all {α β : Type} {f : α → β} {p : α → Bool} {l : List α} : ((l.filter fun x => !p x).map f).isEmpty = l.all p := by
  have h := fil_any (f := f) (p := fun x => !p x) (l := l)
  rw [← Bool.not_not (b := List.isEmpty _), h, List.not_any_eq_all_not]
  simp
section
variable {P : Program} {w : World} {K : PySem.W.Frag} {mg : Str → Option Value} {tk : Nat → Tok} {base : Heap}
def pLTurned : Res → List X3.D → (X3.D → Prop) → Prop := fun _ ds q => ∃ (side : Str) (o : List Str), ds = [.str side, strsD o] ∧ q (strsD (turnL side o))
theorem ok_law_turned {f : Addr} {fd : FuncData} (F : Fun K "_law_turned" "_law_turned" slaw_turned f fd) (T : Txt K mg tk) : FnOk P w K mg base CX0 1 f fd ["side", "order"] (spD K (pLTurned)) := by
  refine F.ok sclaw_turned (fun vs H Q E h => ?_) (fun cdv A outer s H vs Q E hr h => ?_)
  · obtain ⟨S, G, ds, q, _, r, ⟨side, o, rfl, hq⟩, _⟩ := h
    exact r.length
  · obtain ⟨S, G, ds, q, w0, r, ⟨side, o, rfl, hq⟩, k⟩ := h
    have hu := hu64 hr
    have hu1 := hu_of hr
    refine ⟨_, (pss_one (ps_ret (pe_ifExp (pt_cmpR (r := rEqA K) (op_eqA hu) (pv 0) pe_str (nomark _)) (pe_callTy (r := rTupN K) call_tupN (by rfl) T.ntuple PyProof.Rows.boot_tuple (pa_cons (pv 1) pa_nil)) (show PE _ _ (tRevT K _) from pe_revT (pe_callTy (r := rTupN K) call_tupN (by rfl) T.ntuple PyProof.Rows.boot_tuple (pa_cons (pv 1) pa_nil)))))), ?_⟩
    refine body_of w0 r k ?_

    unfold turnL at hq
    refine ws_ret <| we_if <| wt_test <| we_op <| we_var (by rfl) <| we_str <| we_eqS ⟨_, rfl, ?_⟩
    by_cases h : side = cBEHIND
    · rw [if_pos h] at hq
      exact iteD h <| we_cb <| wa_cons <| we_var (by rfl) <| wa_nil <| wc_tupleR (.inr rfl) hq
    · rw [if_neg h] at hq
      refine iteDN h <| we_revT <| we_cb <| wa_cons <| we_var (by rfl) <| wa_nil <| wc_tupleR (.inr rfl) ⟨_, rfl, ?_⟩
      rw [← List.map_reverse]
      exact hq
def pLKeeps : Res → List X3.D → (X3.D → Prop) → Prop := fun _ ds q => ∃ (side : Str) (o : List Str) (n : Str) (ss : List Str), ds = [.str side, strsD o, sayD (n, ss)] ∧ (∀ x ∈ o, WordOk x) ∧ n ∈ o ∧ o.length ≤ 900 ∧ q (.bl (keepsB side o n ss))
theorem ok_law_keeps {f : Addr} {fd : FuncData} (F : Fun K "_law_keeps" "_law_keeps" slaw_keeps f fd) (T : Txt K mg tk) {f1 : Addr} {d1 : FuncData}
    (D1 : Prom P w K mg base "_law_turned" f1 d1 ["side", "order"] 1 (spD K (pLTurned))) : FnOk P w K mg base CX0 2 f fd ["side", "order", "saying"] (spD K (pLKeeps)) := by
  refine F.ok sclaw_keeps (fun vs H Q E h => ?_) (fun cdv A outer s H vs Q E hr h => ?_)
  · obtain ⟨S, G, ds, q, _, r, ⟨side, o, n, ss, rfl, ok, hn, hl, hq⟩, _⟩ := h
    exact r.length
  · obtain ⟨S, G, ds, q, w0, r, ⟨side, o, n, ss, rfl, ok, hn, hl, hq⟩, k⟩ := h
    have hu := hu64 hr
    have hu1 := hu_of hr
    refine ⟨_, (pss_cons (ps_asg (pv 2) (pg_tup rfl (pgs_cons (pg_name (i := 3) sclaw_keeps.nd rfl (Or.inl rfl)) (pgs_cons (pg_name (i := 4) sclaw_keeps.nd rfl (Or.inr rfl)) pgs_nil))))
      (pss_cons (ps_set (i := 5) sclaw_keeps.nd rfl (Or.inl rfl) (pe_call D1.F (hr.mono (by decide)) (by rfl) D1.g D1.kp D1.b .nil pass0 (pa_cons (pv 0) (pa_cons (pv 1) pa_nil))))
      (pss_one (ps_ret (pe_cmpR (r := rNeA K) (op_neA hu) (pe_lc (own := [("one", 6)]) (g := gName 6)  rfl sclaw_keeps.nd (pi_tup (pe_slice (r := rSlN K) sl_tupN (pv 5) po_none (po_some (show PE _ _ (tTM K (rIndexT K) _ _) from pe_tm PySem.F.plainAttrs_tuple PySem.F.slot_tuple_index PySem.F.type_tuple_index mt_indexT (pv 5) (pa_cons (pv 3) pa_nil))))) (blkOk_by (N := ["side", "order", "saying", "name", "some", "turned", "one"]) (sc := defScope slaw_keeps) (by decide +kernel)) (fun _ _ _ _ _ => (pg_name (i := 6) sclaw_keeps.nd rfl (Or.inl rfl))) (fun _ _ _ _ _ => (pts_one (pt_cmpR (r := rIn K false) op_in_seq (pv 6) (pv 4) (by with_unfolding_all rfl)))) (fun _ _ _ _ _ => (pv 6))) (pe_lst pa_nil) (nomark _)))))), ?_⟩
    refine body_of w0 r k ?_

    have tp := turn_perm (side := side) (o := o)
    have hnt : n ∈ turnL side o := tp.mem_iff.mpr hn
    refine ws_seq <| ws_asgT (is := [3, 4]) <| we_var (by rfl) <| wg_tup rfl <| wgs_cons <| wg_name <| wgs_cons <| wg_name <| wgs_nil ?_
    refine ws_seq <| ws_asg <| we_call <| wa_cons <| we_var (by rfl) <| wa_cons <| we_var (by rfl) <| wa_nil ⟨side, o, rfl, ?_⟩
    refine ws_ret <| we_op <| we_map (is := [6]) (preL side o n) .str .str (fun x => decide (x ∈ ss)) (fun i hi => by simpa using hi) (wi_tup <| we_slN <| we_var (by rfl) <| wo_none <| wo_some <| we_indexT <| we_var (by rfl) ⟨turnL side o, rfl, we_var (by rfl) ⟨n, (turnL side o).idxOf n, rfl, idxOf_at hnt, fun m hm => idxOf_first hm, _, rfl, _, rfl, ?_⟩⟩)
    rw [cut_to, ← List.map_take]
    refine ⟨_, rfl, rfl, ?_, fun x hx => wg_name ?_, ?_⟩
    · have h1 : (preL side o n).length ≤ (turnL side o).length := by
        unfold preL
        rw [List.length_take]
        exact Nat.min_le_right _ _
      rw [tp.length_eq] at h1
      omega
    · exact wt_test <| we_op <| we_var (by rfl) <| we_var (by rfl) <| wr_inS (.inr rfl) ⟨_, rfl, by rw [if_neg Bool.false_ne_true], fun _ => we_var (by rfl) rfl⟩
    · refine we_lst <| wa_nil ⟨Nat.zero_le _, we_neNil (k := 0) (fun d hd => ?_) (by decide) ?_⟩
      · obtain ⟨x, hx, rfl⟩ := List.mem_map.mp hd
        have hx2 : x ∈ turnL side o := (List.take_sublist _ _).mem (List.mem_filter.mp hx).1
        exact word_lay (ok x (tp.mem_iff.mp hx2))
      · rw [fil_any]
        exact hq
def pLSubs : Res → List X3.D → (X3.D → Prop) → Prop := fun _ ds q => ∃ (ns : List Str), ds = [.list (ns.map .str)] ∧ ns.length ≤ 9 ∧ q (.list ((subsL ns).map strsD))
theorem ok_law_subsets {f : Addr} {fd : FuncData} (F : Fun K "_law_subsets" "_law_subsets" slaw_subsets f fd) (T : Txt K mg tk) : FnOk P w K mg base CX0 1 f fd ["names"] (spD K (pLSubs)) := by
  refine F.ok sclaw_subsets (fun vs H Q E h => ?_) (fun cdv A outer s H vs Q E hr h => ?_)
  · obtain ⟨S, G, ds, q, _, r, ⟨ns, rfl, hl, hq⟩, _⟩ := h
    exact r.length
  · obtain ⟨S, G, ds, q, w0, r, ⟨ns, rfl, hl, hq⟩, k⟩ := h
    have hu := hu64 hr
    have hu1 := hu_of hr
    refine ⟨_, (pss_cons (ps_set (i := 1) sclaw_subsets.nd rfl (Or.inl rfl) (pe_lst (pa_cons (pe_tupN pa_nil) pa_nil)))
      (pss_cons (ps_for PassesOwn.never rfl (pi_list (pv 0)) (pg_name (i := 2) sclaw_subsets.nd rfl (Or.inr rfl)) (pss_one (ps_set (i := 1) sclaw_subsets.nd rfl (Or.inl rfl) (pe_op op_plus (pv 1) (pe_lc (own := [("some", 3)]) (g := gName 3)  (tt := tYes) rfl sclaw_subsets.nd (pi_list (pv 1)) (blkOk_by (N := ["names", "found", "name", "some"]) (sc := defScope slaw_subsets) (by decide +kernel)) (fun _ _ _ _ _ => (pg_name (i := 3) sclaw_subsets.nd rfl (Or.inl rfl))) (fun _ _ _ _ _ => pts_nil) (fun _ _ _ _ _ => (pe_op (r := rCatN K) op_catN (pv 3) (pe_tupN (pa_cons (pv 2) pa_nil)))))))))
      (pss_one (ps_ret (pv 1))))), ?_⟩
    refine body_of w0 r k ?_

    refine ws_seq <| ws_asg <| we_lst <| wa_cons <| we_tup <| wa_nil ⟨Nat.zero_le _, wa_nil ⟨Nat.le_of_ble_eq_true rfl, ?_⟩⟩
    refine ws_seq (ws_forT (is := [2]) ns .str (fun ys ρ' μ' => ∃ x2, ρ' = [.dat (.list (ns.map .str)), .dat (.list ((subsL ys).map strsD)), x2, .no] ∧ μ' = []) (wi_list <| we_var (by rfl) ⟨_, rfl, rfl, ⟨_, rfl, rfl⟩, ?_, ?_⟩))
    · rintro ys n zs ρ' μ' hs ⟨x2, rfl, rfl⟩
      have yl : ys.length ≤ 8 := by
        have := congrArg List.length hs
        simp at this
        omega
      have fl : (subsL ys).length ≤ 256 := by
        rw [subs_len _ ys rfl]
        exact Nat.le_trans (Nat.pow_le_pow_right (by decide) yl) (by decide)
      refine wg_name <| ws_asg <| we_op <| we_var (by rfl) <| we_mapY (is := [3]) (subsL ys) strsD (fun r => strsD (r ++ [n])) (fun i hi => by simpa using hi) (wi_list <| we_var (by rfl) ⟨_, rfl, rfl, by omega, fun r hr => wg_name ?_, ?_⟩)
      · have rl := ((mem_subs _ ys rfl r).mp hr).length_le
        refine we_op (r := rCatN K) <| we_var (by rfl) <| we_tup <| wa_cons <| we_var (by rfl) <| wa_nil ⟨Nat.le_of_ble_eq_true rfl, wr_catN (by
          show (r.map X3.D.str).length + 1 ≤ 100000
          rw [List.length_map]
          omega) (by
          show X3.D.tup (r.map X3.D.str ++ [.str n]) = .tup ((r ++ [n]).map .str)
          rw [List.map_append]
          rfl)⟩
      · refine wp_l (by rw [List.length_map, List.length_map]; omega) ⟨.dat (.str n), ?_, rfl⟩
        rw [subsL_snoc, List.map_append, List.map_map]
        rfl
    · rintro ρ' μ' ⟨x2, rfl, rfl⟩
      exact ws_ret (we_var (by rfl) hq)
def pLKept : Res → List X3.D → (X3.D → Prop) → Prop := fun _ ds q => ∃ (side : Str) (os : List (List Str)) (says : List (Str × List Str)), ds = [.str side, .list (os.map strsD), .list (says.map sayD)] ∧ (∀ o ∈ os, (∀ x ∈ o, WordOk x) ∧ o.length ≤ 900 ∧ ∀ y ∈ says, y.1 ∈ o) ∧ os.length ≤ 1000 ∧ says.length ≤ 1000 ∧ q (.list ((says.filter fun y => os.all fun o => keepsB side o y.1 y.2).map sayD))
theorem ok_law_kept_by_all {f : Addr} {fd : FuncData} (F : Fun K "_law_kept_by_all" "_law_kept_by_all" slaw_kept_by_all f fd) (T : Txt K mg tk) {f1 : Addr} {d1 : FuncData}
    (D1 : Prom P w K mg base "_law_keeps" f1 d1 ["side", "order", "saying"] 2 (spD K (pLKeeps))) : FnOk P w K mg base CX0 3 f fd ["side", "orders", "sayings"] (spD K (pLKept)) := by
  refine F.ok sclaw_kept_by_all (fun vs H Q E h => ?_) (fun cdv A outer s H vs Q E hr h => ?_)
  · obtain ⟨S, G, ds, q, _, r, ⟨side, os, says, rfl, ok, hl, hsl, hq⟩, _⟩ := h
    exact r.length
  · obtain ⟨S, G, ds, q, w0, r, ⟨side, os, says, rfl, ok, hl, hsl, hq⟩, k⟩ := h
    have hu := hu64 hr
    have hu1 := hu_of hr
    refine ⟨_, (pss_one (ps_ret (pe_lc (own := [("saying", 3)]) (g := gName 3)  rfl sclaw_kept_by_all.nd (pi_list (pv 2)) (blkOk_by (N := ["side", "orders", "sayings", "saying", "order"]) (sc := defScope slaw_kept_by_all) (by decide +kernel)) (fun _ _ _ _ _ => (pg_name (i := 3) sclaw_kept_by_all.nd rfl (Or.inr rfl))) (fun _ _ _ _ _ => (pts_one (pt_cmpR (r := rEqA K) (op_eqA hu) (pe_lc (own := [("order", 4)]) (g := gName 4)  rfl sclaw_kept_by_all.nd (show PI _ _ _ (iList K _) from (pi_list (pv 1))) (blkOk_by rfl) (fun _ _ _ _ _ => (pg_name (i := 4) sclaw_kept_by_all.nd rfl (Or.inl rfl))) (fun _ _ _ _ _ => (pts_one (pt_not (pt_val (pe_call D1.F (hr.mono (by decide)) (by rfl) D1.g D1.kp D1.b .nil pass0 (pa_cons (pv 0) (pa_cons (pv 4) (pa_cons (pv 3) pa_nil)))))))) (fun _ _ _ _ _ => pe_int)) (pe_lst pa_nil) (nomark _)))) (fun _ _ _ _ _ => (pv 3))))), ?_⟩
    refine body_of w0 r k ?_

    refine ws_ret <| we_map (is := [3]) says sayD sayD (fun y => os.all fun o => keepsB side o y.1 y.2) (fun i hi => by simpa using hi) (wi_list <| we_var (by rfl) ⟨_, rfl, rfl, by omega, fun y hy => wg_name ?_, hq⟩)
    refine wt_test <| we_op <| we_map (is := [4]) os strsD (fun _ => .int 1) (fun o => !keepsB side o y.1 y.2) (fun i hi => by simpa using hi) (wi_list <| we_var (by rfl) ⟨_, rfl, rfl, by omega, fun o ho => wg_name ?_, ?_⟩)
    · obtain ⟨k1, k2, k3⟩ := ok o ho
      exact wt_not <| wt_b <| we_call <| wa_cons <| we_var (by rfl) <| wa_cons <| we_var (by rfl) <| wa_cons <| we_var (by rfl) <| wa_nil ⟨side, o, y.1, y.2, rfl, k1, k3 y hy, k2, _, rfl, rfl, fun _ => we_int rfl⟩
    · refine we_lst <| wa_nil ⟨Nat.zero_le _, we_eqNil (k := 0) (fun d hd => ?_) (by decide) ⟨_, rfl, ?_⟩⟩
      · obtain ⟨x, _, rfl⟩ := List.mem_map.mp hd
        exact Lay.int
      · rw [fil_all]
        exact ⟨rfl, fun _ => we_var (by rfl) rfl⟩
def pLWithin : Res → List X3.D → (X3.D → Prop) → Prop := fun _ ds q => ∃ (a b : List Str), ds = [strsD a, strsD b] ∧ (∀ x ∈ a, WordOk x) ∧ a.length ≤ 900 ∧ q (.bl (a.all fun x => decide (x ∈ b)))
theorem ok_law_is_within {f : Addr} {fd : FuncData} (F : Fun K "_law_is_within" "_law_is_within" slaw_is_within f fd) (T : Txt K mg tk) : FnOk P w K mg base CX0 1 f fd ["less", "some"] (spD K (pLWithin)) := by
  refine F.ok sclaw_is_within (fun vs H Q E h => ?_) (fun cdv A outer s H vs Q E hr h => ?_)
  · obtain ⟨S, G, ds, q, _, r, ⟨a, b, rfl, ok, hl, hq⟩, _⟩ := h
    exact r.length
  · obtain ⟨S, G, ds, q, w0, r, ⟨a, b, rfl, ok, hl, hq⟩, k⟩ := h
    have hu := hu64 hr
    have hu1 := hu_of hr
    refine ⟨_, (pss_one (ps_ret (pe_cmpR (r := rEqA K) (op_eqA hu) (pe_lc (own := [("name", 2)]) (g := gName 2)  rfl sclaw_is_within.nd (pi_tup (pv 0)) (blkOk_by (N := ["less", "some", "name"]) (sc := defScope slaw_is_within) (by decide +kernel)) (fun _ _ _ _ _ => (pg_name (i := 2) sclaw_is_within.nd rfl (Or.inl rfl))) (fun _ _ _ _ _ => (pts_one (pt_cmpR (r := rIn K true) op_notIn_seq (pv 2) (pv 1) (by with_unfolding_all rfl)))) (fun _ _ _ _ _ => (pv 2))) (pe_lst pa_nil) (nomark _)))), ?_⟩
    refine body_of w0 r k ?_

    refine ws_ret <| we_op <| we_map (is := [2]) a .str .str (fun x => !decide (x ∈ b)) (fun i hi => by simpa using hi) (wi_tup <| we_var (by rfl) ⟨_, rfl, rfl, by omega, fun x hx => wg_name ?_, ?_⟩)
    · exact wt_test <| we_op <| we_var (by rfl) <| we_var (by rfl) <| wr_inS (.inr rfl) ⟨_, rfl, by rw [if_pos rfl], fun _ => we_var (by rfl) rfl⟩
    · refine we_lst <| wa_nil ⟨Nat.zero_le _, we_eqNil (k := 0) (fun d hd => ?_) (by decide) ?_⟩
      · obtain ⟨x, hx, rfl⟩ := List.mem_map.mp hd
        exact word_lay (ok x (List.mem_filter.mp hx).1)
      · rw [fil_all]
        exact hq
end
end Tk

set_option Elab.async false
set_option linter.all false
set_option maxRecDepth 100000
set_option maxHeartbeats 4000000
namespace Tk
open PySem L2 X3
abbrev slaw_least : Stmt := topS 23
theorem sclaw_least : FnScope ["side", "orders", "names", "name", "one", "others", "found", "some", "less", "other", "row", "k"] ["side", "orders", "names", "name"] (defScope slaw_least) := ⟨rfl, rfl, rfl, by decide +kernel, rfl, by decide +kernel, by decide +kernel⟩
abbrev slaw_two_least : Stmt := topS 25
theorem sclaw_two_least : FnScope ["side", "orders", "names", "name", "one", "other", "first", "second", "late", "both", "rows", "some", "order", "more", "k", "row"] ["side", "orders", "names", "name"] (defScope slaw_two_least) := ⟨rfl, rfl, rfl, by decide +kernel, rfl, by decide +kernel, by decide +kernel⟩

def idxs (names : List Str) (T : List Str) : List Int := T.map fun x => ((names.idxOf x : Nat) : Int)
def nameAt (names : List Str) (k : Int) : Str := (names[k.toNat]?).getD ""
def backL (names : List Str) (row : List Int) : List Str := row.map (nameAt names)
theorem nameAt_idx {names : List Str} {x : Str} (h : x ∈ names) : nameAt names ((names.idxOf x : Nat) : Int) = x := by
  unfold nameAt
  rw [Int.toNat_natCast, idxOf_at h]
  rfl
theorem back_idxs {names T : List Str} (h : ∀ x ∈ T, x ∈ names) : backL names (idxs names T) = T := by
  unfold backL idxs
  rw [List.map_map]
  conv => rhs; rw [← List.map_id T]
  exact List.map_congr_left fun x hx => nameAt_idx (h x hx)
def keptAll (side : Str) (os : List (List Str)) (n : Str) (T : List Str) : Bool := os.all fun o => keepsB side o n T
def othersL (names : List Str) (n : Str) : List Str := names.filter fun x => !decide (x = n)
def someL (side : Str) (os : List (List Str)) (names : List Str) (n : Str) : List (List Str) := ((subsL (othersL names n)).drop 1).filter (keptAll side os n)
def minB (L : List (List Str)) (T : List Str) : Bool := (L.filter fun a => !decide (a = T) && a.all fun x => decide (x ∈ T)).isEmpty
def foundL (side : Str) (os : List (List Str)) (names : List Str) (n : Str) : List (List Int) := ((someL side os names n).filter (minB (someL side os names n))).map (idxs names)
/-- rows of numbers, in order, told as sayings -/
def rowsSay (names : List Str) (n : Str) (F : List (List Int)) : List X3.D := (F.mergeSort (leG intsL)).map fun row => sayD (n, backL names row)
def bothL (side : Str) (a b : List Str) (n : Str) : List Str := (preL side a n).filter fun x => decide (x ∈ preL side b n)
def pairsOf (side : Str) (names a b : List Str) (n : Str) (l : Str) : List (List Int) := ((preL side b n).filter fun m => !decide (l ∈ bothL side a b n) && !decide (m ∈ bothL side a b n)).map fun m => [((names.idxOf l : Nat) : Int), ((names.idxOf m : Nat) : Int)].mergeSort (leG X3.D.int)
def twoL (side : Str) (names a b : List Str) (n : Str) : List (List Int) := (bothL side a b n).map (fun l => [((names.idxOf l : Nat) : Int)]) ++ (preL side a n).flatMap (pairsOf side names a b n)
theorem pre_sub {side : Str} {o : List Str} {n : Str} : ∀ x ∈ preL side o n, x ∈ o := fun x hx => turn_perm.mem_iff.mp ((List.take_sublist _ _).mem hx)
theorem pre_len {side : Str} {o : List Str} {n : Str} : (preL side o n).length ≤ o.length := by
  rw [← (turn_perm (side := side) (o := o)).length_eq]
  exact (List.take_sublist _ _).length_le
theorem sub_words {T ns : List Str} (ok : ∀ x ∈ ns, WordOk x) (h : T.Sublist ns) : ∀ x ∈ T, WordOk x := fun x hx => ok x (h.mem hx)
theorem one_fil {α β : Type} {p : α → Bool} {f : α → β} {a : α} : (!(([a].filter p).map f).isEmpty) = p a := by
  cases h : p a with
  | true => simp [List.filter_cons, h]
  | false => simp [List.filter_cons, h]
theorem mem_back {names : List Str} {row : List Int} : (row.map fun k => X3.D.str (nameAt names k)) = (backL names row).map .str := by
  unfold backL
  rw [List.map_map]
  rfl
theorem at_name {names : List Str} {k : Int} (h : 0 ≤ k ∧ k < (names.length : Nat)) : atI (names.map X3.D.str) k = some (.str (nameAt names k)) := by
  obtain ⟨k, rfl⟩ := Int.eq_ofNat_of_zero_le h.1
  have hk : k < names.length := by omega
  refine atI_nat ?_
  rw [List.getElem?_map, List.getElem?_eq_getElem hk]
  show some (X3.D.str names[k]) = some (.str ((names[((k : Nat) : Int).toNat]?).getD ""))
  rw [Int.toNat_natCast, List.getElem?_eq_getElem hk]
  rfl
theorem idxs_in {names T : List Str} (h : ∀ x ∈ T, x ∈ names) : ∀ k ∈ idxs names T, 0 ≤ k ∧ k < (names.length : Nat) := fun k hk => by
  obtain ⟨x, hx, rfl⟩ := List.mem_map.mp hk
  have := List.idxOf_lt_length_of_mem (h x hx)
  omega
theorem say_lay {n : Str} {T : List Str} (hn : WordOk n) (hT : ∀ x ∈ T, WordOk x) : Lay 2 (sayD (n, T)) := Lay.tup (ds := [.str n, .tup (T.map .str)]) fun d hd => by
  rcases List.mem_cons.mp hd with rfl | hd
  · exact word_lay hn
  · rw [List.mem_singleton.mp hd]
    exact strs_lay hT
section
variable {P : Program} {w : World} {K : PySem.W.Frag} {mg : Str → Option Value} {tk : Nat → Tok} {base : Heap}
def pLLeast : Res → List X3.D → (X3.D → Prop) → Prop := fun _ ds q => ∃ (side : Str) (os : List (List Str)) (names : List Str) (n : Str), ds = [.str side, .list (os.map strsD), .list (names.map .str), .str n] ∧ NamesOk names ∧ n ∈ names ∧ names.length ≤ 9 ∧ (∀ o ∈ os, o.Perm names) ∧ os.length ≤ 900 ∧ q (.list (rowsSay names n (foundL side os names n)))
theorem ok_law_least {f : Addr} {fd : FuncData} (F : Fun K "_law_least" "_law_least" slaw_least f fd) (T : Txt K mg tk) {f1 f2 f3 : Addr} {d1 d2 d3 : FuncData}
    (D1 : Prom P w K mg base "_law_subsets" f1 d1 ["names"] 1 (spD K (pLSubs)))
    (D2 : Prom P w K mg base "_law_kept_by_all" f2 d2 ["side", "orders", "sayings"] 3 (spD K (pLKept)))
    (D3 : Prom P w K mg base "_law_is_within" f3 d3 ["less", "some"] 1 (spD K (pLWithin))) : FnOk P w K mg base CX0 4 f fd ["side", "orders", "names", "name"] (spD K (pLLeast)) := by
  refine F.ok sclaw_least (fun vs H Q E h => ?_) (fun cdv A outer s H vs Q E hr h => ?_)
  · obtain ⟨S, G, ds, q, _, r, ⟨side, os, names, n, rfl, ok, hn, hl, hos, hol, hq⟩, _⟩ := h
    exact r.length
  · obtain ⟨S, G, ds, q, w0, r, ⟨side, os, names, n, rfl, ok, hn, hl, hos, hol, hq⟩, k⟩ := h
    have hu := hu64 hr
    have hu1 := hu_of hr
    refine ⟨_, (pss_cons (ps_par rfl sclaw_least.nd (i := 5) (j := 6) rfl rfl (by decide) rfl rfl (pa_cons (pe_lc (own := [("one", 4)]) (g := gName 4)  rfl sclaw_least.nd (pi_list (pv 2)) (blkOk_by (N := ["side", "orders", "names", "name", "one", "others", "found", "some", "less", "other", "row", "k"]) (sc := defScope slaw_least) (by decide +kernel)) (fun _ _ _ _ _ => (pg_name (i := 4) sclaw_least.nd rfl (Or.inl rfl))) (fun _ _ _ _ _ => (pts_one (pt_cmpR (r := rNeA K) (op_neA hu) (pv 4) (pv 3) (nomark _)))) (fun _ _ _ _ _ => (pv 4))) (pa_cons (pe_lst pa_nil) pa_nil)) rfl)
      (pss_cons (ps_setLc (i := 7) (own := [("one", 4)]) (g := gName 4)  rfl sclaw_least.nd rfl rfl (by with_unfolding_all rfl) (pi_list (pe_slice (r := rSlL K) sl_list (pe_call D1.F (hr.mono (by decide)) (by rfl) D1.g D1.kp D1.b .nil pass0 (pa_cons (pv 5) pa_nil)) (po_some pe_int) po_none)) (blkOk_by (N := ["side", "orders", "names", "name", "one", "others", "found", "some", "less", "other", "row", "k"]) (sc := defScope slaw_least) (by decide +kernel)) (fun _ _ _ _ _ => (pg_name (i := 4) sclaw_least.nd rfl (Or.inl rfl))) (fun _ _ _ _ _ => (pts_one (pt_cmpR (r := rNeA K) (op_neA hu) (pe_call D2.F (hr.mono (by decide)) (by rfl) D2.g D2.kp D2.b .nil pass0 (pa_cons (pv 0) (pa_cons (pv 1) (pa_cons (pe_lst (pa_cons (pe_tupN (pa_cons (pv 3) (pa_cons (pv 4) pa_nil))) pa_nil)) pa_nil)))) (pe_lst pa_nil) (nomark _)))) (fun _ _ _ _ _ => (pv 4)))
      (pss_cons (ps_for PassesOwn.never rfl (pi_list (pv 7)) (pg_name (i := 4) sclaw_least.nd rfl (Or.inr rfl)) (pss_one (ps_if (pt_cmpR (r := rEqA K) (op_eqA hu) (pe_lc (own := [("less", 8)]) (g := gName 8)  rfl sclaw_least.nd (pi_list (pv 7)) (blkOk_by (N := ["side", "orders", "names", "name", "one", "others", "found", "some", "less", "other", "row", "k"]) (sc := defScope slaw_least) (by decide +kernel)) (fun _ _ _ _ _ => (pg_name (i := 8) sclaw_least.nd rfl (Or.inl rfl))) (fun _ _ _ _ _ => (pts_one (PW.pt (pw_and (pt_cmpR (r := rNeA K) (op_neA hu) (pv 8) (pv 4) (nomark _)) (pw_and1 (pt_val (pe_call D3.F (hr.mono (by decide)) (by rfl) D3.g D3.kp D3.b .nil pass0 (pa_cons (pv 8) (pa_cons (pv 4) pa_nil))))))))) (fun _ _ _ _ _ => (pv 8))) (pe_lst pa_nil) (nomark _)) (pss_one (ps_expr (show PE _ _ (tBM K "list" rAppend _ _) from pe_bm PySem.F.plainAttrs_list PySem.F.slot_list_append PySem.F.type_list_append mt_append (pv 6) (pa_cons (pe_lc (own := [("other", 9)]) (g := gName 9)  (tt := tYes) rfl sclaw_least.nd (pi_tup (pv 4)) (blkOk_by (N := ["side", "orders", "names", "name", "one", "others", "found", "some", "less", "other", "row", "k"]) (sc := defScope slaw_least) (by decide +kernel)) (fun _ _ _ _ _ => (pg_name (i := 9) sclaw_least.nd rfl (Or.inl rfl))) (fun _ _ _ _ _ => pts_nil) (fun _ _ _ _ _ => (show PE _ _ (tBM K "list" (rIndex K) _ _) from pe_bm PySem.F.plainAttrs_list PySem.F.slot_list_index PySem.F.type_list_index mt_index (pv 2) (pa_cons (pv 9) pa_nil)))) pa_nil)))) pss_nil)))
      (pss_one (ps_ret (pe_lc (own := [("row", 10)]) (g := gName 10)  (tt := tYes) rfl sclaw_least.nd (pi_list (pe_callB (r := rSortedD K) (cr_sortedD hu) (by rfl) T.nsorted (by decide +kernel) (pa_cons (pv 6) pa_nil))) (blkOk_by (N := ["side", "orders", "names", "name", "one", "others", "found", "some", "less", "other", "row", "k"]) (sc := defScope slaw_least) (by decide +kernel)) (fun _ _ _ _ _ => (pg_name (i := 10) sclaw_least.nd rfl (Or.inl rfl))) (fun _ _ _ _ _ => pts_nil) (fun _ _ _ _ _ => (pe_tupN (pa_cons (pv 3) (pa_cons (pe_callTy (r := rTupN K) call_tupN (by rfl) T.ntuple PyProof.Rows.boot_tuple (pa_cons (pe_lc (own := [("k", 11)]) (g := gName 11)  (tt := tYes) rfl sclaw_least.nd (show PI _ _ _ (iList K _) from (pi_list (pv 10))) (blkOk_by rfl) (fun _ _ _ _ _ => (pg_name (i := 11) sclaw_least.nd rfl (Or.inl rfl))) (fun _ _ _ _ _ => pts_nil) (fun _ _ _ _ _ => (pe_ix (r := rIx K) ix_seq (pv 2) (pv 11) (fun _ _ => rfl)))) pa_nil)) pa_nil)))))))))), ?_⟩
    refine body_of w0 r k ?_

    have ol : (othersL names n).length ≤ 9 := Nat.le_trans (List.length_filter_le _ _) hl
    have oin : ∀ x ∈ othersL names n, x ∈ names := fun x hx => (List.mem_filter.mp hx).1
    have sl : (subsL (othersL names n)).length ≤ 512 := by
      rw [subs_len _ _ rfl]
      exact Nat.le_trans (Nat.pow_le_pow_right (by decide) ol) (by decide)
    have dl : ((subsL (othersL names n)).drop 1).length ≤ 512 := by rw [List.length_drop]; omega
    have dsub : ∀ T ∈ (subsL (othersL names n)).drop 1, T.Sublist (othersL names n) := fun T hT => (mem_subs _ _ rfl T).mp ((List.drop_sublist _ _).mem hT)
    refine ws_seq <| ws_parE (by decide) (Nat.le_of_ble_eq_true rfl) <| we_map (is := [4]) names .str .str (fun x => !decide (x = n)) (fun i hi => by simpa using hi) (wi_list <| we_var (by rfl) ⟨_, rfl, rfl, by omega, fun x hx => wg_name ?_, ?_⟩)
    · exact wt_test <| we_op <| we_var (by rfl) <| we_var (by rfl) <| we_neS ⟨_, rfl, rfl, fun _ => we_var (by rfl) rfl⟩
    have say1 : ∀ T ∈ (subsL (othersL names n)).drop 1, ∀ x ∈ T, WordOk x := fun T hT x hx => ok.ok x (oin x ((dsub T hT).mem hx))
    refine ws_seq <| ws_asg <| we_map (is := [4]) ((subsL (othersL names n)).drop 1) strsD strsD (keptAll side os n) (fun i hi => by simpa using hi) (wi_list <| we_slL <| we_call <| wa_cons <| we_var (by rfl) <| wa_nil ⟨othersL names n, rfl, ol, wo_some <| we_int ⟨((1 : Nat) : Int), rfl, wo_none ⟨_, rfl, ?_⟩⟩⟩)
    rw [cut_from, ← List.map_drop]
    refine ⟨_, rfl, rfl, by omega, fun T hT => wg_name ?_, ?_⟩
    · refine wt_test <| we_op <| we_call <| wa_cons <| we_var (by rfl) <| wa_cons <| we_var (by rfl) <| wa_cons <| we_lst <| wa_cons <| we_tup <| wa_cons <| we_var (by rfl) <| wa_cons <| we_var (by rfl) <| wa_nil ⟨Nat.le_of_ble_eq_true rfl, wa_nil ⟨Nat.le_of_ble_eq_true rfl, wa_nil ⟨side, os, [(n, T)], rfl, fun o ho => ⟨fun x hx => ok.ok x ((hos o ho).mem_iff.mp hx), by rw [(hos o ho).length_eq]; omega, fun y hy => by rw [List.mem_singleton.mp hy]; exact (hos o ho).mem_iff.mpr hn⟩, by omega, Nat.le_of_ble_eq_true rfl, we_lst <| wa_nil ⟨Nat.zero_le _, we_neNil (k := 2) (fun d hd => ?_) (by decide) ⟨_, rfl, ?_⟩⟩⟩⟩⟩
      · obtain ⟨y, hy, rfl⟩ := List.mem_map.mp hd
        rw [List.mem_singleton.mp (List.mem_filter.mp hy).1]
        exact say_lay (ok.ok n hn) (say1 T hT)
      · rw [one_fil]
        exact ⟨rfl, fun _ => we_var (by rfl) rfl⟩
    generalize hL : someL side os names n = L
    have hL' : ((subsL (othersL names n)).drop 1).filter (keptAll side os n) = L := hL
    rw [hL']
    have Ll : L.length ≤ 512 := by
      rw [← hL']
      exact Nat.le_trans (List.length_filter_le _ _) dl
    have Lw : ∀ T ∈ L, (∀ x ∈ T, x ∈ names) ∧ T.length ≤ 9 := fun T hT => by
      rw [← hL'] at hT
      have h1 := dsub T (List.mem_filter.mp hT).1
      exact ⟨fun x hx => oin x (h1.mem hx), Nat.le_trans h1.length_le ol⟩
    refine ws_seq (ws_forT (is := [4]) L strsD (fun ys ρ' μ' => ∃ x4, ρ' = [.dat (.str side), .dat (.list (os.map strsD)), .dat (.list (names.map .str)), .dat (.str n), x4, .dat (.list ((othersL names n).map .str)), .own 0, .dat (.list (L.map strsD)), .no, .no, .no, .no] ∧ μ' = [.lst (((ys.filter (minB L)).map (idxs names)).map intsL)]) (wi_list <| we_var (by rfl) ⟨_, rfl, rfl, ⟨_, rfl, rfl⟩, ?_, ?_⟩))
    · rintro ys T zs ρ' μ' hs ⟨x4, rfl, rfl⟩
      have hT : T ∈ L := by rw [hs]; simp
      obtain ⟨tw, tl⟩ := Lw T hT
      have tok : ∀ x ∈ T, WordOk x := fun x hx => ok.ok x (tw x hx)
      have yl : ys.length ≤ 512 := by
        have := congrArg List.length hs
        simp at this
        omega
      refine wg_name <| ws_if <| wt_test <| we_op <| we_map (is := [8]) L strsD strsD (fun a => !decide (a = T) && a.all fun x => decide (x ∈ T)) (fun i hi => by simpa using hi) (wi_list <| we_var (by rfl) ⟨_, rfl, rfl, by omega, fun a ha => wg_name ?_, ?_⟩)
      · obtain ⟨aw, al⟩ := Lw a ha
        have aok : ∀ x ∈ a, WordOk x := fun x hx => ok.ok x (aw x hx)
        refine wt_and <| wt_test <| we_op <| we_var (by rfl) <| we_var (by rfl) <| we_neD ((strs_lay aok).eq (strs_lay tok) (by decide) (by decide)) ?_
        rw [eqv_strs]
        refine ⟨_, rfl, ?_⟩
        by_cases e : a = T
        · rw [decide_eq_true e]
          exact iteNT ⟨rfl, fun z => by cases z⟩
        · rw [decide_eq_false e]
          refine iteNF <| wt_b <| we_call <| wa_cons <| we_var (by rfl) <| wa_cons <| we_var (by rfl) <| wa_nil ⟨a, T, rfl, aok, by omega, _, rfl, ?_⟩
          exact ⟨by rfl, fun _ => we_var (by rfl) rfl⟩
      refine we_lst <| wa_nil ⟨Nat.zero_le _, we_eqNil (k := 1) (fun d hd => ?_) (by decide) ⟨_, rfl, ?_⟩⟩
      · obtain ⟨a, ha, rfl⟩ := List.mem_map.mp hd
        exact strs_lay fun x hx => ok.ok x ((Lw a (List.mem_filter.mp ha).1).1 x hx)
      rw [List.isEmpty_map]
      have e : ((L.filter fun a => !decide (a = T) && a.all fun x => decide (x ∈ T)).isEmpty) = minB L T := rfl
      rw [e]
      cases hm : minB L T with
      | false =>
        refine iteF <| ws_next ⟨_, rfl, ?_⟩
        rw [List.filter_append, List.filter_cons_of_neg (by rw [hm]; exact Bool.false_ne_true), List.filter_nil, List.append_nil]
      | true =>
        refine iteT <| ws_append (j := 0) (by rfl) (by rfl) (by rw [List.length_map, List.length_map]; exact Nat.lt_of_le_of_lt (List.length_filter_le _ _) (by omega)) <| we_mapY (is := [9]) T .str (fun x => .int ((names.idxOf x : Nat) : Int)) (fun i hi => by simpa using hi) (wi_tup <| we_var (by rfl) ⟨_, rfl, rfl, by omega, fun x hx => wg_name <| we_index <| we_var (by rfl) ⟨names, rfl, we_var (by rfl) ⟨x, names.idxOf x, rfl, idxOf_at (tw x hx), fun m hm => idxOf_first hm, rfl⟩⟩, ⟨_, rfl, ?_⟩⟩)
        rw [List.filter_append, List.filter_cons_of_pos hm, List.filter_nil, List.map_append, List.map_append]
        show _ = ([.lst (_ ++ [intsL (idxs names T)])] : Mu)
        rw [show (T.map fun x => X3.D.int ((names.idxOf x : Nat) : Int)) = (idxs names T).map .int by unfold idxs; rw [List.map_map]; rfl]
        rfl
    rintro ρ' μ' ⟨x4, rfl, rfl⟩
    have fd : foundL side os names n = (L.filter (minB L)).map (idxs names) := by unfold foundL; rw [hL]
    unfold rowsSay at hq
    rw [fd] at hq
    generalize hF : (L.filter (minB L)).map (idxs names) = F at hq
    have Fl : F.length ≤ 512 := by
      rw [← hF, List.length_map]
      exact Nat.le_trans (List.length_filter_le _ _) Ll
    have Fr : ∀ row ∈ F, row.length ≤ 90000 ∧ ∀ k ∈ row, 0 ≤ k ∧ k < (names.length : Nat) := fun row hr => by
      rw [← hF] at hr
      obtain ⟨T, hT, rfl⟩ := List.mem_map.mp hr
      obtain ⟨tw, tl⟩ := Lw T (List.mem_filter.mp hT).1
      exact ⟨by unfold idxs; rw [List.length_map]; omega, idxs_in tw⟩
    refine ws_ret <| we_mapY (is := [10]) (F.mergeSort (leG intsL)) intsL (fun row => sayD (n, backL names row)) (fun i hi => by simpa using hi) (wi_list <| we_cb <| wa_cons <| we_var (by rfl) <| wa_nil <| wc_sortedIs ⟨_, rfl, rfl, by rw [List.length_mergeSort]; omega, fun row hrow => wg_name ?_, hq⟩)
    · obtain ⟨r1, r2⟩ := Fr row (List.mem_mergeSort.mp hrow)
      refine we_tup <| wa_cons <| we_var (by rfl) <| wa_cons <| we_cb <| wa_cons <| we_mapY (is := [11]) row .int (fun k => .str (nameAt names k)) (fun i hi => by simpa using hi) (wi_list <| we_var (by rfl) ⟨_, rfl, rfl, by omega, fun k hk => wg_name <| we_op <| we_var (by rfl) <| we_var (by rfl) <| wr_ixL (d := .str (nameAt names k)) (at_name (r2 k hk)) rfl, ?_⟩)
      refine wa_nil <| wc_tupleR (.inl rfl) <| wa_nil ⟨Nat.le_of_ble_eq_true rfl, ?_⟩
      rw [mem_back]
      rfl
def pLTwo : Res → List X3.D → (X3.D → Prop) → Prop := fun _ ds q => ∃ (side : Str) (a b names : List Str) (n : Str), ds = [.str side, .list [strsD a, strsD b], .list (names.map .str), .str n] ∧ NamesOk names ∧ n ∈ names ∧ names.length ≤ 45 ∧ a.Perm names ∧ b.Perm names ∧ q (.list (rowsSay names n (twoL side names a b n)))
theorem ok_law_two_least {f : Addr} {fd : FuncData} (F : Fun K "_law_two_least" "_law_two_least" slaw_two_least f fd) (T : Txt K mg tk) {f1 : Addr} {d1 : FuncData}
    (D1 : Prom P w K mg base "_law_turned" f1 d1 ["side", "order"] 1 (spD K (pLTurned))) : FnOk P w K mg base CX0 4 f fd ["side", "orders", "names", "name"] (spD K (pLTwo)) := by
  refine F.ok sclaw_two_least (fun vs H Q E h => ?_) (fun cdv A outer s H vs Q E hr h => ?_)
  · obtain ⟨S, G, ds, q, _, r, ⟨side, a, b, names, n, rfl, ok, hn, hl, ha, hb, hq⟩, _⟩ := h
    exact r.length
  · obtain ⟨S, G, ds, q, w0, r, ⟨side, a, b, names, n, rfl, ok, hn, hl, ha, hb, hq⟩, k⟩ := h
    have hu := hu64 hr
    have hu1 := hu_of hr
    refine ⟨_, (pss_cons (ps_asg (pe_lc (own := [("order", 12)]) (g := gName 12)  (tt := tYes) rfl sclaw_two_least.nd (pi_list (pv 1)) (blkOk_by (N := ["side", "orders", "names", "name", "one", "other", "first", "second", "late", "both", "rows", "some", "order", "more", "k", "row"]) (sc := defScope slaw_two_least) (by decide +kernel)) (fun _ _ _ _ _ => (pg_name (i := 12) sclaw_two_least.nd rfl (Or.inl rfl))) (fun _ _ _ _ _ => pts_nil) (fun _ _ _ _ _ => (pe_call D1.F (hr.mono (by decide)) (by rfl) D1.g D1.kp D1.b .nil pass0 (pa_cons (pv 0) (pa_cons (pv 12) pa_nil))))) (pg_lst rfl (pgs_cons (pg_name (i := 4) sclaw_two_least.nd rfl (Or.inl rfl)) (pgs_cons (pg_name (i := 5) sclaw_two_least.nd rfl (Or.inl rfl)) pgs_nil))))
      (pss_cons (ps_asg (pe_tupN (pa_cons (pe_slice (r := rSlN K) sl_tupN (pv 4) po_none (po_some (pe_either (show PE _ _ (tBM K "list" (rIndex K) _ _) from pe_bm PySem.F.plainAttrs_list PySem.F.slot_list_index PySem.F.type_list_index mt_index (pv 4) (pa_cons (pv 3) pa_nil)) (show PE _ _ (tTM K (rIndexT K) _ _) from pe_tm PySem.F.plainAttrs_tuple PySem.F.slot_tuple_index PySem.F.type_tuple_index mt_indexT (pv 4) (pa_cons (pv 3) pa_nil))))) (pa_cons (pe_slice (r := rSlN K) sl_tupN (pv 5) po_none (po_some (pe_either (show PE _ _ (tBM K "list" (rIndex K) _ _) from pe_bm PySem.F.plainAttrs_list PySem.F.slot_list_index PySem.F.type_list_index mt_index (pv 5) (pa_cons (pv 3) pa_nil)) (show PE _ _ (tTM K (rIndexT K) _ _) from pe_tm PySem.F.plainAttrs_tuple PySem.F.slot_tuple_index PySem.F.type_tuple_index mt_indexT (pv 5) (pa_cons (pv 3) pa_nil))))) pa_nil))) (pg_tup rfl (pgs_cons (pg_name (i := 6) sclaw_two_least.nd rfl (Or.inl rfl)) (pgs_cons (pg_name (i := 7) sclaw_two_least.nd rfl (Or.inr rfl)) pgs_nil))))
      (pss_cons (ps_set (i := 9) sclaw_two_least.nd rfl (Or.inr rfl) (pe_lc (own := [("late", 8)]) (g := gName 8)  rfl sclaw_two_least.nd (pi_tup (pv 6)) (blkOk_by (N := ["side", "orders", "names", "name", "one", "other", "first", "second", "late", "both", "rows", "some", "order", "more", "k", "row"]) (sc := defScope slaw_two_least) (by decide +kernel)) (fun _ _ _ _ _ => (pg_name (i := 8) sclaw_two_least.nd rfl (Or.inl rfl))) (fun _ _ _ _ _ => (pts_one (pt_cmpR (r := rIn K false) op_in_seq (pv 8) (pv 7) (by with_unfolding_all rfl)))) (fun _ _ _ _ _ => (pv 8))))
      (pss_cons (ps_setLc (i := 10) (own := [("late", 8)]) (g := gName 8)  (tt := tYes) rfl sclaw_two_least.nd rfl rfl (by with_unfolding_all rfl) (pi_list (pv 9)) (blkOk_by (N := ["side", "orders", "names", "name", "one", "other", "first", "second", "late", "both", "rows", "some", "order", "more", "k", "row"]) (sc := defScope slaw_two_least) (by decide +kernel)) (fun _ _ _ _ _ => (pg_name (i := 8) sclaw_two_least.nd rfl (Or.inl rfl))) (fun _ _ _ _ _ => pts_nil) (fun _ _ _ _ _ => (pe_lst (pa_cons (pe_either (show PE _ _ (tBM K "list" (rIndex K) _ _) from pe_bm PySem.F.plainAttrs_list PySem.F.slot_list_index PySem.F.type_list_index mt_index (pv 2) (pa_cons (pv 8) pa_nil)) (show PE _ _ (tTM K (rIndexT K) _ _) from pe_tm PySem.F.plainAttrs_tuple PySem.F.slot_tuple_index PySem.F.type_tuple_index mt_indexT (pv 2) (pa_cons (pv 8) pa_nil))) pa_nil))))
      (pss_cons (ps_for PassesOwn.never rfl (pi_tup (pv 6)) (pg_name (i := 8) sclaw_two_least.nd rfl (Or.inr rfl)) (pss_cons (ps_setLc (i := 11) (own := [("more", 13)]) (g := gName 13)  rfl sclaw_two_least.nd rfl rfl (by with_unfolding_all rfl) (pi_tup (pv 7)) (blkOk_by (N := ["side", "orders", "names", "name", "one", "other", "first", "second", "late", "both", "rows", "some", "order", "more", "k", "row"]) (sc := defScope slaw_two_least) (by decide +kernel)) (fun _ _ _ _ _ => (pg_name (i := 13) sclaw_two_least.nd rfl (Or.inl rfl))) (fun _ _ _ _ _ => (pts_one (PW.pt (pw_and (pt_cmpR (r := rIn K true) op_notIn_seq (pv 8) (pv 9) (by with_unfolding_all rfl)) (pw_and1 (pt_cmpR (r := rIn K true) op_notIn_seq (pv 13) (pv 9) (by with_unfolding_all rfl))))))) (fun _ _ _ _ _ => (pe_either (show PE _ _ (tBM K "list" (rIndex K) _ _) from pe_bm PySem.F.plainAttrs_list PySem.F.slot_list_index PySem.F.type_list_index mt_index (pv 2) (pa_cons (pv 13) pa_nil)) (show PE _ _ (tTM K (rIndexT K) _ _) from pe_tm PySem.F.plainAttrs_tuple PySem.F.slot_tuple_index PySem.F.type_tuple_index mt_indexT (pv 2) (pa_cons (pv 13) pa_nil)))))
      (pss_one (ps_set (i := 10) sclaw_two_least.nd rfl (Or.inl rfl) (pe_op op_plus (pv 10) (pe_lc (own := [("k", 14)]) (g := gName 14)  (tt := tYes) rfl sclaw_two_least.nd (pi_list (pv 11)) (blkOk_by (N := ["side", "orders", "names", "name", "one", "other", "first", "second", "late", "both", "rows", "some", "order", "more", "k", "row"]) (sc := defScope slaw_two_least) (by decide +kernel)) (fun _ _ _ _ _ => (pg_name (i := 14) sclaw_two_least.nd rfl (Or.inl rfl))) (fun _ _ _ _ _ => pts_nil) (fun _ _ _ _ _ => (pe_callB (r := rSortedD K) (cr_sortedD hu) (by rfl) T.nsorted (by decide +kernel) (pa_cons (pe_lst (pa_cons (pe_either (show PE _ _ (tBM K "list" (rIndex K) _ _) from pe_bm PySem.F.plainAttrs_list PySem.F.slot_list_index PySem.F.type_list_index mt_index (pv 2) (pa_cons (pv 8) pa_nil)) (show PE _ _ (tTM K (rIndexT K) _ _) from pe_tm PySem.F.plainAttrs_tuple PySem.F.slot_tuple_index PySem.F.type_tuple_index mt_indexT (pv 2) (pa_cons (pv 8) pa_nil))) (pa_cons (pv 14) pa_nil))) pa_nil)))))))))
      (pss_one (ps_ret (pe_lc (own := [("row", 15)]) (g := gName 15)  (tt := tYes) rfl sclaw_two_least.nd (pi_list (pe_callB (r := rSortedD K) (cr_sortedD hu) (by rfl) T.nsorted (by decide +kernel) (pa_cons (pv 10) pa_nil))) (blkOk_by (N := ["side", "orders", "names", "name", "one", "other", "first", "second", "late", "both", "rows", "some", "order", "more", "k", "row"]) (sc := defScope slaw_two_least) (by decide +kernel)) (fun _ _ _ _ _ => (pg_name (i := 15) sclaw_two_least.nd rfl (Or.inl rfl))) (fun _ _ _ _ _ => pts_nil) (fun _ _ _ _ _ => (pe_tupN (pa_cons (pv 3) (pa_cons (pe_callTy (r := rTupN K) call_tupN (by rfl) T.ntuple PyProof.Rows.boot_tuple (pa_cons (pe_lc (own := [("k", 14)]) (g := gName 14)  (tt := tYes) rfl sclaw_two_least.nd (show PI _ _ _ (iList K _) from (pi_list (pv 15))) (blkOk_by rfl) (fun _ _ _ _ _ => (pg_name (i := 14) sclaw_two_least.nd rfl (Or.inl rfl))) (fun _ _ _ _ _ => pts_nil) (fun _ _ _ _ _ => (pe_ix (r := rIx K) ix_seq (pv 2) (pv 14) (fun _ _ => rfl)))) pa_nil)) pa_nil)))))))))))), ?_⟩
    refine body_of w0 r k ?_

    have inN : ∀ {o : List Str}, o.Perm names → ∀ x ∈ preL side o n, x ∈ names := fun ho x hx => ho.mem_iff.mp (pre_sub x hx)
    have preLen : ∀ {o : List Str}, o.Perm names → (preL side o n).length ≤ 45 := fun {o} ho => by
      have := pre_len (side := side) (o := o) (n := n)
      rw [ho.length_eq] at this
      omega
    have hta : n ∈ turnL side a := turn_perm.mem_iff.mpr (ha.mem_iff.mpr hn)
    have htb : n ∈ turnL side b := turn_perm.mem_iff.mpr (hb.mem_iff.mpr hn)
    refine ws_seq <| ws_asgT (is := [4, 5]) <| we_mapY (is := [12]) [a, b] strsD (fun o => strsD (turnL side o)) (fun i hi => by simpa using hi) (wi_list <| we_var (by rfl) ⟨_, rfl, rfl, Nat.le_of_ble_eq_true rfl, fun o ho => wg_name <| we_call <| wa_cons <| we_var (by rfl) <| wa_cons <| we_var (by rfl) <| wa_nil ⟨side, o, rfl, rfl⟩, ?_⟩)
    refine wg_lst rfl <| wgs_cons <| wg_name <| wgs_cons <| wg_name <| wgs_nil ?_
    refine ws_seq <| ws_asgT (is := [6, 7]) <| we_tup <| wa_cons <| we_slN <| we_var (by rfl) <| wo_none <| wo_some <| we_ei2 <| we_indexT <| we_var (by rfl) ⟨turnL side a, rfl, we_var (by rfl) ⟨n, (turnL side a).idxOf n, rfl, idxOf_at hta, fun m hm => idxOf_first hm, _, rfl, _, rfl, ?_⟩⟩
    rw [cut_to, ← List.map_take]
    refine wa_cons <| we_slN <| we_var (by rfl) <| wo_none <| wo_some <| we_ei2 <| we_indexT <| we_var (by rfl) ⟨turnL side b, rfl, we_var (by rfl) ⟨n, (turnL side b).idxOf n, rfl, idxOf_at htb, fun m hm => idxOf_first hm, _, rfl, _, rfl, ?_⟩⟩
    rw [cut_to, ← List.map_take]
    refine wa_nil ⟨Nat.le_of_ble_eq_true rfl, wg_tup rfl <| wgs_cons <| wg_name <| wgs_cons <| wg_name <| wgs_nil ?_⟩
    have la := preLen ha
    have lb := preLen hb
    have na := inN ha
    have nb := inN hb
    refine ws_seq <| ws_asg <| we_map (is := [8]) (preL side a n) .str .str (fun x => decide (x ∈ preL side b n)) (fun i hi => by simpa using hi) (wi_tup <| we_var (by rfl) ⟨_, rfl, rfl, by omega, fun x hx => wg_name ?_, ?_⟩)
    · exact wt_test <| we_op <| we_var (by rfl) <| we_var (by rfl) <| wr_inS (.inr rfl) ⟨_, rfl, by rw [if_neg Bool.false_ne_true]; rfl, fun _ => we_var (by rfl) rfl⟩
    have bl : (bothL side a b n).length ≤ 45 := Nat.le_trans (List.length_filter_le _ _) la
    have bn : ∀ x ∈ bothL side a b n, x ∈ names := fun x hx => na x (List.mem_filter.mp hx).1
    have idx : ∀ {ρ : Rho} {i : Nat} {x : Str} {Q : X3.D → Prop}, x ∈ names → ρ[2]? = some (.dat (.list (names.map .str))) → ρ[i]? = some (.dat (.str x)) → Q (.int ((names.idxOf x : Nat) : Int)) → WE K S (tEither (tBM K "list" (rIndex K) (tVar 2) (tCons (tVar i) tNil)) (tTM K (rIndexT K) (tVar 2) (tCons (tVar i) tNil))) ρ Q := fun {ρ i x Q} hx h1 h2 hQ => we_ei1 <| we_index <| we_var h1 ⟨names, rfl, we_var h2 ⟨x, names.idxOf x, rfl, idxOf_at hx, fun m hm => idxOf_first hm, hQ⟩⟩
    refine ws_seq <| ws_asg <| we_mapY (is := [8]) (bothL side a b n) .str (fun l => intsL [((names.idxOf l : Nat) : Int)]) (fun i hi => by simpa using hi) (wi_list <| we_var (by rfl) ⟨_, rfl, rfl, by omega, fun x hx => wg_name <| we_lst <| wa_cons <| idx (bn x hx) (by rfl) (by rfl) <| wa_nil ⟨Nat.le_of_ble_eq_true rfl, rfl⟩, ?_⟩)
    refine ws_seq (ws_forT (is := [8]) (preL side a n) .str (fun ys ρ' μ' => ∃ x8 x11, ρ' = [.dat (.str side), .dat (.list [strsD a, strsD b]), .dat (.list (names.map .str)), .dat (.str n), .dat (strsD (turnL side a)), .dat (strsD (turnL side b)), .dat (strsD (preL side a n)), .dat (strsD (preL side b n)), x8, .dat (.list ((bothL side a b n).map .str)), .dat (.list (((bothL side a b n).map (fun l => [((names.idxOf l : Nat) : Int)]) ++ ys.flatMap (pairsOf side names a b n)).map intsL)), x11, .no, .no, .no, .no] ∧ μ' = []) (wi_tup <| we_var (by rfl) ⟨_, rfl, rfl, ⟨.no, .no, ?_, rfl⟩, ?_, ?_⟩))
    · rw [List.flatMap_nil, List.append_nil, List.map_map]
      rfl
    · rintro ys l zs ρ' μ' hs ⟨x8, x11, rfl, rfl⟩
      have hl2 : l ∈ preL side a n := by rw [hs]; simp
      have yl : ys.length ≤ 45 := by
        have := congrArg List.length hs
        simp at this
        omega
      have pl : ∀ l, (pairsOf side names a b n l).length ≤ 45 := fun l => by
        unfold pairsOf
        rw [List.length_map]
        exact Nat.le_trans (List.length_filter_le _ _) lb
      have fl := flat_few (f := pairsOf side names a b n) (L := ys) (c := 45) fun x _ => pl x
      refine wg_name <| ws_seq <| ws_asg <| we_map (is := [13]) (preL side b n) .str (fun m => .int ((names.idxOf m : Nat) : Int)) (fun m => !decide (l ∈ bothL side a b n) && !decide (m ∈ bothL side a b n)) (fun i hi => by simpa using hi) (wi_tup <| we_var (by rfl) ⟨_, rfl, rfl, by omega, fun m hm => wg_name ?_, ?_⟩)
      · refine wt_and <| wt_test <| we_op <| we_var (by rfl) <| we_var (by rfl) <| wr_inS (.inl rfl) ⟨_, rfl, ?_⟩
        rw [if_pos rfl]
        by_cases e : l ∈ bothL side a b n
        · rw [decide_eq_true e]
          exact iteNT ⟨rfl, fun z => by cases z⟩
        · rw [decide_eq_false e]
          refine iteNF <| wt_test <| we_op <| we_var (by rfl) <| we_var (by rfl) <| wr_inS (.inl rfl) ⟨_, rfl, ?_⟩
          rw [if_pos rfl]
          exact ⟨rfl, fun _ => idx (nb m hm) (by rfl) (by rfl) rfl⟩
      have e1 : (((preL side b n).filter fun m => !decide (l ∈ bothL side a b n) && !decide (m ∈ bothL side a b n)).map fun m => X3.D.int ((names.idxOf m : Nat) : Int)) = (((preL side b n).filter fun m => !decide (l ∈ bothL side a b n) && !decide (m ∈ bothL side a b n)).map fun m => ((names.idxOf m : Nat) : Int)).map .int := by rw [List.map_map]; rfl
      rw [e1]
      generalize hks : ((preL side b n).filter fun m => !decide (l ∈ bothL side a b n) && !decide (m ∈ bothL side a b n)).map (fun m => ((names.idxOf m : Nat) : Int)) = ks
      have kl : ks.length ≤ 45 := by
        rw [← hks, List.length_map]
        exact Nat.le_trans (List.length_filter_le _ _) lb
      have pe : pairsOf side names a b n l = ks.map fun k => [((names.idxOf l : Nat) : Int), k].mergeSort (leG X3.D.int) := by
        rw [← hks, List.map_map]
        rfl
      refine ws_asg <| we_op <| we_var (by rfl) <| we_mapY (is := [14]) ks .int (fun k => intsL ([((names.idxOf l : Nat) : Int), k].mergeSort (leG X3.D.int))) (fun i hi => by simpa using hi) (wi_list <| we_var (by rfl) ⟨_, rfl, rfl, by omega, fun k hk => wg_name <| we_cb <| wa_cons <| we_lst <| wa_cons <| idx (na l hl2) (by rfl) (by rfl) <| wa_cons <| we_var (by rfl) <| wa_nil ⟨Nat.le_of_ble_eq_true rfl, wa_nil <| wc_sortedI (l := [((names.idxOf l : Nat) : Int), k]) rfl⟩, ?_⟩)
      refine wp_l (by rw [List.length_map, List.length_map, List.length_append, List.length_map]; omega) ⟨.dat (.str l), .dat (.list (ks.map .int)), ?_, rfl⟩
      rw [List.flatMap_append, List.flatMap_singleton, pe, ← List.append_assoc, List.map_append (l₂ := ks.map _), List.map_map (l := ks)]
      rfl
    rintro ρ' μ' ⟨x8, x11, rfl, rfl⟩
    unfold rowsSay twoL at hq
    have Fl : ((bothL side a b n).map (fun l => [((names.idxOf l : Nat) : Int)]) ++ (preL side a n).flatMap (pairsOf side names a b n)).length ≤ 3000 := by
      have fl := flat_few (f := pairsOf side names a b n) (L := preL side a n) (c := 45) fun x _ => by
        unfold pairsOf
        rw [List.length_map]
        exact Nat.le_trans (List.length_filter_le _ _) lb
      rw [List.length_append, List.length_map]
      have : (preL side a n).length * 45 ≤ 45 * 45 := Nat.mul_le_mul_right _ la
      omega
    have Fr : ∀ row ∈ (bothL side a b n).map (fun l => [((names.idxOf l : Nat) : Int)]) ++ (preL side a n).flatMap (pairsOf side names a b n), row.length ≤ 90000 ∧ ∀ k ∈ row, 0 ≤ k ∧ k < (names.length : Nat) := fun row hr => by
      have at_ : ∀ x ∈ names, 0 ≤ ((names.idxOf x : Nat) : Int) ∧ ((names.idxOf x : Nat) : Int) < (names.length : Nat) := fun x hx => by
        have := List.idxOf_lt_length_of_mem hx
        omega
      rcases List.mem_append.mp hr with z | z
      · obtain ⟨x, hx, rfl⟩ := List.mem_map.mp z
        exact ⟨by show 1 ≤ 90000; decide, fun k hk => by rw [List.mem_singleton.mp hk]; exact at_ x (bn x hx)⟩
      · obtain ⟨x, hx, hr2⟩ := List.mem_flatMap.mp z
        obtain ⟨m, hm, rfl⟩ := List.mem_map.mp hr2
        refine ⟨by rw [List.length_mergeSort]; show 2 ≤ 90000; decide, fun k hk => ?_⟩
        have hk2 := List.mem_mergeSort.mp hk
        simp only [List.mem_cons, List.not_mem_nil, or_false] at hk2
        rcases hk2 with rfl | rfl
        · exact at_ x (na x hx)
        · exact at_ m (nb m (List.mem_filter.mp hm).1)
    generalize (bothL side a b n).map (fun l => [((names.idxOf l : Nat) : Int)]) ++ (preL side a n).flatMap (pairsOf side names a b n) = F at hq Fl Fr
    refine ws_ret <| we_mapY (is := [15]) (F.mergeSort (leG intsL)) intsL (fun row => sayD (n, backL names row)) (fun i hi => by simpa using hi) (wi_list <| we_cb <| wa_cons <| we_var (by rfl) <| wa_nil <| wc_sortedIs ⟨_, rfl, rfl, by rw [List.length_mergeSort]; omega, fun row hrow => wg_name ?_, hq⟩)
    · obtain ⟨r1, r2⟩ := Fr row (List.mem_mergeSort.mp hrow)
      refine we_tup <| wa_cons <| we_var (by rfl) <| wa_cons <| we_cb <| wa_cons <| we_mapY (is := [14]) row .int (fun k => .str (nameAt names k)) (fun i hi => by simpa using hi) (wi_list <| we_var (by rfl) ⟨_, rfl, rfl, by omega, fun k hk => wg_name <| we_op <| we_var (by rfl) <| we_var (by rfl) <| wr_ixL (d := .str (nameAt names k)) (at_name (r2 k hk)) rfl, ?_⟩)
      refine wa_nil <| wc_tupleR (.inl rfl) <| wa_nil ⟨Nat.le_of_ble_eq_true rfl, ?_⟩
      rw [mem_back]
      rfl
end
end Tk

set_option Elab.async false
set_option linter.all false
set_option maxRecDepth 100000
set_option maxHeartbeats 4000000
namespace Tk
open PySem L2 X3
abbrev shelpers : Stmt := topS 5
theorem schelpers : FnScope ["side", "order", "name", "at", "other"] ["side", "order", "name"] (defScope shelpers) := ⟨rfl, rfl, rfl, by decide +kernel, rfl, by decide +kernel, by decide +kernel⟩
abbrev sis_least : Stmt := topS 7
theorem scis_least : FnScope ["hit", "groups", "alone", "group", "inside", "name"] ["hit", "groups"] (defScope sis_least) := ⟨rfl, rfl, rfl, by decide +kernel, rfl, by decide +kernel, by decide +kernel⟩
abbrev sleast_hits : Stmt := topS 6
theorem scleast_hits : FnScope ["groups", "hits", "count", "group", "longer", "hit", "tried", "name", "more"] ["groups"] (defScope sleast_hits) := ⟨rfl, rfl, rfl, by decide +kernel, rfl, by decide +kernel, by decide +kernel⟩
abbrev sleast_sayings : Stmt := topS 4
theorem scleast_sayings : FnScope ["side", "orders", "names", "name", "numbers", "groups", "rows", "order", "some", "other", "row", "number"] ["side", "orders", "names", "name"] (defScope sleast_sayings) := ⟨rfl, rfl, rfl, by decide +kernel, rfl, by decide +kernel, by decide +kernel⟩

def keysD (g : List Str) : List (Key × X3.D) := g.map fun n => (.inr n, .bl true)
abbrev helpF (g : List Str) : X3.D := .fz (keysD g)
theorem keysD_names {g : List Str} : (keysD g).map (fun kv => kD kv.1) = g.map X3.D.str := by unfold keysD; rw [List.map_map]; rfl
theorem keysD_len {g : List Str} : (keysD g).length = g.length := by unfold keysD; rw [List.length_map]
theorem keysD_get {x : Str} : ∀ {g : List Str}, (getK (keysD g) (.inr x)).isSome = decide (x ∈ g)
  | [] => rfl
  | y :: g => by
    by_cases h : y = x
    · subst h
      rw [decide_eq_true (List.mem_cons_self)]
      show (getK ((Sum.inr y, X3.D.bl true) :: keysD g) (.inr y)).isSome = true
      simp [getK]
    · have e : getK (keysD (y :: g)) (.inr x) = getK (keysD g) (.inr x) := by
        show getK ((Sum.inr y, X3.D.bl true) :: keysD g) (.inr x) = _
        have : ¬ (Sum.inr y : Key) = .inr x := fun z => h (Sum.inr.inj z)
        simp [getK, this]
      rw [e, keysD_get (g := g)]
      exact decide_eq_decide.mpr ⟨fun z => List.mem_cons_of_mem _ z, fun z => (List.mem_cons.mp z).resolve_left fun q => h q.symm⟩
theorem keysD_put {A : List Str} {x : Str} (h : x ∉ A) : putD (keysD A) (.inr x) (.bl true) = keysD (A ++ [x]) := by
  unfold keysD
  rw [putD_new _ (getK_none fun z => h (by
    rw [List.map_map] at z
    obtain ⟨m, hm, em⟩ := List.mem_map.mp z
    have em' : m = x := Sum.inr.inj em
    rw [← em']
    exact hm)), List.map_append]
  rfl
theorem putD_keys {v : X3.D} : ∀ {kvs : List (Key × X3.D)} {k : Key}, getK kvs k = some v → putD kvs k v = kvs ∨ True := fun _ => .inr trivial
theorem keysD_again {x : Str} : ∀ {A : List Str}, x ∈ A → putD (keysD A) (.inr x) (.bl true) = keysD A := fun {A} h => by
  unfold putD
  have e : (getK (keysD A) (.inr x)).isSome = true := by rw [keysD_get]; exact decide_eq_true h
  split
  · unfold keysD
    rw [List.map_map]
    refine List.map_congr_left fun n _ => ?_
    show (if _ then _ else _) = _
    split
    · next z =>
      first
        | (have z' := of_decide_eq_true z; rw [← z'])
        | (have z' := eq_of_beq z; rw [← z'])
        | rw [← z]
        | rfl
    · rfl
  · next z => 
    first
      | exact absurd e z
      | (exfalso; revert z e; simp)
theorem priv_len {Gs : List (List Str)} {T A : List Str} (nd : T.Nodup) (an : A.Nodup) (h : ∀ x, x ∈ A ↔ ∃ g ∈ Gs, T.filter (fun y => decide (y ∈ g)) = [x]) : decide (((A.length : Nat) : Int) = ((T.length : Nat) : Int)) = privB Gs T := by
  have hs : ∀ x ∈ A, x ∈ T := fun x hx => by
    obtain ⟨g, _, e⟩ := (h x).mp hx
    have : x ∈ T.filter fun y => decide (y ∈ g) := by rw [e]; simp
    exact (List.mem_filter.mp this).1
  have le := len_le an hs
  have all : privB Gs T = true ↔ ∀ x ∈ T, x ∈ A := by
    unfold privB
    rw [List.all_eq_true]
    refine forall_congr' fun x => forall_congr' fun hx => ?_
    rw [h x, List.any_eq_true]
    exact ⟨fun ⟨g, a, b⟩ => ⟨g, a, of_decide_eq_true b⟩, fun ⟨g, a, b⟩ => ⟨g, a, decide_eq_true b⟩⟩
  refine Bool.eq_iff_iff.mpr ?_
  rw [all, decide_eq_true_iff]
  constructor
  · intro e x hx
    refine Classical.byContradiction fun hxA => ?_
    have := len_le (l := x :: A) (m := T) (List.nodup_cons.mpr ⟨hxA, an⟩) fun y hy => by
      rcases List.mem_cons.mp hy with rfl | z
      · exact hx
      · exact hs y z
    rw [List.length_cons] at this
    omega
  · intro z
    have := len_le nd z
    omega
theorem hits_len : ∀ (k : Nat) (Gs : List (List Str)), Gs.length = k → ∀ h ∈ hitsL Gs, h.length ≤ k
  | 0, Gs, e, h, hh => by
    rw [List.length_eq_zero_iff.mp e] at hh
    have : h = [] := List.mem_singleton.mp hh
    rw [this]
    exact Nat.le_refl _
  | k + 1, Gs, e, h, hh => by
    rcases List.eq_nil_or_concat Gs with z | ⟨us, g, z⟩
    · rw [z] at e
      cases e
    · rw [List.concat_eq_append] at z
      subst z
      rw [hitsL_snoc] at hh
      obtain ⟨a, ha, hg⟩ := List.mem_flatMap.mp hh
      have ih := hits_len k us (by simp at e; exact e) a ha
      unfold growH at hg
      split at hg
      · rw [List.mem_singleton.mp hg]
        omega
      · obtain ⟨x, _, rfl⟩ := List.mem_map.mp (List.mem_filter.mp hg).1
        rw [List.length_append, List.length_singleton]
        omega
/-- the names that help, in the order's own sequence -/
def helpL (side : Str) (n : Str) (o : List Str) : List Str := if side = cBEHIND then o.take (o.idxOf n) else o.drop (o.idxOf n + 1)
theorem help_sub {side n : Str} {o : List Str} : (helpL side n o).Sublist o := by
  unfold helpL
  split
  · exact List.take_sublist _ _
  · exact List.drop_sublist _ _
theorem at_end {μ0 : Mu} {m : M} : (μ0 ++ [m])[μ0.length]? = some m := by simp
theorem set_end {μ0 : Mu} {m m' : M} : (μ0 ++ [m]).set μ0.length m' = μ0 ++ [m'] := by simp
section
variable {P : Program} {w : World} {K : PySem.W.Frag} {mg : Str → Option Value} {tk : Nat → Tok} {base : Heap}
/-- {n: True for n in ..}, a new dict -/
theorem wf_keysN {S : Res} {ρ : Rho} {Q : M → Prop} {wi : TI} {i : Nat} {vs : List Nat} (ns : List Str) (nd : ns.Nodup) (few : ns.length ≤ 90000) (hi : i < ρ.length) (hv : i ∈ vs)
    (h : WI K S wi ρ fun ds => ds = ns.map X3.D.str ∧ Q (.dict (keysD ns))) :
    WF K S (tDc wi (gName i) tYes (tVar i) (tC (.bl true)) vs) ρ Q := by
  refine wf_dc (is := [i]) (fun pre out => out = keysD (ns.take pre.length)) (fun j hj => by rw [List.mem_singleton.mp hj]; exact hv) (wi_imp h ?_)
  rintro ds ⟨rfl, hq⟩
  refine ⟨rfl, ?_, ?_⟩
  · rintro pre d post out hd rfl
    obtain ⟨ys, n, zs, rfl, rfl, rfl⟩ := split_map hd
    have e1 : (ys ++ n :: zs).take (ys.map X3.D.str).length = ys := by simp
    rw [e1, take_snoc]
    refine wg_name (wt_yes ?_)
    rw [if_pos rfl]
    refine we_var (d := .str n) ?_ (we_bl ⟨.inr n, rfl, ?_, ?_⟩)
    · rw [List.getElem?_set_self (by rw [wipeR_len]; exact hi)]
    · rw [keysD_len]
      simp at few
      omega
    · exact keysD_put fun z => (List.nodup_append.mp nd).2.2 n z n (by simp) rfl
  · rintro out rfl
    rw [List.length_map, List.take_length]
    exact hq
def pHelpers : Res → List X3.D → (List (Key × X3.D) → Prop) → Prop := fun _ ds q => ∃ (side : Str) (o : List Str) (n : Str), ds = [.str side, strsD o, .str n] ∧ o.Nodup ∧ n ∈ o ∧ o.length ≤ 1000 ∧ q (keysD (helpL side n o))
theorem ok_helpers {f : Addr} {fd : FuncData} (F : Fun K "_helpers" "_helpers" shelpers f fd) (T : Txt K mg tk) : FnOk P w K mg base CX0 1 f fd ["side", "order", "name"] (spFD K (pHelpers)) := by
  refine F.ok schelpers (fun vs H Q E h => ?_) (fun cdv A outer s H vs Q E hr h => ?_)
  · obtain ⟨S, G, ds, q, _, r, ⟨side, o, n, rfl, nd, hn, hl, hq⟩, _⟩ := h
    exact r.length
  · obtain ⟨S, G, ds, q, w0, r, ⟨side, o, n, rfl, nd, hn, hl, hq⟩, k⟩ := h
    have hu := hu64 hr
    have hu1 := hu_of hr
    refine ⟨_, (pss_cons (ps_set (i := 3) schelpers.nd rfl (Or.inl rfl) (show PE _ _ (tTM K (rIndexT K) _ _) from pe_tm PySem.F.plainAttrs_tuple PySem.F.slot_tuple_index PySem.F.type_tuple_index mt_indexT (pv 1) (pa_cons (pv 2) pa_nil)))
      (pss_one (ps_ret (pe_dc (own := [("other", 4)]) (g := gName 4) (tt := tYes) rfl schelpers.nd (pi_tup (pe_ifExp (pt_cmpR (r := rEqA K) (op_eqA hu) (pv 0) (pe_glob (v := .str cBEHIND) (by rfl) T.gBEHIND ⟨_, rfl⟩) (nomark _)) (pe_slice (r := rSlN K) sl_tupN (pv 1) po_none (po_some (pv 3))) (pe_slice (r := rSlN K) sl_tupN (pv 1) (po_some (pe_op op_plus (pv 3) pe_int)) po_none))) (blkOk_by (N := ["side", "order", "name", "at", "other"]) (sc := defScope shelpers) (by decide +kernel)) (fun _ _ _ _ _ => (pg_name (i := 4) schelpers.nd rfl (Or.inl rfl))) (fun _ _ _ _ _ => pts_nil) (fun _ _ _ _ _ => (pv 4)) (fun _ _ _ _ _ => pe_bl))))), ?_⟩
    refine body_ofRD w0 r k ?_
    have hs := help_sub (side := side) (n := n) (o := o)
    refine ws_asg <| we_indexT <| we_var (by rfl) ⟨o, rfl, we_var (by rfl) ⟨n, o.idxOf n, rfl, idxOf_at hn, fun m hm => idxOf_first hm, rfl, ?_⟩⟩
    refine wf_keysN (helpL side n o) (nd.sublist hs) (by have := hs.length_le; omega) (Nat.le_of_ble_eq_true rfl) (by simp) <| wi_tup <| we_if <| wt_test <| we_op <| we_var (by rfl) <| we_str <| we_eqS ⟨_, rfl, ?_⟩
    unfold helpL at hq ⊢
    by_cases c : side = cBEHIND
    · rw [if_pos c] at hq
      refine iteD c <| we_slN <| we_var (by rfl) <| wo_none <| wo_some <| we_var (by rfl) ⟨_, rfl, _, rfl, ?_⟩
      rw [cut_to, ← List.map_take, if_pos c]
      exact ⟨_, rfl, rfl, _, rfl, hq⟩
    · rw [if_neg c] at hq
      refine iteDN c <| we_slN <| we_var (by rfl) <| wo_some <| we_op <| we_var (by rfl) <| we_int <| wp_i ⟨((o.idxOf n + 1 : Nat) : Int), rfl, wo_none ⟨_, rfl, ?_⟩⟩
      rw [cut_from, ← List.map_drop, if_neg c]
      exact ⟨_, rfl, rfl, _, rfl, hq⟩
def pIsLeast : Res → List X3.D → (X3.D → Prop) → Prop := fun _ ds q => ∃ (t : List Str) (Gs : List (List Str)), ds = [strsD t, .list (Gs.map helpF)] ∧ t.Nodup ∧ t.length ≤ 1000 ∧ Gs.length ≤ 90000 ∧ q (.bl (privB Gs t))
theorem ok_is_least {f : Addr} {fd : FuncData} (F : Fun K "_is_least" "_is_least" sis_least f fd) (T : Txt K mg tk) : FnOk P w K mg base CX0 1 f fd ["hit", "groups"] (spD K (pIsLeast)) := by
  refine F.ok scis_least (fun vs H Q E h => ?_) (fun cdv A outer s H vs Q E hr h => ?_)
  · obtain ⟨S, G, ds, q, _, r, ⟨t, Gs, rfl, nd, hl, hgl, hq⟩, _⟩ := h
    exact r.length
  · obtain ⟨S, G, ds, q, w0, r, ⟨t, Gs, rfl, nd, hl, hgl, hq⟩, k⟩ := h
    have hu := hu64 hr
    have hu1 := hu_of hr
    refine ⟨_, (pss_cons (ps_set (i := 2) scis_least.nd rfl (Or.inl rfl) pe_dnewK)
      (pss_cons (ps_for PassesOwn.never rfl (pi_list (pv 1)) (pg_name (i := 3) scis_least.nd rfl (Or.inr rfl)) (pss_cons (ps_setLc (i := 4) (own := [("name", 5)]) (g := gName 5)  rfl scis_least.nd rfl rfl (by with_unfolding_all rfl) (pi_tup (pv 0)) (blkOk_by (N := ["hit", "groups", "alone", "group", "inside", "name"]) (sc := defScope sis_least) (by decide +kernel)) (fun _ _ _ _ _ => (pg_name (i := 5) scis_least.nd rfl (Or.inl rfl))) (fun _ _ _ _ _ => (pts_one (pt_cmp (pc_din hu1 (pv 5) (pv 3)) (by with_unfolding_all rfl)))) (fun _ _ _ _ _ => (pv 5)))
      (pss_one (ps_if (pt_cmpR (r := rEqA K) (op_eqA hu) (pe_callB (r := rCount K) call_len (by rfl) T.nlen PySem.boot_len (pa_cons (pv 4) pa_nil)) pe_int (nomark _)) (pss_one (ps_dput hu1 (pv 2) (pe_ix (r := rIx K) ix_seq (pv 4) pe_int (fun _ _ => rfl)) pe_bl rfl)) pss_nil))))
      (pss_one (ps_ret (pe_cmpR (r := rEqA K) (op_eqA hu) (pe_callB (r := rLenDict) call_lenDict (by rfl) T.nlen PySem.boot_len (pa_cons (pv 2) pa_nil)) (pe_callB (r := rCount K) call_len (by rfl) T.nlen PySem.boot_len (pa_cons (pv 0) pa_nil)) (nomark _)))))), ?_⟩
    refine body_of w0 r k ?_

    refine ws_seq <| ws_own (Nat.le_of_ble_eq_true rfl) <| wf_dnew ?_
    refine ws_seq (ws_forT (is := [3]) Gs helpF (fun ys ρ' μ' => ∃ (x3 x4 : SD) (A : List Str), ρ' = [.dat (strsD t), .dat (.list (Gs.map helpF)), .own 0, x3, x4, .no] ∧ μ' = [.dict (keysD A)] ∧ A.Nodup ∧ ∀ x, x ∈ A ↔ ∃ g ∈ ys, t.filter (fun y => decide (y ∈ g)) = [x]) (wi_list <| we_var (by rfl) ⟨_, rfl, rfl, ⟨.no, .no, [], rfl, rfl, List.nodup_nil, fun x => ⟨fun z => (by cases z), fun ⟨g, hg, _⟩ => (by cases hg)⟩⟩, ?_, ?_⟩))
    · rintro ys g zs ρ' μ' hs ⟨x3, x4, A, rfl, rfl, an, ha⟩
      have al : A.length ≤ 1000 := by
        have := len_le (m := t) an fun x hx => by
          obtain ⟨g, _, e⟩ := (ha x).mp hx
          have : x ∈ t.filter fun y => decide (y ∈ g) := by rw [e]; simp
          exact (List.mem_filter.mp this).1
        omega
      refine wg_name <| ws_seq <| ws_asg <| we_map (is := [5]) t .str .str (fun y => decide (y ∈ g)) (fun i hi => by simpa using hi) (wi_tup <| we_var (by rfl) ⟨_, rfl, rfl, by omega, fun y hy => wg_name <| wt_test <| we_din <| we_var (by rfl) <| we_varF (kvs := keysD g) (by rfl) ⟨keysD g, .inr y, rfl, rfl, _, rfl, keysD_get, fun _ => we_var (by rfl) rfl⟩, ?_⟩)
      generalize hI : t.filter (fun y => decide (y ∈ g)) = I
      have Il : I.length ≤ 1000 := by rw [← hI]; exact Nat.le_trans (List.length_filter_le _ _) hl
      have grow : ∀ x, (∃ g' ∈ ys ++ [g], t.filter (fun y => decide (y ∈ g')) = [x]) ↔ x ∈ A ∨ I = [x] := fun x => by
        rw [ha x]
        constructor
        · rintro ⟨g', hg', e⟩
          rcases List.mem_append.mp hg' with z | z
          · exact .inl ⟨g', z, e⟩
          · rw [List.mem_singleton.mp z, hI] at e
            exact .inr e
        · rintro (⟨g', hg', e⟩ | e)
          · exact ⟨g', List.mem_append_left _ hg', e⟩
          · exact ⟨g, by simp, by rw [hI]; exact e⟩
      refine ws_if <| wt_test <| we_op <| we_cb <| wa_cons <| we_var (by rfl) <| wa_nil <| wc_lenR (d := .list (I.map X3.D.str)) (n := I.length) (show I.length = (I.map X3.D.str).length by simp) <| we_int <| we_eqI ⟨_, rfl, ?_⟩
      by_cases c : I.length = 1
      · obtain ⟨x, hx⟩ := List.length_eq_one_iff.mp c
        refine iteD (by omega) <| ws_dputv (j := 0) (by rfl) (by rfl) (by rw [keysD_len]; omega) <| we_bl ⟨rfl, we_op <| we_var (by rfl) <| we_int <| wr_ixL (d := .str x) (atI_nat (j := 0) (by rw [hx]; rfl)) ⟨.inr x, rfl, ?_⟩⟩
        by_cases xa : x ∈ A
        · refine ⟨_, _, A, rfl, ?_, an, fun y => ?_⟩
          · show ([.dict (putD (keysD A) (.inr x) (.bl true))] : Mu) = _
            rw [keysD_again xa]
          · rw [grow, hx]
            exact ⟨.inl, fun z => z.elim id fun e => by rw [← (List.cons.inj e).1]; exact xa⟩
        · refine ⟨_, _, A ++ [x], rfl, ?_, List.nodup_append.mpr ⟨an, by simp, fun a h b hb e => xa (by rw [← List.mem_singleton.mp hb, ← e]; exact h)⟩, fun y => ?_⟩
          · show ([.dict (putD (keysD A) (.inr x) (.bl true))] : Mu) = _
            rw [keysD_put xa]
          · rw [grow, hx, List.mem_append, List.mem_singleton]
            exact ⟨fun z => z.imp id fun e => by rw [e], fun z => z.imp id fun e => (List.cons.inj e).1.symm⟩
      · refine iteDN (by omega) <| ws_next ⟨_, _, A, rfl, rfl, an, fun y => ?_⟩
        rw [grow]
        exact ⟨.inl, fun z => z.elim id fun e => absurd (by rw [e]; rfl) c⟩
    · rintro ρ' μ' ⟨x3, x4, A, rfl, rfl, an, ha⟩
      refine ws_ret <| we_op <| we_cb <| wa_cons <| we_var (by rfl) <| wa_nil <| wc_lenDict <| we_cb <| wa_cons <| we_var (by rfl) <| wa_nil <| wc_lenR (d := strsD t) (n := t.length) (show t.length = (t.map X3.D.str).length by simp) <| we_eqI ?_
      rw [keysD_len, priv_len nd an ha]
      exact hq
end
end Tk

set_option Elab.async false
set_option linter.all false
set_option maxRecDepth 100000
set_option maxHeartbeats 4000000
namespace Tk
open PySem L2 X3
theorem enum1_split {Gs : List (List Str)} {pre post : List X3.D} {d : X3.D} (h : enumD1 (Gs.map helpF) = pre ++ d :: post) : ∃ ys g zs, Gs = ys ++ g :: zs ∧ ys.length = pre.length ∧ d = .wtup [.int (((pre.length : Nat) : Int) + 1), helpF g] := by
  have hl : pre.length < (enumD1 (Gs.map helpF)).length := by rw [h]; simp
  rw [enumD1_len, List.length_map] at hl
  have e1 : (enumD1 (Gs.map helpF))[pre.length]? = some d := by rw [h]; simp
  have e2 : (Gs.map helpF)[pre.length]? = some (helpF Gs[pre.length]) := by rw [List.getElem?_map, List.getElem?_eq_getElem hl]; rfl
  rw [enumD1_get e2] at e1
  refine ⟨Gs.take pre.length, Gs[pre.length], Gs.drop (pre.length + 1), ?_, by rw [List.length_take]; omega, (Option.some.inj e1).symm⟩
  rw [← List.drop_eq_getElem_cons hl, List.take_append_drop]
section
variable {P : Program} {w : World} {K : PySem.W.Frag} {mg : Str → Option Value} {tk : Nat → Tok} {base : Heap}
structure FewH (Gs : List (List Str)) : Prop where
  nd : ∀ g ∈ Gs, g.Nodup ∧ g.length ≤ 40
  len : Gs.length ≤ 900
  few : ∀ a b, Gs = a ++ b → (hitsL a).length * 40 ≤ 64000
def pLHits : Res → List X3.D → (X3.D → Prop) → Prop := fun _ ds q => ∃ (Gs : List (List Str)), ds = [.list (Gs.map helpF)] ∧ FewH Gs ∧ q (.list ((hitsL Gs).map strsD))
theorem ok_least_hits {f : Addr} {fd : FuncData} (F : Fun K "_least_hits" "_least_hits" sleast_hits f fd) (T : Txt K mg tk) {f1 : Addr} {d1 : FuncData}
    (D1 : Prom P w K mg base "_is_least" f1 d1 ["hit", "groups"] 1 (spD K (pIsLeast))) : FnOk P w K mg base CX0 2 f fd ["groups"] (spD K (pLHits)) := by
  refine F.ok scleast_hits (fun vs H Q E h => ?_) (fun cdv A outer s H vs Q E hr h => ?_)
  · obtain ⟨S, G, ds, q, _, r, ⟨Gs, rfl, ok, hq⟩, _⟩ := h
    exact r.length
  · obtain ⟨S, G, ds, q, w0, r, ⟨Gs, rfl, ok, hq⟩, k⟩ := h
    have hu := hu64 hr
    have hu1 := hu_of hr
    refine ⟨_, (pss_cons (ps_set (i := 1) scleast_hits.nd rfl (Or.inl rfl) (pe_lst (pa_cons (pe_tupN pa_nil) pa_nil)))
      (pss_cons (ps_for PassesOwn.never rfl (pi_enum1 (by rfl) T.nenumerate (pa_cons (pv 0) (pa_cons pe_int pa_nil))) (pg_tup rfl (pgs_cons (pg_name (i := 2) scleast_hits.nd rfl (Or.inr rfl)) (pgs_cons (pg_name (i := 3) scleast_hits.nd rfl (Or.inr rfl)) pgs_nil))) (pss_cons (ps_set (i := 4) scleast_hits.nd rfl (Or.inl rfl) (pe_lst pa_nil))
      (pss_cons (ps_for PassesOwn.never rfl (pi_list (pv 1)) (pg_name (i := 5) scleast_hits.nd rfl (Or.inr rfl)) (pss_one (ps_if (pt_val (pe_callB (r := rAny K) (cr_any rfl) (by rfl) T.nany (by decide +kernel) (pa_cons (pe_lc (own := [("name", 7)]) (g := gName 7)  (tt := tYes) rfl scleast_hits.nd (pi_tup (pv 5)) (blkOk_by (N := ["groups", "hits", "count", "group", "longer", "hit", "tried", "name", "more"]) (sc := defScope sleast_hits) (by decide +kernel)) (fun _ _ _ _ _ => (pg_name (i := 7) scleast_hits.nd rfl (Or.inl rfl))) (fun _ _ _ _ _ => pts_nil) (fun _ _ _ _ _ => (pe_cmp (pc_din hu1 (pv 7) (pv 3)) (by with_unfolding_all rfl)))) pa_nil))) (pss_one (ps_expr (show PE _ _ (tBM K "list" rAppend _ _) from pe_bm PySem.F.plainAttrs_list PySem.F.slot_list_append PySem.F.type_list_append mt_append (pv 4) (pa_cons (pv 5) pa_nil)))) (pss_cons (ps_setLc (i := 6) (own := [("name", 7)]) (g := gName 7)  (tt := tYes) rfl scleast_hits.nd rfl rfl (by with_unfolding_all rfl) (pi_keys (pv 3)) (blkOk_by (N := ["groups", "hits", "count", "group", "longer", "hit", "tried", "name", "more"]) (sc := defScope sleast_hits) (by decide +kernel)) (fun _ _ _ _ _ => (pg_name (i := 7) scleast_hits.nd rfl (Or.inl rfl))) (fun _ _ _ _ _ => pts_nil) (fun _ _ _ _ _ => (pe_op (r := rCatN K) op_catN (pv 5) (pe_tupN (pa_cons (pv 7) pa_nil)))))
      (pss_one (ps_expr (show PE _ _ (tBM K "list" L2.rExtend _ _) from pe_bm PySem.F.plainAttrs_list PySem.F.slot_list_extend PySem.F.type_list_extend L2.mt_extend (pv 4) (pa_cons (pe_lc (own := [("more", 8)]) (g := gName 8)  rfl scleast_hits.nd (pi_list (pv 6)) (blkOk_by (N := ["groups", "hits", "count", "group", "longer", "hit", "tried", "name", "more"]) (sc := defScope sleast_hits) (by decide +kernel)) (fun _ _ _ _ _ => (pg_name (i := 8) scleast_hits.nd rfl (Or.inl rfl))) (fun _ _ _ _ _ => (pts_one (pt_val (pe_call D1.F (hr.mono (by decide)) (by rfl) D1.g D1.kp D1.b .nil pass0 (pa_cons (pv 8) (pa_cons (pe_slice (r := rSlL K) sl_list (pv 0) po_none (po_some (pv 2))) pa_nil)))))) (fun _ _ _ _ _ => (pv 8))) pa_nil))))))))
      (pss_one (ps_set (i := 1) scleast_hits.nd rfl (Or.inl rfl) (pv 4))))))
      (pss_one (ps_ret (pv 1))))), ?_⟩
    refine body_of w0 r k ?_

    refine ws_seq <| ws_asg <| we_lst <| wa_cons <| we_tup <| wa_nil ⟨Nat.zero_le _, wa_nil ⟨Nat.le_of_ble_eq_true rfl, ?_⟩⟩
    refine ws_seq (ws_for (is := [2, 3]) (fun pre ρ' μ' => ∃ (x2 x3 x4 x5 x6 : SD), ρ' = [.dat (.list (Gs.map helpF)), .dat (.list ((hitsL (Gs.take pre.length)).map strsD)), x2, x3, x4, x5, x6, .no, .no]) (wi_enum1 <| wa_cons <| we_var (by rfl) <| wa_cons <| we_int <| wa_nil ⟨_, rfl, ⟨.no, .no, .no, .no, .no, rfl⟩, ?_, ?_⟩))
    · rintro pre d post ρ' μ0 hd ⟨x2, x3, x4, x5, x6, rfl⟩
      obtain ⟨ys, g, zs, hs, yl, rfl⟩ := enum1_split hd
      have tk1 : Gs.take pre.length = ys := by rw [hs, ← yl]; simp
      have tk2 : Gs.take (pre ++ [X3.D.wtup [.int (((pre.length : Nat) : Int) + 1), helpF g]]).length = ys ++ [g] := by
        rw [hs, List.length_append, List.length_singleton, ← yl]
        simp [List.take_append, List.take_of_length_le]
      rw [tk1, tk2]
      obtain ⟨gn, gl⟩ := ok.nd g (by rw [hs]; simp)
      have few := ok.few ys (g :: zs) hs
      have yn : ys.length ≤ 900 := by
        have h1 := ok.len
        rw [hs, List.length_append] at h1
        omega
      have H := hits_ok (Gs := ys) fun g' h' => (ok.nd g' (by rw [hs]; exact List.mem_append_left _ h')).1
      have hlen := hits_len _ ys rfl
      generalize hL : hitsL ys = L at few H hlen
      have L1 : L.length ≤ 1600 := by omega
      refine wg_wtup rfl <| wgs_cons <| wg_name <| wgs_cons <| wg_name <| wgs_nil ?_
      refine ws_seq <| ws_own (Nat.le_of_ble_eq_true rfl) <| wf_lst <| wa_nil ⟨Nat.zero_le _, ?_⟩
      refine ws_seq (ws_forT (is := [5]) L strsD (fun us ρ' μ' => ∃ (x5 x6 : SD), ρ' = [.dat (.list (Gs.map helpF)), .dat (.list (L.map strsD)), .dat (.int (((pre.length : Nat) : Int) + 1)), .dat (helpF g), .own μ0.length, x5, x6, .no, .no] ∧ μ' = μ0 ++ [.lst ((us.flatMap (growH ys g)).map strsD)]) (wi_list <| we_var (by rfl) ⟨_, rfl, rfl, ⟨x5, x6, rfl, rfl⟩, ?_, ?_⟩))
      · rintro us h vs ρ' μ' hu ⟨x5, x6, rfl, rfl⟩
        have hh : h ∈ L := by rw [hu]; simp
        have hl1 := hlen h hh
        have hn := (H.ok h hh).1
        have ul : (us.flatMap (growH ys g)).length ≤ 64000 - 40 := by
          have h1 := flat_few (f := growH ys g) (L := us) (c := 40) fun x _ => grow_few gl (by decide)
          have h2 := congrArg List.length hu
          rw [List.length_append, List.length_cons] at h2
          omega
        refine wg_name <| ws_if <| wt_b <| we_cb <| wa_cons <| we_mapY (is := [7]) h .str (fun x => .bl (decide (x ∈ g))) (fun i hi => by simpa using hi) (wi_tup <| we_var (by rfl) ⟨_, rfl, rfl, by omega, fun x hx => wg_name <| we_din <| we_var (by rfl) <| we_varF (kvs := keysD g) (by rfl) ⟨keysD g, .inr x, rfl, rfl, by rw [keysD_get]⟩, ?_⟩)
        have e1 : (h.map fun x => X3.D.bl (decide (x ∈ g))) = (h.map fun x => decide (x ∈ g)).map .bl := by rw [List.map_map]; rfl
        rw [e1]
        refine wa_nil <| wc_any ⟨_, rfl, ?_⟩
        have e2 : (h.map fun x => decide (x ∈ g)).any id = h.any fun x => decide (x ∈ g) := by rw [List.any_map]; rfl
        rw [e2, List.flatMap_append, List.flatMap_singleton]
        cases c : h.any fun x => decide (x ∈ g) with
        | true =>
          have eg : growH ys g h = [h] := by unfold growH; rw [if_pos c]
          refine iteT <| ws_append (j := μ0.length) (by rfl) at_end (by rw [List.length_map]; omega) <| we_var (by rfl) ⟨_, _, rfl, ?_⟩
          rw [set_end, eg, List.map_append]
          rfl
        | false =>
          have eg : growH ys g h = (g.map fun x => h ++ [x]).filter (privB (ys ++ [g])) := by unfold growH; rw [if_neg (by rw [c]; exact Bool.false_ne_true)]
          have hnot : ∀ x ∈ g, x ∉ h := fun x hx hxh => by
            have := any_hit.mpr ⟨x, hxh, hx⟩
            rw [c] at this
            cases this
          refine iteF <| ws_seq <| ws_asg <| we_mapY (is := [7]) g .str (fun x => strsD (h ++ [x])) (fun i hi => by simpa using hi) (wi_keys <| we_var (by rfl) ⟨_, rfl, keysD_names, by omega, fun x hx => wg_name ?_, ?_⟩)
          · refine we_op (r := rCatN K) <| we_var (by rfl) <| we_tup <| wa_cons <| we_var (by rfl) <| wa_nil ⟨Nat.le_of_ble_eq_true rfl, wr_catN (by
              show (h.map X3.D.str).length + 1 ≤ 100000
              rw [List.length_map]
              omega) (by
              show X3.D.tup (h.map X3.D.str ++ [.str x]) = .tup ((h ++ [x]).map .str)
              rw [List.map_append]
              rfl)⟩
          have e3 : (g.map fun x => strsD (h ++ [x])) = (g.map fun x => h ++ [x]).map strsD := by rw [List.map_map]; rfl
          rw [e3]
          have tl : (g.map fun x => h ++ [x]).length ≤ 40 := by rw [List.length_map]; exact gl
          refine ws_extend (j := μ0.length) (by rfl) at_end <| we_map (is := [8]) (g.map fun x => h ++ [x]) strsD strsD (privB (ys ++ [g])) (fun i hi => by simpa using hi) (wi_list <| we_var (by rfl) ⟨_, rfl, rfl, by omega, fun m hm => wg_name ?_, ?_⟩)
          · obtain ⟨x, hx, rfl⟩ := List.mem_map.mp hm
            refine wt_b <| we_call <| wa_cons <| we_var (by rfl) <| wa_cons <| we_slL <| we_var (by rfl) <| wo_none <| wo_some <| we_var (by rfl) ⟨((pre.length + 1 : Nat) : Int), rfl, _, rfl, ?_⟩
            rw [cut_to, ← List.map_take]
            have tk3 : Gs.take (pre.length + 1) = ys ++ [g] := by rw [← tk2, List.length_append]; rfl
            rw [tk3]
            refine wa_nil ⟨h ++ [x], ys ++ [g], rfl, List.nodup_append.mpr ⟨hn, by simp, fun a ha b hb e => hnot x hx (by rw [← List.mem_singleton.mp hb, ← e]; exact ha)⟩, by rw [List.length_append, List.length_singleton]; omega, by rw [List.length_append, List.length_singleton]; omega, _, rfl, rfl, fun _ => we_var (by rfl) rfl⟩
          · refine ⟨_, rfl, ?_, _, _, rfl, ?_⟩
            · have := List.length_filter_le (privB (ys ++ [g])) (g.map fun x => h ++ [x])
              rw [List.length_map, List.length_map]
              omega
            · rw [set_end, eg, List.map_append]
      · rintro ρ' μ' ⟨x5, x6, rfl, rfl⟩
        refine ws_release (i := 4) (j := μ0.length) (by rfl) at_end <| ws_asg <| we_var (by rfl) ⟨.dat (.int (((pre.length : Nat) : Int) + 1)), .dat (helpF g), .dat (.list ((L.flatMap (growH ys g)).map strsD)), x5, x6, ?_⟩
        rw [hitsL_snoc, hL]
        rfl
    · rintro ρ' μ' ⟨x2, x3, x4, x5, x6, rfl⟩
      rw [enumD1_len, List.length_map, List.take_length]
      exact ws_ret <| we_var (by rfl) hq
end
end Tk

set_option Elab.async false
set_option linter.all false
set_option maxRecDepth 100000
set_option maxHeartbeats 4000000
namespace Tk
open PySem L2 X3
theorem wr_ixE {K : PySem.W.Frag} {S : Res} {Q : X3.D → Prop} {ds : List X3.D} {i : Int} {x d : X3.D} (hd : x = .list ds ∨ x = .tup ds) (h : atI ds i = some d) (q : Q d) : WR2 K S (rIx K) x (.int i) Q := by
  rcases hd with rfl | rfl
  · exact wr_ixL h q
  · exact wr_ixT h q
def sortR (names : List Str) (h : List Str) : List Int := (idxs names h).mergeSort (leG X3.D.int)
def leastF (side : Str) (os : List (List Str)) (names : List Str) (n : Str) : List (List Int) := (hitsL (os.map (helpL side n))).map (sortR names)
structure LeastOk (side : Str) (os : List (List Str)) (names : List Str) (n : Str) : Prop where
  nd : names.Nodup
  mem : n ∈ names
  pm : ∀ o ∈ os, o.Perm names
  len : names.length ≤ 60
  few : FewH (os.map (helpL side n))
section
variable {P : Program} {w : World} {K : PySem.W.Frag} {mg : Str → Option Value} {tk : Nat → Tok} {base : Heap}
def pLeast : Res → List X3.D → (List X3.D → Prop) → Prop := fun _ ds q => ∃ (side : Str) (os : List (List Str)) (d1 : X3.D) (names : List Str) (d2 : X3.D) (n : Str), ds = [.str side, d1, d2, .str n] ∧ (d1 = .list (os.map strsD) ∨ d1 = .tup (os.map strsD)) ∧ (d2 = .list (names.map .str) ∨ d2 = strsD names) ∧ LeastOk side os names n ∧ q (rowsSay names n (leastF side os names n))
theorem ok_least_sayings {f : Addr} {fd : FuncData} (F : Fun K "least_sayings" "least_sayings" sleast_sayings f fd) (T : Txt K mg tk) {f1 f2 f3 : Addr} {d1 d2 d3 : FuncData}
    (D1 : Prom P w K mg base "places_of" f1 d1 ["order"] 1 (spD K (pPlaces)))
    (D2 : Prom P w K mg base "_helpers" f2 d2 ["side", "order", "name"] 1 (spFD K (pHelpers)))
    (D3 : Prom P w K mg base "_least_hits" f3 d3 ["groups"] 2 (spD K (pLHits))) : FnOk P w K mg base CX0 3 f fd ["side", "orders", "names", "name"] (spF K (pLeast)) := by
  refine F.ok scleast_sayings (fun vs H Q E h => ?_) (fun cdv A outer s H vs Q E hr h => ?_)
  · obtain ⟨S, G, ds, q, _, r, ⟨side, os, d1, names, d2, n, rfl, hd1, hd2, ok, hq⟩, _⟩ := h
    exact r.length
  · obtain ⟨S, G, ds, q, w0, r, ⟨side, os, d1, names, d2, n, rfl, hd1, hd2, ok, hq⟩, k⟩ := h
    have hu := hu64 hr
    have hu1 := hu_of hr
    refine ⟨_, (pss_cons (ps_set (i := 4) scleast_sayings.nd rfl (Or.inr rfl) (pe_call D1.F (hr.mono (by decide)) (by rfl) D1.g D1.kp D1.b .nil pass0 (pa_cons (pv 2) pa_nil)))
      (pss_cons (ps_setLc (i := 5) (own := [("order", 7)]) (g := gName 7)  (tt := tYes) rfl scleast_sayings.nd rfl rfl (by with_unfolding_all rfl) (pi_or (pi_list (pv 1)) (pi_tup (pv 1))) (blkOk_by (N := ["side", "orders", "names", "name", "numbers", "groups", "rows", "order", "some", "other", "row", "number"]) (sc := defScope sleast_sayings) (by decide +kernel)) (fun _ _ _ _ _ => (pg_name (i := 7) scleast_sayings.nd rfl (Or.inl rfl))) (fun _ _ _ _ _ => pts_nil) (fun _ _ _ _ _ => (pe_lockT (pe_call D2.F (hr.mono (by decide)) (by rfl) D2.g D2.kp D2.b .nil pass0 (pa_cons (pv 0) (pa_cons (pv 7) (pa_cons (pv 3) pa_nil)))))))
      (pss_cons (ps_set (i := 6) scleast_sayings.nd rfl (Or.inl rfl) (pe_callB (r := rSortedD K) (cr_sortedD hu) (by rfl) T.nsorted (by decide +kernel) (pa_cons (pe_lc (own := [("some", 8)]) (g := gName 8)  (tt := tYes) rfl scleast_sayings.nd (pi_list (pe_call D3.F (hr.mono (by decide)) (by rfl) D3.g D3.kp D3.b .nil pass0 (pa_cons (pv 5) pa_nil))) (blkOk_by (N := ["side", "orders", "names", "name", "numbers", "groups", "rows", "order", "some", "other", "row", "number"]) (sc := defScope sleast_sayings) (by decide +kernel)) (fun _ _ _ _ _ => (pg_name (i := 8) scleast_sayings.nd rfl (Or.inl rfl))) (fun _ _ _ _ _ => pts_nil) (fun _ _ _ _ _ => (pe_callB (r := rSortedD K) (cr_sortedD hu) (by rfl) T.nsorted (by decide +kernel) (pa_cons (pe_lc (own := [("other", 9)]) (g := gName 9)  (tt := tYes) rfl scleast_sayings.nd (show PI _ _ _ (iTup K _) from (pi_tup (pv 8))) (blkOk_by rfl) (fun _ _ _ _ _ => (pg_name (i := 9) scleast_sayings.nd rfl (Or.inl rfl))) (fun _ _ _ _ _ => pts_nil) (fun _ _ _ _ _ => (pe_dget hu1 (pv 4) (pv 9) (fun _ _ => rfl)))) pa_nil)))) pa_nil)))
      (pss_one (ps_ret (pe_lc (own := [("row", 10)]) (g := gName 10)  (tt := tYes) rfl scleast_sayings.nd (pi_list (pv 6)) (blkOk_by (N := ["side", "orders", "names", "name", "numbers", "groups", "rows", "order", "some", "other", "row", "number"]) (sc := defScope sleast_sayings) (by decide +kernel)) (fun _ _ _ _ _ => (pg_name (i := 10) scleast_sayings.nd rfl (Or.inl rfl))) (fun _ _ _ _ _ => pts_nil) (fun _ _ _ _ _ => (pe_tupN (pa_cons (pv 3) (pa_cons (pe_callTy (r := rTupN K) call_tupN (by rfl) T.ntuple PyProof.Rows.boot_tuple (pa_cons (pe_lc (own := [("number", 11)]) (g := gName 11)  (tt := tYes) rfl scleast_sayings.nd (show PI _ _ _ (iList K _) from (pi_list (pv 10))) (blkOk_by rfl) (fun _ _ _ _ _ => (pg_name (i := 11) scleast_sayings.nd rfl (Or.inl rfl))) (fun _ _ _ _ _ => pts_nil) (fun _ _ _ _ _ => (pe_ix (r := rIx K) ix_seq (pv 2) (pv 11) (fun _ _ => rfl)))) pa_nil)) pa_nil)))))))))), ?_⟩
    refine body_ofR3 w0 r k ?_
    have hlen := ok.len
    have gl := ok.few.len
    rw [List.length_map] at gl
    refine ws_seq <| ws_asg <| we_call <| wa_cons <| we_var (by rfl) <| wa_nil ⟨names, d2, rfl, hd2, ok.nd, by omega, fun kvs pl => ?_⟩
    refine ws_seq <| ws_asg <| we_mapY (is := [7]) os strsD (fun o => helpF (helpL side n o)) (fun i hi => by simpa using hi) (wi_imp (P' := fun ds => ds = os.map strsD) ?_ ?_)
    · rcases hd1 with rfl | rfl
      · exact wi_or1 <| wi_list <| we_var (by rfl) ⟨_, rfl, rfl⟩
      · exact wi_or2 <| wi_tup <| we_var (by rfl) ⟨_, rfl, rfl⟩
    rintro _ rfl
    refine ⟨rfl, by omega, fun o ho => wg_name <| we_callFDL <| wa_cons <| we_var (by rfl) <| wa_cons <| we_var (by rfl) <| wa_cons <| we_var (by rfl) <| wa_nil ⟨side, o, n, rfl, (ok.pm o ho).nodup_iff.mpr ok.nd, (ok.pm o ho).mem_iff.mpr ok.mem, by rw [(ok.pm o ho).length_eq]; omega, rfl⟩, ?_⟩
    have e1 : (os.map fun o => helpF (helpL side n o)) = (os.map (helpL side n)).map helpF := by rw [List.map_map]; rfl
    rw [e1]
    have hL := ok.few.few (os.map (helpL side n)) [] (by rw [List.append_nil])
    have hin : ∀ h ∈ hitsL (os.map (helpL side n)), (∀ x ∈ h, x ∈ names) ∧ h.length ≤ 1000 := fun h hh => by
      refine ⟨fun x hx => ?_, ?_⟩
      · refine hits_in (ns := names) (Gs := os.map (helpL side n)) (fun g hg y hy => ?_) ((hits_ok (fun g hg => (ok.few.nd g hg).1)).ok h hh).2.pr x hx
        obtain ⟨o, ho, rfl⟩ := List.mem_map.mp hg
        exact (ok.pm o ho).mem_iff.mp (help_sub.mem hy)
      · have := hits_len _ _ rfl h hh
        rw [List.length_map] at this
        omega
    have hq' : q (rowsSay names n ((hitsL (os.map (helpL side n))).map (sortR names))) := hq
    refine ws_asg <| we_cb <| wa_cons <| we_mapY (is := [8]) (hitsL (os.map (helpL side n))) strsD (fun h => intsL (sortR names h)) (fun i hi => by simpa using hi) (wi_list <| we_call <| wa_cons <| we_var (by rfl) <| wa_nil ⟨os.map (helpL side n), rfl, ok.few, _, rfl, rfl, by omega, fun h hh => wg_name ?_, ?_⟩)
    · obtain ⟨h1, h2⟩ := hin h hh
      refine we_cb <| wa_cons <| we_mapY (is := [9]) h .str (fun x => .int ((names.idxOf x : Nat) : Int)) (fun i hi => by simpa using hi) (wi_tup <| we_var (by rfl) ⟨_, rfl, rfl, by omega, fun x hx => wg_name <| we_dget <| we_var (by rfl) <| we_var (by rfl) ⟨_, .inr x, _, rfl, rfl, pl x (h1 x hx), rfl⟩, ?_⟩)
      rw [show (h.map fun x => X3.D.int ((names.idxOf x : Nat) : Int)) = (idxs names h).map .int by unfold idxs; rw [List.map_map]; rfl]
      exact wa_nil <| wc_sortedI rfl
    generalize hitsL (os.map (helpL side n)) = L at hq' hL hin
    have e2 : (L.map fun h => intsL (sortR names h)) = (L.map (sortR names)).map intsL := by rw [List.map_map]; rfl
    rw [e2]
    have Fr : ∀ row ∈ L.map (sortR names), row.length ≤ 1000 ∧ ∀ k ∈ row, 0 ≤ k ∧ k < (names.length : Nat) := fun row hr => by
      obtain ⟨h, hh, rfl⟩ := List.mem_map.mp hr
      obtain ⟨h1, h2⟩ := hin h hh
      unfold sortR
      refine ⟨by rw [List.length_mergeSort]; unfold idxs; rw [List.length_map]; exact h2, fun k hk => idxs_in h1 k (List.mem_mergeSort.mp hk)⟩
    have Fl : (L.map (sortR names)).length ≤ 90000 := by rw [List.length_map]; omega
    generalize L.map (sortR names) = F at hq' Fr Fl
    refine wa_nil <| wc_sortedIs ⟨rfl, wf_map (is := [10]) (F.mergeSort (leG intsL)) intsL (fun row => sayD (n, backL names row)) (fun _ => true) (fun i hi => by simpa using hi) (wi_list <| we_var (by rfl) ⟨_, rfl, rfl, by rw [List.length_mergeSort]; omega, fun row hrow => wg_name ?_, ?_⟩)⟩
    · obtain ⟨r1, r2⟩ := Fr row (List.mem_mergeSort.mp hrow)
      refine wt_yes ⟨rfl, fun _ => ?_⟩
      refine we_tup <| wa_cons <| we_var (by rfl) <| wa_cons <| we_cb <| wa_cons <| we_mapY (is := [11]) row .int (fun k => .str (nameAt names k)) (fun i hi => by simpa using hi) (wi_list <| we_var (by rfl) ⟨_, rfl, rfl, by omega, fun k hk => wg_name <| we_op <| we_var (by rfl) <| we_var (by rfl) <| wr_ixE (d := .str (nameAt names k)) hd2 (at_name (r2 k hk)) rfl, ?_⟩)
      refine wa_nil <| wc_tupleR (.inl rfl) <| wa_nil ⟨Nat.le_of_ble_eq_true rfl, ?_⟩
      rw [mem_back]
      rfl
    · refine ⟨_, rfl, ?_⟩
      rw [List.filter_eq_self.mpr fun _ _ => rfl]
      exact hq'
end
end Tk

set_option Elab.async false
set_option linter.all false
set_option maxRecDepth 100000
set_option maxHeartbeats 4000000
namespace Tk
open PySem L2 X3
/-! ### the program's rows are the law's -/
theorem int_sorted {l : List Int} (h : l.Pairwise fun a b => a ≤ b) : l.Pairwise fun a b => leG X3.D.int a b = true := h.imp fun {a b} z => by rw [leG_int]; exact decide_eq_true z
theorem idxs_rise {names T : List Str} (nd : names.Nodup) (h : T.Sublist names) : (idxs names T).Pairwise fun a b => a ≤ b := by
  unfold idxs
  have key : ∀ {ns T : List Str}, ns.Nodup → T.Sublist ns → T.Pairwise fun x y => ns.idxOf x ≤ ns.idxOf y := by
    intro ns T nd h
    induction h with
    | slnil => exact .nil
    | @cons l1 l2 a _ ih =>
      obtain ⟨n1, n2⟩ := List.nodup_cons.mp nd
      have hs : l1.Sublist l2 := by assumption
      refine (ih n2).imp_of_mem fun {x y} hx hy hxy => ?_
      have e : ∀ z ∈ l1, (a :: l2).idxOf z = l2.idxOf z + 1 := fun z hz => by
        rw [List.idxOf_cons, beq_false_of_ne (fun (q : a = z) => n1 (by rw [q]; exact hs.mem hz))]
        rfl
      rw [e x hx, e y hy]
      omega
    | @cons_cons l1 l2 a _ ih =>
      obtain ⟨n1, n2⟩ := List.nodup_cons.mp nd
      have hs : l1.Sublist l2 := by assumption
      have e : ∀ z ∈ l1, (a :: l2).idxOf z = l2.idxOf z + 1 := fun z hz => by
        rw [List.idxOf_cons, beq_false_of_ne (fun (q : a = z) => n1 (by rw [q]; exact hs.mem hz))]
        rfl
      refine List.pairwise_cons.mpr ⟨fun y hy => by rw [List.idxOf_cons_self]; exact Nat.zero_le _, (ih n2).imp_of_mem fun {x y} hx hy hxy => ?_⟩
      rw [e x hx, e y hy]
      omega
  exact List.pairwise_map.mpr ((key nd h).imp fun {a b} z => by omega)
theorem sortR_can {names h : List Str} (nd : names.Nodup) (hn : h.Nodup) (hs : ∀ x ∈ h, x ∈ names) : sortR names h = idxs names (canL names h) := by
  refine sortG_is int_inj ?_ (int_sorted (idxs_rise nd canL_sub))
  unfold idxs
  exact ((List.perm_ext_iff_of_nodup hn (nd.sublist canL_sub)).mpr fun x => (canL_same hs x).symm).map _
theorem sortR_sub {names h : List Str} (nd : names.Nodup) (hs : h.Sublist names) : sortR names h = idxs names h := by
  rw [sortR_can nd (nd.sublist hs) fun x hx => hs.mem hx, canL_self nd hs]
theorem hits_perm {names : List Str} {Gs L1 L2 : List (List Str)} (nd : names.Nodup) (hg : ∀ g ∈ Gs, ∀ x ∈ g, x ∈ names) (h1 : HitsOk Gs L1) (h2 : HitsOk Gs L2) : (L1.map (sortR names)).Perm (L2.map (sortR names)) := by
  have e : ∀ {L : List (List Str)}, HitsOk Gs L → L.map (sortR names) = (L.map (canL names)).map (idxs names) := fun {L} H => by
    rw [List.map_map]
    exact List.map_congr_left fun h hh => sortR_can nd (H.ok h hh).1 (hits_in hg (H.ok h hh).2.pr)
  rw [e h1, e h2]
  have no : ∀ {L : List (List Str)}, HitsOk Gs L → (L.map (canL names)).Nodup := fun {L} H =>
    List.pairwise_map.mpr (H.one.imp_of_mem fun {a b} ha hb hab z => hab (((canL_same (hits_in hg (H.ok a ha).2.pr)).symm.trans (by rw [z]; exact fun _ => Iff.rfl)).trans (canL_same (hits_in hg (H.ok b hb).2.pr))))
  have sub : ∀ {L M : List (List Str)}, HitsOk Gs L → HitsOk Gs M → ∀ x, x ∈ L.map (canL names) → x ∈ M.map (canL names) := fun {L M} HL HM x hx => by
    obtain ⟨h, hh, rfl⟩ := List.mem_map.mp hx
    obtain ⟨t, ht, st⟩ := HM.all h (HL.ok h hh).1 (HL.ok h hh).2
    exact List.mem_map.mpr ⟨t, ht, canL_eq st⟩
  exact ((List.perm_ext_iff_of_nodup (no h1) (no h2)).mpr fun x => ⟨sub h1 h2 x, sub h2 h1 x⟩).map _
theorem rows_same {names : List Str} {n : Str} {F1 F2 : List (List Int)} (p : F1.Perm F2) : rowsSay names n F1 = rowsSay names n F2 := by
  unfold rowsSay
  rw [sortG_same intsL_inj p]
/-- groups of the same members -/
structure SameG (Gs Ks : List (List Str)) : Prop where
  l : ∀ g ∈ Gs, ∃ k ∈ Ks, Same g k
  r : ∀ k ∈ Ks, ∃ g ∈ Gs, Same g k
theorem SameG.symm {Gs Ks : List (List Str)} (h : SameG Gs Ks) : SameG Ks Gs := ⟨fun k hk => let ⟨g, a, b⟩ := h.r k hk; ⟨g, a, b.symm⟩, fun g hg => let ⟨k, a, b⟩ := h.l g hg; ⟨k, a, b.symm⟩⟩
theorem MinH.groups {Gs Ks : List (List Str)} (s : SameG Gs Ks) {t : List Str} (h : MinH Gs t) : MinH Ks t :=
  ⟨fun k hk => let ⟨g, a, b⟩ := s.r k hk; let ⟨x, h1, h2⟩ := h.hit g a; ⟨x, (b x).mp h1, h2⟩,
    fun x hx => let ⟨g, h1, h2, h3⟩ := h.pr x hx; let ⟨k, a, b⟩ := s.l g h1; ⟨k, a, (b x).mp h2, fun y hy hyk => h3 y hy ((b y).mpr hyk)⟩⟩
theorem HitsOk.groups {Gs Ks L : List (List Str)} (s : SameG Gs Ks) (h : HitsOk Gs L) : HitsOk Ks L :=
  ⟨fun t ht => ⟨(h.ok t ht).1, (h.ok t ht).2.groups s⟩, fun t nd hm => h.all t nd (hm.groups s.symm), h.one⟩
/-- a member that is alone nowhere can go -/
theorem drop_hit {Gs : List (List Str)} {t : List Str} {x : Str} (h : Hit Gs t) (no : ¬ ∃ g ∈ Gs, x ∈ g ∧ ∀ y ∈ t, y ∈ g → y = x) : Hit Gs (t.filter fun y => !decide (y = x)) := fun g hg => by
  obtain ⟨z, z1, z2⟩ := h g hg
  refine Classical.byContradiction fun c => ?_
  have all : ∀ y ∈ t, y ∈ g → y = x := fun y hy hyg => Classical.byContradiction fun q => c ⟨y, hyg, List.mem_filter.mpr ⟨hy, by simp [q]⟩⟩
  have zx := all z z2 z1
  rw [zx] at z1
  exact no ⟨g, hg, z1, all⟩
theorem min_of : ∀ (k : Nat) {Gs : List (List Str)} {t : List Str}, t.length ≤ k → t.Nodup → Hit Gs t → ∃ u, u.Nodup ∧ MinH Gs u
  | 0, Gs, t, hl, nd, h => ⟨t, nd, h, fun x hx => by
    rw [List.length_eq_zero_iff.mp (by omega : t.length = 0)] at hx
    cases hx⟩
  | k + 1, Gs, t, hl, nd, h => by
    by_cases p : Priv Gs t
    · exact ⟨t, nd, h, p⟩
    · obtain ⟨x, hx, no⟩ : ∃ x ∈ t, ¬ ∃ g ∈ Gs, x ∈ g ∧ ∀ y ∈ t, y ∈ g → y = x := Classical.byContradiction fun z => p fun x hx => Classical.byContradiction fun q => z ⟨x, hx, q⟩
      have less : (t.filter fun y => !decide (y = x)).length < t.length := by
        refine Nat.lt_of_le_of_ne (List.length_filter_le _ _) fun e => ?_
        have := List.length_filter_eq_length_iff.mp e x hx
        simp at this
      exact min_of k (by omega) (nd.sublist List.filter_sublist) (drop_hit h no)
/-- rows there are, where no group is empty -/
theorem hits_nil {Gs L : List (List Str)} {names : List Str} (nd : names.Nodup) (hg : ∀ g ∈ Gs, ∀ x ∈ g, x ∈ names) (H : HitsOk Gs L) : L = [] ↔ ∃ g ∈ Gs, g = [] := by
  constructor
  · intro e
    refine Classical.byContradiction fun c => ?_
    obtain ⟨u, un, um⟩ := min_of names.length (Gs := Gs) (t := names) (Nat.le_refl _) nd fun g hg' => by
      cases g with
      | nil => exact absurd ⟨[], hg', rfl⟩ c
      | cons y ys => exact ⟨y, by simp, hg _ hg' y (by simp)⟩
    obtain ⟨h, hh, _⟩ := H.all u un um
    rw [e] at hh
    cases hh
  · rintro ⟨g, h1, rfl⟩
    refine List.eq_nil_iff_forall_not_mem.mpr fun h hh => ?_
    obtain ⟨x, hx, _⟩ := (H.ok h hh).2.hit _ h1
    cases hx
/-! ### helpers -/
theorem idx_rev {o : List Str} {n : Str} (nd : o.Nodup) (hn : n ∈ o) : o.reverse.take (o.reverse.idxOf n) = (o.drop (o.idxOf n + 1)).reverse := by
  obtain ⟨a, b, rfl⟩ := List.append_of_mem hn
  obtain ⟨n1, n2, n3⟩ := List.nodup_append.mp nd
  obtain ⟨m1, m2⟩ := List.nodup_cons.mp n2
  have na : n ∉ a := fun z => n3 n z n (by simp) rfl
  have e1 : (a ++ n :: b).idxOf n = a.length := by
    rw [List.idxOf_append, if_neg na, List.idxOf_cons_self]
    omega
  have e2 : (a ++ n :: b).reverse = b.reverse ++ n :: a.reverse := by simp
  have e3 : (a ++ n :: b).reverse.idxOf n = b.length := by
    rw [e2, List.idxOf_append, if_neg (by simpa using m1), List.idxOf_cons_self, List.length_reverse]
    omega
  rw [e3, e1, e2]
  have e4 : (a ++ n :: b).drop (a.length + 1) = b := by
    rw [show a ++ n :: b = (a ++ [n]) ++ b by simp, List.drop_left' (by simp)]
  rw [e4, show b.length = b.reverse.length by simp, List.take_left]
theorem help_pre {side n : Str} {o : List Str} (nd : o.Nodup) (hn : n ∈ o) : Same (helpL side n o) (preL side o n) := fun x => by
  unfold helpL preL turnL
  by_cases c : side = cBEHIND
  · rw [if_pos c, if_pos c]
  · rw [if_neg c, if_neg c, idx_rev nd hn, List.mem_reverse]
theorem pre_not {side n : Str} {o : List Str} : n ∉ preL side o n := fun h => by
  unfold preL at h
  obtain ⟨i, hi, e⟩ := List.mem_iff_getElem.mp h
  rw [List.length_take] at hi
  rw [List.getElem_take] at e
  exact idxOf_first (l := turnL side o) (x := n) (m := i) (by omega) (by rw [List.getElem?_eq_getElem (by omega), e])
theorem subs_head : ∀ (k : Nat) (ns : List Str), ns.length = k → ∃ r, subsL ns = [] :: r
  | 0, ns, h => by
    rw [List.length_eq_zero_iff.mp h]
    exact ⟨[], rfl⟩
  | k + 1, ns, h => by
    rcases List.eq_nil_or_concat ns with e | ⟨us, y, e⟩
    · rw [e] at h
      cases h
    · rw [List.concat_eq_append] at e
      subst e
      obtain ⟨r, hr⟩ := subs_head k us (by simp at h; exact h)
      rw [subsL_snoc, hr]
      exact ⟨_, rfl⟩
theorem mem_drop1 {ns t : List Str} (nd : ns.Nodup) : t ∈ (subsL ns).drop 1 ↔ t.Sublist ns ∧ t ≠ [] := by
  obtain ⟨r, hr⟩ := subs_head _ ns rfl
  have n0 := subs_nd _ ns rfl nd
  have m0 := mem_subs _ ns rfl t
  rw [hr] at n0 m0 ⊢
  rw [← m0, List.mem_cons]
  obtain ⟨n1, _⟩ := List.nodup_cons.mp n0
  show t ∈ r ↔ _
  exact ⟨fun z => ⟨.inr z, fun e => n1 (by rw [← e]; exact z)⟩, fun z => z.1.resolve_left z.2⟩
section
variable {side n : Str} {os : List (List Str)} {names : List Str}
theorem help_in (pm : ∀ o ∈ os, o.Perm names) : ∀ g ∈ os.map (helpL side n), ∀ x ∈ g, x ∈ names := fun g hg x hx => by
  obtain ⟨o, ho, rfl⟩ := List.mem_map.mp hg
  exact (pm o ho).mem_iff.mp (help_sub.mem hx)
theorem hit_kept (nd : names.Nodup) (hn : n ∈ names) (pm : ∀ o ∈ os, o.Perm names) {t : List Str} : keptAll side os n t = true ↔ Hit (os.map (helpL side n)) t := by
  unfold keptAll Hit keepsB
  rw [List.all_eq_true]
  constructor
  · intro h g hg
    obtain ⟨o, ho, rfl⟩ := List.mem_map.mp hg
    obtain ⟨x, hx, e⟩ := List.any_eq_true.mp (h o ho)
    exact ⟨x, (help_pre ((pm o ho).nodup_iff.mpr nd) ((pm o ho).mem_iff.mpr hn) x).mpr hx, of_decide_eq_true e⟩
  · intro h o ho
    obtain ⟨x, hx, e⟩ := h _ (List.mem_map_of_mem ho)
    exact List.any_eq_true.mpr ⟨x, (help_pre ((pm o ho).nodup_iff.mpr nd) ((pm o ho).mem_iff.mpr hn) x).mp hx, decide_eq_true e⟩
theorem others_nd (nd : names.Nodup) : (othersL names n).Nodup := nd.sublist List.filter_sublist
theorem mem_some (nd : names.Nodup) (hn : n ∈ names) (pm : ∀ o ∈ os, o.Perm names) {t : List Str} : t ∈ someL side os names n ↔ t.Sublist (othersL names n) ∧ t ≠ [] ∧ Hit (os.map (helpL side n)) t := by
  unfold someL
  rw [List.mem_filter, mem_drop1 (others_nd nd), hit_kept nd hn pm, and_assoc]
theorem hit_ne (ne : os ≠ []) {t : List Str} (h : Hit (os.map (helpL side n)) t) : t ≠ [] := by
  cases os with
  | nil => exact absurd rfl ne
  | cons o r =>
    obtain ⟨x, _, hx⟩ := h _ (List.mem_map_of_mem (List.mem_cons_self))
    exact fun e => by rw [e] at hx; cases hx
theorem min_mem {L : List (List Str)} {t : List Str} : minB L t = true ↔ ¬ ∃ a ∈ L, a ≠ t ∧ ∀ x ∈ a, x ∈ t := by
  unfold minB
  rw [List.isEmpty_iff, List.filter_eq_nil_iff]
  constructor
  · rintro h ⟨a, ha, ne, hs⟩
    refine h a ha ?_
    rw [Bool.and_eq_true, Bool.not_eq_true', decide_eq_false_iff_not, List.all_eq_true]
    exact ⟨ne, fun x hx => decide_eq_true (hs x hx)⟩
  · intro h a ha z
    rw [Bool.and_eq_true, Bool.not_eq_true', decide_eq_false_iff_not, List.all_eq_true] at z
    exact h ⟨a, ha, z.1, fun x hx => of_decide_eq_true (z.2 x hx)⟩
theorem found_ok (nd : names.Nodup) (hn : n ∈ names) (pm : ∀ o ∈ os, o.Perm names) (ne : os ≠ []) : HitsOk (os.map (helpL side n)) ((someL side os names n).filter (minB (someL side os names n))) := by
  have ond := others_nd (n := n) nd
  have iff : ∀ t, t ∈ (someL side os names n).filter (minB (someL side os names n)) ↔ t.Sublist (othersL names n) ∧ MinH (os.map (helpL side n)) t := fun t => by
    rw [List.mem_filter, mem_some nd hn pm, min_mem]
    constructor
    · rintro ⟨⟨h1, h2, h3⟩, h4⟩
      refine ⟨h1, h3, fun x hx => Classical.byContradiction fun no => h4 ⟨t.filter fun y => !decide (y = x), (mem_some nd hn pm).mpr ⟨List.filter_sublist.trans h1, hit_ne ne (drop_hit h3 no), drop_hit h3 no⟩, fun e => ?_, fun y hy => (List.mem_filter.mp hy).1⟩⟩
      rw [← e] at hx
      have := (List.mem_filter.mp hx).2
      simp at this
    · rintro ⟨h1, h2⟩
      refine ⟨⟨h1, hit_ne ne h2.hit, h2.hit⟩, ?_⟩
      rintro ⟨a, ha, na, hs⟩
      obtain ⟨a1, a2, a3⟩ := (mem_some nd hn pm).mp ha
      refine na ?_
      rw [← canL_self ond a1, ← canL_self ond h1]
      refine canL_eq fun x => ⟨hs x, fun hx => ?_⟩
      obtain ⟨g, g1, g2, g3⟩ := h2.pr x hx
      obtain ⟨y, y1, y2⟩ := a3 g g1
      rw [← g3 y (hs y y2) y1]
      exact y2
  have oin : ∀ {t : List Str}, MinH (os.map (helpL side n)) t → ∀ x ∈ t, x ∈ othersL names n := fun {t} h x hx => by
    obtain ⟨g, g1, g2, _⟩ := h.pr x hx
    unfold othersL
    refine List.mem_filter.mpr ⟨help_in pm g g1 x g2, ?_⟩
    rw [Bool.not_eq_true', decide_eq_false_iff_not]
    intro e
    obtain ⟨o, ho, rfl⟩ := List.mem_map.mp g1
    rw [e] at g2
    exact pre_not ((help_pre ((pm o ho).nodup_iff.mpr nd) ((pm o ho).mem_iff.mpr hn) n).mp g2)
  have snd : ((someL side os names n).filter (minB (someL side os names n))).Nodup := by
    refine List.Nodup.sublist ?_ (subs_nd _ (othersL names n) rfl ond)
    exact List.filter_sublist.trans (List.filter_sublist.trans (List.drop_sublist _ _))
  refine ⟨fun t ht => ?_, fun t tn hm => ?_, ?_⟩
  · obtain ⟨h1, h2⟩ := (iff t).mp ht
    exact ⟨ond.sublist h1, h2⟩
  · have s := canL_same (ns := othersL names n) (oin hm)
    exact ⟨canL (othersL names n) t, (iff _).mpr ⟨canL_sub, hm.same s.symm⟩, s⟩
  · refine List.Pairwise.imp_of_mem (fun {a b} ha hb hab s => hab ?_) snd
    rw [← canL_self ond ((iff a).mp ha).1, ← canL_self ond ((iff b).mp hb).1]
    exact canL_eq s
theorem nd_groups (nd : names.Nodup) (pm : ∀ o ∈ os, o.Perm names) : ∀ g ∈ os.map (helpL side n), g.Nodup := fun g hg => by
  obtain ⟨o, ho, rfl⟩ := List.mem_map.mp hg
  exact ((pm o ho).nodup_iff.mpr nd).sublist help_sub
theorem least_found (nd : names.Nodup) (hn : n ∈ names) (pm : ∀ o ∈ os, o.Perm names) (ne : os ≠ []) : rowsSay names n (leastF side os names n) = rowsSay names n (foundL side os names n) := by
  have H := found_ok (side := side) nd hn pm ne
  have e : foundL side os names n = ((someL side os names n).filter (minB (someL side os names n))).map (sortR names) := by
    unfold foundL
    refine List.map_congr_left fun t ht => (sortR_sub nd ?_).symm
    exact (((mem_some nd hn pm).mp (List.mem_filter.mp ht).1).1).trans List.filter_sublist
  rw [e]
  exact rows_same (hits_perm nd (help_in pm) (hits_ok (nd_groups nd pm)) H)
/-- no rows, where a name is first -/
theorem least_nil (nd : names.Nodup) (hn : n ∈ names) (pm : ∀ o ∈ os, o.Perm names) : rowsSay names n (leastF side os names n) = [] ↔ ∃ o ∈ os, (turnL side o)[0]? = some n := by
  have e : rowsSay names n (leastF side os names n) = [] ↔ hitsL (os.map (helpL side n)) = [] := by
    unfold rowsSay leastF
    rw [← List.length_eq_zero_iff, ← List.length_eq_zero_iff, List.length_map, List.length_mergeSort, List.length_map]
  rw [e, hits_nil nd (help_in pm) (hits_ok (nd_groups nd pm))]
  have one : ∀ o ∈ os, helpL side n o = [] ↔ (turnL side o)[0]? = some n := fun o ho => by
    have hp := help_pre (side := side) ((pm o ho).nodup_iff.mpr nd) ((pm o ho).mem_iff.mpr hn)
    have hnt : n ∈ turnL side o := turn_perm.mem_iff.mpr ((pm o ho).mem_iff.mpr hn)
    have e1 : helpL side n o = [] ↔ preL side o n = [] := by
      rw [List.eq_nil_iff_forall_not_mem, List.eq_nil_iff_forall_not_mem]
      exact ⟨fun h x hx => h x ((hp x).mpr hx), fun h x hx => h x ((hp x).mp hx)⟩
    rw [e1]
    unfold preL
    constructor
    · intro h
      have h1 := congrArg List.length h
      rw [List.length_take] at h1
      have h2 := List.idxOf_lt_length_of_mem hnt
      have h3 := idxOf_at hnt
      have h4 : (turnL side o).idxOf n = 0 := by
        have : ([] : List Str).length = 0 := rfl
        omega
      rw [h4] at h3
      exact h3
    · intro h
      have h4 : (turnL side o).idxOf n = 0 := Classical.byContradiction fun z => idxOf_first (x := n) (l := turnL side o) (m := 0) (by omega) h
      rw [h4]
      rfl
  exact ⟨fun ⟨g, hg, e⟩ => by
    obtain ⟨o, ho, rfl⟩ := List.mem_map.mp hg
    exact ⟨o, ho, (one o ho).mp e⟩, fun ⟨o, ho, e⟩ => ⟨_, List.mem_map_of_mem ho, (one o ho).mpr e⟩⟩
end
/-! ### one order, or two -/
def twoE (A B : List Str) : List (List Str) := (A.filter fun x => decide (x ∈ B)).map (fun x => [x]) ++ A.flatMap fun l => (B.filter fun m => !decide (l ∈ A.filter fun x => decide (x ∈ B)) && !decide (m ∈ A.filter fun x => decide (x ∈ B))).map fun m => [l, m]
theorem mem_twoE {A B t : List Str} : t ∈ twoE A B ↔ (∃ x, x ∈ A ∧ x ∈ B ∧ t = [x]) ∨ ∃ l m, l ∈ A ∧ l ∉ B ∧ m ∈ B ∧ m ∉ A ∧ t = [l, m] := by
  have mb : ∀ x, x ∈ (A.filter fun x => decide (x ∈ B)) ↔ x ∈ A ∧ x ∈ B := fun x => by rw [List.mem_filter, decide_eq_true_iff]
  unfold twoE
  rw [List.mem_append, List.mem_map, List.mem_flatMap]
  constructor
  · rintro (⟨x, hx, rfl⟩ | ⟨l, hl, ht⟩)
    · exact .inl ⟨x, ((mb x).mp hx).1, ((mb x).mp hx).2, rfl⟩
    · obtain ⟨m, hm, rfl⟩ := List.mem_map.mp ht
      obtain ⟨m1, m2⟩ := List.mem_filter.mp hm
      rw [Bool.and_eq_true, Bool.not_eq_true', Bool.not_eq_true', decide_eq_false_iff_not, decide_eq_false_iff_not, mb, mb] at m2
      exact .inr ⟨l, m, hl, fun z => m2.1 ⟨hl, z⟩, m1, fun z => m2.2 ⟨z, m1⟩, rfl⟩
  · rintro (⟨x, h1, h2, rfl⟩ | ⟨l, m, h1, h2, h3, h4, rfl⟩)
    · exact .inl ⟨x, (mb x).mpr ⟨h1, h2⟩, rfl⟩
    · refine .inr ⟨l, h1, List.mem_map.mpr ⟨m, List.mem_filter.mpr ⟨h3, ?_⟩, rfl⟩⟩
      rw [Bool.and_eq_true, Bool.not_eq_true', Bool.not_eq_true', decide_eq_false_iff_not, decide_eq_false_iff_not, mb, mb]
      exact ⟨fun z => h2 z.2, fun z => h4 z.1⟩
theorem two_ok {A B : List Str} (an : A.Nodup) (bn : B.Nodup) : HitsOk [A, B] (twoE A B) := by
  refine ⟨fun t ht => ?_, fun t tn hm => ?_, ?_⟩
  · rcases mem_twoE.mp ht with ⟨x, h1, h2, rfl⟩ | ⟨l, m, h1, h2, h3, h4, rfl⟩
    · refine ⟨by simp, fun g hg => ?_, fun y hy => ⟨A, by simp, by rw [List.mem_singleton.mp hy]; exact h1, fun z hz _ => by rw [List.mem_singleton.mp hz, List.mem_singleton.mp hy]⟩⟩
      simp only [List.mem_cons, List.not_mem_nil, or_false] at hg
      rcases hg with rfl | rfl
      · exact ⟨x, h1, by simp⟩
      · exact ⟨x, h2, by simp⟩
    · have lm : l ≠ m := fun e => h4 (by rw [← e]; exact h1)
      refine ⟨by simp [lm], fun g hg => ?_, fun y hy => ?_⟩
      · simp only [List.mem_cons, List.not_mem_nil, or_false] at hg
        rcases hg with rfl | rfl
        · exact ⟨l, h1, by simp⟩
        · exact ⟨m, h3, by simp⟩
      · simp only [List.mem_cons, List.not_mem_nil, or_false] at hy
        rcases hy with rfl | rfl
        · refine ⟨A, by simp, h1, fun z hz hza => ?_⟩
          simp only [List.mem_cons, List.not_mem_nil, or_false] at hz
          rcases hz with rfl | rfl
          · rfl
          · exact absurd hza h4
        · refine ⟨B, by simp, h3, fun z hz hza => ?_⟩
          simp only [List.mem_cons, List.not_mem_nil, or_false] at hz
          rcases hz with rfl | rfl
          · exact absurd hza h2
          · rfl
  · obtain ⟨x, x1, x2⟩ := hm.hit A (by simp)
    obtain ⟨y, y1, y2⟩ := hm.hit B (by simp)
    by_cases c : ∃ z ∈ t, z ∈ A ∧ z ∈ B
    · obtain ⟨z, z1, z2, z3⟩ := c
      refine ⟨[z], mem_twoE.mpr (.inl ⟨z, z2, z3, rfl⟩), fun u => ?_⟩
      rw [List.mem_singleton]
      refine ⟨fun e => by rw [e]; exact z1, fun hu => ?_⟩
      obtain ⟨g, g1, g2, g3⟩ := hm.pr u hu
      simp only [List.mem_cons, List.not_mem_nil, or_false] at g1
      rcases g1 with rfl | rfl
      · exact (g3 z z1 z2).symm
      · exact (g3 z z1 z3).symm
    · have xb : x ∉ B := fun z => c ⟨x, x2, x1, z⟩
      have ya : y ∉ A := fun z => c ⟨y, y2, z, y1⟩
      refine ⟨[x, y], mem_twoE.mpr (.inr ⟨x, y, x1, xb, y1, ya, rfl⟩), fun u => ?_⟩
      simp only [List.mem_cons, List.not_mem_nil, or_false]
      refine ⟨fun e => e.elim (fun e => by rw [e]; exact x2) fun e => by rw [e]; exact y2, fun hu => ?_⟩
      obtain ⟨g, g1, g2, g3⟩ := hm.pr u hu
      simp only [List.mem_cons, List.not_mem_nil, or_false] at g1
      rcases g1 with rfl | rfl
      · exact .inl (g3 x x2 x1).symm
      · exact .inr (g3 y y2 y1).symm
  · unfold twoE
    refine List.pairwise_append.mpr ⟨?_, List.pairwise_flatMap.mpr ⟨fun l hl => ?_, ?_⟩, fun a ha b hb s => ?_⟩
    · refine List.pairwise_map.mpr ((an.sublist List.filter_sublist).imp fun {a b} hab s => hab ?_)
      exact List.mem_singleton.mp ((s a).mp (by simp))
    · refine List.pairwise_map.mpr ((bn.sublist List.filter_sublist).imp_of_mem fun {a b} ha hb hab s => ?_)
      have ta : [l, a] ∈ twoE A B := by
        unfold twoE
        exact List.mem_append_right _ (List.mem_flatMap.mpr ⟨l, hl, List.mem_map.mpr ⟨a, ha, rfl⟩⟩)
      have hz := (s a).mp (by simp)
      simp only [List.mem_cons, List.not_mem_nil, or_false] at hz
      rcases hz with e | e
      · rcases mem_twoE.mp ta with ⟨x, _, _, z⟩ | ⟨l', m', h1, h2, h3, h4, z⟩
        · cases z
        · injection z with z1 z2
          injection z2 with z2
          rw [← z1, ← e, z2] at h2
          exact h2 h3
      · exact hab e
    · refine List.Pairwise.imp_of_mem (fun {l l'} hl hl' hll x hx y hy s => ?_) an
      have tx : x ∈ twoE A B := by
        unfold twoE
        exact List.mem_append_right _ (List.mem_flatMap.mpr ⟨l, hl, hx⟩)
      have ty : y ∈ twoE A B := by
        unfold twoE
        exact List.mem_append_right _ (List.mem_flatMap.mpr ⟨l', hl', hy⟩)
      obtain ⟨m, _, rfl⟩ := List.mem_map.mp hx
      obtain ⟨m', _, rfl⟩ := List.mem_map.mp hy
      rcases mem_twoE.mp tx with ⟨_, _, _, z⟩ | ⟨l1, m1, h1, h2, h3, h4, z⟩
      · cases z
      rcases mem_twoE.mp ty with ⟨_, _, _, z'⟩ | ⟨l2, m2, k1, k2, k3, k4, z'⟩
      · cases z'
      injection z with za zb
      injection z' with za' zb'
      injection zb' with zb'
      have hz := (s l).mp (by simp)
      simp only [List.mem_cons, List.not_mem_nil, or_false] at hz
      rcases hz with e | e
      · exact hll e
      · rw [← zb', ← e, za] at k3
        exact h2 k3
    · obtain ⟨x, hx, rfl⟩ := List.mem_map.mp ha
      have tb : b ∈ twoE A B := by
        unfold twoE
        exact List.mem_append_right _ hb
      rcases mem_twoE.mp tb with ⟨x', _, _, z⟩ | ⟨l, m, h1, h2, h3, h4, z⟩
      · obtain ⟨l, hl, hb2⟩ := List.mem_flatMap.mp hb
        obtain ⟨m, _, rfl⟩ := List.mem_map.mp hb2
        cases z
      · rw [z] at s
        have e := List.mem_singleton.mp ((s l).mpr (by simp))
        rw [e] at h2
        have := (List.mem_filter.mp hx).2
        exact h2 (of_decide_eq_true this)
theorem least_two {side n : Str} {os : List (List Str)} {names a b : List Str} (nd : names.Nodup) (hn : n ∈ names) (pa : a.Perm names) (pb : b.Perm names) (h1 : ∀ o ∈ os, o = a ∨ o = b) (ha : a ∈ os) (hb : b ∈ os) : rowsSay names n (leastF side os names n) = rowsSay names n (twoL side names a b n) := by
  have pm : ∀ o ∈ os, o.Perm names := fun o ho => (h1 o ho).elim (fun e => by rw [e]; exact pa) fun e => by rw [e]; exact pb
  have pn : ∀ {o : List Str}, o.Perm names → (preL side o n).Nodup := fun {o} p => ((turn_perm (side := side) (o := o)).nodup_iff.mpr (p.nodup_iff.mpr nd)).sublist (List.take_sublist _ _)
  have sg : SameG [preL side a n, preL side b n] (os.map (helpL side n)) := by
    have hp : ∀ {o : List Str}, o.Perm names → Same (preL side o n) (helpL side n o) := fun {o} p => (help_pre (p.nodup_iff.mpr nd) (p.mem_iff.mpr hn)).symm
    refine ⟨fun g hg => ?_, fun k hk => ?_⟩
    · simp only [List.mem_cons, List.not_mem_nil, or_false] at hg
      rcases hg with rfl | rfl
      · exact ⟨_, List.mem_map_of_mem ha, hp pa⟩
      · exact ⟨_, List.mem_map_of_mem hb, hp pb⟩
    · obtain ⟨o, ho, rfl⟩ := List.mem_map.mp hk
      rcases h1 o ho with rfl | rfl
      · exact ⟨_, by simp, hp pa⟩
      · exact ⟨_, by simp, hp pb⟩
  have H := (two_ok (pn pa) (pn pb)).groups sg
  have e : twoL side names a b n = (twoE (preL side a n) (preL side b n)).map (sortR names) := by
    unfold twoL twoE pairsOf bothL
    rw [List.map_append, List.map_map, List.map_flatMap]
    refine congr (congrArg _ (List.map_congr_left fun x _ => ?_)) ?_
    · show [_] = sortR names [x]
      unfold sortR idxs
      rw [List.map_singleton, List.mergeSort_singleton]
    · refine congrArg (fun f => List.flatMap f _) (funext fun l => ?_)
      rw [List.map_map]
      rfl
  rw [e]
  exact rows_same (hits_perm nd (help_in pm) (hits_ok (nd_groups nd pm)) H)
theorem few_small {side n : Str} {os : List (List Str)} {names : List Str} (nd : names.Nodup) (pm : ∀ o ∈ os, o.Perm names) (hl : names.length ≤ 9) (ol : os.length ≤ 900) : FewH (os.map (helpL side n)) := by
  refine ⟨fun g hg => ⟨nd_groups nd pm g hg, ?_⟩, by rw [List.length_map]; exact ol, fun a b e => ?_⟩
  · obtain ⟨o, ho, rfl⟩ := List.mem_map.mp hg
    have := (help_sub (side := side) (n := n) (o := o)).length_le
    rw [(pm o ho).length_eq] at this
    omega
  · have hg : ∀ g ∈ a, g ∈ os.map (helpL side n) := fun g hg => by rw [e]; exact List.mem_append_left _ hg
    have H := hits_ok (Gs := a) fun g h => nd_groups nd pm g (hg g h)
    have h1 := hits_few (ns := names) H fun h hh => hits_in (fun g h2 => help_in pm g (hg g h2)) (H.ok h hh).2.pr
    have h2 : 2 ^ names.length ≤ 2 ^ 9 := Nat.pow_le_pow_right (by decide) hl
    have h3 : 2 ^ 9 = 512 := rfl
    omega
theorem few_two {side n : Str} {os : List (List Str)} {names : List Str} (nd : names.Nodup) (pm : ∀ o ∈ os, o.Perm names) (hl : names.length ≤ 40) (ol : os.length ≤ 2) : FewH (os.map (helpL side n)) := by
  have gl : ∀ g ∈ os.map (helpL side n), g.length ≤ 40 := fun g hg => by
    obtain ⟨o, ho, rfl⟩ := List.mem_map.mp hg
    have := (help_sub (side := side) (n := n) (o := o)).length_le
    rw [(pm o ho).length_eq] at this
    omega
  refine ⟨fun g hg => ⟨nd_groups nd pm g hg, gl g hg⟩, by rw [List.length_map]; omega, fun a b e => ?_⟩
  have al : a.length ≤ 2 := by
    have := congrArg List.length e
    rw [List.length_map, List.length_append] at this
    omega
  have hg : ∀ g ∈ a, g.length ≤ 40 := fun g hg => gl g (by rw [e]; exact List.mem_append_left _ hg)
  have one : ∀ g : List Str, g.length ≤ 40 → (hitsL [g]).length ≤ 40 := fun g h => by
    have h1 := hitsL_snoc (Gs := []) (g := g)
    have h2 : hitsL [g] = [[]].flatMap (growH [] g) := h1
    rw [h2]
    have := flat_few (f := growH [] g) (L := [[]]) (c := 40) fun x _ => grow_few h (by decide)
    simpa using this
  match a, al, hg with
  | [], _, _ => show 1 * 40 ≤ 64000; decide
  | [g], _, hg =>
    have := one g (hg g (by simp))
    omega
  | [g, g'], _, hg =>
    have h1 := one g (hg g (by simp))
    have h2 := hitsL_snoc (Gs := [g]) (g := g')
    have h3 : hitsL [g, g'] = (hitsL [g]).flatMap (growH [g] g') := h2
    rw [h3]
    have := flat_few (f := growH [g] g') (L := hitsL [g]) (c := 40) fun x _ => grow_few (hg g' (by simp)) (by decide)
    omega
end Tk

set_option Elab.async false
set_option linter.all false
set_option maxRecDepth 100000
set_option maxHeartbeats 4000000
set_option pp.maxSteps 1500
namespace Tk
open PySem L2 X3
abbrev slaw : Stmt := topS 26
theorem sclaw : FnScope ["script", "source", "turn", "side", "orders", "names", "seen", "name", "due", "given", "told", "is_first", "both", "order"] ["script"] (defScope slaw) := ⟨rfl, rfl, rfl, by decide +kernel, rfl, by decide +kernel, by decide +kernel⟩

def spLaw (K : PySem.W.Frag) : Sp := fun vs H Q _ => ∃ (a : Addr) (ns : List Int), vs = [.ref a] ∧ SqL K H a (ns.map V.int) ∧ ns.length ≤ 63 ∧ ∀ H', Q (.bl true) H'
theorem seq_call {sp : Sp} {E : XK} {rest : TS} {D : L2.Ends} {σ : L2.St} {H : Hp} {x : V} (h0 : σ[0]? = some (some x)) (h : sp [x] H (fun v H1 => rest D (σ.set 1 (some v)) H1) E) : tSeq (tAsg (tCall sp [] E (tCons (tVar 0) tNil)) (gName 1)) rest D σ H := ⟨x, h0, h⟩
theorem view_last {ρ : Rho} {μ : Mu} {i : Nat} {es : List X3.D} (h : ρ[i]? = some (.own μ.length)) : (view ρ (μ ++ [.lst es]))[i]? = some (.dat (.list es)) := by
  unfold view
  rw [List.getElem?_map, h]
  show some (viewD (μ ++ [.lst es]) (.own μ.length)) = _
  unfold viewD
  simp
theorem neS_same {K : PySem.W.Frag} {S : Res} {x : Str} {Q : X3.D → Prop} (q : Q (.bl false)) : WR2 K S (rNeA K) (.str x) (.str x) Q := we_neS (by rw [decide_eq_true rfl]; exact q)
theorem neD_same {K : PySem.W.Frag} {S : Res} {k : Nat} {x : X3.D} {Q : X3.D → Prop} (l : Lay k x) (hk : k ≤ 60) (q : Q (.bl false)) : WR2 K S (rNeA K) x x Q := we_neD (l.eq l (by omega) (by omega)) (by rw [l.refl]; exact q)
theorem eqD_same {K : PySem.W.Frag} {S : Res} {k : Nat} {x : X3.D} {Q : X3.D → Prop} (l : Lay k x) (hk : k ≤ 60) (q : Q (.bl true)) : WR2 K S (rEqA K) x x Q := we_eqD (l.eq l (by omega) (by omega)) (by rw [l.refl]; exact q)
theorem nameAt_in {names : List Str} {k : Int} (h : 0 ≤ k ∧ k < (names.length : Nat)) : nameAt names k ∈ names := by
  obtain ⟨j, rfl⟩ := Int.eq_ofNat_of_zero_le h.1
  have hj : j < names.length := by omega
  unfold nameAt
  rw [Int.toNat_natCast, List.getElem?_eq_getElem hj]
  exact List.getElem_mem hj
/-- rows that a saying can be told of -/
def RowsIn (names : List Str) (F : List (List Int)) : Prop := ∀ row ∈ F, ∀ k ∈ row, 0 ≤ k ∧ k < (names.length : Nat)
theorem says_of {names : List Str} {n : Str} {F : List (List Int)} (h : RowsIn names F) {d : X3.D} (hd : d ∈ rowsSay names n F) : ∃ row ∈ F, d = sayD (n, backL names row) ∧ ∀ x ∈ backL names row, x ∈ names := by
  obtain ⟨row, hr, rfl⟩ := List.mem_map.mp hd
  have hr2 := List.mem_mergeSort.mp hr
  refine ⟨row, hr2, rfl, fun x hx => ?_⟩
  obtain ⟨k, hk, rfl⟩ := List.mem_map.mp hx
  exact nameAt_in (h row hr2 k hk)
theorem rows_lay {names : List Str} {n : Str} {F : List (List Int)} (ok : NamesOk names) (hn : n ∈ names) (h : RowsIn names F) : ∀ d ∈ rowsSay names n F, Lay 2 d := fun d hd => by
  obtain ⟨row, _, rfl, hx⟩ := says_of h hd
  exact say_lay (ok.ok n hn) fun x z => ok.ok x (hx x z)
theorem least_in {side n : Str} {os : List (List Str)} {names : List Str} (nd : names.Nodup) (pm : ∀ o ∈ os, o.Perm names) : RowsIn names (leastF side os names n) := fun row hr k hk => by
  obtain ⟨h, hh, rfl⟩ := List.mem_map.mp hr
  have H := hits_ok (Gs := os.map (helpL side n)) (nd_groups nd pm)
  exact idxs_in (hits_in (help_in pm) (H.ok h hh).2.pr) k (List.mem_mergeSort.mp hk)
theorem rows_shw {names : List Str} {n : Str} {F : List (List Int)} (ok : NamesOk names) (hn : n ∈ names) (h : RowsIn names F) (hl : F.length ≤ 512) (hr : ∀ row ∈ F, row.length ≤ 9) : ShwOk (.list (rowsSay names n F)) := by
  refine (Shw.list (k := 2) (b := 236) fun d hd => ?_).ok (by decide) ?_
  · obtain ⟨row, h1, rfl, hx⟩ := says_of h hd
    refine (Shw.tup (ds := [.str n, .tup ((backL names row).map .str)]) (k := 1) (b := 117) fun z hz => ?_)
    rcases List.mem_cons.mp hz with rfl | hz
    · exact Shw.str (ok.ok n hn).small (Nat.le_trans (ok.ok n hn).hi (by decide))
    · rw [List.mem_singleton.mp hz]
      refine (Shw.tup (k := 0) (b := 12) fun y hy => ?_).up ?_
      · obtain ⟨x, hxx, rfl⟩ := List.mem_map.mp hy
        exact Shw.str (ok.ok x (hx x hxx)).small (ok.ok x (hx x hxx)).hi
      · have := hr row h1
        unfold backL
        rw [List.length_map, List.length_map]
        omega
  · unfold rowsSay
    rw [List.length_map, List.length_mergeSort]
    omega
theorem least_shw {side n : Str} {os : List (List Str)} {names : List Str} (ok : NamesOk names) (hn : n ∈ names) (pm : ∀ o ∈ os, o.Perm names) (hl : names.length ≤ 9) : ShwOk (.list (rowsSay names n (leastF side os names n))) := by
  have H := hits_ok (Gs := os.map (helpL side n)) (nd_groups ok.nd pm)
  refine rows_shw ok hn (least_in ok.nd pm) ?_ fun row hr => ?_
  · have h1 := hits_few (ns := names) H fun h hh => hits_in (help_in pm) (H.ok h hh).2.pr
    have h2 : 2 ^ names.length ≤ 2 ^ 9 := Nat.pow_le_pow_right (by decide) hl
    have h3 : 2 ^ 9 = 512 := rfl
    unfold leastF
    rw [List.length_map]
    omega
  · obtain ⟨h, hh, rfl⟩ := List.mem_map.mp hr
    have := len_le (H.ok h hh).1 (hits_in (help_in pm) (H.ok h hh).2.pr)
    unfold sortR idxs
    rw [List.length_mergeSort, List.length_map]
    omega
theorem seen_shw {os : List (List Str)} {names zs : List Str} (ok : NamesOk names) (hl : names.length ≤ 9) (pm : ∀ o ∈ os, o.Perm names) (hz : zs.Perm names) (ol : os.length ≤ 100) : ShwOk (.list [.list (os.map strsD), .list (zs.map .str)]) := by
  have one : ∀ o : List Str, o.Perm names → ∀ d ∈ o.map X3.D.str, Shw 0 12 d := fun o ho d hd => by
    obtain ⟨x, hx, rfl⟩ := List.mem_map.mp hd
    have w := ok.ok x (ho.mem_iff.mp hx)
    exact Shw.str w.small w.hi
  refine (Shw.list (k := 2) (b := 11800) fun d hd => ?_).ok (by decide) (Nat.le_of_ble_eq_true rfl)
  simp only [List.mem_cons, List.not_mem_nil, or_false] at hd
  rcases hd with rfl | rfl
  · refine (Shw.list (k := 1) (b := 117) fun z hz => ?_).up ?_
    · obtain ⟨o, ho, rfl⟩ := List.mem_map.mp hz
      refine (Shw.tup (k := 0) (b := 12) (one o (pm o ho))).up ?_
      rw [List.length_map, (pm o ho).length_eq]
      omega
    · rw [List.length_map]
      omega
  · have s := Shw.list (k := 0) (b := 12) (one zs hz)
    refine ⟨s.shw, s.able, Nat.le_trans s.deep (by decide), s.leaf, Nat.le_trans s.bulk ?_⟩
    rw [List.length_map, hz.length_eq]
    omega
/-! ### four names, two orders -/
def cAHEAD2 : Str := "ahead"
def n4 : List Str := ["a", "b", "c", "d"]
def o4 : List (List Str) := [["a", "c", "d", "b"], ["b", "c", "d", "a"]]
theorem abcd : ("abcd" : Str).cps.toList.map (fun c => X3.D.str ⟨#[c]⟩) = n4.map X3.D.str := by
  have h : ("abcd" : Str).cps.toList.map (fun c => (⟨#[c]⟩ : Str)) = n4 := by decide +kernel
  have h2 := congrArg (List.map X3.D.str) h
  rw [List.map_map] at h2
  exact h2
theorem n4_ok : NamesOk n4 := ⟨by decide +kernel, fun x hx => by
  have h : ∀ x ∈ n4, (1 ≤ x.length ∧ x.length ≤ 12) ∧ ∃ c, x.cps.toList = [c] ∧ letter c := fun x hx => by
    simp only [n4, List.mem_cons, List.not_mem_nil, or_false] at hx
    rcases hx with rfl | rfl | rfl | rfl
    · exact ⟨by decide +kernel, 97, by decide +kernel, by decide +kernel⟩
    · exact ⟨by decide +kernel, 98, by decide +kernel, by decide +kernel⟩
    · exact ⟨by decide +kernel, 99, by decide +kernel, by decide +kernel⟩
    · exact ⟨by decide +kernel, 100, by decide +kernel, by decide +kernel⟩
  obtain ⟨⟨h1, h2⟩, c, e, c1⟩ := h x hx
  exact ⟨h1, h2, ⟨c, by rw [e]; rfl, c1⟩, fun z hz => .inl (by rw [e] at hz; rw [List.mem_singleton.mp hz]; exact c1)⟩⟩
theorem pm4 : ∀ o ∈ o4, o.Perm n4 := by decide +kernel
theorem least4 {side n : Str} (hn : n ∈ n4) : LeastOk side o4 n4 n := ⟨n4_ok.nd, hn, pm4, by decide, few_small n4_ok.nd pm4 (by decide) (by decide)⟩
def due4 (side : Str) (n : Str) : List (List Int) := if n = "a" ∨ n = "b" then [] else if n = "c" then (if side = cBEHIND then [[0, 1]] else [[0, 1], [3]]) else if side = cBEHIND then [[0, 1], [2]] else [[0, 1]]
theorem fact4 : ∀ side ∈ [cBEHIND, cAHEAD2], ∀ n ∈ n4, ((hitsL (o4.map (helpL side n))).map fun h => idxs n4 (canL n4 h)).Perm (due4 side n) := by decide +kernel
theorem sort4 : ∀ side ∈ [cBEHIND, cAHEAD2], ∀ n ∈ n4, (due4 side n).Pairwise fun a b => leG intsL a b = true := by decide +kernel
theorem rows4 {side n : Str} (hs : side ∈ [cBEHIND, cAHEAD2]) (hn : n ∈ n4) : rowsSay n4 n (leastF side o4 n4 n) = (due4 side n).map fun row => sayD (n, backL n4 row) := by
  have e : leastF side o4 n4 n = (hitsL (o4.map (helpL side n))).map fun h => idxs n4 (canL n4 h) := by
    have H := hits_ok (Gs := o4.map (helpL side n)) (nd_groups n4_ok.nd pm4)
    unfold leastF
    exact List.map_congr_left fun h hh => sortR_can n4_ok.nd (H.ok h hh).1 (hits_in (help_in pm4) (H.ok h hh).2.pr)
  unfold rowsSay
  rw [e, sortG_is intsL_inj (fact4 side hs n hn) (sort4 side hs n hn)]
theorem told_lay {side : Str} (hs : side ∈ [cBEHIND, cAHEAD2]) : Lay 4 (.list (n4.map fun n => .list ((due4 side n).map fun row => sayD (n, backL n4 row)))) := Lay.list fun d hd => by
  obtain ⟨n, hn, rfl⟩ := List.mem_map.mp hd
  rw [← rows4 hs hn]
  exact Lay.list (rows_lay n4_ok hn (least_in n4_ok.nd pm4))
theorem back4 : backL n4 [0, 1] = (["a", "b"] : List Str) ∧ backL n4 [2] = (["c"] : List Str) ∧ backL n4 [3] = (["d"] : List Str) := by decide +kernel
theorem told_b : (n4.map fun n => X3.D.list ((due4 cBEHIND n).map fun row => sayD (n, backL n4 row))) = [.list [], .list [], .list [sayD ("c", ["a", "b"])], .list [sayD ("d", ["a", "b"]), sayD ("d", ["c"])]] := by
  show [X3.D.list ((due4 cBEHIND "a").map _), X3.D.list ((due4 cBEHIND "b").map _), X3.D.list ((due4 cBEHIND "c").map _), X3.D.list ((due4 cBEHIND "d").map _)] = _
  rw [show due4 cBEHIND "a" = [] by decide +kernel, show due4 cBEHIND "b" = [] by decide +kernel, show due4 cBEHIND "c" = [[0, 1]] by decide +kernel, show due4 cBEHIND "d" = [[0, 1], [2]] by decide +kernel]
  simp only [List.map_cons, List.map_nil, back4.1, back4.2.1]
theorem told_a : (n4.map fun n => X3.D.list ((due4 cAHEAD2 n).map fun row => sayD (n, backL n4 row))) = [.list [], .list [], .list [sayD ("c", ["a", "b"]), sayD ("c", ["d"])], .list [sayD ("d", ["a", "b"])]] := by
  show [X3.D.list ((due4 cAHEAD2 "a").map _), X3.D.list ((due4 cAHEAD2 "b").map _), X3.D.list ((due4 cAHEAD2 "c").map _), X3.D.list ((due4 cAHEAD2 "d").map _)] = _
  rw [show due4 cAHEAD2 "a" = [] by decide +kernel, show due4 cAHEAD2 "b" = [] by decide +kernel, show due4 cAHEAD2 "c" = [[0, 1], [3]] by decide +kernel, show due4 cAHEAD2 "d" = [[0, 1]] by decide +kernel]
  simp only [List.map_cons, List.map_nil, back4.1, back4.2.2]
section
variable {P : Program} {w : World} {K : PySem.W.Frag} {mg : Str → Option Value} {tk : Nat → Tok} {base : Heap}
theorem ok_law {f : Addr} {fd : FuncData} (F : Fun K "law" "law" slaw f fd) (T : Txt K mg tk) (h1 : One base) {f1 f2 f3 f4 f5 f6 f7 f8 f9 f10 f11 : Addr} {d1 d2 d3 d4 d5 d6 d7 d8 d9 d10 d11 : FuncData}
    (D1 : Prom P w K mg base "_law_source" f1 d1 ["script"] 1 (spSource K))
    (D2 : Prom P w K mg base "_law_orders" f2 d2 ["source", "most", "many"] 4 (spD K (pLOrders)))
    (D3 : Prom P w K mg base "_law_drawn_side" f3 d3 ["source"] 3 (spD K (pLSide)))
    (D4 : Prom P w K mg base "_law_mixed" f4 d4 ["source", "things"] 2 (spD K (pMixed)))
    (D5 : Prom P w K mg base "_law_least" f5 d5 ["side", "orders", "names", "name"] 4 (spD K (pLLeast)))
    (D6 : Prom P w K mg base "least_sayings" f6 d6 ["side", "orders", "names", "name"] 3 (spF K (pLeast)))
    (D7 : Prom P w K mg base "_law_turned" f7 d7 ["side", "order"] 1 (spD K (pLTurned)))
    (D8 : Prom P w K mg base "_law_words" f8 d8 ["source", "many"] 3 (spD K (pLWords)))
    (D9 : Prom P w K mg base "_law_pick" f9 d9 ["source", "many"] 1 (spD K (pPick)))
    (D10 : Prom P w K mg base "_law_near_order" f10 d10 ["source", "order"] 3 (spD K (pLNear)))
    (D11 : Prom P w K mg base "_law_two_least" f11 d11 ["side", "orders", "names", "name"] 4 (spD K (pLTwo))) : FnG P w K mg base CX0 8 f fd ["script"] (spLaw K) := by
  refine X3.Fun.okG F sclaw (fun vs H Q E h => ?_) (fun cdv A outer s0 H vs Q E hgu hr h => ?_)
  · obtain ⟨a, ns, rfl, _⟩ := h
    rfl
  · obtain ⟨a, ns, rfl, hS, hlen, k⟩ := h
    have hu := hu64 hr
    have hu1 := hu_of hr
    refine ⟨_, (pss_cons (ps_set (i := 1) sclaw.nd rfl (Or.inl rfl) (pe_call D1.F (hr.mono (by decide)) (by rfl) D1.g D1.kp D1.b .nil pass0 (pa_cons (pv 0) pa_nil)))
      (pss_cons (ps_for PassesOwn.never rfl (pi_range1 (by rfl) T.nrange (pa_cons pe_int pa_nil)) (pg_name (i := 2) sclaw.nd rfl (Or.inl rfl)) (pss_cons (ps_asg (pe_tupN (pa_cons (pe_call D3.F (hr.mono (by decide)) (by rfl) D3.g D3.kp D3.b .nil pass0 (pa_cons (pv 1) pa_nil)) (pa_cons (pe_call D2.F (hr.mono (by decide)) (by rfl) D2.g D2.kp D2.b .nil pass0 (pa_cons (pv 1) (pa_cons (pe_ix (r := rIx K) ix_seq (pe_lst (pa_cons pe_int (pa_cons pe_int (pa_cons pe_int (pa_cons pe_int pa_nil))))) (pv 2) (fun _ _ => rfl)) (pa_cons (pe_ix (r := rIx K) ix_seq (pe_lst (pa_cons pe_int (pa_cons pe_int (pa_cons pe_int (pa_cons pe_int pa_nil))))) (pv 2) (fun _ _ => rfl)) pa_nil)))) pa_nil))) (pg_tup rfl (pgs_cons (pg_name (i := 3) sclaw.nd rfl (Or.inr rfl)) (pgs_cons (pg_name (i := 4) sclaw.nd rfl (Or.inr rfl)) pgs_nil))))
      (pss_cons (ps_set (i := 5) sclaw.nd rfl (Or.inl rfl) (pe_call D4.F (hr.mono (by decide)) (by rfl) D4.g D4.kp D4.b .nil pass0 (pa_cons (pv 1) (pa_cons (pe_ix (r := rIx K) ix_seq (pv 4) pe_int (fun _ _ => rfl)) pa_nil))))
      (pss_cons (ps_set (i := 6) sclaw.nd rfl (Or.inl rfl) (pe_callB (r := rRepr K) (call_repr hgu hu h1) (by rfl) T.nrepr PyProof.Rows.boot_repr (pa_cons (pe_lst (pa_cons (pv 4) (pa_cons (pv 5) pa_nil))) pa_nil)))
      (pss_one (ps_for PassesOwn.never rfl (pi_list (pe_slice (r := rSlL K) sl_list (pv 5) po_none (po_some (pe_ix (r := rIx K) ix_seq (pe_lst (pa_cons pe_int (pa_cons pe_int (pa_cons pe_int (pa_cons pe_int pa_nil))))) (pv 2) (fun _ _ => rfl))))) (pg_name (i := 7) sclaw.nd rfl (Or.inr rfl)) (pss_cons (ps_set (i := 8) sclaw.nd rfl (Or.inl rfl) (pe_call D5.F (hr.mono (by decide)) (by rfl) D5.g D5.kp D5.b .nil pass0 (pa_cons (pv 3) (pa_cons (pv 4) (pa_cons (pv 5) (pa_cons (pv 7) pa_nil))))))
      (pss_cons (ps_for PassesOwn.never rfl (pi_list (pe_lst (pa_cons (pv 4) (pa_cons (pe_callTy (r := rTupN K) call_tupN (by rfl) T.ntuple PyProof.Rows.boot_tuple (pa_cons (pv 4) pa_nil)) pa_nil)))) (pg_name (i := 9) sclaw.nd rfl (Or.inl rfl)) (pss_cons (ps_set (i := 10) sclaw.nd rfl (Or.inl rfl) (pe_call D6.F (hr.mono (by decide)) (by rfl) D6.g D6.kp D6.b .nil pass0 (pa_cons (pv 3) (pa_cons (pv 9) (pa_cons (pv 5) (pa_cons (pv 7) pa_nil))))))
      (pss_cons (ps_if (pt_cmpR (r := rNeA K) (op_neA hu) (pe_callB (r := rRepr K) (call_repr hgu hu h1) (by rfl) T.nrepr PyProof.Rows.boot_repr (pa_cons (pv 10) pa_nil)) (pe_callB (r := rRepr K) (call_repr hgu hu h1) (by rfl) T.nrepr PyProof.Rows.boot_repr (pa_cons (pv 8) pa_nil)) (nomark _)) (pss_one (ps_ret pe_bl)) pss_nil)
      (pss_one (ps_expr (show PE _ _ (tBM K "list" rAppend _ _) from pe_bm PySem.F.plainAttrs_list PySem.F.slot_list_append PySem.F.type_list_append mt_append (pv 10) (pa_cons pe_non pa_nil)))))))
      (pss_cons (ps_set (i := 11) sclaw.nd rfl (Or.inl rfl) (pe_cmpR (r := rNeA K) (op_neA hu) (pe_lc (own := [("order", 13)]) (g := gName 13)  rfl sclaw.nd (pi_list (pv 4)) (blkOk_by (N := ["script", "source", "turn", "side", "orders", "names", "seen", "name", "due", "given", "told", "is_first", "both", "order"]) (sc := defScope slaw) (by decide +kernel)) (fun _ _ _ _ _ => (pg_name (i := 13) sclaw.nd rfl (Or.inl rfl))) (fun _ _ _ _ _ => (pts_one (pt_cmpR (r := rEqA K) (op_eqA hu) (pe_ix (r := rIx K) ix_seq (pe_call D7.F (hr.mono (by decide)) (by rfl) D7.g D7.kp D7.b .nil pass0 (pa_cons (pv 3) (pa_cons (pv 13) pa_nil))) pe_int (fun _ _ => rfl)) (pv 7) (nomark _)))) (fun _ _ _ _ _ => pe_int)) (pe_lst pa_nil) (nomark _)))
      (pss_one (ps_if (PW.pt (pw_or (pt_cmpR (r := rNeA K) (op_neA hu) (pv 11) (pe_cmpR (r := rEqA K) (op_eqA hu) (pv 8) (pe_lst pa_nil) (nomark _)) (nomark _)) (pw_or1 (pt_cmpR (r := rNeA K) (op_neA hu) (pe_callB (r := rRepr K) (call_repr hgu hu h1) (by rfl) T.nrepr PyProof.Rows.boot_repr (pa_cons (pe_lst (pa_cons (pv 4) (pa_cons (pv 5) pa_nil))) pa_nil)) (pv 6) (nomark _))))) (pss_one (ps_ret pe_bl)) pss_nil)))))))))))
      (pss_cons (ps_asg (pe_tupN (pa_cons (pe_call D3.F (hr.mono (by decide)) (by rfl) D3.g D3.kp D3.b .nil pass0 (pa_cons (pv 1) pa_nil)) (pa_cons (pe_call D8.F (hr.mono (by decide)) (by rfl) D8.g D8.kp D8.b .nil pass0 (pa_cons (pv 1) (pa_cons (pe_op op_plus pe_int (pe_call D9.F (hr.mono (by decide)) (by rfl) D9.g D9.kp D9.b .nil pass0 (pa_cons (pv 1) (pa_cons pe_int pa_nil)))) pa_nil))) pa_nil))) (pg_tup rfl (pgs_cons (pg_name (i := 3) sclaw.nd rfl (Or.inr rfl)) (pgs_cons (pg_name (i := 5) sclaw.nd rfl (Or.inl rfl)) pgs_nil))))
      (pss_cons (ps_set (i := 4) sclaw.nd rfl (Or.inr rfl) (pe_lst (pa_cons (pe_callTy (r := rTupN K) call_tupN (by rfl) T.ntuple PyProof.Rows.boot_tuple (pa_cons (pe_call D4.F (hr.mono (by decide)) (by rfl) D4.g D4.kp D4.b .nil pass0 (pa_cons (pv 1) (pa_cons (pv 5) pa_nil))) pa_nil)) (pa_cons (pe_callTy (r := rTupN K) call_tupN (by rfl) T.ntuple PyProof.Rows.boot_tuple (pa_cons (pv 5) pa_nil)) pa_nil))))
      (pss_cons (ps_asg (pe_ifExp (pt_cmpR (r := rEqA K) (op_eqA hu) (pe_call D9.F (hr.mono (by decide)) (by rfl) D9.g D9.kp D9.b .nil pass0 (pa_cons (pv 1) (pa_cons pe_int pa_nil))) pe_int (nomark _)) (pe_ix (r := rIx K) ix_seq (pv 4) pe_int (fun _ _ => rfl)) (pe_call D10.F (hr.mono (by decide)) (by rfl) D10.g D10.kp D10.b .nil pass0 (pa_cons (pv 1) (pa_cons (pe_callTy (r := rTupN K) call_tupN (by rfl) T.ntuple PyProof.Rows.boot_tuple (pa_cons (pv 5) pa_nil)) pa_nil)))) (pg_sub (pv 4) pe_int set_list))
      (pss_cons (ps_set (i := 4) sclaw.nd rfl (Or.inr rfl) (pe_slice (r := rSlL K) sl_list (pv 4) po_none (po_some (pe_op op_sub pe_int (pe_callTy call_int1 (by rfl) T.nint PyProof.Rows.boot_int (pa_cons (pe_cmpR (r := rEqA K) (op_eqA hu) (pe_call D9.F (hr.mono (by decide)) (by rfl) D9.g D9.kp D9.b .nil pass0 (pa_cons (pv 1) (pa_cons pe_int pa_nil))) pe_int (nomark _)) pa_nil))))))
      (pss_cons (ps_set (i := 12) sclaw.nd rfl (Or.inl rfl) (pe_lst (pa_cons (pe_ix (r := rIx K) ix_seq (pv 4) pe_int (fun _ _ => rfl)) (pa_cons (pe_ix (r := rIx K) ix_seq (pv 4) (pe_un un_neg pe_int) (fun _ _ => rfl)) pa_nil))))
      (pss_cons (ps_for PassesOwn.never rfl (pi_list (pe_slice (r := rSlL K) sl_list (pe_call D4.F (hr.mono (by decide)) (by rfl) D4.g D4.kp D4.b .nil pass0 (pa_cons (pv 1) (pa_cons (pv 5) pa_nil))) po_none (po_some pe_int))) (pg_name (i := 7) sclaw.nd rfl (Or.inr rfl)) (pss_one (ps_if (pt_cmpR (r := rNeA K) (op_neA hu) (pe_call D6.F (hr.mono (by decide)) (by rfl) D6.g D6.kp D6.b .nil pass0 (pa_cons (pv 3) (pa_cons (pv 4) (pa_cons (pe_callTy (r := rTupN K) call_tupN (by rfl) T.ntuple PyProof.Rows.boot_tuple (pa_cons (pv 5) pa_nil)) (pa_cons (pv 7) pa_nil))))) (pe_call D11.F (hr.mono (by decide)) (by rfl) D11.g D11.kp D11.b .nil pass0 (pa_cons (pv 3) (pa_cons (pv 12) (pa_cons (pv 5) (pa_cons (pv 7) pa_nil))))) (nomark _)) (pss_one (ps_ret pe_bl)) pss_nil)))
      (pss_cons (ps_set (i := 4) sclaw.nd rfl (Or.inr rfl) (pe_lst (pa_cons (pe_tupN (pa_cons pe_str (pa_cons pe_str (pa_cons pe_str (pa_cons pe_str pa_nil))))) (pa_cons (pe_tupN (pa_cons pe_str (pa_cons pe_str (pa_cons pe_str (pa_cons pe_str pa_nil))))) pa_nil))))
      (pss_cons (ps_setLc (i := 10) (own := [("name", 7)]) (g := gName 7)  (tt := tYes) rfl sclaw.nd rfl rfl (by with_unfolding_all rfl) (pi_str pe_str) (blkOk_by (N := ["script", "source", "turn", "side", "orders", "names", "seen", "name", "due", "given", "told", "is_first", "both", "order"]) (sc := defScope slaw) (by decide +kernel)) (fun _ _ _ _ _ => (pg_name (i := 7) sclaw.nd rfl (Or.inl rfl))) (fun _ _ _ _ _ => pts_nil) (fun _ _ _ _ _ => (pe_call D6.F (hr.mono (by decide)) (by rfl) D6.g D6.kp D6.b .nil pass0 (pa_cons pe_str (pa_cons (pv 4) (pa_cons (pe_callTy (r := rListS) (call_listS rfl) (by rfl) T.nlist (by decide +kernel) (pa_cons pe_str pa_nil)) (pa_cons (pv 7) pa_nil)))))))
      (pss_cons (ps_if (pt_cmpR (r := rNeA K) (op_neA hu) (pv 10) (pe_lst (pa_cons (pe_lst pa_nil) (pa_cons (pe_lst pa_nil) (pa_cons (pe_lst (pa_cons (pe_tupN (pa_cons pe_str (pa_cons (pe_tupN (pa_cons pe_str (pa_cons pe_str pa_nil))) pa_nil))) pa_nil)) (pa_cons (pe_lst (pa_cons (pe_tupN (pa_cons pe_str (pa_cons (pe_tupN (pa_cons pe_str (pa_cons pe_str pa_nil))) pa_nil))) (pa_cons (pe_tupN (pa_cons pe_str (pa_cons (pe_tupN (pa_cons pe_str pa_nil)) pa_nil))) pa_nil))) pa_nil))))) (nomark _)) (pss_one (ps_ret pe_bl)) pss_nil)
      (pss_cons (ps_setLc (i := 10) (own := [("name", 7)]) (g := gName 7)  (tt := tYes) rfl sclaw.nd rfl rfl (by with_unfolding_all rfl) (pi_str pe_str) (blkOk_by (N := ["script", "source", "turn", "side", "orders", "names", "seen", "name", "due", "given", "told", "is_first", "both", "order"]) (sc := defScope slaw) (by decide +kernel)) (fun _ _ _ _ _ => (pg_name (i := 7) sclaw.nd rfl (Or.inl rfl))) (fun _ _ _ _ _ => pts_nil) (fun _ _ _ _ _ => (pe_call D6.F (hr.mono (by decide)) (by rfl) D6.g D6.kp D6.b .nil pass0 (pa_cons pe_str (pa_cons (pv 4) (pa_cons (pe_callTy (r := rListS) (call_listS rfl) (by rfl) T.nlist (by decide +kernel) (pa_cons pe_str pa_nil)) (pa_cons (pv 7) pa_nil)))))))
      (pss_one (ps_ret (pe_cmpR (r := rEqA K) (op_eqA hu) (pv 10) (pe_lst (pa_cons (pe_lst pa_nil) (pa_cons (pe_lst pa_nil) (pa_cons (pe_lst (pa_cons (pe_tupN (pa_cons pe_str (pa_cons (pe_tupN (pa_cons pe_str (pa_cons pe_str pa_nil))) pa_nil))) (pa_cons (pe_tupN (pa_cons pe_str (pa_cons (pe_tupN (pa_cons pe_str pa_nil)) pa_nil))) pa_nil))) (pa_cons (pe_lst (pa_cons (pe_tupN (pa_cons pe_str (pa_cons (pe_tupN (pa_cons pe_str (pa_cons pe_str pa_nil))) pa_nil))) pa_nil)) pa_nil))))) (nomark _)))))))))))))))), ?_⟩

    refine seq_call (x := .ref a) rfl ⟨a, ns, rfl, hS, hlen, fun s c H' hs hc le sa => ?_⟩
    dsimp only
    refine ws_first (S := srcR s c) (K := K) (ρ := [.no, .dat (.val (.ref s)), .no, .no, .no, .no, .no, .no, .no, .no, .no, .no, .no, .no]) (q := fun d => d = .bl true) sa (by rfl) (fun i d e => ?h1) (fun i j e => ?h2) (fun v d G H2 dt e => ?h3) ?_
    case h3 =>
      subst e
      cases dt
      exact k H2
    case h1 => match i, e with
      | 0, e => cases e
      | 1, e => cases e; exact ⟨.ref s, rfl, fun G => .val _⟩
      | 2, e => cases e
      | 3, e => cases e
      | 4, e => cases e
      | 5, e => cases e
      | 6, e => cases e
      | 7, e => cases e
      | 8, e => cases e
      | 9, e => cases e
      | 10, e => cases e
      | 11, e => cases e
      | 12, e => cases e
      | 13, e => cases e
      | _ + 14, e => cases e
    case h2 => match i, e with
      | 0, e => cases e
      | 1, e => cases e
      | 2, e => cases e
      | 3, e => cases e
      | 4, e => cases e
      | 5, e => cases e
      | 6, e => cases e
      | 7, e => cases e
      | 8, e => cases e
      | 9, e => cases e
      | 10, e => cases e
      | 11, e => cases e
      | 12, e => cases e
      | 13, e => cases e
      | _ + 14, e => cases e
    refine ws_seq <| ws_rng (is := [2]) 4 (fun i ρ' μ' => ∃ x0 x2 x3 x4 x5 x6 x7 x8 x9 x10 x11 x12 x13, ρ' = [x0, .dat (.val (.ref s)), x2, x3, x4, x5, x6, x7, x8, x9, x10, x11, x12, x13]) (wi_rng1 <| wa_cons <| we_int <| wa_nil ⟨4, rfl, by decide, by decide, rfl, ⟨_, _, _, _, _, _, _, _, _, _, _, _, _, rfl⟩, ?_, ?_⟩)
    · rintro i ρ' μ' hi ⟨x0, x2, x3, x4, x5, x6, x7, x8, x9, x10, x11, x12, x13, rfl⟩
      refine wg_name <| ws_seq <| ws_asgT (is := [3, 4]) <| we_tup <| wa_cons <| we_call <| wa_cons <| we_var (by rfl) <| wa_nil ⟨s, c, rfl, rfl, fun side hside => ?_⟩
      refine wa_cons <| we_call <| wa_cons <| we_var (by rfl) <| wa_cons <| we_op <| we_lst <| wa_cons <| we_int <| wa_cons <| we_int <| wa_cons <| we_int <| wa_cons <| we_int <| wa_nil ⟨Nat.le_of_ble_eq_true rfl, we_var (by rfl) <| wr_ixAny (by omega) (by simp; omega) fun e1 he1 => ?_⟩
      obtain ⟨most, rfl, hm⟩ : ∃ m : Nat, e1 = .int (m : Nat) ∧ m ≤ 8 := by
        simp only [List.mem_cons, List.not_mem_nil, or_false] at he1
        rcases he1 with rfl | rfl | rfl | rfl
        · exact ⟨3, rfl, by decide⟩
        · exact ⟨5, rfl, by decide⟩
        · exact ⟨6, rfl, by decide⟩
        · exact ⟨8, rfl, by decide⟩
      refine wa_cons <| we_op <| we_lst <| wa_cons <| we_int <| wa_cons <| we_int <| wa_cons <| we_int <| wa_cons <| we_int <| wa_nil ⟨Nat.le_of_ble_eq_true rfl, we_var (by rfl) <| wr_ixAny (by omega) (by simp; omega) fun e2 he2 => ?_⟩
      obtain ⟨many, rfl, hm1, hm2⟩ : ∃ m : Nat, e2 = .int (m : Nat) ∧ 1 ≤ m ∧ m ≤ 12 := by
        simp only [List.mem_cons, List.not_mem_nil, or_false] at he2
        rcases he2 with rfl | rfl | rfl | rfl
        · exact ⟨4, rfl, by decide, by decide⟩
        · exact ⟨12, rfl, by decide, by decide⟩
        · exact ⟨4, rfl, by decide, by decide⟩
        · exact ⟨3, rfl, by decide, by decide⟩
      refine wa_nil ⟨s, c, most, many, rfl, rfl, by omega, hm1, by omega, fun ns os ok hnl hne hol hpm => wa_nil ⟨Nat.le_of_ble_eq_true rfl, wg_tup rfl <| wgs_cons <| wg_name <| wgs_cons <| wg_name <| wgs_nil ?_⟩⟩
      obtain ⟨o0, os', ho0⟩ : ∃ o0 os', os = o0 :: os' := by
        cases os with
        | nil => exact absurd rfl hne
        | cons a l => exact ⟨a, l, rfl⟩
      have po0 : o0.Perm ns := hpm o0 (by rw [ho0]; simp)
      refine ws_seq <| ws_asg <| we_call <| wa_cons <| we_var (by rfl) <| wa_cons <| we_op <| we_var (by rfl) <| we_int <| wr_ixL (d := strsD o0) (atI_nat (j := 0) (by rw [ho0]; rfl)) <| wa_nil ⟨s, c, _, o0.map .str, rfl, rfl, .inr rfl, by rw [List.length_map, po0.length_eq]; omega, fun ys hp => ?_⟩
      obtain ⟨names, hnm, rfl⟩ := mixed_map hp
      have pn : names.Perm ns := hnm.trans po0
      have nok : NamesOk names := ⟨pn.nodup_iff.mpr ok.nd, fun x hx => ok.ok x (pn.mem_iff.mp hx)⟩
      have pos : ∀ o ∈ os, o.Perm names := fun o ho => (hpm o ho).trans pn.symm
      have nl : names.length ≤ 8 := by rw [pn.length_eq]; omega
      have shs : ShwOk (.list [.list (os.map strsD), .list (names.map .str)]) := seen_shw ok (by omega) hpm pn (by omega)
      refine ws_seq <| ws_asg <| we_cb <| wa_cons <| we_lst <| wa_cons <| we_var (by rfl) <| wa_cons <| we_var (by rfl) <| wa_nil ⟨Nat.le_of_ble_eq_true rfl, wa_nil <| wc_repr (.inl ⟨_, rfl⟩) shs ?_⟩
      generalize hseen : (D.rp (.list [.list (os.map strsD), .list (names.map .str)])).shown = seen
      refine ws_to (ρ' := [x0, .dat (.val (.ref s)), .dat (.int (i : Nat)), .dat (.str side), .dat (.list (os.map strsD)), .dat (.list (names.map .str)), .dat (.str seen), x7, x8, x9, x10, x11, x12, x13]) rfl ?_
      refine ws_forD (is := [7]) .str (wi_list <| we_slL <| we_var (by rfl) <| wo_none <| wo_some <| we_op <| we_lst <| wa_cons <| we_int <| wa_cons <| we_int <| wa_cons <| we_int <| wa_cons <| we_int <| wa_nil ⟨Nat.le_of_ble_eq_true rfl, we_var (by rfl) <| wr_ixAny (by omega) (by simp; omega) fun e3 he3 => ?_⟩)
      obtain ⟨mm, rfl⟩ : ∃ m : Nat, e3 = .int (m : Nat) := by
        simp only [List.mem_cons, List.not_mem_nil, or_false] at he3
        rcases he3 with rfl | rfl | rfl | rfl
        · exact ⟨4, rfl⟩
        · exact ⟨4, rfl⟩
        · exact ⟨4, rfl⟩
        · exact ⟨2, rfl⟩
      refine ⟨_, rfl, _, rfl, ?_⟩
      rw [cut_to, ← List.map_take]
      refine ⟨_, rfl, names.take mm, fun ys ρ' μ' => ∃ x0 x7 x8 x9 x10 x11 x12 x13, ρ' = [x0, .dat (.val (.ref s)), .dat (.int (i : Nat)), .dat (.str side), .dat (.list (os.map strsD)), .dat (.list (names.map .str)), .dat (.str seen), x7, x8, x9, x10, x11, x12, x13], rfl, ⟨_, _, _, _, _, _, _, _, rfl⟩, ?_, ?_⟩
      · rintro us n vs ρ' μ' hu ⟨x0, x7, x8, x9, x10, x11, x12, x13, rfl⟩
        have hn : n ∈ names := (List.take_sublist _ _).mem (show n ∈ names.take mm by rw [hu]; simp)
        have lf := least_found (side := side) nok.nd hn pos hne
        have lok : LeastOk side os names n := ⟨nok.nd, hn, pos, by omega, few_small nok.nd pos (by omega) (by omega)⟩
        have lays := rows_lay (n := n) nok hn (least_in (side := side) (n := n) nok.nd pos)
        have shw := least_shw (side := side) nok hn pos (by omega)
        have nil := least_nil (side := side) nok.nd hn pos
        refine wg_name <| ws_seq <| ws_asg <| we_call <| wa_cons <| we_var (by rfl) <| wa_cons <| we_var (by rfl) <| wa_cons <| we_var (by rfl) <| wa_cons <| we_var (by rfl) <| wa_nil ⟨side, os, names, n, rfl, nok, hn, by omega, pos, by omega, ?_⟩
        rw [← lf]
        have rl : (rowsSay names n (leastF side os names n)).length ≤ 90000 := by
          have := lok.few.few (os.map (helpL side n)) [] (by rw [List.append_nil])
          unfold rowsSay leastF
          rw [List.length_map, List.length_mergeSort, List.length_map]
          omega
        generalize hR : rowsSay names n (leastF side os names n) = R at lays shw nil rl
        refine ws_to (ρ' := [x0, .dat (.val (.ref s)), .dat (.int (i : Nat)), .dat (.str side), .dat (.list (os.map strsD)), .dat (.list (names.map .str)), .dat (.str seen), .dat (.str n), .dat (.list R), x9, x10, x11, x12, x13]) rfl ?_
        refine ws_seq (ws_forT (is := [9]) [.list (os.map strsD), .tup (os.map strsD)] id (fun ys ρ' μ' => ∃ x0 x9 x10 x11 x12 x13, ρ' = [x0, .dat (.val (.ref s)), .dat (.int (i : Nat)), .dat (.str side), .dat (.list (os.map strsD)), .dat (.list (names.map .str)), .dat (.str seen), .dat (.str n), .dat (.list R), x9, x10, x11, x12, x13]) (wi_list <| we_lst <| wa_cons <| we_var (by rfl) <| wa_cons <| we_cb <| wa_cons <| we_var (by rfl) <| wa_nil <| wc_tupleR (.inl rfl) <| wa_nil ⟨Nat.le_of_ble_eq_true rfl, _, rfl, rfl, ⟨_, _, _, _, _, _, rfl⟩, ?_, ?_⟩))
        · rintro gs g hs ρ' μ' hg ⟨x0, x9, x10, x11, x12, x13, rfl⟩
          have hgv : g = .list (os.map strsD) ∨ g = .tup (os.map strsD) := by
            have : g ∈ [X3.D.list (os.map strsD), .tup (os.map strsD)] := by rw [hg]; simp
            simpa using this
          refine wg_name <| ws_seq <| ws_asgF (Nat.le_of_ble_eq_true rfl) <| wa_cons <| we_var (by rfl) <| wa_cons <| we_var (by rfl) <| wa_cons <| we_var (by rfl) <| wa_cons <| we_var (by rfl) <| wa_nil ⟨side, os, g, names, _, n, rfl, hgv, .inl rfl, lok, ?_⟩
          rw [hR]
          refine ws_to (ρ' := [x0, .dat (.val (.ref s)), .dat (.int (i : Nat)), .dat (.str side), .dat (.list (os.map strsD)), .dat (.list (names.map .str)), .dat (.str seen), .dat (.str n), .dat (.list R), .dat g, .own μ'.length, x11, x12, x13]) rfl ?_
          refine ws_seq <| ws_ifF (wt_test <| we_op <| we_cb <| wa_cons <| we_var (view_last (by rfl)) <| wa_nil <| wc_repr (.inl ⟨_, rfl⟩) shw <| we_cb <| wa_cons <| we_var (by rfl) <| wa_nil <| wc_repr (.inl ⟨_, rfl⟩) shw <| neS_same ⟨_, rfl, rfl⟩) (ws_next ?_)
          exact ws_append (j := μ'.length) (by rfl) List.getElem?_concat_length (by omega) (we_non ⟨_, _, _, _, _, _, rfl⟩)
        · rintro ρ' μ' ⟨x0, x9, x10, x11, x12, x13, rfl⟩
          refine ws_seq <| ws_asg <| we_op <| we_map (is := [13]) os strsD (fun _ => .int 1) (fun o => decide ((turnL side o)[0]? = some n)) (fun i hi => by simpa using hi) (wi_list <| we_var (by rfl) ⟨_, rfl, rfl, by omega, fun o ho => wg_name ?_, ?_⟩)
          · obtain ⟨x, hx⟩ : ∃ x, (turnL side o)[0]? = some x := by
              have : n ∈ turnL side o := turn_perm.mem_iff.mpr ((pos o ho).mem_iff.mpr hn)
              cases e : turnL side o with
              | nil =>
                rw [e] at this
                cases this
              | cons a l => exact ⟨a, rfl⟩
            refine wt_test <| we_op <| we_op <| we_call <| wa_cons <| we_var (by rfl) <| wa_cons <| we_var (by rfl) <| wa_nil ⟨side, o, rfl, we_int <| wr_ixT (d := .str x) (atI_nat (j := 0) (by rw [List.getElem?_map, hx]; rfl)) <| we_var (by rfl) <| we_eqS ⟨_, rfl, ?_, fun _ => we_int rfl⟩⟩
            rw [hx]
            exact decide_eq_decide.mpr ⟨fun e => by rw [e], fun e => Option.some.inj e⟩
          refine we_lst <| wa_nil ⟨Nat.zero_le _, we_neNil (k := 0) (fun d hd => ?_) (by decide) ?_⟩
          · obtain ⟨x, _, rfl⟩ := List.mem_map.mp hd
            exact Lay.int
          rw [fil_any]
          have eq : (os.any fun o => decide ((turnL side o)[0]? = some n)) = R.isEmpty := by
            refine Bool.eq_iff_iff.mpr ?_
            rw [List.isEmpty_iff, nil, List.any_eq_true]
            exact ⟨fun ⟨o, a, b⟩ => ⟨o, a, of_decide_eq_true b⟩, fun ⟨o, a, b⟩ => ⟨o, a, decide_eq_true b⟩⟩
          rw [eq]
          refine ws_ifF (wt_or <| wt_test <| we_op <| we_var (by rfl) <| we_op <| we_var (by rfl) <| we_lst <| wa_nil ⟨Nat.zero_le _, we_eqNil (k := 2) lays (by decide) <| neD_same (k := 0) Lay.bl (by decide) ⟨_, rfl, iteF ?_⟩⟩) (ws_next ⟨_, _, _, _, _, _, _, _, rfl⟩)
          refine wt_test <| we_op <| we_cb <| wa_cons <| we_lst <| wa_cons <| we_var (by rfl) <| wa_cons <| we_var (by rfl) <| wa_nil ⟨Nat.le_of_ble_eq_true rfl, wa_nil <| wc_repr (.inl ⟨_, rfl⟩) shs <| we_var (by rfl) ?_⟩
          rw [hseen]
          exact neS_same ⟨_, rfl, rfl⟩
      · rintro ρ' μ' ⟨x0, x7, x8, x9, x10, x11, x12, x13, rfl⟩
        exact ⟨_, _, _, _, _, _, _, _, _, _, _, _, _, rfl⟩
    · rintro ρ' μ' ⟨x0, x2, x3, x4, x5, x6, x7, x8, x9, x10, x11, x12, x13, rfl⟩
      obtain ⟨x0, x2, x3, x4, x5, x6, x7, x8, x9, x10, x11, x12, x13, ey⟩ : ∃ y0 y2 y3 y4 y5 y6 y7 y8 y9 y10 y11 y12 y13, view [x0, .dat (.val (.ref s)), x2, x3, x4, x5, x6, x7, x8, x9, x10, x11, x12, x13] μ' = [y0, .dat (.val (.ref s)), y2, y3, y4, y5, y6, y7, y8, y9, y10, y11, y12, y13] := ⟨_, _, _, _, _, _, _, _, _, _, _, _, _, rfl⟩
      refine ws_freeze ?_
      rw [ey]
      refine ws_seq <| ws_asgT (is := [3, 5]) <| we_tup <| wa_cons <| we_call <| wa_cons <| we_var (by rfl) <| wa_nil ⟨s, c, rfl, rfl, fun side hside => ?_⟩
      refine wa_cons <| we_call <| wa_cons <| we_var (by rfl) <| wa_cons <| we_op <| we_int <| we_call <| wa_cons <| we_var (by rfl) <| wa_cons <| we_int <| wa_nil ⟨s, c, 33, rfl, rfl, by decide, by decide, fun k k0 k1 => ?_⟩
      obtain ⟨k, rfl⟩ := Int.eq_ofNat_of_zero_le k0
      refine wp_i <| wa_nil ⟨s, c, 8 + k, rfl, by rw [Int.natCast_add]; rfl, by omega, fun names hnl ok => wa_nil ⟨Nat.le_of_ble_eq_true rfl, wg_tup rfl <| wgs_cons <| wg_name <| wgs_cons <| wg_name <| wgs_nil ?_⟩⟩
      have nl : names.length ≤ 40 := by omega
      refine ws_seq <| ws_own (Nat.le_of_ble_eq_true rfl) <| wf_lst <| wa_cons <| we_cb <| wa_cons <| we_call <| wa_cons <| we_var (by rfl) <| wa_cons <| we_var (by rfl) <| wa_nil ⟨s, c, _, names.map .str, rfl, rfl, .inl rfl, by rw [List.length_map]; omega, fun ys hp => ?_⟩
      obtain ⟨f, pf, rfl⟩ := mixed_map hp
      refine wa_nil <| wc_tupleR (.inl rfl) <| wa_cons <| we_cb <| wa_cons <| we_var (by rfl) <| wa_nil <| wc_tupleR (.inl rfl) <| wa_nil ⟨Nat.le_of_ble_eq_true rfl, ?_⟩
      refine ws_to (ρ' := [x0, .dat (.val (.ref s)), x2, .dat (.str side), .own 0, .dat (.list (names.map .str)), x6, x7, x8, x9, x10, x11, x12, x13]) rfl ?_
      refine ws_seq <| ws_lputT (n := 0) (ds := [strsD f, strsD names]) (by rfl) (Nat.le_of_ble_eq_true rfl) <| WE.imp (Q := fun d => ∃ o : List Str, d = strsD o ∧ o.Perm names) ?_ ?_
      · refine we_if <| wt_test <| we_op <| we_call <| wa_cons <| we_var (by rfl) <| wa_cons <| we_int <| wa_nil ⟨s, c, 2, rfl, rfl, by decide, by decide, fun j j0 j1 => we_int <| we_eqI ⟨_, rfl, ?_⟩⟩
        by_cases z : j = 0
        · exact iteD z <| we_op <| we_var (by rfl) <| we_int <| wr_ixL (d := strsD f) rfl ⟨f, rfl, pf⟩
        · exact iteDN z <| we_call <| wa_cons <| we_var (by rfl) <| wa_cons <| we_cb <| wa_cons <| we_var (by rfl) <| wa_nil <| wc_tupleR (.inl rfl) <| wa_nil ⟨s, c, names, rfl, rfl, ok.ok, by omega, fun o' ho' => ⟨o', rfl, ho'⟩⟩
      rintro _ ⟨g, rfl, pg⟩
      refine ⟨g, rfl, ?_⟩
      refine ws_seq <| ws_release (i := 4) (j := 0) (ds := [strsD g, strsD names]) (by rfl) (by rfl) <| ws_asg <| we_slL <| we_var (by rfl) <| wo_none <| wo_some <| we_op <| we_int <| we_cb <| wa_cons <| we_op <| we_call <| wa_cons <| we_var (by rfl) <| wa_cons <| we_int <| wa_nil ⟨s, c, 3, rfl, rfl, by decide, by decide, fun j j0 j1 => we_int <| we_eqI <| wa_nil <| wc_intb <| wr_ii (g := fun i j => i - j) ⟨_, rfl, _, rfl, ?_⟩⟩
      obtain ⟨a, b, os, ecut, pa, pb, h1, ha, hb, ol, e0, e1⟩ : ∃ (a b : List Str) (os : List (List Str)), cutD [strsD g, strsD names] none (some (2 - if decide (j = 0) = true then 1 else 0)) = os.map strsD ∧ a.Perm names ∧ b.Perm names ∧ (∀ o ∈ os, o = a ∨ o = b) ∧ a ∈ os ∧ b ∈ os ∧ os.length ≤ 2 ∧ atI (os.map strsD) 0 = some (strsD a) ∧ atI (os.map strsD) (-1) = some (strsD b) := by
        by_cases z : j = 0
        · refine ⟨g, g, [g], ?_, pg, pg, fun o ho => .inl (List.mem_singleton.mp ho), by simp, by simp, by simp, rfl, rfl⟩
          rw [decide_eq_true z]
          rfl
        · refine ⟨g, names, [g, names], ?_, pg, .refl _, fun o ho => by simpa using ho, by simp, by simp, by simp, rfl, rfl⟩
          rw [decide_eq_false z]
          rfl
      rw [ecut]
      refine ws_seq <| ws_asg <| we_lst <| wa_cons <| we_op <| we_var (by rfl) <| we_int <| wr_ixL (d := strsD a) e0 <| wa_cons <| we_op <| we_var (by rfl) <| we_un <| we_int <| wu_neg <| wr_ixL (d := strsD b) e1 <| wa_nil ⟨Nat.le_of_ble_eq_true rfl, ?_⟩
      refine ws_to (ρ' := [x0, .dat (.val (.ref s)), x2, .dat (.str side), .dat (.list (os.map strsD)), .dat (.list (names.map .str)), x6, x7, x8, x9, x10, x11, .dat (.list [strsD a, strsD b]), x13]) rfl ?_
      refine ws_seq <| ws_forD (is := [7]) .str (wi_list <| we_slL <| we_call <| wa_cons <| we_var (by rfl) <| wa_cons <| we_var (by rfl) <| wa_nil ⟨s, c, _, names.map .str, rfl, rfl, .inl rfl, by rw [List.length_map]; omega, fun ys hp => ?_⟩)
      obtain ⟨zs, hz, rfl⟩ := mixed_map hp
      refine wo_none <| wo_some <| we_int ⟨((2 : Nat) : Int), rfl, _, rfl, ?_⟩
      rw [cut_to, ← List.map_take]
      refine ⟨_, rfl, zs.take 2, fun ys ρ' μ' => ∃ x0 x2 x6 x7 x8 x9 x10 x11 x13, ρ' = [x0, .dat (.val (.ref s)), x2, .dat (.str side), .dat (.list (os.map strsD)), .dat (.list (names.map .str)), x6, x7, x8, x9, x10, x11, .dat (.list [strsD a, strsD b]), x13], rfl, ⟨_, _, _, _, _, _, _, _, _, rfl⟩, ?_, ?_⟩
      · rintro us n vs ρ' μ' hu ⟨x0, x2, x6, x7, x8, x9, x10, x11, x13, rfl⟩
        have hn : n ∈ names := hz.mem_iff.mp ((List.take_sublist _ _).mem (show n ∈ zs.take 2 by rw [hu]; simp))
        have pos : ∀ o ∈ os, o.Perm names := fun o ho => (h1 o ho).elim (fun e => by rw [e]; exact pa) fun e => by rw [e]; exact pb
        have lok : LeastOk side os names n := ⟨ok.nd, hn, pos, by omega, few_two ok.nd pos nl ol⟩
        have lt := least_two (side := side) ok.nd hn pa pb h1 ha hb
        have lays := rows_lay (n := n) ok hn (least_in (side := side) (n := n) ok.nd pos)
        refine wg_name <| ws_ifF (wt_test <| we_op <| we_callF <| wa_cons <| we_var (by rfl) <| wa_cons <| we_var (by rfl) <| wa_cons <| we_cb <| wa_cons <| we_var (by rfl) <| wa_nil <| wc_tupleR (.inl rfl) <| wa_cons <| we_var (by rfl) <| wa_nil ⟨side, os, _, names, _, n, rfl, .inl rfl, .inr rfl, lok, ?_⟩) (ws_next ⟨_, _, _, _, _, _, _, _, _, rfl⟩)
        refine we_call <| wa_cons <| we_var (by rfl) <| wa_cons <| we_var (by rfl) <| wa_cons <| we_var (by rfl) <| wa_cons <| we_var (by rfl) <| wa_nil ⟨side, a, b, names, n, rfl, ok, hn, by omega, pa, pb, ?_⟩
        rw [← lt]
        exact neD_same (Lay.list lays) (by decide) ⟨_, rfl, rfl⟩
      · rintro ρ' μ' ⟨x0, x2, x6, x7, x8, x9, x10, x11, x13, rfl⟩
        refine ws_seq <| ws_asg <| we_lst <| wa_cons <| we_tup <| wa_cons <| we_str <| wa_cons <| we_str <| wa_cons <| we_str <| wa_cons <| we_str <| wa_nil ⟨Nat.le_of_ble_eq_true rfl, wa_cons <| we_tup <| wa_cons <| we_str <| wa_cons <| we_str <| wa_cons <| we_str <| wa_cons <| we_str <| wa_nil ⟨Nat.le_of_ble_eq_true rfl, wa_nil ⟨Nat.le_of_ble_eq_true rfl, ?_⟩⟩⟩
        have told : ∀ {Q : X3.D → Prop} {E : XK} {ρ : Rho} {side : Str} (hs : side ∈ [cBEHIND, cAHEAD2]), ρ.length = 14 → ρ[4]? = some (.dat (.list (o4.map strsD))) → Q (.list (n4.map fun n => .list ((due4 side n).map fun row => sayD (n, backL n4 row)))) → WE K (srcR s c) (tLc (iStr (tC (.str "abcd"))) (gName 7) tYes (tCall (spF K pLeast) [] E (tCons (tC (.str side)) (tCons (tVar 4) (tCons (tCB rListS (tCons (tC (.str "abcd")) tNil)) (tCons (tVar 7) tNil))))) [7]) ρ Q := fun {Q E ρ side} hs hl h4 hQ => by
          refine we_mapY (is := [7]) n4 .str (fun n => .list ((due4 side n).map fun row => sayD (n, backL n4 row))) (fun i hi => by simpa using hi) (wi_str <| we_str ⟨_, rfl, abcd, Nat.le_of_ble_eq_true rfl, fun n hn => wg_name ?_, hQ⟩)
          have h7 : ((wipeR ρ [7]).set 7 (.dat (.str n)))[7]? = some (.dat (.str n)) := List.getElem?_set_self (by rw [wipeR_len]; omega)
          have h4' : ((wipeR ρ [7]).set 7 (.dat (.str n)))[4]? = some (.dat (.list (o4.map strsD))) := by
            show ((ρ.set 7 .no).set 7 (.dat (.str n)))[4]? = _
            rw [List.getElem?_set_ne (by decide), List.getElem?_set_ne (by decide)]
            exact h4
          refine we_callF <| wa_cons <| we_str <| wa_cons <| we_var h4' <| wa_cons <| we_cb <| wa_cons <| we_str <| wa_nil <| wc_listS (by decide +kernel) ?_
          rw [abcd]
          refine wa_cons <| we_var h7 <| wa_nil ⟨side, o4, _, n4, _, n, rfl, .inl rfl, .inl rfl, least4 hn, ?_⟩
          rw [rows4 hs hn]
        refine ws_seq <| ws_asg <| told (side := cBEHIND) (by simp) (by rfl) (by rfl) ?_
        refine ws_seq <| ws_ifF (wt_test <| we_op <| we_var (by rfl) <| we_lst <| wa_cons <| we_lst <| wa_nil ⟨Nat.le_of_ble_eq_true rfl, wa_cons <| we_lst <| wa_nil ⟨Nat.le_of_ble_eq_true rfl, wa_cons <| we_lst <| wa_cons <| we_tup <| wa_cons <| we_str <| wa_cons <| we_tup <| wa_cons <| we_str <| wa_cons <| we_str <| wa_nil ⟨Nat.le_of_ble_eq_true rfl, wa_nil ⟨Nat.le_of_ble_eq_true rfl, wa_nil ⟨Nat.le_of_ble_eq_true rfl, wa_cons <| we_lst <| wa_cons <| we_tup <| wa_cons <| we_str <| wa_cons <| we_tup <| wa_cons <| we_str <| wa_cons <| we_str <| wa_nil ⟨Nat.le_of_ble_eq_true rfl, wa_nil ⟨Nat.le_of_ble_eq_true rfl, wa_cons <| we_tup <| wa_cons <| we_str <| wa_cons <| we_tup <| wa_cons <| we_str <| wa_nil ⟨Nat.le_of_ble_eq_true rfl, wa_nil ⟨Nat.le_of_ble_eq_true rfl, wa_nil ⟨Nat.le_of_ble_eq_true rfl, wa_nil ⟨Nat.le_of_ble_eq_true rfl, ?_⟩⟩⟩⟩⟩⟩⟩⟩⟩⟩⟩) (ws_next ?_)
        · have L := told_lay (side := cBEHIND) (by simp)
          rw [told_b] at L ⊢
          exact neD_same L (by decide) ⟨_, rfl, rfl⟩
        refine ws_seq <| ws_asg <| told (side := cAHEAD2) (by simp) (by rfl) (by rfl) ?_
        refine ws_ret <| we_op <| we_var (by rfl) <| we_lst <| wa_cons <| we_lst <| wa_nil ⟨Nat.le_of_ble_eq_true rfl, wa_cons <| we_lst <| wa_nil ⟨Nat.le_of_ble_eq_true rfl, wa_cons <| we_lst <| wa_cons <| we_tup <| wa_cons <| we_str <| wa_cons <| we_tup <| wa_cons <| we_str <| wa_cons <| we_str <| wa_nil ⟨Nat.le_of_ble_eq_true rfl, wa_nil ⟨Nat.le_of_ble_eq_true rfl, wa_cons <| we_tup <| wa_cons <| we_str <| wa_cons <| we_tup <| wa_cons <| we_str <| wa_nil ⟨Nat.le_of_ble_eq_true rfl, wa_nil ⟨Nat.le_of_ble_eq_true rfl, wa_nil ⟨Nat.le_of_ble_eq_true rfl, wa_cons <| we_lst <| wa_cons <| we_tup <| wa_cons <| we_str <| wa_cons <| we_tup <| wa_cons <| we_str <| wa_cons <| we_str <| wa_nil ⟨Nat.le_of_ble_eq_true rfl, wa_nil ⟨Nat.le_of_ble_eq_true rfl, wa_nil ⟨Nat.le_of_ble_eq_true rfl, wa_nil ⟨Nat.le_of_ble_eq_true rfl, ?_⟩⟩⟩⟩⟩⟩⟩⟩⟩⟩⟩
        have L := told_lay (side := cAHEAD2) (by simp)
        rw [told_a] at L ⊢
        exact eqD_same L (by decide) rfl
end
end Tk

set_option Elab.async false
set_option linter.all false
set_option maxRecDepth 100000
set_option maxHeartbeats 8000000
set_option pp.maxSteps 300
namespace Tk
open PySem L2 X3
def tkF (t0 : Tok) : Nat → Tok
  | _ => t0
theorem all_mk {l : PySem.W.OpenLaw} {w : World} {K : PySem.W.Frag} {h : Heap} {mg : Str → Option Value} {fa f0 f1 f2 f3 f4 f5 f6 f7 f8 f9 f10 f11 f12 f13 f14 f15 f16 f17 f18 f19 f20 f21 f22 : Addr} {t0 : Tok} (X : K.In h) (G : h.Ns mainGlobals mg) (hfa : mg "law" = some (.ref fa))
    {oc0 kV0 dc0 pm0 cd0 ct0 : Value} {od0 an0 : Option Addr} {sl0 : Array (Option Value)}
    {oc1 kV1 dc1 pm1 cd1 ct1 : Value} {od1 an1 : Option Addr} {sl1 : Array (Option Value)}
    {oc2 kV2 dc2 pm2 cd2 ct2 : Value} {od2 an2 : Option Addr} {sl2 : Array (Option Value)}
    {oc3 kV3 dc3 pm3 cd3 ct3 : Value} {od3 an3 : Option Addr} {sl3 : Array (Option Value)}
    {oc4 kV4 dc4 pm4 cd4 ct4 : Value} {od4 an4 : Option Addr} {sl4 : Array (Option Value)}
    {oc5 kV5 dc5 pm5 cd5 ct5 : Value} {od5 an5 : Option Addr} {sl5 : Array (Option Value)}
    {oc6 kV6 dc6 pm6 cd6 ct6 : Value} {od6 an6 : Option Addr} {sl6 : Array (Option Value)}
    {oc7 kV7 dc7 pm7 cd7 ct7 : Value} {od7 an7 : Option Addr} {sl7 : Array (Option Value)}
    {oc8 kV8 dc8 pm8 cd8 ct8 : Value} {od8 an8 : Option Addr} {sl8 : Array (Option Value)}
    {oc9 kV9 dc9 pm9 cd9 ct9 : Value} {od9 an9 : Option Addr} {sl9 : Array (Option Value)}
    {oc10 kV10 dc10 pm10 cd10 ct10 : Value} {od10 an10 : Option Addr} {sl10 : Array (Option Value)}
    {oc11 kV11 dc11 pm11 cd11 ct11 : Value} {od11 an11 : Option Addr} {sl11 : Array (Option Value)}
    {oc12 kV12 dc12 pm12 cd12 ct12 : Value} {od12 an12 : Option Addr} {sl12 : Array (Option Value)}
    {oc13 kV13 dc13 pm13 cd13 ct13 : Value} {od13 an13 : Option Addr} {sl13 : Array (Option Value)}
    {oc14 kV14 dc14 pm14 cd14 ct14 : Value} {od14 an14 : Option Addr} {sl14 : Array (Option Value)}
    {oc15 kV15 dc15 pm15 cd15 ct15 : Value} {od15 an15 : Option Addr} {sl15 : Array (Option Value)}
    {oc16 kV16 dc16 pm16 cd16 ct16 : Value} {od16 an16 : Option Addr} {sl16 : Array (Option Value)}
    {oc17 kV17 dc17 pm17 cd17 ct17 : Value} {od17 an17 : Option Addr} {sl17 : Array (Option Value)}
    {oc18 kV18 dc18 pm18 cd18 ct18 : Value} {od18 an18 : Option Addr} {sl18 : Array (Option Value)}
    {oc19 kV19 dc19 pm19 cd19 ct19 : Value} {od19 an19 : Option Addr} {sl19 : Array (Option Value)}
    {oc20 kV20 dc20 pm20 cd20 ct20 : Value} {od20 an20 : Option Addr} {sl20 : Array (Option Value)}
    {oc21 kV21 dc21 pm21 cd21 ct21 : Value} {od21 an21 : Option Addr} {sl21 : Array (Option Value)}
    {oc22 kV22 dc22 pm22 cd22 ct22 : Value} {od22 an22 : Option Addr} {sl22 : Array (Option Value)}
    (nabs : PySem.W.nsIn K mainGlobals "abs" = some none)
    (nall : PySem.W.nsIn K mainGlobals "all" = some none)
    (nany : PySem.W.nsIn K mainGlobals "any" = some none)
    (nbool : PySem.W.nsIn K mainGlobals "bool" = some none)
    (ndict : PySem.W.nsIn K mainGlobals "dict" = some none)
    (nenumerate : PySem.W.nsIn K mainGlobals "enumerate" = some none)
    (nint : PySem.W.nsIn K mainGlobals "int" = some none)
    (nisinstance : PySem.W.nsIn K mainGlobals "isinstance" = some none)
    (nlen : PySem.W.nsIn K mainGlobals "len" = some none)
    (nlist : PySem.W.nsIn K mainGlobals "list" = some none)
    (nmax : PySem.W.nsIn K mainGlobals "max" = some none)
    (nmin : PySem.W.nsIn K mainGlobals "min" = some none)
    (nrange : PySem.W.nsIn K mainGlobals "range" = some none)
    (nrepr : PySem.W.nsIn K mainGlobals "repr" = some none)
    (nreversed : PySem.W.nsIn K mainGlobals "reversed" = some none)
    (nset : PySem.W.nsIn K mainGlobals "set" = some none)
    (nsorted : PySem.W.nsIn K mainGlobals "sorted" = some none)
    (nstr : PySem.W.nsIn K mainGlobals "str" = some none)
    (nsum : PySem.W.nsIn K mainGlobals "sum" = some none)
    (ntuple : PySem.W.nsIn K mainGlobals "tuple" = some none)
    (nzip : PySem.W.nsIn K mainGlobals "zip" = some none)
    (gBEHIND : PySem.W.nsIn K mainGlobals "BEHIND" = some (some (.str cBEHIND t0)))
    (a0 : PySem.W.nsIn K mainGlobals "_law_source" = some (some (.ref f0)))
    (l0 : K.lookup f0 = some ⟨oc0, od0, .func (PySem.W.fnOf "_law_source" "_law_source" (defArgs sSource) (defBody sSource) (defScope sSource) .none kV0 dc0 pm0 an0 cd0 ct0), sl0⟩)
    (c_0 : PySem.W.codeIn K cd0 "_law_source" = true)
    (k_0 : PySem.W.keepIn K (.ref f0) = true)
    (a1 : PySem.W.nsIn K mainGlobals "_law_pick" = some (some (.ref f1)))
    (l1 : K.lookup f1 = some ⟨oc1, od1, .func (PySem.W.fnOf "_law_pick" "_law_pick" (defArgs sPick) (defBody sPick) (defScope sPick) .none kV1 dc1 pm1 an1 cd1 ct1), sl1⟩)
    (c_1 : PySem.W.codeIn K cd1 "_law_pick" = true)
    (k_1 : PySem.W.keepIn K (.ref f1) = true)
    (a2 : PySem.W.nsIn K mainGlobals "_law_names" = some (some (.ref f2)))
    (l2 : K.lookup f2 = some ⟨oc2, od2, .func (PySem.W.fnOf "_law_names" "_law_names" (defArgs slaw_names) (defBody slaw_names) (defScope slaw_names) .none kV2 dc2 pm2 an2 cd2 ct2), sl2⟩)
    (c_2 : PySem.W.codeIn K cd2 "_law_names" = true)
    (k_2 : PySem.W.keepIn K (.ref f2) = true)
    (a3 : PySem.W.nsIn K mainGlobals "_law_mixed" = some (some (.ref f3)))
    (l3 : K.lookup f3 = some ⟨oc3, od3, .func (PySem.W.fnOf "_law_mixed" "_law_mixed" (defArgs slaw_mixed) (defBody slaw_mixed) (defScope slaw_mixed) .none kV3 dc3 pm3 an3 cd3 ct3), sl3⟩)
    (c_3 : PySem.W.codeIn K cd3 "_law_mixed" = true)
    (k_3 : PySem.W.keepIn K (.ref f3) = true)
    (a4 : PySem.W.nsIn K mainGlobals "_law_words" = some (some (.ref f4)))
    (l4 : K.lookup f4 = some ⟨oc4, od4, .func (PySem.W.fnOf "_law_words" "_law_words" (defArgs slaw_words) (defBody slaw_words) (defScope slaw_words) .none kV4 dc4 pm4 an4 cd4 ct4), sl4⟩)
    (c_4 : PySem.W.codeIn K cd4 "_law_words" = true)
    (k_4 : PySem.W.keepIn K (.ref f4) = true)
    (a5 : PySem.W.nsIn K mainGlobals "_law_moved" = some (some (.ref f5)))
    (l5 : K.lookup f5 = some ⟨oc5, od5, .func (PySem.W.fnOf "_law_moved" "_law_moved" (defArgs slaw_moved) (defBody slaw_moved) (defScope slaw_moved) .none kV5 dc5 pm5 an5 cd5 ct5), sl5⟩)
    (c_5 : PySem.W.codeIn K cd5 "_law_moved" = true)
    (k_5 : PySem.W.keepIn K (.ref f5) = true)
    (a6 : PySem.W.nsIn K mainGlobals "_law_near_order" = some (some (.ref f6)))
    (l6 : K.lookup f6 = some ⟨oc6, od6, .func (PySem.W.fnOf "_law_near_order" "_law_near_order" (defArgs slaw_near_order) (defBody slaw_near_order) (defScope slaw_near_order) .none kV6 dc6 pm6 an6 cd6 ct6), sl6⟩)
    (c_6 : PySem.W.codeIn K cd6 "_law_near_order" = true)
    (k_6 : PySem.W.keepIn K (.ref f6) = true)
    (a7 : PySem.W.nsIn K mainGlobals "_law_of" = some (some (.ref f7)))
    (l7 : K.lookup f7 = some ⟨oc7, od7, .func (PySem.W.fnOf "_law_of" "_law_of" (defArgs slaw_of) (defBody slaw_of) (defScope slaw_of) .none kV7 dc7 pm7 an7 cd7 ct7), sl7⟩)
    (c_7 : PySem.W.codeIn K cd7 "_law_of" = true)
    (k_7 : PySem.W.keepIn K (.ref f7) = true)
    (a8 : PySem.W.nsIn K mainGlobals "_law_orders" = some (some (.ref f8)))
    (l8 : K.lookup f8 = some ⟨oc8, od8, .func (PySem.W.fnOf "_law_orders" "_law_orders" (defArgs slaw_orders) (defBody slaw_orders) (defScope slaw_orders) .none kV8 dc8 pm8 an8 cd8 ct8), sl8⟩)
    (c_8 : PySem.W.codeIn K cd8 "_law_orders" = true)
    (k_8 : PySem.W.keepIn K (.ref f8) = true)
    (a9 : PySem.W.nsIn K mainGlobals "_law_drawn_side" = some (some (.ref f9)))
    (l9 : K.lookup f9 = some ⟨oc9, od9, .func (PySem.W.fnOf "_law_drawn_side" "_law_drawn_side" (defArgs slaw_drawn_side) (defBody slaw_drawn_side) (defScope slaw_drawn_side) .none kV9 dc9 pm9 an9 cd9 ct9), sl9⟩)
    (c_9 : PySem.W.codeIn K cd9 "_law_drawn_side" = true)
    (k_9 : PySem.W.keepIn K (.ref f9) = true)
    (a10 : PySem.W.nsIn K mainGlobals "_law_subsets" = some (some (.ref f10)))
    (l10 : K.lookup f10 = some ⟨oc10, od10, .func (PySem.W.fnOf "_law_subsets" "_law_subsets" (defArgs slaw_subsets) (defBody slaw_subsets) (defScope slaw_subsets) .none kV10 dc10 pm10 an10 cd10 ct10), sl10⟩)
    (c_10 : PySem.W.codeIn K cd10 "_law_subsets" = true)
    (k_10 : PySem.W.keepIn K (.ref f10) = true)
    (a11 : PySem.W.nsIn K mainGlobals "_law_turned" = some (some (.ref f11)))
    (l11 : K.lookup f11 = some ⟨oc11, od11, .func (PySem.W.fnOf "_law_turned" "_law_turned" (defArgs slaw_turned) (defBody slaw_turned) (defScope slaw_turned) .none kV11 dc11 pm11 an11 cd11 ct11), sl11⟩)
    (c_11 : PySem.W.codeIn K cd11 "_law_turned" = true)
    (k_11 : PySem.W.keepIn K (.ref f11) = true)
    (a12 : PySem.W.nsIn K mainGlobals "_law_keeps" = some (some (.ref f12)))
    (l12 : K.lookup f12 = some ⟨oc12, od12, .func (PySem.W.fnOf "_law_keeps" "_law_keeps" (defArgs slaw_keeps) (defBody slaw_keeps) (defScope slaw_keeps) .none kV12 dc12 pm12 an12 cd12 ct12), sl12⟩)
    (c_12 : PySem.W.codeIn K cd12 "_law_keeps" = true)
    (k_12 : PySem.W.keepIn K (.ref f12) = true)
    (a13 : PySem.W.nsIn K mainGlobals "_law_kept_by_all" = some (some (.ref f13)))
    (l13 : K.lookup f13 = some ⟨oc13, od13, .func (PySem.W.fnOf "_law_kept_by_all" "_law_kept_by_all" (defArgs slaw_kept_by_all) (defBody slaw_kept_by_all) (defScope slaw_kept_by_all) .none kV13 dc13 pm13 an13 cd13 ct13), sl13⟩)
    (c_13 : PySem.W.codeIn K cd13 "_law_kept_by_all" = true)
    (k_13 : PySem.W.keepIn K (.ref f13) = true)
    (a14 : PySem.W.nsIn K mainGlobals "_law_is_within" = some (some (.ref f14)))
    (l14 : K.lookup f14 = some ⟨oc14, od14, .func (PySem.W.fnOf "_law_is_within" "_law_is_within" (defArgs slaw_is_within) (defBody slaw_is_within) (defScope slaw_is_within) .none kV14 dc14 pm14 an14 cd14 ct14), sl14⟩)
    (c_14 : PySem.W.codeIn K cd14 "_law_is_within" = true)
    (k_14 : PySem.W.keepIn K (.ref f14) = true)
    (a15 : PySem.W.nsIn K mainGlobals "_law_least" = some (some (.ref f15)))
    (l15 : K.lookup f15 = some ⟨oc15, od15, .func (PySem.W.fnOf "_law_least" "_law_least" (defArgs slaw_least) (defBody slaw_least) (defScope slaw_least) .none kV15 dc15 pm15 an15 cd15 ct15), sl15⟩)
    (c_15 : PySem.W.codeIn K cd15 "_law_least" = true)
    (k_15 : PySem.W.keepIn K (.ref f15) = true)
    (a16 : PySem.W.nsIn K mainGlobals "places_of" = some (some (.ref f16)))
    (l16 : K.lookup f16 = some ⟨oc16, od16, .func (PySem.W.fnOf "places_of" "places_of" (defArgs splaces_of) (defBody splaces_of) (defScope splaces_of) .none kV16 dc16 pm16 an16 cd16 ct16), sl16⟩)
    (c_16 : PySem.W.codeIn K cd16 "places_of" = true)
    (k_16 : PySem.W.keepIn K (.ref f16) = true)
    (a17 : PySem.W.nsIn K mainGlobals "_helpers" = some (some (.ref f17)))
    (l17 : K.lookup f17 = some ⟨oc17, od17, .func (PySem.W.fnOf "_helpers" "_helpers" (defArgs shelpers) (defBody shelpers) (defScope shelpers) .none kV17 dc17 pm17 an17 cd17 ct17), sl17⟩)
    (c_17 : PySem.W.codeIn K cd17 "_helpers" = true)
    (k_17 : PySem.W.keepIn K (.ref f17) = true)
    (a18 : PySem.W.nsIn K mainGlobals "_is_least" = some (some (.ref f18)))
    (l18 : K.lookup f18 = some ⟨oc18, od18, .func (PySem.W.fnOf "_is_least" "_is_least" (defArgs sis_least) (defBody sis_least) (defScope sis_least) .none kV18 dc18 pm18 an18 cd18 ct18), sl18⟩)
    (c_18 : PySem.W.codeIn K cd18 "_is_least" = true)
    (k_18 : PySem.W.keepIn K (.ref f18) = true)
    (a19 : PySem.W.nsIn K mainGlobals "_least_hits" = some (some (.ref f19)))
    (l19 : K.lookup f19 = some ⟨oc19, od19, .func (PySem.W.fnOf "_least_hits" "_least_hits" (defArgs sleast_hits) (defBody sleast_hits) (defScope sleast_hits) .none kV19 dc19 pm19 an19 cd19 ct19), sl19⟩)
    (c_19 : PySem.W.codeIn K cd19 "_least_hits" = true)
    (k_19 : PySem.W.keepIn K (.ref f19) = true)
    (a20 : PySem.W.nsIn K mainGlobals "least_sayings" = some (some (.ref f20)))
    (l20 : K.lookup f20 = some ⟨oc20, od20, .func (PySem.W.fnOf "least_sayings" "least_sayings" (defArgs sleast_sayings) (defBody sleast_sayings) (defScope sleast_sayings) .none kV20 dc20 pm20 an20 cd20 ct20), sl20⟩)
    (c_20 : PySem.W.codeIn K cd20 "least_sayings" = true)
    (k_20 : PySem.W.keepIn K (.ref f20) = true)
    (a21 : PySem.W.nsIn K mainGlobals "_law_two_least" = some (some (.ref f21)))
    (l21 : K.lookup f21 = some ⟨oc21, od21, .func (PySem.W.fnOf "_law_two_least" "_law_two_least" (defArgs slaw_two_least) (defBody slaw_two_least) (defScope slaw_two_least) .none kV21 dc21 pm21 an21 cd21 ct21), sl21⟩)
    (c_21 : PySem.W.codeIn K cd21 "_law_two_least" = true)
    (k_21 : PySem.W.keepIn K (.ref f21) = true)
    (a22 : PySem.W.nsIn K mainGlobals "law" = some (some (.ref f22)))
    (l22 : K.lookup f22 = some ⟨oc22, od22, .func (PySem.W.fnOf "law" "law" (defArgs slaw) (defBody slaw) (defScope slaw) .none kV22 dc22 pm22 an22 cd22 ct22), sl22⟩)
    (c_22 : PySem.W.codeIn K cd22 "law" = true)
    (k_22 : PySem.W.keepIn K (.ref f22) = true) :
    ∃ fd : FuncData, (∀ (s : Shared) (v : Value), BindsTo s fd ⟨[v], []⟩ [("script", v)]) ∧ ∀ base : Heap, K.In base → base.Ns mainGlobals mg → One base → FnG l.prog w K mg base CX0 8 fa fd ["script"] (spLaw K) := by
  have e := hfa.symm.trans (PySem.W.mg_of X G a22)
  cases e
  have T : Txt K mg (tkF t0) := {
    nabs := PySem.W.mg_none_of X G nabs
    nall := PySem.W.mg_none_of X G nall
    nany := PySem.W.mg_none_of X G nany
    nbool := PySem.W.mg_none_of X G nbool
    ndict := PySem.W.mg_none_of X G ndict
    nenumerate := PySem.W.mg_none_of X G nenumerate
    nint := PySem.W.mg_none_of X G nint
    nisinstance := PySem.W.mg_none_of X G nisinstance
    nlen := PySem.W.mg_none_of X G nlen
    nlist := PySem.W.mg_none_of X G nlist
    nmax := PySem.W.mg_none_of X G nmax
    nmin := PySem.W.mg_none_of X G nmin
    nrange := PySem.W.mg_none_of X G nrange
    nrepr := PySem.W.mg_none_of X G nrepr
    nreversed := PySem.W.mg_none_of X G nreversed
    nset := PySem.W.mg_none_of X G nset
    nsorted := PySem.W.mg_none_of X G nsorted
    nstr := PySem.W.mg_none_of X G nstr
    nsum := PySem.W.mg_none_of X G nsum
    ntuple := PySem.W.mg_none_of X G ntuple
    nzip := PySem.W.mg_none_of X G nzip
    gBEHIND := PySem.W.mg_of X G gBEHIND }
  obtain ⟨g0, F0⟩ : ∃ fd, Fun K "_law_source" "_law_source" sSource f0 fd := ⟨_, fun_mk l0 c_0 k_0⟩
  have b0 := F0.binds (ps := ["script"]) fun _ _ _ _ _ _ us hl => match us, hl with | [_], _ => rfl
  obtain ⟨g1, F1⟩ : ∃ fd, Fun K "_law_pick" "_law_pick" sPick f1 fd := ⟨_, fun_mk l1 c_1 k_1⟩
  have b1 := F1.binds (ps := ["source", "many"]) fun _ _ _ _ _ _ us hl => match us, hl with | [_, _], _ => rfl
  obtain ⟨g2, F2⟩ : ∃ fd, Fun K "_law_names" "_law_names" slaw_names f2 fd := ⟨_, fun_mk l2 c_2 k_2⟩
  have b2 := F2.binds (ps := ["source", "many"]) fun _ _ _ _ _ _ us hl => match us, hl with | [_, _], _ => rfl
  obtain ⟨g3, F3⟩ : ∃ fd, Fun K "_law_mixed" "_law_mixed" slaw_mixed f3 fd := ⟨_, fun_mk l3 c_3 k_3⟩
  have b3 := F3.binds (ps := ["source", "things"]) fun _ _ _ _ _ _ us hl => match us, hl with | [_, _], _ => rfl
  obtain ⟨g4, F4⟩ : ∃ fd, Fun K "_law_words" "_law_words" slaw_words f4 fd := ⟨_, fun_mk l4 c_4 k_4⟩
  have b4 := F4.binds (ps := ["source", "many"]) fun _ _ _ _ _ _ us hl => match us, hl with | [_, _], _ => rfl
  obtain ⟨g5, F5⟩ : ∃ fd, Fun K "_law_moved" "_law_moved" slaw_moved f5 fd := ⟨_, fun_mk l5 c_5 k_5⟩
  have b5 := F5.binds (ps := ["source", "order"]) fun _ _ _ _ _ _ us hl => match us, hl with | [_, _], _ => rfl
  obtain ⟨g6, F6⟩ : ∃ fd, Fun K "_law_near_order" "_law_near_order" slaw_near_order f6 fd := ⟨_, fun_mk l6 c_6 k_6⟩
  have b6 := F6.binds (ps := ["source", "order"]) fun _ _ _ _ _ _ us hl => match us, hl with | [_, _], _ => rfl
  obtain ⟨g7, F7⟩ : ∃ fd, Fun K "_law_of" "_law_of" slaw_of f7 fd := ⟨_, fun_mk l7 c_7 k_7⟩
  have b7 := F7.binds (ps := ["source", "some"]) fun _ _ _ _ _ _ us hl => match us, hl with | [_, _], _ => rfl
  obtain ⟨g8, F8⟩ : ∃ fd, Fun K "_law_orders" "_law_orders" slaw_orders f8 fd := ⟨_, fun_mk l8 c_8 k_8⟩
  have b8 := F8.binds (ps := ["source", "most", "many"]) fun _ _ _ _ _ _ us hl => match us, hl with | [_, _, _], _ => rfl
  obtain ⟨g9, F9⟩ : ∃ fd, Fun K "_law_drawn_side" "_law_drawn_side" slaw_drawn_side f9 fd := ⟨_, fun_mk l9 c_9 k_9⟩
  have b9 := F9.binds (ps := ["source"]) fun _ _ _ _ _ _ us hl => match us, hl with | [_], _ => rfl
  obtain ⟨g10, F10⟩ : ∃ fd, Fun K "_law_subsets" "_law_subsets" slaw_subsets f10 fd := ⟨_, fun_mk l10 c_10 k_10⟩
  have b10 := F10.binds (ps := ["names"]) fun _ _ _ _ _ _ us hl => match us, hl with | [_], _ => rfl
  obtain ⟨g11, F11⟩ : ∃ fd, Fun K "_law_turned" "_law_turned" slaw_turned f11 fd := ⟨_, fun_mk l11 c_11 k_11⟩
  have b11 := F11.binds (ps := ["side", "order"]) fun _ _ _ _ _ _ us hl => match us, hl with | [_, _], _ => rfl
  obtain ⟨g12, F12⟩ : ∃ fd, Fun K "_law_keeps" "_law_keeps" slaw_keeps f12 fd := ⟨_, fun_mk l12 c_12 k_12⟩
  have b12 := F12.binds (ps := ["side", "order", "saying"]) fun _ _ _ _ _ _ us hl => match us, hl with | [_, _, _], _ => rfl
  obtain ⟨g13, F13⟩ : ∃ fd, Fun K "_law_kept_by_all" "_law_kept_by_all" slaw_kept_by_all f13 fd := ⟨_, fun_mk l13 c_13 k_13⟩
  have b13 := F13.binds (ps := ["side", "orders", "sayings"]) fun _ _ _ _ _ _ us hl => match us, hl with | [_, _, _], _ => rfl
  obtain ⟨g14, F14⟩ : ∃ fd, Fun K "_law_is_within" "_law_is_within" slaw_is_within f14 fd := ⟨_, fun_mk l14 c_14 k_14⟩
  have b14 := F14.binds (ps := ["less", "some"]) fun _ _ _ _ _ _ us hl => match us, hl with | [_, _], _ => rfl
  obtain ⟨g15, F15⟩ : ∃ fd, Fun K "_law_least" "_law_least" slaw_least f15 fd := ⟨_, fun_mk l15 c_15 k_15⟩
  have b15 := F15.binds (ps := ["side", "orders", "names", "name"]) fun _ _ _ _ _ _ us hl => match us, hl with | [_, _, _, _], _ => rfl
  obtain ⟨g16, F16⟩ : ∃ fd, Fun K "places_of" "places_of" splaces_of f16 fd := ⟨_, fun_mk l16 c_16 k_16⟩
  have b16 := F16.binds (ps := ["order"]) fun _ _ _ _ _ _ us hl => match us, hl with | [_], _ => rfl
  obtain ⟨g17, F17⟩ : ∃ fd, Fun K "_helpers" "_helpers" shelpers f17 fd := ⟨_, fun_mk l17 c_17 k_17⟩
  have b17 := F17.binds (ps := ["side", "order", "name"]) fun _ _ _ _ _ _ us hl => match us, hl with | [_, _, _], _ => rfl
  obtain ⟨g18, F18⟩ : ∃ fd, Fun K "_is_least" "_is_least" sis_least f18 fd := ⟨_, fun_mk l18 c_18 k_18⟩
  have b18 := F18.binds (ps := ["hit", "groups"]) fun _ _ _ _ _ _ us hl => match us, hl with | [_, _], _ => rfl
  obtain ⟨g19, F19⟩ : ∃ fd, Fun K "_least_hits" "_least_hits" sleast_hits f19 fd := ⟨_, fun_mk l19 c_19 k_19⟩
  have b19 := F19.binds (ps := ["groups"]) fun _ _ _ _ _ _ us hl => match us, hl with | [_], _ => rfl
  obtain ⟨g20, F20⟩ : ∃ fd, Fun K "least_sayings" "least_sayings" sleast_sayings f20 fd := ⟨_, fun_mk l20 c_20 k_20⟩
  have b20 := F20.binds (ps := ["side", "orders", "names", "name"]) fun _ _ _ _ _ _ us hl => match us, hl with | [_, _, _, _], _ => rfl
  obtain ⟨g21, F21⟩ : ∃ fd, Fun K "_law_two_least" "_law_two_least" slaw_two_least f21 fd := ⟨_, fun_mk l21 c_21 k_21⟩
  have b21 := F21.binds (ps := ["side", "orders", "names", "name"]) fun _ _ _ _ _ _ us hl => match us, hl with | [_, _, _, _], _ => rfl
  have F22 := fun_mk (st := slaw) l22 c_22 k_22
  refine ⟨PySem.W.fnOf "law" "law" (defArgs slaw) (defBody slaw) (defScope slaw) .none kV22 dc22 pm22 an22 cd22 ct22, fun s v => .of_eq rfl, fun base KB GB h1 => ?_⟩
  have D0 : Prom l.prog w K mg base "_law_source" f0 g0 ["script"] 1 (spSource K) := ⟨PySem.W.mg_of X G a0, k_0, b0, ok_source F0 T.nabs T.nint⟩
  have D1 : Prom l.prog w K mg base "_law_pick" f1 g1 ["source", "many"] 1 (spD K (pPick)) := ⟨PySem.W.mg_of X G a1, k_1, b1, ok_pick F1 T.nlen T.nmax T.nint⟩
  have D2 : Prom l.prog w K mg base "_law_names" f2 g2 ["source", "many"] 2 (spD K (pNames0)) := ⟨PySem.W.mg_of X G a2, k_2, b2, ok_law_names F2 T D1⟩
  have D3 : Prom l.prog w K mg base "_law_mixed" f3 g3 ["source", "things"] 2 (spD K (pMixed)) := ⟨PySem.W.mg_of X G a3, k_3, b3, ok_law_mixed F3 T D1⟩
  have D4 : Prom l.prog w K mg base "_law_words" f4 g4 ["source", "many"] 3 (spD K (pLWords)) := ⟨PySem.W.mg_of X G a4, k_4, b4, ok_law_words F4 T D1 D2 D3⟩
  have D5 : Prom l.prog w K mg base "_law_moved" f5 g5 ["source", "order"] 2 (spD K (pLMoved)) := ⟨PySem.W.mg_of X G a5, k_5, b5, ok_law_moved F5 T D1⟩
  have D6 : Prom l.prog w K mg base "_law_near_order" f6 g6 ["source", "order"] 3 (spD K (pLNear)) := ⟨PySem.W.mg_of X G a6, k_6, b6, ok_law_near_order F6 T D1 D3 D5⟩
  have D7 : Prom l.prog w K mg base "_law_of" f7 g7 ["source", "some"] 2 (spD K (pOf)) := ⟨PySem.W.mg_of X G a7, k_7, b7, ok_law_of F7 T D1⟩
  have D8 : Prom l.prog w K mg base "_law_orders" f8 g8 ["source", "most", "many"] 4 (spD K (pLOrders)) := ⟨PySem.W.mg_of X G a8, k_8, b8, ok_law_orders F8 T D4 D1 D6 D7 D3⟩
  have D9 : Prom l.prog w K mg base "_law_drawn_side" f9 g9 ["source"] 3 (spD K (pLSide)) := ⟨PySem.W.mg_of X G a9, k_9, b9, ok_law_drawn_side F9 T D7⟩
  have D10 : Prom l.prog w K mg base "_law_subsets" f10 g10 ["names"] 1 (spD K (pLSubs)) := ⟨PySem.W.mg_of X G a10, k_10, b10, ok_law_subsets F10 T ⟩
  have D11 : Prom l.prog w K mg base "_law_turned" f11 g11 ["side", "order"] 1 (spD K (pLTurned)) := ⟨PySem.W.mg_of X G a11, k_11, b11, ok_law_turned F11 T ⟩
  have D12 : Prom l.prog w K mg base "_law_keeps" f12 g12 ["side", "order", "saying"] 2 (spD K (pLKeeps)) := ⟨PySem.W.mg_of X G a12, k_12, b12, ok_law_keeps F12 T D11⟩
  have D13 : Prom l.prog w K mg base "_law_kept_by_all" f13 g13 ["side", "orders", "sayings"] 3 (spD K (pLKept)) := ⟨PySem.W.mg_of X G a13, k_13, b13, ok_law_kept_by_all F13 T D12⟩
  have D14 : Prom l.prog w K mg base "_law_is_within" f14 g14 ["less", "some"] 1 (spD K (pLWithin)) := ⟨PySem.W.mg_of X G a14, k_14, b14, ok_law_is_within F14 T ⟩
  have D15 : Prom l.prog w K mg base "_law_least" f15 g15 ["side", "orders", "names", "name"] 4 (spD K (pLLeast)) := ⟨PySem.W.mg_of X G a15, k_15, b15, ok_law_least F15 T D10 D13 D14⟩
  have D16 : Prom l.prog w K mg base "places_of" f16 g16 ["order"] 1 (spD K (pPlaces)) := ⟨PySem.W.mg_of X G a16, k_16, b16, ok_places_of F16 T ⟩
  have D17 : Prom l.prog w K mg base "_helpers" f17 g17 ["side", "order", "name"] 1 (spFD K (pHelpers)) := ⟨PySem.W.mg_of X G a17, k_17, b17, ok_helpers F17 T ⟩
  have D18 : Prom l.prog w K mg base "_is_least" f18 g18 ["hit", "groups"] 1 (spD K (pIsLeast)) := ⟨PySem.W.mg_of X G a18, k_18, b18, ok_is_least F18 T ⟩
  have D19 : Prom l.prog w K mg base "_least_hits" f19 g19 ["groups"] 2 (spD K (pLHits)) := ⟨PySem.W.mg_of X G a19, k_19, b19, ok_least_hits F19 T D18⟩
  have D20 : Prom l.prog w K mg base "least_sayings" f20 g20 ["side", "orders", "names", "name"] 3 (spF K (pLeast)) := ⟨PySem.W.mg_of X G a20, k_20, b20, ok_least_sayings F20 T D16 D17 D19⟩
  have D21 : Prom l.prog w K mg base "_law_two_least" f21 g21 ["side", "orders", "names", "name"] 4 (spD K (pLTwo)) := ⟨PySem.W.mg_of X G a21, k_21, b21, ok_law_two_least F21 T D11⟩
  exact ok_law F22 T h1 D0 D8 D9 D3 D15 D20 D11 D4 D1 D6 D21
end Tk

open PySem PySem.W PyProof.Rows
set_option Elab.async false
set_option maxRecDepth 100000
set_option maxHeartbeats 8000000
open_top hd for PySem.Challenge.rw_takenout_k45_whole_least_sayings

set_option Elab.async false
set_option linter.all false
set_option maxRecDepth 100000
set_option maxHeartbeats 8000000
set_option pp.maxSteps 300
open PySem PySem.W PyProof.Rows
theorem PySem.Challenge.cw_takenout_k45_whole_least_sayings_holds : PySem.Challenge.rw_takenout_k45_whole_least_sayings.Holds := by
  refine hd ?_
  k_fill
  refine X3.walk_ofG (l := PySem.Challenge.rw_takenout_k45_whole_least_sayings) (n := 63) (k := 8) (x := "script") (sp := fun w => Tk.spLaw (hd.heap_39 w.params)) (by decide +kernel) rfl (by decide) rfl ⟨rfl, by decide, by decide⟩ (fun w h Y => PySem.W.kIn_of Y) ?F ?S
  case S => exact fun w H a ns hl hS => ⟨a, ns, rfl, hS, hl, fun _ => rfl⟩
  case F =>
    intro w mg fa h KX G hmg
    refine' Tk.all_mk (K := hd.heap_39 w.params) KX G hmg ?nabs ?nall ?nany ?nbool ?ndict ?nenumerate ?nint ?nisinstance ?nlen ?nlist ?nmax ?nmin ?nrange ?nrepr ?nreversed ?nset ?nsorted ?nstr ?nsum ?ntuple ?nzip ?gBEHIND ?a0 ?l0 ?c_0 ?k_0 ?a1 ?l1 ?c_1 ?k_1 ?a2 ?l2 ?c_2 ?k_2 ?a3 ?l3 ?c_3 ?k_3 ?a4 ?l4 ?c_4 ?k_4 ?a5 ?l5 ?c_5 ?k_5 ?a6 ?l6 ?c_6 ?k_6 ?a7 ?l7 ?c_7 ?k_7 ?a8 ?l8 ?c_8 ?k_8 ?a9 ?l9 ?c_9 ?k_9 ?a10 ?l10 ?c_10 ?k_10 ?a11 ?l11 ?c_11 ?k_11 ?a12 ?l12 ?c_12 ?k_12 ?a13 ?l13 ?c_13 ?k_13 ?a14 ?l14 ?c_14 ?k_14 ?a15 ?l15 ?c_15 ?k_15 ?a16 ?l16 ?c_16 ?k_16 ?a17 ?l17 ?c_17 ?k_17 ?a18 ?l18 ?c_18 ?k_18 ?a19 ?l19 ?c_19 ?k_19 ?a20 ?l20 ?c_20 ?k_20 ?a21 ?l21 ?c_21 ?k_21 ?a22 ?l22 ?c_22 ?k_22
    (case nabs => k_is)
    (case nall => k_is)
    (case nany => k_is)
    (case nbool => k_is)
    (case ndict => k_is)
    (case nenumerate => k_is)
    (case nint => k_is)
    (case nisinstance => k_is)
    (case nlen => k_is)
    (case nlist => k_is)
    (case nmax => k_is)
    (case nmin => k_is)
    (case nrange => k_is)
    (case nrepr => k_is)
    (case nreversed => k_is)
    (case nset => k_is)
    (case nsorted => k_is)
    (case nstr => k_is)
    (case nsum => k_is)
    (case ntuple => k_is)
    (case nzip => k_is)
    (case gBEHIND => k_is)
    (case a0 => k_is)
    (case l0 => k_is)
    (case c_0 => k_is)
    (case k_0 => k_is)
    (case a1 => k_is)
    (case l1 => k_is)
    (case c_1 => k_is)
    (case k_1 => k_is)
    (case a2 => k_is)
    (case l2 => k_is)
    (case c_2 => k_is)
    (case k_2 => k_is)
    (case a3 => k_is)
    (case l3 => k_is)
    (case c_3 => k_is)
    (case k_3 => k_is)
    (case a4 => k_is)
    (case l4 => k_is)
    (case c_4 => k_is)
    (case k_4 => k_is)
    (case a5 => k_is)
    (case l5 => k_is)
    (case c_5 => k_is)
    (case k_5 => k_is)
    (case a6 => k_is)
    (case l6 => k_is)
    (case c_6 => k_is)
    (case k_6 => k_is)
    (case a7 => k_is)
    (case l7 => k_is)
    (case c_7 => k_is)
    (case k_7 => k_is)
    (case a8 => k_is)
    (case l8 => k_is)
    (case c_8 => k_is)
    (case k_8 => k_is)
    (case a9 => k_is)
    (case l9 => k_is)
    (case c_9 => k_is)
    (case k_9 => k_is)
    (case a10 => k_is)
    (case l10 => k_is)
    (case c_10 => k_is)
    (case k_10 => k_is)
    (case a11 => k_is)
    (case l11 => k_is)
    (case c_11 => k_is)
    (case k_11 => k_is)
    (case a12 => k_is)
    (case l12 => k_is)
    (case c_12 => k_is)
    (case k_12 => k_is)
    (case a13 => k_is)
    (case l13 => k_is)
    (case c_13 => k_is)
    (case k_13 => k_is)
    (case a14 => k_is)
    (case l14 => k_is)
    (case c_14 => k_is)
    (case k_14 => k_is)
    (case a15 => k_is)
    (case l15 => k_is)
    (case c_15 => k_is)
    (case k_15 => k_is)
    (case a16 => k_is)
    (case l16 => k_is)
    (case c_16 => k_is)
    (case k_16 => k_is)
    (case a17 => k_is)
    (case l17 => k_is)
    (case c_17 => k_is)
    (case k_17 => k_is)
    (case a18 => k_is)
    (case l18 => k_is)
    (case c_18 => k_is)
    (case k_18 => k_is)
    (case a19 => k_is)
    (case l19 => k_is)
    (case c_19 => k_is)
    (case k_19 => k_is)
    (case a20 => k_is)
    (case l20 => k_is)
    (case c_20 => k_is)
    (case k_20 => k_is)
    (case a21 => k_is)
    (case l21 => k_is)
    (case c_21 => k_is)
    (case k_21 => k_is)
    (case a22 => k_is)
    (case l22 => k_is)
    (case c_22 => k_is)
    (case k_22 => k_is)

