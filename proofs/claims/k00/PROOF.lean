import PyProof.Rows.All
import Wide.All
import OpenK.AllK
import Wide.FinOn
import PyProof.EqAt
import PyProof.EqKinds
import PyProof.TupleCall
import HandS.ForMost
import HandS.ExcInit
import HandS.ExcField
import HandS.ExcIs
import HandS.ExcValue
import HandS.IsInst
import HandS.Deep
import HandS.Flow
import HandS.Evl
import HandS.Walk
import PyProof.ExcAttrAll.LookupError
import KE.KExcInit
import KE.KExcIs
import PyProof.ReprRoads
import PySem.Challenge.RW_takenout_k00_errors
import HandS.Style
set_option Elab.async false
set_option linter.all false
set_option maxRecDepth 100000
set_option maxHeartbeats 2000000
/-! # X3: a calculus over data: what expressions and statements do, told without addresses -/
namespace X3
open PySem L2

/-! ### heaps, one within another -/
def Le (G H : Hp) : Prop := ∀ a o, G a = some o → H a = some o
theorem Le.refl (H : Hp) : Le H H := fun _ _ h => h
theorem Le.trans {G H I : Hp} (a : Le G H) (b : Le H I) : Le G I := fun x o h => b x o (a x o h)
theorem Le.new {H : Hp} {p : Addr} {o : HO} (h : H p = none) : Le H (upd H p o) := fun a u e => by
  rw [upd_ne (ne_of_none e h)]
  exact e
theorem Le.none {G H : Hp} (e : Le G H) {p : Addr} (h : H p = none) : G p = none := by
  cases h1 : G p with
  | none => rfl
  | some o =>
    rw [e p o h1] at h
    cases h
theorem le_rd {H H' : Hp} {a : Addr} {u : HO} (e : Le H H') (h : Rd H a u) : Rd H' a u := by
  rcases h with h | ⟨o, h⟩
  · exact Or.inl (e a _ h)
  · exact Or.inr ⟨o, e a _ h⟩
theorem le_l {K : PySem.W.Frag} {H H' : Hp} {a : Addr} {xs : List V} (e : Le H H') (h : SqL K H a xs) : SqL K H' a xs := by
  rcases h with h | h
  · exact Or.inl (le_rd e h)
  · exact Or.inr h
theorem le_t {K : PySem.W.Frag} {H H' : Hp} {a : Addr} {xs : List V} (e : Le H H') (h : SqT K H a xs) : SqT K H' a xs := by
  rcases h with h | h
  · exact Or.inl (le_rd e h)
  · exact Or.inr h

/-! ### data -/
inductive D where
  | non | bl (b : Bool) | int (i : Int) | str (x : Str)
  | list (ds : List D) | tup (ds : List D)
  | dict (kvs : List (Key × D))
  | obj (C : Addr) (fs : List (Str × D))
  | exc (C : Addr) (fs : Option (List (Str × D)))
  | val (v : V)

mutual
inductive Dat (K : PySem.W.Frag) (G : Hp) : V → D → Prop
  | non : Dat K G .non .non
  | bl (b : Bool) : Dat K G (.bl b) (.bl b)
  | int (i : Int) : Dat K G (.int i) (.int i)
  | str (x : Str) : Dat K G (.str x) (.str x)
  | list {a : Addr} {xs : List V} {ds : List D} : G a = some (.lst xs) → DatL K G xs ds → Dat K G (.ref a) (.list ds)
  | tup {a : Addr} {xs : List V} {ds : List D} : SqT K G a xs → DatL K G xs ds → Dat K G (.ref a) (.tup ds)
  | dict {a : Addr} {kvs : List (Key × V)} {ds : List (Key × D)} : G a = some (.dK kvs) → DatK K G kvs ds → Dat K G (.ref a) (.dict ds)
  | obj {a C dx : Addr} {fs : List (Str × V)} {ds : List (Str × D)} : G a = some (.ins C dx fs) → DatF K G fs ds → Dat K G (.ref a) (.obj C ds)
  | exc0 {a C : Addr} : G a = some (ExO (.ref C) a) → Dat K G (.ref a) (.exc C none)
  | exc1 {a C d : Addr} {fs : List (Str × V)} {ds : List (Str × D)} : G a = some (exo a C (some d)) → G d = some (exd d fs) → DatF K G fs ds → Dat K G (.ref a) (.exc C (some ds))
  | val (v : V) : Dat K G v (.val v)
inductive DatL (K : PySem.W.Frag) (G : Hp) : List V → List D → Prop
  | nil : DatL K G [] []
  | cons {v : V} {vs : List V} {d : D} {ds : List D} : Dat K G v d → DatL K G vs ds → DatL K G (v :: vs) (d :: ds)
inductive DatK (K : PySem.W.Frag) (G : Hp) : List (Key × V) → List (Key × D) → Prop
  | nil : DatK K G [] []
  | cons {k : Key} {v : V} {vs : List (Key × V)} {d : D} {ds : List (Key × D)} : Dat K G v d → DatK K G vs ds → DatK K G ((k, v) :: vs) ((k, d) :: ds)
inductive DatF (K : PySem.W.Frag) (G : Hp) : List (Str × V) → List (Str × D) → Prop
  | nil : DatF K G [] []
  | cons {k : Str} {v : V} {vs : List (Str × V)} {d : D} {ds : List (Str × D)} : Dat K G v d → DatF K G vs ds → DatF K G ((k, v) :: vs) ((k, d) :: ds)
end

section
variable {K : PySem.W.Frag} {G G' : Hp}
mutual
theorem Dat.mono (e : Le G G') : ∀ {v : V} {d : D}, Dat K G v d → Dat K G' v d
  | _, _, .non => .non
  | _, _, .bl b => .bl b
  | _, _, .int i => .int i
  | _, _, .str x => .str x
  | _, _, .list h r => .list (e _ _ h) (DatL.mono e r)
  | _, _, .tup h r => .tup (le_t e h) (DatL.mono e r)
  | _, _, .dict h r => .dict (e _ _ h) (DatK.mono e r)
  | _, _, .obj h r => .obj (e _ _ h) (DatF.mono e r)
  | _, _, .exc0 h => .exc0 (e _ _ h)
  | _, _, .exc1 h h2 r => .exc1 (e _ _ h) (e _ _ h2) (DatF.mono e r)
  | _, _, .val v => .val v
theorem DatL.mono (e : Le G G') : ∀ {v : List V} {d : List D}, DatL K G v d → DatL K G' v d
  | _, _, .nil => .nil
  | _, _, .cons h r => .cons (Dat.mono e h) (DatL.mono e r)
theorem DatK.mono (e : Le G G') : ∀ {v : List (Key × V)} {d : List (Key × D)}, DatK K G v d → DatK K G' v d
  | _, _, .nil => .nil
  | _, _, .cons h r => .cons (Dat.mono e h) (DatK.mono e r)
theorem DatF.mono (e : Le G G') : ∀ {v : List (Str × V)} {d : List (Str × D)}, DatF K G v d → DatF K G' v d
  | _, _, .nil => .nil
  | _, _, .cons h r => .cons (Dat.mono e h) (DatF.mono e r)
end
theorem DatL.length : ∀ {vs : List V} {ds : List D}, DatL K G vs ds → vs.length = ds.length
  | _, _, .nil => rfl
  | _, _, .cons _ r => congrArg (· + 1) (DatL.length r)
theorem DatL.get : ∀ {vs : List V} {ds : List D} {i : Nat} {d : D}, DatL K G vs ds → ds[i]? = some d → ∃ v, vs[i]? = some v ∧ Dat K G v d
  | _, _, _, _, .nil, e => (by simp at e)
  | _, _, 0, _, .cons h r, e => by simp at e; subst e; exact ⟨_, rfl, h⟩
  | _, _, i + 1, d, .cons h r, e => by
    obtain ⟨v, h1, h2⟩ := DatL.get (i := i) r (by simpa using e)
    exact ⟨v, by simpa using h1, h2⟩
theorem DatL.getV : ∀ {vs : List V} {ds : List D} {i : Nat} {v : V}, DatL K G vs ds → vs[i]? = some v → ∃ d, ds[i]? = some d ∧ Dat K G v d
  | _, _, _, _, .nil, e => (by simp at e)
  | _, _, 0, _, .cons h r, e => by simp at e; subst e; exact ⟨_, rfl, h⟩
  | _, _, i + 1, d, .cons h r, e => by
    obtain ⟨v, h1, h2⟩ := DatL.getV (i := i) r (by simpa using e)
    exact ⟨v, by simpa using h1, h2⟩
theorem DatL.append : ∀ {xs ys : List V} {ds es : List D}, DatL K G xs ds → DatL K G ys es → DatL K G (xs ++ ys) (ds ++ es)
  | _, _, _, _, .nil, s => s
  | _, _, _, _, .cons h r, s => .cons h (DatL.append r s)
theorem DatL.take : ∀ {xs : List V} {ds : List D} (n : Nat), DatL K G xs ds → DatL K G (xs.take n) (ds.take n)
  | _, _, 0, _ => .nil
  | _, _, _ + 1, .nil => .nil
  | _, _, n + 1, .cons h r => .cons h (DatL.take n r)
theorem DatL.drop : ∀ {xs : List V} {ds : List D} (n : Nat), DatL K G xs ds → DatL K G (xs.drop n) (ds.drop n)
  | _, _, 0, r => r
  | _, _, _ + 1, .nil => .nil
  | _, _, n + 1, .cons _ r => DatL.drop n r
theorem DatL.reverse : ∀ {xs : List V} {ds : List D}, DatL K G xs ds → DatL K G xs.reverse ds.reverse
  | _, _, .nil => .nil
  | _, _, .cons h r => by
    rw [List.reverse_cons, List.reverse_cons]
    exact (DatL.reverse r).append (.cons h .nil)
theorem DatL.ints : ∀ {vs : List V} {ns : List Int}, DatL K G vs (ns.map D.int) → vs = ns.map V.int
  | _, [], h => by cases h; rfl
  | _, n :: ns, h => by
    have h' : DatL K G _ (D.int n :: ns.map D.int) := h
    cases h' with
    | cons a r =>
      cases a
      rw [DatL.ints r]
      rfl
theorem DatL.strs : ∀ {vs : List V} {ns : List Str}, DatL K G vs (ns.map D.str) → vs = ns.map V.str
  | _, [], h => by cases h; rfl
  | _, n :: ns, h => by
    have h' : DatL K G _ (D.str n :: ns.map D.str) := h
    cases h' with
    | cons a r =>
      cases a
      rw [DatL.strs r]
      rfl
theorem datL_ints : ∀ (ns : List Int), DatL K G (ns.map V.int) (ns.map D.int)
  | [] => .nil
  | n :: ns => .cons (.int n) (datL_ints ns)
theorem datL_strs : ∀ (ns : List Str), DatL K G (ns.map V.str) (ns.map D.str)
  | [] => .nil
  | n :: ns => .cons (.str n) (datL_strs ns)
end

/-! ### the world: frozen data G within the heap H, a resource beside it -/
structure Res where
  fp : Addr → Prop
  ok : Hp → Prop
  loc : ∀ H H' : Hp, (∀ a, fp a → H a = H' a) → ok H → ok H'
  live : ∀ H, ok H → ∀ a, fp a → H a ≠ none
theorem Res.nfp (S : Res) {H : Hp} (h : S.ok H) {p : Addr} (e : H p = none) : ¬ S.fp p := fun z => S.live H h p z e
def Res.nil : Res := ⟨fun _ => False, fun _ => True, fun _ _ _ h => h, fun _ _ _ h => h.elim⟩

structure Wld (S : Res) (G H : Hp) : Prop where
  le : Le G H
  src : S.ok H
  sep : ∀ a, S.fp a → G a = none
theorem Wld.fresh {S : Res} {G H : Hp} (w : Wld S G H) {p : Addr} (h : H p = none) : G p = none := w.le.none h
theorem Wld.nfp {S : Res} {G H : Hp} (w : Wld S G H) {p : Addr} (h : H p = none) : ¬ S.fp p := fun z => S.live H w.src p z h

structure Stp (S : Res) (G H G' H' : Hp) : Prop where
  gg : Le G G'
  hh : ∀ a o, ¬ S.fp a → H a = some o → H' a = some o
  nw : ∀ a o, G' a = some o → G a = some o ∨ H a = none
  w : Wld S G' H'
theorem Stp.refl {S : Res} {G H : Hp} (w : Wld S G H) : Stp S G H G H := ⟨Le.refl _, fun _ _ _ h => h, fun _ _ h => .inl h, w⟩
theorem Stp.trans {S : Res} {G H G1 H1 G2 H2 : Hp} (a : Stp S G H G1 H1) (b : Stp S G1 H1 G2 H2) : Stp S G H G2 H2 := by
  refine ⟨a.gg.trans b.gg, fun x o n h => b.hh x o n (a.hh x o n h), fun x o h => ?_, b.w⟩
  rcases b.nw x o h with h1 | h1
  · exact a.nw x o h1
  · refine .inr ?_
    cases e : H x with
    | none => rfl
    | some u =>
      by_cases f : S.fp x
      · exact absurd h1 (S.live H1 a.w.src x f)
      · rw [a.hh x u f e] at h1
        cases h1
/-- a new frozen object -/
theorem Stp.new {S : Res} {G H : Hp} {p : Addr} {o : HO} (w : Wld S G H) (h : H p = none) : Stp S G H (upd G p o) (upd H p o) := by
  have hg := w.fresh h
  refine ⟨Le.new hg, fun a u _ e => by rw [upd_ne (ne_of_none e h)]; exact e, fun a u e => ?_, ⟨fun a u e => ?_, ?_, fun a f => ?_⟩⟩
  · by_cases x : a = p
    · rw [x]
      exact .inr h
    · rw [upd_ne x] at e
      exact .inl e
  · by_cases x : a = p
    · subst x
      rw [upd_same] at e ⊢
      exact e
    · rw [upd_ne x] at e ⊢
      exact w.le a u e
  · exact S.loc H _ (fun a f => (upd_ne (fun z : a = p => w.nfp h (by rw [z] at f; exact f))).symm) w.src
  · rw [upd_ne (fun z : a = p => w.nfp h (by rw [z] at f; exact f))]
    exact w.sep a f
/-- new objects that nobody will name -/
theorem Stp.junk {S : Res} {G H H' : Hp} (w : Wld S G H) (e : Le H H') : Stp S G H G H' :=
  ⟨Le.refl _, fun a o _ h => e a o h, fun _ _ h => .inl h, ⟨w.le.trans e, S.loc H H' (fun a f => by
    cases h : H a with
    | none => exact absurd h (S.live H w.src a f)
    | some o => exact (e a o h).symm) w.src, w.sep⟩⟩

/-! ### slots -/
inductive SD where
  | no
  | dat (d : D)
  | own (j : Nat)
abbrev Rho := List SD
structure Slots (K : PySem.W.Frag) (G : Hp) (σ : L2.St) (ρ : Rho) : Prop where
  len : σ.length = ρ.length
  get : ∀ (i : Nat) (d : D), ρ[i]? = some (SD.dat d) → ∃ v, σ[i]? = some (some v) ∧ Dat K G v d
theorem Slots.mono {K : PySem.W.Frag} {G G' : Hp} {σ : L2.St} {ρ : Rho} (e : Le G G') (s : Slots K G σ ρ) : Slots K G' σ ρ := ⟨s.len, fun i d h =>
  let ⟨v, a, b⟩ := s.get i d h
  ⟨v, a, b.mono e⟩⟩
theorem Slots.set {K : PySem.W.Frag} {G : Hp} {σ : L2.St} {ρ : Rho} {i : Nat} {v : V} {d : D} (s : Slots K G σ ρ) (h : Dat K G v d) : Slots K G (σ.set i (some v)) (ρ.set i (.dat d)) := ⟨by rw [List.length_set, List.length_set, s.len], fun j e q => by
  have hl := s.len
  by_cases x : i = j
  · subst x
    by_cases y : i < ρ.length
    · rw [List.getElem?_set_self y] at q
      cases q
      exact ⟨v, by rw [List.getElem?_set_self (by omega)], h⟩
    · rw [List.getElem?_eq_none (by simpa using y)] at q
      cases q
  · rw [List.getElem?_set_ne x] at q ⊢
    exact s.get j e q⟩

/-! ### expressions -/
/-- te gives, whatever the heap beside what is frozen, data of which Q holds -/
def WE (K : PySem.W.Frag) (S : Res) (te : TE) (ρ : Rho) (Q : D → Prop) : Prop :=
  ∀ σ G H (k : VK), Wld S G H → Slots K G σ ρ → (∀ v d G' H', Stp S G H G' H' → Dat K G' v d → Q d → k v H') → te σ H k
def WT (K : PySem.W.Frag) (S : Res) (tt : TT) (ρ : Rho) (Q : Bool → Prop) : Prop :=
  ∀ σ G H (k : Bool → Hp → Prop), Wld S G H → Slots K G σ ρ → (∀ b G' H', Stp S G H G' H' → Q b → k b H') → tt σ H k
def WA (K : PySem.W.Frag) (S : Res) (ta : TA) (ρ : Rho) (Q : List D → Prop) : Prop :=
  ∀ σ G H (k : List V → Hp → Prop), Wld S G H → Slots K G σ ρ → (∀ vs ds G' H', Stp S G H G' H' → DatL K G' vs ds → Q ds → k vs H') → ta σ H k
/-- a two-place operation on values -/
def WR2 (K : PySem.W.Frag) (S : Res) (r : R2) (x y : D) (Q : D → Prop) : Prop :=
  ∀ G H vx vy (k : VK), Wld S G H → Dat K G vx x → Dat K G vy y → (∀ v d G' H', Stp S G H G' H' → Dat K G' v d → Q d → k v H') → r vx vy H k
def WR1 (K : PySem.W.Frag) (S : Res) (r : V → Hp → VK → Prop) (x : D) (Q : D → Prop) : Prop :=
  ∀ G H vx (k : VK), Wld S G H → Dat K G vx x → (∀ v d G' H', Stp S G H G' H' → Dat K G' v d → Q d → k v H') → r vx H k
/-- a call on values -/
def WRC (K : PySem.W.Frag) (S : Res) (r : List V → Hp → VK → Prop) (xs : List D) (Q : D → Prop) : Prop :=
  ∀ G H vs (k : VK), Wld S G H → DatL K G vs xs → (∀ v d G' H', Stp S G H G' H' → Dat K G' v d → Q d → k v H') → r vs H k

section
variable {K : PySem.W.Frag} {S : Res} {ρ : Rho} {ta tb te : TE} {tt tu : TT} {tA : TA} {Q : D → Prop}
theorem WE.imp {Q' : D → Prop} (h : WE K S te ρ Q) (i : ∀ d, Q d → Q' d) : WE K S te ρ Q' := fun σ G H k w s c => h σ G H k w s fun v d G' H' st dt q => c v d G' H' st dt (i d q)
theorem WT.imp {Q Q' : Bool → Prop} (h : WT K S tt ρ Q) (i : ∀ d, Q d → Q' d) : WT K S tt ρ Q' := fun σ G H k w s c => h σ G H k w s fun v G' H' st q => c v G' H' st (i v q)
theorem we_var {i : Nat} {d : D} (h : ρ[i]? = some (.dat d)) (q : Q d) : WE K S (tVar i) ρ Q := fun σ G H k w s c => by
  obtain ⟨v, e, dt⟩ := s.get i d h
  exact ⟨v, e, c v d G H (.refl w) dt q⟩
theorem we_int {i : Int} (q : Q (.int i)) : WE K S (tC (.int i)) ρ Q := fun σ G H k w s c => c _ _ G H (.refl w) (.int i) q
theorem we_bl {i : Bool} (q : Q (.bl i)) : WE K S (tC (.bl i)) ρ Q := fun σ G H k w s c => c _ _ G H (.refl w) (.bl i) q
theorem we_str {i : Str} (q : Q (.str i)) : WE K S (tC (.str i)) ρ Q := fun σ G H k w s c => c _ _ G H (.refl w) (.str i) q
theorem we_non (q : Q .non) : WE K S (tC .non) ρ Q := fun σ G H k w s c => c _ _ G H (.refl w) .non q
/-- a class, a def, a built-in type as a value -/
theorem we_val {v : V} (q : Q (.val v)) : WE K S (tC v) ρ Q := fun σ G H k w s c => c _ _ G H (.refl w) (.val v) q
theorem we_op {r : R2} (h : WE K S ta ρ fun x => WE K S tb ρ fun y => WR2 K S r x y Q) : WE K S (tOp r ta tb) ρ Q := fun σ G H k w s c =>
  h σ G H _ w s fun x dx G1 H1 s1 d1 h1 => h1 σ G1 H1 _ s1.w (s.mono s1.gg) fun y dy G2 H2 s2 d2 h2 =>
    h2 G2 H2 x y k s2.w (d1.mono s2.gg) d2 fun v d G3 H3 s3 d3 q => c v d G3 H3 ((s1.trans s2).trans s3) d3 q
theorem we_un {r : V → Hp → VK → Prop} (h : WE K S ta ρ fun x => WR1 K S r x Q) : WE K S (tUn r ta) ρ Q := fun σ G H k w s c =>
  h σ G H _ w s fun x dx G1 H1 s1 d1 h1 => h1 G1 H1 x k s1.w d1 fun v d G3 H3 s3 d3 q => c v d G3 H3 (s1.trans s3) d3 q
theorem wa_nil {Q : List D → Prop} (q : Q []) : WA K S tNil ρ Q := fun σ G H k w s c => c _ _ G H (.refl w) .nil q
theorem wa_cons {Q : List D → Prop} (h : WE K S te ρ fun x => WA K S tA ρ fun xs => Q (x :: xs)) : WA K S (tCons te tA) ρ Q := fun σ G H k w s c =>
  h σ G H _ w s fun x dx G1 H1 s1 d1 h1 => h1 σ G1 H1 _ s1.w (s.mono s1.gg) fun xs dxs G2 H2 s2 d2 q => c _ _ G2 H2 (s1.trans s2) (.cons (d1.mono s2.gg) d2) q
theorem we_cb {r : List V → Hp → VK → Prop} (h : WA K S tA ρ fun xs => WRC K S r xs Q) : WE K S (tCB r tA) ρ Q := fun σ G H k w s c =>
  h σ G H _ w s fun xs dxs G1 H1 s1 d1 h1 => h1 G1 H1 xs k s1.w d1 fun v d G3 H3 s3 d3 q => c v d G3 H3 (s1.trans s3) d3 q
theorem we_tup (h : WA K S tA ρ fun xs => xs.length ≤ 100000 ∧ Q (.tup xs)) : WE K S (tTup tA) ρ Q := fun σ G H k w s c =>
  h σ G H _ w s fun xs dxs G1 H1 s1 d1 h1 => ⟨by rw [d1.length]; exact Nat.le_trans h1.1 (by decide), fun p hp =>
    c _ _ _ _ (s1.trans (.new s1.w hp)) (.tup (SqT.of upd_same) (d1.mono (Le.new (s1.w.fresh hp)))) h1.2⟩
theorem we_lst (h : WA K S tA ρ fun xs => xs.length ≤ 100000 ∧ Q (.list xs)) : WE K S (tLst tA) ρ Q := fun σ G H k w s c =>
  h σ G H _ w s fun xs dxs G1 H1 s1 d1 h1 => ⟨by rw [d1.length]; exact Nat.le_trans h1.1 (by decide), fun p hp =>
    c _ _ _ _ (s1.trans (.new s1.w hp)) (.list upd_same (d1.mono (Le.new (s1.w.fresh hp)))) h1.2⟩

end
end X3

set_option Elab.async false
set_option linter.all false
set_option maxRecDepth 100000
set_option maxHeartbeats 2000000
namespace X3
open PySem L2
section
variable {K : PySem.W.Frag} {S : Res} {ρ : Rho} {ta tb te tc : TE} {tt tu : TT} {tA : TA} {Q : D → Prop}
/-! ### tests -/
theorem wt_test {P : Bool → Prop} (h : WE K S te ρ fun d => ∃ b, d = .bl b ∧ P b) : WT K S (tTest te) ρ P := fun σ G H k w s c =>
  h σ G H _ w s fun v d G' H' st dt q => by
    obtain ⟨b, rfl, q⟩ := q
    cases dt
    exact ⟨b, rfl, c b G' H' st q⟩
theorem wt_b {P : Bool → Prop} (h : WE K S te ρ fun d => ∃ b, d = .bl b ∧ P b) : WT K S (tB te) ρ P := fun σ G H k w s c =>
  h σ G H _ w s fun v d G' H' st dt q => by
    obtain ⟨b, rfl, q⟩ := q
    cases dt
    exact ⟨b, rfl, c b G' H' st q⟩
theorem wt_and {P : Bool → Prop} (h : WT K S tt ρ fun b => if b = true then WT K S tu ρ P else P false) : WT K S (tAnd tt tu) ρ P := fun σ G H k w s c =>
  h σ G H _ w s fun b G' H' st q => by
    cases b with
    | true => exact q σ G' H' k st.w (s.mono st.gg) fun b G2 H2 st2 q2 => c b G2 H2 (st.trans st2) q2
    | false => exact c false G' H' st q
theorem wt_or {P : Bool → Prop} (h : WT K S tt ρ fun b => if b = true then P true else WT K S tu ρ P) : WT K S (tOr tt tu) ρ P := fun σ G H k w s c =>
  h σ G H _ w s fun b G' H' st q => by
    cases b with
    | false => exact q σ G' H' k st.w (s.mono st.gg) fun b G2 H2 st2 q2 => c b G2 H2 (st.trans st2) q2
    | true => exact c true G' H' st q
theorem wt_not {P : Bool → Prop} (h : WT K S tt ρ fun b => P (!b)) : WT K S (tNot tt) ρ P := fun σ G H k w s c => h σ G H _ w s fun b G' H' st q => c _ G' H' st q
/-- the truth of data -/
def TruD : D → Bool → Prop
  | .non, k => k = false
  | .bl b, k => k = b
  | .int i, k => k = (i != 0)
  | .str y, k => y.length ≤ 100000 ∧ k = ((y.length : Int) != 0)
  | .list ds, k => k = !ds.isEmpty
  | .tup ds, k => k = !ds.isEmpty
  | .dict ds, k => k = !ds.isEmpty
  | _, _ => False
theorem DatL.isEmpty {G : Hp} : ∀ {vs : List V} {ds : List D}, DatL K G vs ds → vs.isEmpty = ds.isEmpty
  | _, _, .nil => rfl
  | _, _, .cons _ _ => rfl
theorem DatK.isEmpty {G : Hp} : ∀ {vs : List (Key × V)} {ds : List (Key × D)}, DatK K G vs ds → vs.isEmpty = ds.isEmpty
  | _, _, .nil => rfl
  | _, _, .cons _ _ => rfl
theorem tru_of {G H : Hp} {v : V} {d : D} {b : Bool} (e : Le G H) (dt : Dat K G v d) (t : TruD d b) : TruV K v H b := by
  cases dt with
  | non => exact t
  | bl => exact t
  | int => exact t
  | str => exact ⟨Nat.le_trans t.1 (by decide), t.2⟩
  | list h r => exact .inl ⟨_, SqL.of (e _ _ h), by rw [r.isEmpty]; exact t⟩
  | tup h r => exact .inr (.inl ⟨_, le_t e h, by rw [r.isEmpty]; exact t⟩)
  | dict h r => exact .inr (.inr ⟨_, e _ _ h, by rw [r.isEmpty]; exact t⟩)
  | obj => exact t.elim
  | exc0 => exact t.elim
  | exc1 => exact t.elim
  | val => exact t.elim
theorem wt_truth {P : Bool → Prop} (h : WE K S te ρ fun d => ∃ b, TruD d b ∧ P b) : WT K S (fun σ H Q => te σ H fun x H' => ∃ k, TruV K x H' k ∧ Q k H') ρ P := fun σ G H k w s c =>
  h σ G H _ w s fun v d G' H' st dt q => by
    obtain ⟨b, t, q⟩ := q
    exact ⟨b, tru_of st.w.le dt t, c b G' H' st q⟩
theorem we_andV (h : WE K S ta ρ fun x => ∃ c, x = .bl c ∧ if c = true then WE K S tb ρ Q else Q (.bl false)) : WE K S (tAndV ta tb) ρ Q := fun σ G H k w s c =>
  h σ G H _ w s fun v d G' H' st dt q => by
    obtain ⟨b, rfl, q⟩ := q
    cases dt
    refine ⟨b, rfl, ?_⟩
    cases b with
    | true => exact q σ G' H' k st.w (s.mono st.gg) fun v d G2 H2 st2 dt q2 => c v d G2 H2 (st.trans st2) dt q2
    | false => exact c _ _ G' H' st (.bl _) q
theorem we_orV (h : WE K S ta ρ fun x => ∃ c, x = .bl c ∧ if c = true then Q (.bl true) else WE K S tb ρ Q) : WE K S (tOrV ta tb) ρ Q := fun σ G H k w s c =>
  h σ G H _ w s fun v d G' H' st dt q => by
    obtain ⟨b, rfl, q⟩ := q
    cases dt
    refine ⟨b, rfl, ?_⟩
    cases b with
    | false => exact q σ G' H' k st.w (s.mono st.gg) fun v d G2 H2 st2 dt q2 => c v d G2 H2 (st.trans st2) dt q2
    | true => exact c _ _ G' H' st (.bl _) q
theorem we_notV (h : WE K S ta ρ fun x => ∃ c, x = .bl c ∧ Q (.bl (!c))) : WE K S (tNotV ta) ρ Q := fun σ G H k w s c =>
  h σ G H _ w s fun v d G' H' st dt q => by
    obtain ⟨b, rfl, q⟩ := q
    cases dt
    exact ⟨b, rfl, c _ _ G' H' st (.bl _) q⟩
theorem we_if (h : WT K S tt ρ fun b => if b = true then WE K S ta ρ Q else WE K S tb ρ Q) : WE K S (tIf tt ta tb) ρ Q := fun σ G H k w s c =>
  h σ G H _ w s fun b G' H' st q => by
    cases b with
    | true => exact q σ G' H' k st.w (s.mono st.gg) fun v d G2 H2 st2 dt q2 => c v d G2 H2 (st.trans st2) dt q2
    | false => exact q σ G' H' k st.w (s.mono st.gg) fun v d G2 H2 st2 dt q2 => c v d G2 H2 (st.trans st2) dt q2
theorem we_chain {r r' : R2} (h : WE K S ta ρ fun x => WE K S tb ρ fun y => WR2 K S r x y fun z => ∃ c, z = .bl c ∧ if c = true then WE K S tc ρ fun u => WR2 K S r' y u Q else Q (.bl false)) : WE K S (tChain r r' ta tb tc) ρ Q := fun σ G H k w s c =>
  h σ G H _ w s fun x dx G1 H1 s1 d1 h1 => h1 σ G1 H1 _ s1.w (s.mono s1.gg) fun y dy G2 H2 s2 d2 h2 =>
    h2 G2 H2 x y _ s2.w (d1.mono s2.gg) d2 fun v d G3 H3 s3 d3 q => by
      obtain ⟨b, rfl, q⟩ := q
      cases d3
      refine ⟨b, rfl, ?_⟩
      have s13 := (s1.trans s2).trans s3
      cases b with
      | false => exact c _ _ G3 H3 s13 (.bl _) q
      | true => exact q σ G3 H3 _ s3.w (s.mono s13.gg) fun u du G4 H4 s4 d4 h4 => h4 G4 H4 y u k s4.w (d2.mono (s3.gg.trans s4.gg)) d4 fun v d G5 H5 s5 d5 q5 => c v d G5 H5 ((s13.trans s4).trans s5) d5 q5

/-! ### operations on values -/
theorem wr_ii {g : Int → Int → Int} {i j : Int} (q : Q (.int (g i j))) : WR2 K S (rI0 fun i j => .int (g i j)) (.int i) (.int j) Q := fun G H vx vy k w dx dy c => by
  cases dx
  cases dy
  exact ⟨i, j, rfl, rfl, c _ _ G H (.refl w) (.int _) q⟩
theorem wr_ib {g : Int → Int → Bool} {i j : Int} (q : Q (.bl (g i j))) : WR2 K S (rI0 fun i j => .bl (g i j)) (.int i) (.int j) Q := fun G H vx vy k w dx dy c => by
  cases dx
  cases dy
  exact ⟨i, j, rfl, rfl, c _ _ G H (.refl w) (.bl _) q⟩
theorem wr_ci {C : Int → Int → Prop} {g : Int → Int → Int} {i j : Int} (hc : C i j) (q : Q (.int (g i j))) : WR2 K S (rI C fun i j => .int (g i j)) (.int i) (.int j) Q := fun G H vx vy k w dx dy c => by
  cases dx
  cases dy
  exact ⟨i, j, rfl, rfl, hc, c _ _ G H (.refl w) (.int _) q⟩
theorem wr_or1 {r r' : R2} {x y : D} (h : WR2 K S r x y Q) : WR2 K S (fun x y H Q => r x y H Q ∨ r' x y H Q) x y Q := fun G H vx vy k w dx dy c => .inl (h G H vx vy k w dx dy c)
theorem wr_or2 {r r' : R2} {x y : D} (h : WR2 K S r' x y Q) : WR2 K S (fun x y H Q => r x y H Q ∨ r' x y H Q) x y Q := fun G H vx vy k w dx dy c => .inr (h G H vx vy k w dx dy c)
theorem wu_neg {i : Int} (q : Q (.int (-i))) : WR1 K S (rU fun i => .int (-i)) (.int i) Q := fun G H vx k w dx c => by
  cases dx
  exact ⟨i, rfl, c _ _ G H (.refl w) (.int _) q⟩
theorem wr_adds {x y : Str} (hl : x.length + y.length ≤ 100000) (q : Q (.str (x ++ y))) : WR2 K S (fun x y H Q => ∃ i j, x = .str i ∧ y = .str j ∧ i.length + j.length ≤ sizeLine ∧ Q (.str (i ++ j)) H) (.str x) (.str y) Q := fun G H vx vy k w dx dy c => by
  cases dx
  cases dy
  exact ⟨x, y, rfl, rfl, Nat.le_trans hl (by decide), c _ _ G H (.refl w) (.str _) q⟩
/-- is None -/
def isNonD : D → Bool
  | .non => true
  | _ => false
theorem non_of {G : Hp} {v : V} {d : D} (h : Dat K G v d) (hv : ∀ u, d ≠ .val u) : decide (v = .non) = isNonD d := by
  cases h <;> first | rfl | exact absurd rfl (hv _)
theorem wr_isN {x : D} (hv : ∀ u, x ≠ .val u) (q : Q (.bl (isNonD x))) : WR2 K S (fun x y H Q => y = .non ∧ Q (.bl (decide (x = .non))) H) x .non Q := fun G H vx vy k w dx dy c => by
  cases dy
  refine ⟨rfl, ?_⟩
  rw [non_of dx hv]
  exact c _ _ G H (.refl w) (.bl _) q
theorem wr_notN {x : D} (hv : ∀ u, x ≠ .val u) (q : Q (.bl (!isNonD x))) : WR2 K S (fun x y H Q => y = .non ∧ Q (.bl (!decide (x = .non))) H) x .non Q := fun G H vx vy k w dx dy c => by
  cases dy
  refine ⟨rfl, ?_⟩
  rw [non_of dx hv]
  exact c _ _ G H (.refl w) (.bl _) q
/-- lists joined: both parts lists of data -/
theorem wr_cat {xs ys : List D} (hl : xs.length + ys.length ≤ 100000) (q : Q (.list (xs ++ ys))) : WR2 K S rCat (.list xs) (.list ys) Q := fun G H vx vy k w dx dy c => by
  cases dx with
  | list h1 r1 =>
    cases dy with
    | list h2 r2 =>
      refine ⟨_, _, _, _, rfl, rfl, w.le _ _ h1, w.le _ _ h2, ?_, fun p hp => ?_⟩
      · rw [r1.length, r2.length]
        exact Nat.le_trans hl (by decide)
      · exact c _ _ _ _ (.new w hp) (.list upd_same ((r1.append r2).mono (Le.new (w.fresh hp)))) q
theorem DatL.rep {G : Hp} {vs : List V} {ds : List D} (r : DatL K G vs ds) : ∀ n : Nat, DatL K G (List.replicate n vs).flatten (List.replicate n ds).flatten
  | 0 => .nil
  | n + 1 => by
    rw [List.replicate_succ, List.replicate_succ, List.flatten_cons, List.flatten_cons]
    exact r.append (DatL.rep r n)
theorem wr_rep {xs : List D} {n : Int} (h1 : -1000000 ≤ n) (h2 : n ≤ 1000000) (hl : xs.length * n.toNat ≤ 100000) (q : Q (.list (List.replicate n.toNat xs).flatten)) : WR2 K S rRep (.list xs) (.int n) Q := fun G H vx vy k w dx dy c => by
  cases dy
  cases dx with
  | list h r =>
    refine ⟨_, n, _, rfl, rfl, w.le _ _ h, by omega, by omega, by rw [r.length]; exact Nat.le_trans hl (by decide), fun p hp => ?_⟩
    exact c _ _ _ _ (.new w hp) (.list upd_same ((r.rep _).mono (Le.new (w.fresh hp)))) q
/-- an item of a list, a tuple -/
theorem atI_map {G : Hp} {vs : List V} {ds : List D} {i : Int} {d : D} (r : DatL K G vs ds) (h : atI ds i = some d) : ∃ v, atI vs i = some v ∧ Dat K G v d := by
  unfold atI at h ⊢
  rw [r.length]
  cases e : ixN ds.length i with
  | none =>
    rw [e] at h
    cases h
  | some j =>
    rw [e] at h
    exact r.get h
theorem wr_ixL {ds : List D} {i : Int} {d : D} (h : atI ds i = some d) (q : Q d) : WR2 K S (rIx K) (.list ds) (.int i) Q := fun G H vx vy k w dx dy c => by
  cases dy
  cases dx with
  | list h1 r1 =>
    obtain ⟨v, e, dt⟩ := atI_map r1 h
    exact .inl ⟨_, _, _, v, rfl, rfl, SqL.of (w.le _ _ h1), e, c v d G H (.refl w) dt q⟩
theorem wr_ixT {ds : List D} {i : Int} {d : D} (h : atI ds i = some d) (q : Q d) : WR2 K S (rIx K) (.tup ds) (.int i) Q := fun G H vx vy k w dx dy c => by
  cases dy
  cases dx with
  | tup h1 r1 =>
    obtain ⟨v, e, dt⟩ := atI_map r1 h
    exact .inr (.inl ⟨_, _, _, v, rfl, rfl, le_t w.le h1, e, c v d G H (.refl w) dt q⟩)
theorem wr_ixS {x : Str} {i : Int} {ch : Nat} (hl : x.length ≤ 100000) (h : atI x.cps.toList i = some ch) (q : Q (.str ⟨#[ch]⟩)) : WR2 K S (rIx K) (.str x) (.int i) Q := fun G H vx vy k w dx dy c => by
  cases dy
  cases dx
  exact .inr (.inr ⟨x, i, ch, rfl, rfl, Nat.le_trans hl (by decide), h, c _ _ G H (.refl w) (.str _) q⟩)
/-- len -/
def LenD : D → Nat → Prop
  | .str y, n => y.length ≤ 100000 ∧ n = y.length
  | .list ds, n => n = ds.length
  | .tup ds, n => n = ds.length
  | _, _ => False
theorem wc_len {d : D} {n : Nat} (h : LenD d n) (q : Q (.int n)) : WRC K S (fun xs H Q => ∃ x n, xs = [x] ∧ LenV K x H n ∧ Q (.int n) H) [d] Q := fun G H vs k w dx c => by
  cases dx with
  | cons a r =>
    cases r
    refine ⟨_, n, rfl, ?_, c _ _ G H (.refl w) (.int _) q⟩
    cases a with
    | str => exact ⟨Nat.le_trans h.1 (by decide), h.2⟩
    | list h1 r => exact .inl ⟨_, SqL.of (w.le _ _ h1), by rw [r.length]; exact h⟩
    | tup h1 r => exact .inr ⟨_, le_t w.le h1, by rw [r.length]; exact h⟩
    | _ => exact h.elim
/-- tuple(x) -/
theorem wc_tuple {d : D} {ds : List D} (h : d = .list ds ∨ d = .tup ds) (q : Q (.tup ds)) :
    WRC K S (fun xs H Q => ∃ p ys, xs = [.ref p] ∧ ((SqL K H p ys ∧ ∀ l, H l = none → Q (.ref l) (upd H l (.tup ys))) ∨ (SqT K H p ys ∧ Q (.ref p) H))) [d] Q := fun G H vs k w dx c => by
  cases dx with
  | cons a r =>
    cases r
    rcases h with rfl | rfl
    · cases a with
      | list h1 r =>
        refine ⟨_, _, rfl, .inl ⟨SqL.of (w.le _ _ h1), fun p hp => ?_⟩⟩
        exact c _ _ _ _ (.new w hp) (.tup (SqT.of upd_same) (r.mono (Le.new (w.fresh hp)))) q
    · cases a with
      | tup h1 r => exact ⟨_, _, rfl, .inr ⟨le_t w.le h1, c _ _ G H (.refl w) (.tup h1 r) q⟩⟩
/-- list(x) -/
theorem wc_list {d : D} {ds : List D} (h : d = .list ds ∨ d = .tup ds) (q : Q (.list ds)) :
    WRC K S (fun xs H Q => ∃ p ys, xs = [.ref p] ∧ (SqL K H p ys ∨ SqT K H p ys) ∧ ∀ l, H l = none → Q (.ref l) (upd H l (.lst ys))) [d] Q := fun G H vs k w dx c => by
  cases dx with
  | cons a r =>
    cases r
    rcases h with rfl | rfl
    · cases a with
      | list h1 r =>
        refine ⟨_, _, rfl, .inl (SqL.of (w.le _ _ h1)), fun p hp => ?_⟩
        exact c _ _ _ _ (.new w hp) (.list upd_same (r.mono (Le.new (w.fresh hp)))) q
    · cases a with
      | tup h1 r =>
        refine ⟨_, _, rfl, .inr (le_t w.le h1), fun p hp => ?_⟩
        exact c _ _ _ _ (.new w hp) (.list upd_same (r.mono (Le.new (w.fresh hp)))) q
/-- int(x) of an int, a bool -/
theorem wc_int {i : Int} (q : Q (.int i)) : WRC K S (fun xs H Q => (∃ i, xs = [.int i] ∧ Q (.int i) H) ∨ ∃ k, xs = [.bl k] ∧ Q (.int (if k then 1 else 0)) H) [.int i] Q := fun G H vs k w dx c => by
  cases dx with
  | cons a r =>
    cases r
    cases a
    exact .inl ⟨i, rfl, c _ _ G H (.refl w) (.int _) q⟩
theorem wc_intb {i : Bool} (q : Q (.int (if i then 1 else 0))) : WRC K S (fun xs H Q => (∃ i, xs = [.int i] ∧ Q (.int i) H) ∨ ∃ k, xs = [.bl k] ∧ Q (.int (if k then 1 else 0)) H) [.bl i] Q := fun G H vs k w dx c => by
  cases dx with
  | cons a r =>
    cases r
    cases a
    exact .inr ⟨i, rfl, c _ _ G H (.refl w) (.int _) q⟩

/-! ### data as the library's own -/
mutual
def D.pd : D → PyData
  | .non => .none
  | .bl b => .bool b
  | .int i => .int i
  | .str x => .str x
  | .list ds => .list (D.pds ds)
  | .tup ds => .tuple (D.pds ds)
  | .dict _ => .none
  | .obj _ _ => .none
  | .exc _ _ => .none
  | .val _ => .none
def D.pds : List D → List PyData
  | [] => []
  | d :: ds => D.pd d :: D.pds ds
end
mutual
def D.pure : D → Bool
  | .non => true
  | .bl _ => true
  | .int _ => true
  | .str _ => true
  | .list ds => D.pures ds
  | .tup ds => D.pures ds
  | _ => false
def D.pures : List D → Bool
  | [] => true
  | d :: ds => D.pure d && D.pures ds
end
mutual
theorem Dat.dp {G : Hp} : ∀ {v : V} {d : D}, Dat K G v d → D.pure d = true → Dp K G v (D.pd d)
  | _, _, .non, _ => .non
  | _, _, .bl b, _ => .bl b
  | _, _, .int i, _ => .int i
  | _, _, .str x, _ => .str x
  | _, _, .list h r, p => .lst (SqL.of h) (DatL.dp r p)
  | _, _, .tup h r, p => .tup h (DatL.dp r p)
theorem DatL.dp {G : Hp} : ∀ {v : List V} {d : List D}, DatL K G v d → D.pures d = true → DpAll K G v (D.pds d)
  | _, _, .nil, _ => .nil
  | _, _, .cons h r, p => by
    have p' := Bool.and_eq_true_iff.mp p
    exact .cons (Dat.dp h p'.1) (DatL.dp r p'.2)
end
mutual
theorem Dp.le {G H : Hp} (e : Le G H) : ∀ {v : V} {d : PyData}, Dp K G v d → Dp K H v d
  | _, _, .non => .non
  | _, _, .bl b => .bl b
  | _, _, .int i => .int i
  | _, _, .str x => .str x
  | _, _, .lst h r => .lst (le_l e h) (DpAll.le e r)
  | _, _, .tup h r => .tup (le_t e h) (DpAll.le e r)
theorem DpAll.le {G H : Hp} (e : Le G H) : ∀ {v : List V} {d : List PyData}, DpAll K G v d → DpAll K H v d
  | _, _, .nil => .nil
  | _, _, .cons h r => .cons (Dp.le e h) (DpAll.le e r)
end
/-- == and != of data -/
def EqOk (x y : D) : Prop := D.pure x = true ∧ D.pure y = true ∧ SeqAt.shaped x.pd = true ∧ SeqAt.shaped y.pd = true
theorem wr_eqD {x y : D} (h : EqOk x y) (q : Q (.bl (PyData.eqv x.pd y.pd))) : WR2 K S (rEqD K) x y Q := fun G H vx vy k w dx dy c =>
  ⟨_, _, Dp.le w.le (dx.dp h.1), Dp.le w.le (dy.dp h.2.1), h.2.2.1, h.2.2.2, c _ _ G H (.refl w) (.bl _) q⟩
theorem wr_neD {x y : D} (h : EqOk x y) (q : Q (.bl (!PyData.eqv x.pd y.pd))) : WR2 K S (rNeD K) x y Q := fun G H vx vy k w dx dy c =>
  ⟨_, _, Dp.le w.le (dx.dp h.1), Dp.le w.le (dy.dp h.2.1), h.2.2.1, h.2.2.2, c _ _ G H (.refl w) (.bl _) q⟩
end
end X3

set_option Elab.async false
set_option linter.all false
set_option maxRecDepth 100000
set_option maxHeartbeats 2000000
/-! # X3: statements -/
namespace X3
open PySem L2
/-- a list, a dict of one's own, that grows -/
inductive M where
  | gone
  | lst (ds : List D)
  | dict (kvs : List (Key × D))
abbrev Mu := List M
def CellOk (K : PySem.W.Frag) (G H : Hp) (a : Addr) : M → Prop
  | .gone => True
  | .lst ds => G a = none ∧ ∃ xs, H a = some (.lst xs) ∧ DatL K G xs ds
  | .dict kvs => G a = none ∧ ∃ vs, H a = some (.dK vs) ∧ DatK K G vs kvs
structure RepG (K : PySem.W.Frag) (S : Res) (G0 H0 G : Hp) (σ : L2.St) (H : Hp) (ρ : Rho) (μ : Mu) (as : List Addr) : Prop where
  st : Stp S G0 H0 G H
  sl : Slots K G σ ρ
  alen : as.length = μ.length
  nd : as.Nodup
  own : ∀ (i j : Nat), ρ[i]? = some (SD.own j) → ∃ a, as[j]? = some a ∧ σ[i]? = some (some (.ref a))
  cell : ∀ (j : Nat) (a : Addr) (m : M), as[j]? = some a → μ[j]? = some m → H0 a = none ∧ H a ≠ none ∧ CellOk K G H a m
def Rep (K : PySem.W.Frag) (S : Res) (G0 H0 : Hp) (σ : L2.St) (H : Hp) (ρ : Rho) (μ : Mu) : Prop := ∃ G as, RepG K S G0 H0 G σ H ρ μ as

structure EndsD where
  nx : Rho → Mu → Prop
  rt : D → Prop
  bk : Rho → Mu → Prop := fun _ _ => False
  ct : Rho → Mu → Prop := fun _ _ => False
structure Fits (K : PySem.W.Frag) (S : Res) (G0 H0 : Hp) (E : Ends) (N : EndsD) : Prop where
  nx : ∀ σ H ρ μ, Rep K S G0 H0 σ H ρ μ → N.nx ρ μ → E.nx σ H
  rt : ∀ v d G H, Stp S G0 H0 G H → Dat K G v d → N.rt d → E.rt v H
  bk : ∀ σ H ρ μ, Rep K S G0 H0 σ H ρ μ → N.bk ρ μ → E.bk σ H
  ct : ∀ σ H ρ μ, Rep K S G0 H0 σ H ρ μ → N.ct ρ μ → E.ct σ H
def WS (K : PySem.W.Frag) (S : Res) (ts : TS) (ρ : Rho) (μ : Mu) (N : EndsD) : Prop :=
  ∀ G0 H0 σ H (E : Ends), S.ok H0 → Rep K S G0 H0 σ H ρ μ → Fits K S G0 H0 E N → ts E σ H

def viewD (μ : Mu) : SD → SD
  | .own j => match μ[j]? with
    | some (.lst ds) => .dat (.list ds)
    | some (.dict kvs) => .dat (.dict kvs)
    | _ => .no
  | s => s
def view (ρ : Rho) (μ : Mu) : Rho := ρ.map (viewD μ)
/-- values that hold no address -/
def scalD : D → Bool
  | .non => true
  | .bl _ => true
  | .int _ => true
  | .str _ => true
  | .val _ => true
  | _ => false
theorem scal_any {K : PySem.W.Frag} {G G' : Hp} {v : V} {d : D} (h : Dat K G v d) (s : scalD d = true) : Dat K G' v d := by
  cases h with
  | non => exact .non
  | bl => exact .bl _
  | int => exact .int _
  | str => exact .str _
  | val => exact .val _
  | _ => cases s

section
variable {K : PySem.W.Frag} {S : Res} {G0 H0 G H G' H' : Hp} {σ : L2.St} {ρ : Rho} {μ : Mu} {as : List Addr}
theorem RepG.nfp (r : RepG K S G0 H0 G σ H ρ μ as) (w0 : S.ok H0) {a : Addr} (h : a ∈ as) : ¬ S.fp a := by
  obtain ⟨j, hj, e⟩ := List.mem_iff_getElem.mp h
  have hm : j < μ.length := by rw [← r.alen]; exact hj
  exact S.nfp w0 (r.cell j a μ[j] (by rw [List.getElem?_eq_getElem hj, e]) (List.getElem?_eq_getElem hm)).1
theorem CellOk.step {a : Addr} {m : M} (h : CellOk K G H a m) (nf : ¬ S.fp a) (s : Stp S G H G' H') : CellOk K G' H' a m := by
  have ng : H a ≠ none → G a = none → G' a = none := fun h1 h2 => by
    cases e : G' a with
    | none => rfl
    | some o =>
      rcases s.nw a o e with z | z
      · rw [h2] at z
        cases z
      · exact absurd z h1
  cases m with
  | gone => trivial
  | lst ds =>
    obtain ⟨h1, xs, h2, h3⟩ := h
    exact ⟨ng (by rw [h2]; exact fun z => nomatch z) h1, xs, s.hh a _ nf h2, h3.mono s.gg⟩
  | dict ds =>
    obtain ⟨h1, xs, h2, h3⟩ := h
    exact ⟨ng (by rw [h2]; exact fun z => nomatch z) h1, xs, s.hh a _ nf h2, h3.mono s.gg⟩
theorem Stp.some {a : Addr} (s : Stp S G H G' H') (nf : ¬ S.fp a) (h : H a ≠ none) : H' a ≠ none := by
  cases e : H a with
  | none => exact absurd e h
  | some o =>
    rw [s.hh a o nf e]
    exact fun z => nomatch z
/-- behind an expression -/
theorem RepG.step (r : RepG K S G0 H0 G σ H ρ μ as) (w0 : S.ok H0) (s : Stp S G H G' H') : RepG K S G0 H0 G' σ H' ρ μ as :=
  ⟨r.st.trans s, r.sl.mono s.gg, r.alen, r.nd, r.own, fun j a m e1 e2 =>
    have nf := r.nfp w0 (List.mem_of_getElem? e1)
    let ⟨h1, h2, h3⟩ := r.cell j a m e1 e2
    ⟨h1, s.some nf h2, h3.step nf s⟩⟩
/-- a slot gets data -/
theorem RepG.set (r : RepG K S G0 H0 G σ H ρ μ as) {i : Nat} {v : V} {d : D} (h : Dat K G v d) : RepG K S G0 H0 G (σ.set i (some v)) H (ρ.set i (.dat d)) μ as :=
  ⟨r.st, r.sl.set h, r.alen, r.nd, fun k j e => by
    by_cases x : i = k
    · subst x
      by_cases y : i < ρ.length
      · rw [List.getElem?_set_self y] at e
        cases e
      · rw [List.getElem?_eq_none (by simpa using y)] at e
        cases e
    · rw [List.getElem?_set_ne x] at e ⊢
      exact r.own k j e, r.cell⟩
/-- all one's own frozen -/
theorem RepG.freeze (r : RepG K S G0 H0 G σ H ρ μ as) (w0 : S.ok H0) : ∃ G1, Le G G1 ∧ Stp S G0 H0 G1 H ∧ Slots K G1 σ (view ρ μ) ∧ ∀ a ∈ as, G1 a = H a := by
  have w := r.st.w
  have h0 : ∀ a ∈ as, H0 a = none := fun a h => by
    obtain ⟨j, hj, e⟩ := List.mem_iff_getElem.mp h
    have hm : j < μ.length := by rw [← r.alen]; exact hj
    exact (r.cell j a μ[j] (by rw [List.getElem?_eq_getElem hj, e]) (List.getElem?_eq_getElem hm)).1
  have le1 : Le G (fun x => if x ∈ as then H x else G x) := fun a o e => by
    by_cases x : a ∈ as
    · show (if a ∈ as then H a else G a) = some o
      rw [if_pos x]
      exact w.le a o e
    · show (if a ∈ as then H a else G a) = some o
      rw [if_neg x]
      exact e
  refine ⟨fun x => if x ∈ as then H x else G x, le1, ⟨r.st.gg.trans le1, r.st.hh, fun a o e => ?_, ⟨fun a o e => ?_, w.src, fun a f => ?_⟩⟩, ⟨by unfold view; rw [List.length_map]; exact r.sl.len, fun i d e => ?_⟩, fun a h => if_pos h⟩
  · by_cases x : a ∈ as
    · exact .inr (h0 a x)
    · rw [if_neg x] at e
      exact r.st.nw a o e
  · by_cases x : a ∈ as
    · rw [if_pos x] at e
      exact e
    · rw [if_neg x] at e
      exact w.le a o e
  · have x : a ∉ as := fun x => r.nfp w0 x f
    show (if a ∈ as then H a else G a) = none
    rw [if_neg x]
    exact w.sep a f
  · unfold view at e
    rw [List.getElem?_map] at e
    cases q : ρ[i]? with
    | none =>
      rw [q] at e
      cases e
    | some s =>
      rw [q] at e
      cases s with
      | no => cases e
      | dat d0 =>
        cases e
        obtain ⟨v, e1, e2⟩ := r.sl.get i _ q
        exact ⟨v, e1, e2.mono le1⟩
      | own j =>
        obtain ⟨a, ha, hs⟩ := r.own i j q
        have e' : viewD μ (.own j) = .dat d := Option.some.inj e
        unfold viewD at e'
        dsimp only at e'
        have ma : a ∈ as := List.mem_of_getElem? ha
        cases hm : μ[j]? with
        | none =>
          rw [hm] at e'
          cases e'
        | some m =>
          rw [hm] at e'
          obtain ⟨_, _, c⟩ := r.cell j a m ha hm
          cases m with
          | gone => cases e'
          | lst ds =>
            cases e'
            obtain ⟨_, xs, h2, h3⟩ := c
            exact ⟨_, hs, .list (by show (if a ∈ as then H a else G a) = _; rw [if_pos ma]; exact h2) (h3.mono le1)⟩
          | dict ds =>
            cases e'
            obtain ⟨_, xs, h2, h3⟩ := c
            exact ⟨_, hs, .dict (by show (if a ∈ as then H a else G a) = _; rw [if_pos ma]; exact h2) (h3.mono le1)⟩
/-- behind an expression that was read over the frozen world, and whose value holds no address -/
theorem RepG.unfreeze {G1 : Hp} (r : RepG K S G0 H0 G σ H ρ μ as) (w0 : S.ok H0) (le : Le G G1) (fr : ∀ a ∈ as, G1 a = H a) (s : Stp S G1 H G' H') : RepG K S G0 H0 G σ H' ρ μ as := by
  have s1 : Stp S G H G H' := ⟨Le.refl _, s.hh, fun _ _ h => .inl h, ⟨(le.trans s.gg).trans s.w.le, s.w.src, r.st.w.sep⟩⟩
  exact r.step w0 s1

variable {N : EndsD} {te : TE} {tt : TT} {t u : TS} {i : Nat}
theorem ws_imp {N' : EndsD} (h : WS K S t ρ μ N) (h1 : ∀ ρ μ, N.nx ρ μ → N'.nx ρ μ) (h2 : ∀ d, N.rt d → N'.rt d) (h3 : ∀ ρ μ, N.bk ρ μ → N'.bk ρ μ) (h4 : ∀ ρ μ, N.ct ρ μ → N'.ct ρ μ) : WS K S t ρ μ N' :=
  fun G0 H0 σ H E w0 r f => h G0 H0 σ H E w0 r ⟨fun σ H ρ μ a b => f.nx σ H ρ μ a (h1 ρ μ b), fun v d G H a b c => f.rt v d G H a b (h2 d c), fun σ H ρ μ a b => f.bk σ H ρ μ a (h3 ρ μ b), fun σ H ρ μ a b => f.ct σ H ρ μ a (h4 ρ μ b)⟩
theorem ws_next (q : N.nx ρ μ) : WS K S tNext ρ μ N := fun G0 H0 σ H E w0 r f => f.nx σ H ρ μ r q
theorem ws_brk (q : N.bk ρ μ) : WS K S tBreak ρ μ N := fun G0 H0 σ H E w0 r f => f.bk σ H ρ μ r q
theorem ws_ct (q : N.ct ρ μ) : WS K S tCont ρ μ N := fun G0 H0 σ H E w0 r f => f.ct σ H ρ μ r q
theorem ws_seq (h : WS K S t ρ μ { N with nx := fun ρ' μ' => WS K S u ρ' μ' N }) : WS K S (tSeq t u) ρ μ N := fun G0 H0 σ H E w0 r f =>
  h G0 H0 σ H { E with nx := u E } w0 r ⟨fun σ' H' ρ' μ' r' q => q G0 H0 σ' H' E w0 r' f, f.rt, f.bk, f.ct⟩
theorem ws_cut (h : WS K S t ρ μ { N with nx := fun ρ' μ' => WS K S u ρ' μ' N }) : WS K S (Evl.tCut t u) ρ μ N := fun G0 H0 σ H E w0 r f =>
  ⟨u E, h G0 H0 σ H { E with nx := u E } w0 r ⟨fun σ' H' ρ' μ' r' q => q G0 H0 σ' H' E w0 r' f, f.rt, f.bk, f.ct⟩, fun _ _ h => h⟩
theorem ws_asg (h : WE K S te ρ fun d => N.nx (ρ.set i (.dat d)) μ) : WS K S (tAsg te (gName i)) ρ μ N := fun G0 H0 σ H E w0 r f => by
  obtain ⟨G, as, r⟩ := r
  exact h σ G H _ r.st.w r.sl fun v d G' H' s dt q => f.nx _ _ _ _ ⟨G', as, (r.step w0 s).set dt⟩ q
theorem ws_asgv (h : WE K S te (view ρ μ) fun d => scalD d = true ∧ N.nx (ρ.set i (.dat d)) μ) : WS K S (tAsg te (gName i)) ρ μ N := fun G0 H0 σ H E w0 r f => by
  obtain ⟨G, as, r⟩ := r
  obtain ⟨G1, le, s1, sl, fr⟩ := r.freeze w0
  exact h σ G1 H _ s1.w sl fun v d G' H' s dt q => f.nx _ _ _ _ ⟨G, as, (r.unfreeze w0 le fr s).set (scal_any dt q.1)⟩ q.2
theorem ws_drop (h : WE K S te (view ρ μ) fun _ => N.nx ρ μ) : WS K S (tDrop te) ρ μ N := fun G0 H0 σ H E w0 r f => by
  obtain ⟨G, as, r⟩ := r
  obtain ⟨G1, le, s1, sl, fr⟩ := r.freeze w0
  exact h σ G1 H _ s1.w sl fun v d G' H' s dt q => f.nx _ _ _ _ ⟨G, as, r.unfreeze w0 le fr s⟩ q
theorem ws_if (h : WT K S tt (view ρ μ) fun b => if b = true then WS K S t ρ μ N else WS K S u ρ μ N) : WS K S (tIfS tt t u) ρ μ N := fun G0 H0 σ H E w0 r f => by
  obtain ⟨G, as, r⟩ := r
  obtain ⟨G1, le, s1, sl, fr⟩ := r.freeze w0
  refine h σ G1 H _ s1.w sl fun b G' H' s q => ?_
  have r' := r.unfreeze w0 le fr s
  cases b with
  | true => exact q G0 H0 σ H' E w0 ⟨G, as, r'⟩ f
  | false => exact q G0 H0 σ H' E w0 ⟨G, as, r'⟩ f
theorem ws_ret (h : WE K S te (view ρ μ) N.rt) : WS K S (tRet te) ρ μ N := fun G0 H0 σ H E w0 r f => by
  obtain ⟨G, as, r⟩ := r
  obtain ⟨G1, le, s1, sl, fr⟩ := r.freeze w0
  exact h σ G1 H _ s1.w sl fun v d G' H' s dt q => f.rt v d G' H' (s1.trans s) dt q
theorem ws_retN (q : N.rt .non) : WS K S tRetN ρ μ N := fun G0 H0 σ H E w0 r f => by
  obtain ⟨G, as, r⟩ := r
  exact f.rt _ _ G H r.st .non q
/-- all of one's own becomes data -/
theorem ws_freeze (h : WS K S t (view ρ μ) [] N) : WS K S t ρ μ N := fun G0 H0 σ H E w0 r f => by
  obtain ⟨G, as, r⟩ := r
  obtain ⟨G1, le, s1, sl, fr⟩ := r.freeze w0
  refine h G0 H0 σ H E w0 ⟨G1, [], s1, sl, rfl, List.nodup_nil, fun i j e => ?_, fun j a m e _ => by simp at e⟩ f
  unfold view at e
  rw [List.getElem?_map] at e
  cases q : ρ[i]? with
  | none =>
    rw [q] at e
    cases e
  | some s =>
    rw [q] at e
    have e' : viewD μ s = .own j := Option.some.inj e
    cases s with
    | no => cases e'
    | dat d0 => cases e'
    | own k =>
      unfold viewD at e'
      dsimp only at e'
      split at e' <;> cases e'
/-- x = [] -/
theorem ws_new (q : N.nx (ρ.set i (.own μ.length)) (μ ++ [.lst []])) (hi : i < ρ.length) : WS K S (tAsg (tLst tNil) (gName i)) ρ μ N := fun G0 H0 σ H E w0 r f => by
  obtain ⟨G, as, r⟩ := r
  refine ⟨Nat.zero_le _, fun p hp => ?_⟩
  have w := r.st.w
  have nf := w.nfp hp
  have s : Stp S G H G (upd H p (.lst [])) := .junk w (Le.new hp)
  have r1 := r.step w0 s
  have hp0 : H0 p = none := by
    cases e : H0 p with
    | none => rfl
    | some o =>
      rw [r.st.hh p o nf e] at hp
      cases hp
  have pas : p ∉ as := fun z => by
    obtain ⟨j, hj, e⟩ := List.mem_iff_getElem.mp z
    have hm : j < μ.length := by rw [← r.alen]; exact hj
    exact (r.cell j p μ[j] (by rw [List.getElem?_eq_getElem hj, e]) (List.getElem?_eq_getElem hm)).2.1 hp
  refine f.nx _ _ _ _ ⟨G, as ++ [p], r1.st, ⟨by rw [List.length_set, List.length_set]; exact r.sl.len, fun j d e => ?_⟩, by rw [List.length_append, List.length_append, r.alen] <;> rfl, ?_, fun k j e => ?_, fun j a m e1 e2 => ?_⟩ q
  · by_cases x : i = j
    · subst x
      rw [List.getElem?_set_self hi] at e
      cases e
    · rw [List.getElem?_set_ne x] at e ⊢
      exact r1.sl.get j d e
  · exact List.nodup_append.mpr ⟨r.nd, by simp, fun a ha b hb => by
      have : b = p := by simpa using hb
      subst this
      exact fun z => pas (z ▸ ha)⟩
  · by_cases x : i = k
    · subst x
      rw [List.getElem?_set_self hi] at e
      have e' : μ.length = j := SD.own.inj (Option.some.inj e)
      subst e'
      exact ⟨p, by rw [← r.alen]; simp, by rw [List.getElem?_set_self (by rw [r.sl.len]; exact hi)]⟩
    · rw [List.getElem?_set_ne x] at e ⊢
      obtain ⟨a, h1, h2⟩ := r.own k j e
      exact ⟨a, by rw [List.getElem?_append_left (List.getElem?_eq_some_iff.mp h1).1]; exact h1, h2⟩
  · by_cases x : j < μ.length
    · rw [List.getElem?_append_left (by rw [r.alen]; exact x)] at e1
      rw [List.getElem?_append_left x] at e2
      exact r1.cell j a m e1 e2
    · rw [List.getElem?_append_right (by rw [r.alen]; omega)] at e1
      rw [List.getElem?_append_right (by omega)] at e2
      rw [r.alen] at e1
      cases hk : j - μ.length with
      | zero =>
        rw [hk] at e1 e2
        have e1' : some p = some a := e1
        have e2' : some (M.lst []) = some m := e2
        cases e1'
        cases e2'
        have hs : upd H p (.lst []) p = some (.lst []) := upd_same
        exact ⟨hp0, by rw [hs]; exact Option.some_ne_none _, w.fresh hp, [], hs, DatL.nil⟩
      | succ n =>
        rw [hk] at e1
        cases e1
/-- the content of one's own changes -/
theorem RepG.put (r : RepG K S G0 H0 G σ H ρ μ as) (w0 : S.ok H0) {j : Nat} {a : Addr} {m0 m : M} {o : HO} (ha : as[j]? = some a) (hm : μ[j]? = some m0) (hg : G a = none) (ok : CellOk K G (upd H a o) a m) : RepG K S G0 H0 G σ (upd H a o) ρ (μ.set j m) as := by
  have w := r.st.w
  have nf := r.nfp w0 (List.mem_of_getElem? ha)
  obtain ⟨h0, h1, _⟩ := r.cell j a m0 ha hm
  have ne : ∀ {k b m'}, as[k]? = some b → μ[k]? = some m' → k ≠ j → b ≠ a := fun {k b m'} e1 _ hk z => by
    subst z
    obtain ⟨l1, e3⟩ := List.getElem?_eq_some_iff.mp e1
    obtain ⟨l2, e4⟩ := List.getElem?_eq_some_iff.mp ha
    exact hk ((List.getElem_inj r.nd).mp (e3.trans e4.symm))
  refine ⟨⟨r.st.gg, fun b u n e => ?_, r.st.nw, ⟨fun b u e => ?_, ?_, w.sep⟩⟩, r.sl, by rw [List.length_set]; exact r.alen, r.nd, r.own, fun k b m' e1 e2 => ?_⟩
  · by_cases x : b = a
    · subst x
      rw [h0] at e
      cases e
    · rw [upd_ne x]
      exact r.st.hh b u n e
  · by_cases x : b = a
    · subst x
      rw [hg] at e
      cases e
    · rw [upd_ne x]
      exact w.le b u e
  · exact S.loc H _ (fun b f => (upd_ne (fun z : b = a => nf (by rw [z] at f; exact f))).symm) w.src
  · by_cases x : k = j
    · subst x
      rw [ha] at e1
      cases e1
      rw [List.getElem?_set_self (List.getElem?_eq_some_iff.mp hm).1] at e2
      cases e2
      have hs : upd H a o a = some o := upd_same
      exact ⟨h0, by rw [hs]; exact Option.some_ne_none _, ok⟩
    · rw [List.getElem?_set_ne (Ne.symm x)] at e2
      have nb := ne e1 e2 x
      obtain ⟨c1, c2, c3⟩ := r.cell k b m' e1 e2
      refine ⟨c1, by rw [upd_ne nb]; exact c2, ?_⟩
      cases m' with
      | gone => trivial
      | lst ds =>
        obtain ⟨q1, xs, q2, q3⟩ := c3
        exact ⟨q1, xs, by rw [upd_ne nb]; exact q2, q3⟩
      | dict ds =>
        obtain ⟨q1, xs, q2, q3⟩ := c3
        exact ⟨q1, xs, by rw [upd_ne nb]; exact q2, q3⟩
/-- xs.append(e) -/
theorem ws_append {j : Nat} {ds : List D} (hi : ρ[i]? = some (.own j)) (hj : μ[j]? = some (.lst ds)) (hz : ds.length < 100000) (h : WE K S te ρ fun d => N.nx ρ (μ.set j (.lst (ds ++ [d])))) :
    WS K S (tDrop (tBM K "list" rAppend (tVar i) (tCons te tNil))) ρ μ N := fun G0 H0 σ H E w0 r f => by
  obtain ⟨G, as, r⟩ := r
  obtain ⟨a, ha, hs⟩ := r.own i j hi
  obtain ⟨_, _, _, xs, hx, _⟩ := r.cell j a _ ha hj
  refine ⟨_, hs, Or.inl ⟨rfl, _, SqL.of hx⟩, ?_⟩
  refine h σ G H _ r.st.w r.sl fun v d G' H' s dt q => ?_
  have r' := r.step w0 s
  obtain ⟨_, _, hg, ys, hy, hd⟩ := r'.cell j a _ ha hj
  refine ⟨a, ys, v, rfl, rfl, hy, by rw [hd.length]; exact Nat.lt_of_lt_of_le hz (by decide), ?_⟩
  exact f.nx _ _ _ _ ⟨G', as, r'.put (m := .lst (ds ++ [d])) w0 ha hj hg ⟨hg, _, upd_same, hd.append (.cons dt .nil)⟩⟩ q
/-- .. where e reads what is one's own, and holds no address -/
theorem ws_appendv {j : Nat} {ds : List D} (hi : ρ[i]? = some (.own j)) (hj : μ[j]? = some (.lst ds)) (hz : ds.length < 100000) (h : WE K S te (view ρ μ) fun d => scalD d = true ∧ N.nx ρ (μ.set j (.lst (ds ++ [d])))) :
    WS K S (tDrop (tBM K "list" rAppend (tVar i) (tCons te tNil))) ρ μ N := fun G0 H0 σ H E w0 r f => by
  obtain ⟨G, as, r⟩ := r
  obtain ⟨a, ha, hs⟩ := r.own i j hi
  obtain ⟨_, _, _, xs, hx, _⟩ := r.cell j a _ ha hj
  refine ⟨_, hs, Or.inl ⟨rfl, _, SqL.of hx⟩, ?_⟩
  obtain ⟨G1, le, s1, sl, fr⟩ := r.freeze w0
  refine h σ G1 H _ s1.w sl fun v d G' H' s dt q => ?_
  have r' := r.unfreeze w0 le fr s
  obtain ⟨_, _, hg, ys, hy, hd⟩ := r'.cell j a _ ha hj
  refine ⟨a, ys, v, rfl, rfl, hy, by rw [hd.length]; exact Nat.lt_of_lt_of_le hz (by decide), ?_⟩
  exact f.nx _ _ _ _ ⟨G, as, r'.put (m := .lst (ds ++ [d])) w0 ha hj hg ⟨hg, _, upd_same, hd.append (.cons (scal_any dt q.1) .nil)⟩⟩ q.2
end
end X3

set_option Elab.async false
set_option linter.all false
set_option maxRecDepth 100000
set_option maxHeartbeats 2000000
/-! # X3: targets, loops, comprehensions, calls -/
namespace X3
open PySem L2
/-- what a target leaves: the slots at is hold data, the others are as they were -/
structure Tgt (K : PySem.W.Frag) (G : Hp) (is : List Nat) (σ σ' : L2.St) (ρ ρ' : Rho) : Prop where
  sl : Slots K G σ' ρ'
  len : σ'.length = σ.length
  rlen : ρ'.length = ρ.length
  old : ∀ i, i ∉ is → σ'[i]? = σ[i]? ∧ ρ'[i]? = ρ[i]?
  new : ∀ (i j : Nat), i ∈ is → ρ'[i]? ≠ some (SD.own j)
def WG (K : PySem.W.Frag) (is : List Nat) (g : TG) (d : D) (ρ : Rho) (P : Rho → Prop) : Prop :=
  ∀ σ G H v (k : L2.St → Hp → Prop), Le G H → Slots K G σ ρ → Dat K G v d → (∀ σ' ρ', Tgt K G is σ σ' ρ ρ' → P ρ' → k σ' H) → g v σ H k
def WGs (K : PySem.W.Frag) (is : List Nat) (g : TGs) (ds : List D) (ρ : Rho) (P : Rho → Prop) : Prop :=
  ∀ σ G H vs (k : L2.St → Hp → Prop), Le G H → Slots K G σ ρ → DatL K G vs ds → (∀ σ' ρ', Tgt K G is σ σ' ρ ρ' → P ρ' → k σ' H) → g vs σ H k
section
variable {K : PySem.W.Frag} {S : Res} {ρ : Rho} {P : Rho → Prop} {d : D} {ds : List D}
theorem wg_name {i : Nat} (q : P (ρ.set i (.dat d))) : WG K [i] (gName i) d ρ P := fun σ G H v k le sl dt c =>
  c _ _ ⟨sl.set dt, by rw [List.length_set], by rw [List.length_set], fun j hj => by
    have ne : i ≠ j := fun z => hj (by simp [z])
    exact ⟨List.getElem?_set_ne ne, List.getElem?_set_ne ne⟩, fun j m hj e => by
    have z : j = i := by simpa using hj
    subst z
    by_cases y : j < ρ.length
    · rw [List.getElem?_set_self y] at e
      cases e
    · rw [List.getElem?_eq_none (by simpa using y)] at e
      cases e⟩ q
theorem wgs_nil (q : P ρ) : WGs K [] gNil [] ρ P := fun σ G H v k le sl dt c => by
  cases dt
  exact ⟨rfl, c σ ρ ⟨sl, rfl, rfl, fun _ _ => ⟨rfl, rfl⟩, fun _ _ h => by simp at h⟩ q⟩
theorem wgs_cons {is js : List Nat} {g : TG} {gs : TGs} (h : WG K is g d ρ fun ρ' => WGs K js gs ds ρ' P) : WGs K (is ++ js) (gCons g gs) (d :: ds) ρ P := fun σ G H v k le sl dt c => by
  cases dt with
  | cons a r =>
    refine ⟨_, _, rfl, h σ G H _ _ le sl a fun σ1 ρ1 t1 h1 => h1 σ1 G H _ _ le t1.sl r fun σ2 ρ2 t2 q => c σ2 ρ2 ⟨t2.sl, t2.len.trans t1.len, t2.rlen.trans t1.rlen, fun i hi => ?_, fun i j hi => ?_⟩ q⟩
    · have a1 := t1.old i fun z => hi (List.mem_append_left _ z)
      have a2 := t2.old i fun z => hi (List.mem_append_right _ z)
      exact ⟨a2.1.trans a1.1, a2.2.trans a1.2⟩
    · by_cases x : i ∈ js
      · exact t2.new i j x
      · rw [(t2.old i x).2]
        exact t1.new i j ((List.mem_append.mp hi).resolve_right x)
theorem wg_tup {is : List Nat} {g : TGs} {n : Nat} (hn : ds.length = n) (h : WGs K is g ds ρ P) : WG K is (gTup K n g) (.tup ds) ρ P := fun σ G H v k le sl dt c => by
  cases dt with
  | tup h1 r => exact ⟨_, _, rfl, le_t le h1, by rw [r.length]; exact hn, h σ G H _ k le sl r c⟩

theorem RepG.tgt {G0 H0 G H : Hp} {σ σ' : L2.St} {ρ' : Rho} {μ : Mu} {as : List Addr} {is : List Nat} (r : RepG K S G0 H0 G σ H ρ μ as) (t : Tgt K G is σ σ' ρ ρ') : RepG K S G0 H0 G σ' H ρ' μ as :=
  ⟨r.st, t.sl, r.alen, r.nd, fun i j e => by
    by_cases x : i ∈ is
    · exact absurd e (t.new i j x)
    · obtain ⟨a1, a2⟩ := t.old i x
      rw [a2] at e
      obtain ⟨a, h1, h2⟩ := r.own i j e
      exact ⟨a, h1, a1.trans h2⟩, r.cell⟩
/-- a target of any form -/
theorem ws_asgT {μ : Mu} {N : EndsD} {te : TE} {g : TG} {is : List Nat} (h : WE K S te ρ fun d => WG K is g d ρ fun ρ' => N.nx ρ' μ) : WS K S (tAsg te g) ρ μ N := fun G0 H0 σ H E w0 r f => by
  obtain ⟨G, as, r⟩ := r
  refine h σ G H _ r.st.w r.sl fun v d G' H' s dt q => ?_
  have r' := r.step w0 s
  exact q σ G' H' v _ s.w.le r'.sl dt fun σ' ρ' t q' => f.nx _ _ _ _ ⟨G', as, r'.tgt t⟩ q'
end

/-! ### what is walked -/
/-- J gives, one after another, the data ds, as long as G stands -/
structure IterOk (K : PySem.W.Frag) (S : Res) (J : It) (G : Hp) (ds : List D) : Prop where
  ex : ∃ (Gd : Hp → Prop) (Y : Nat → Hp → V → Hp → Prop), Walk J ds.length Gd Y ∧ (∀ H, Le G H → Gd H) ∧
    ∀ i H x H' G1, i < ds.length → Le G G1 → Wld S G1 H → Y i H x H' → ∃ d G2, ds[i]? = some d ∧ Stp S G1 H G2 H' ∧ Dat K G2 x d
def WI (K : PySem.W.Frag) (S : Res) (wi : TI) (ρ : Rho) (P : List D → Prop) : Prop :=
  ∀ σ G H (R : It → Hp → Prop), Wld S G H → Slots K G σ ρ → (∀ J ds G' H', Stp S G H G' H' → IterOk K S J G' ds → P ds → R J H') → wi σ H R
section
variable {K : PySem.W.Frag} {S : Res} {ρ : Rho} {te : TE} {tA : TA} {P : List D → Prop}
theorem iter_list {G : Hp} {a : Addr} {xs : List V} {ds : List D} (h : G a = some (.lst xs)) (r : DatL K G xs ds) : IterOk K S (Itl K a) G ds :=
  ⟨_, _, by rw [← r.length]; exact walk_list (xs := xs), fun H le => SqL.of (le _ _ h), fun i H x H' G1 hi le w y => by
    obtain ⟨rfl, e⟩ := y
    obtain ⟨d, e1, e2⟩ := r.getV e
    exact ⟨d, G1, e1, .refl w, e2.mono le⟩⟩
theorem iter_tup {G : Hp} {a : Addr} {xs : List V} {ds : List D} (h : SqT K G a xs) (r : DatL K G xs ds) : IterOk K S (Itt K a) G ds :=
  ⟨_, _, by rw [← r.length]; exact walk_tup (xs := xs), fun H le => le_t le h, fun i H x H' G1 hi le w y => by
    obtain ⟨rfl, e⟩ := y
    obtain ⟨d, e1, e2⟩ := r.getV e
    exact ⟨d, G1, e1, .refl w, e2.mono le⟩⟩
theorem wi_list (h : WE K S te ρ fun d => ∃ ds, d = .list ds ∧ P ds) : WI K S (iList K te) ρ P := fun σ G H R w s c =>
  h σ G H _ w s fun v d G' H' st dt q => by
    obtain ⟨ds, rfl, q⟩ := q
    cases dt with
    | list h1 r => exact ⟨_, rfl, ⟨_, SqL.of (st.w.le _ _ h1)⟩, c _ ds G' H' st (iter_list h1 r) q⟩
theorem wi_tup (h : WE K S te ρ fun d => ∃ ds, d = .tup ds ∧ P ds) : WI K S (iTup K te) ρ P := fun σ G H R w s c =>
  h σ G H _ w s fun v d G' H' st dt q => by
    obtain ⟨ds, rfl, q⟩ := q
    cases dt with
    | tup h1 r => exact ⟨_, rfl, ⟨_, le_t st.w.le h1⟩, c _ ds G' H' st (iter_tup h1 r) q⟩
/-- lo, lo + 1 .. -/
def rng (lo : Int) (n : Nat) : List D := (List.range n).map fun i => .int (lo + (i : Nat))
theorem rng_len (lo : Int) (n : Nat) : (rng lo n).length = n := by unfold rng; rw [List.length_map, List.length_range]
theorem rng_get {lo : Int} {n i : Nat} (h : i < n) : (rng lo n)[i]? = some (.int (lo + (i : Nat))) := by
  unfold rng
  rw [List.getElem?_map, List.getElem?_range h]
  rfl
theorem iter_rng {G : Hp} {lo : Int} {n : Nat} : IterOk K S (Itr lo n) G (rng lo n) :=
  ⟨_, _, by rw [rng_len]; exact walk_range, fun _ _ => trivial, fun i H x H' G1 hi le w y => by
    rw [rng_len] at hi
    obtain ⟨rfl, rfl⟩ := y
    exact ⟨_, G1, rng_get hi, .refl w, .int _⟩⟩
theorem wi_rng1 (h : WA K S tA ρ fun vs => ∃ n : Int, vs = [.int n] ∧ -1000000 ≤ n ∧ n ≤ 1000000 ∧ P (rng 0 n.toNat)) : WI K S (iRng1 tA) ρ P := fun σ G H R w s c =>
  h σ G H _ w s fun vs ds G' H' st dt q => by
    obtain ⟨n, rfl, h1, h2, q⟩ := q
    cases dt with
    | cons a r =>
      cases r
      cases a
      exact ⟨n, rfl, by omega, by omega, c _ _ G' H' st iter_rng q⟩
theorem wi_rng2 (h : WA K S tA ρ fun vs => ∃ m n : Int, vs = [.int m, .int n] ∧ (-1000000 ≤ m ∧ m ≤ 1000000 ∧ -1000000 ≤ n ∧ n ≤ 1000000) ∧ P (rng m (n - m).toNat)) : WI K S (iRng2 tA) ρ P := fun σ G H R w s c =>
  h σ G H _ w s fun vs ds G' H' st dt q => by
    obtain ⟨m, n, rfl, ⟨h1, h2, h3, h4⟩, q⟩ := q
    cases dt with
    | cons a r =>
      cases a
      cases r with
      | cons a r =>
        cases r
        cases a
        exact ⟨m, n, rfl, ⟨by omega, by omega, by omega, by omega⟩, c _ _ G' H' st iter_rng q⟩
theorem RepG.rebase {G0 H0 G1 H1 G H : Hp} {σ : L2.St} {ρ : Rho} {μ : Mu} {as : List Addr} (r : RepG K S G1 H0 G σ H ρ μ as) (s : Stp S G0 H0 G1 H1) : RepG K S G0 H0 G σ H ρ μ as :=
  ⟨⟨s.gg.trans r.st.gg, r.st.hh, fun a o e => (r.st.nw a o e).elim (fun z => s.nw a o z) .inr, r.st.w⟩, r.sl, r.alen, r.nd, r.own, r.cell⟩
theorem RepG.debase {G0 H0 G H : Hp} {σ : L2.St} {ρ : Rho} {μ : Mu} {as : List Addr} (r : RepG K S G0 H0 G σ H ρ μ as) : RepG K S G H0 G σ H ρ μ as :=
  ⟨⟨Le.refl _, r.st.hh, fun a o e => .inl e, r.st.w⟩, r.sl, r.alen, r.nd, r.own, r.cell⟩
/-- a for loop: I by what has been walked -/
theorem ws_for {wi : TI} {g : TG} {tb : TS} {μ : Mu} {N : EndsD} {is : List Nat} (I : List D → Rho → Mu → Prop)
    (h : WI K S wi ρ fun ds => I [] ρ μ ∧ (∀ pre d post ρ' μ', ds = pre ++ d :: post → I pre ρ' μ' → WG K is g d ρ' fun ρ2 => WS K S tb ρ2 μ' { N with nx := I (pre ++ [d]), ct := I (pre ++ [d]), bk := N.nx }) ∧ ∀ ρ' μ', I ds ρ' μ' → N.nx ρ' μ') :
    WS K S (tFor wi g tb) ρ μ N := fun G0 H0 σ H E w0 r f => by
  obtain ⟨G, as, r⟩ := r
  refine h σ G H _ r.st.w r.sl fun J ds G' H' s it q => ?_
  obtain ⟨i0, turn, fin⟩ := q
  obtain ⟨Gd, Y, wk, gd, yl⟩ := it.ex
  have r1 := r.step w0 s
  have sb := r1.st
  refine for_it wk (fun i σ H => ∃ ρ' μ' G2 as', RepG K S G' H0 G2 σ H ρ' μ' as' ∧ I (ds.take i) ρ' μ') ⟨ρ, μ, G', as, r1.debase, i0⟩ ?_ ?_ ?_
  · rintro i σ1 H1 _ ⟨ρ', μ', G2, as', r2, _⟩
    exact gd H1 (r2.st.gg.trans r2.st.w.le)
  · rintro i x σ1 H1 H2 hi ⟨ρ', μ', G2, as', r2, iv⟩ y
    obtain ⟨d, G3, e, st3, dt⟩ := yl i H1 x H2 G2 hi r2.st.gg r2.st.w y
    have r3 := r2.step w0 st3
    have ed : ds = ds.take i ++ d :: ds.drop (i + 1) := by
      have e2 := List.getElem?_eq_some_iff.mp e
      obtain ⟨hl, e2⟩ := e2
      rw [← e2, ← List.drop_eq_getElem_cons hl, List.take_append_drop]
    have et : ds.take i ++ [d] = ds.take (i + 1) := by
      rw [List.take_add_one, e]
      rfl
    refine turn (ds.take i) d (ds.drop (i + 1)) ρ' μ' ed iv σ1 G3 H2 x _ r3.st.w.le r3.sl dt fun σ4 ρ4 t4 body => ?_
    refine body G' H0 σ4 H2 { E with nx := _, ct := _, bk := E.nx } w0 ⟨G3, as', r3.tgt t4⟩ ⟨?_, ?_, ?_, ?_⟩
    · rintro σ5 H5 ρ5 μ5 ⟨G5, as5, r5⟩ q5
      exact ⟨ρ5, μ5, G5, as5, r5, by rw [← et]; exact q5⟩
    · intro v d5 G5 H5 s5 dt5 q5
      exact f.rt v d5 G5 H5 ⟨sb.gg.trans s5.gg, s5.hh, fun a o e => (s5.nw a o e).elim (fun z => sb.nw a o z) .inr, s5.w⟩ dt5 q5
    · rintro σ5 H5 ρ5 μ5 ⟨G5, as5, r5⟩ q5
      exact f.nx _ _ _ _ ⟨G5, as5, r5.rebase sb⟩ q5
    · rintro σ5 H5 ρ5 μ5 ⟨G5, as5, r5⟩ q5
      exact ⟨ρ5, μ5, G5, as5, r5, by rw [← et]; exact q5⟩
  · rintro σ1 H1 ⟨ρ', μ', G2, as', r2, iv⟩
    rw [List.take_length] at iv
    exact f.nx _ _ _ _ ⟨G2, as', r2.rebase sb⟩ (fin ρ' μ' iv)
end

/-! ### comprehensions -/
def wipeR (ρ : Rho) : List Nat → Rho
  | [] => ρ
  | v :: vs => (wipeR ρ vs).set v .no
section
variable {K : PySem.W.Frag} {S : Res} {ρ : Rho}
theorem wipeR_len (ρ : Rho) : ∀ vs : List Nat, (wipeR ρ vs).length = ρ.length
  | [] => rfl
  | v :: vs => by unfold wipeR; rw [List.length_set, wipeR_len ρ vs]
theorem slots_wipe {G : Hp} {σ : L2.St} (s : Slots K G σ ρ) : ∀ vs : List Nat, Slots K G (wipe σ vs) (wipeR ρ vs)
  | [] => s
  | v :: vs => ⟨by rw [wipe_length, wipeR_len, s.len], fun i d e => by
    unfold wipeR at e
    unfold wipe
    by_cases x : v = i
    · subst x
      by_cases y : v < (wipeR ρ vs).length
      · rw [List.getElem?_set_self y] at e
        cases e
      · rw [List.getElem?_eq_none (by simpa using y)] at e
        cases e
    · rw [List.getElem?_set_ne x] at e ⊢
      exact (slots_wipe s vs).get i d e⟩
theorem wipe_get {σ : L2.St} {i : Nat} : ∀ {vs : List Nat}, i ∉ vs → (wipe σ vs)[i]? = σ[i]?
  | [], _ => rfl
  | v :: vs, h => by
    have h' := not_or.mp (fun z => h (List.mem_cons.mpr z))
    unfold wipe
    rw [List.getElem?_set_ne (Ne.symm h'.1)]
    exact wipe_get h'.2
theorem wipe_in {σ : L2.St} {i : Nat} (hi : i < σ.length) : ∀ {vs : List Nat}, i ∈ vs → (wipe σ vs)[i]? = some none
  | v :: vs, h => by
    unfold wipe
    by_cases x : v = i
    · subst x
      rw [List.getElem?_set_self (by rw [wipe_length]; exact hi)]
    · rw [List.getElem?_set_ne x]
      exact wipe_in hi ((List.mem_cons.mp h).resolve_left (Ne.symm x))
theorem wipe_eq {σ σ' : L2.St} {vs : List Nat} (hl : σ'.length = σ.length) (h : ∀ i, i ∉ vs → σ'[i]? = (wipe σ vs)[i]?) : wipe σ' vs = wipe σ vs := by
  refine List.ext_getElem? fun i => ?_
  by_cases x : i ∈ vs
  · by_cases y : i < σ.length
    · rw [wipe_in (by rw [hl]; exact y) x, wipe_in y x]
    · rw [List.getElem?_eq_none (by rw [wipe_length]; omega), List.getElem?_eq_none (by rw [wipe_length]; omega)]
  · rw [wipe_get x, h i x]
/-- [te for g in wi if tt]: I by what has been walked and what has been made -/
theorem we_lc {wi : TI} {g : TG} {tt : TT} {te : TE} {vs is : List Nat} {Q : D → Prop} (I : List D → List D → Prop) (hv : ∀ i ∈ is, i ∈ vs)
    (h : WI K S wi ρ fun ds => I [] [] ∧ (∀ pre d post out, ds = pre ++ d :: post → I pre out → WG K is g d (wipeR ρ vs) fun ρ2 => WT K S tt ρ2 fun b =>
      if b = true then WE K S te ρ2 fun y => out.length < 100000 ∧ I (pre ++ [d]) (out ++ [y]) else I (pre ++ [d]) out) ∧ ∀ out, I ds out → Q (.list out)) :
    WE K S (tLc wi g tt te vs) ρ Q := fun σ G H k w sl c => by
  refine h σ G H _ w sl fun J ds G' H' s it q => ?_
  obtain ⟨i0, turn, fin⟩ := q
  obtain ⟨Gd, Y, wk, gd, yl⟩ := it.ex
  have w0 := s.w.src
  intro p hp
  have sl0 : Slots K G' (wipe σ vs) (wipeR ρ vs) := slots_wipe (sl.mono s.gg) vs
  have start : RepG K S G' H' G' [] (upd H' p (.lst [])) [] [.lst []] [p] := by
    refine ⟨.junk s.w (Le.new hp), ⟨rfl, fun i d e => by simp at e⟩, rfl, by simp, fun i j e => by simp at e, fun j a m e1 e2 => ?_⟩
    have hs : upd H' p (.lst []) p = some (.lst []) := upd_same
    cases j with
    | zero =>
      have e1' : some p = some a := e1
      have e2' : some (M.lst []) = some m := e2
      cases e1'
      cases e2'
      exact ⟨hp, by rw [hs]; exact Option.some_ne_none _, s.w.fresh hp, [], hs, DatL.nil⟩
    | succ n => simp at e1
  refine lc_it wk (fun i H => ∃ out G2, RepG K S G' H' G2 [] H [] [.lst out] [p] ∧ I (ds.take i) out) ⟨[], G', start, i0⟩ ?_ ?_ ?_
  · rintro i H1 _ ⟨out, G2, r2, _⟩
    exact gd H1 (r2.st.gg.trans r2.st.w.le)
  · rintro i x H1 H2 hi ⟨out, G2, r2, iv⟩ y
    obtain ⟨d, G3, e, st3, dt⟩ := yl i H1 x H2 G2 hi r2.st.gg r2.st.w y
    have r3 := r2.step w0 st3
    have ed : ds = ds.take i ++ d :: ds.drop (i + 1) := by
      have e2 := List.getElem?_eq_some_iff.mp e
      obtain ⟨hl, e2⟩ := e2
      rw [← e2, ← List.drop_eq_getElem_cons hl, List.take_append_drop]
    have et : ds.take i ++ [d] = ds.take (i + 1) := by
      rw [List.take_add_one, e]
      rfl
    refine turn (ds.take i) d (ds.drop (i + 1)) out ed iv _ G3 H2 x _ r3.st.w.le (sl0.mono r3.st.gg) dt fun σ4 ρ4 t4 body => ?_
    have hw : wipe σ4 vs = wipe σ vs := by
      refine wipe_eq (by rw [t4.len, wipe_length]) fun i hi => ?_
      exact (t4.old i fun z => hi (hv i z)).1
    refine ⟨hw, body σ4 G3 H2 _ r3.st.w t4.sl fun b G4 H4 s4 qb => ?_⟩
    have r4 := r3.step w0 s4
    cases b with
    | false => exact ⟨out, G4, r4, by rw [← et]; exact qb⟩
    | true =>
      refine qb σ4 G4 H4 _ r4.st.w (t4.sl.mono s4.gg) fun v d5 G5 H5 s5 dt5 q5 => ?_
      have r5 := r4.step w0 s5
      obtain ⟨_, _, hg, xs, hx, dx⟩ := r5.cell 0 p _ rfl rfl
      refine ⟨xs, hx, by rw [dx.length]; exact Nat.lt_of_lt_of_le q5.1 (by decide), out ++ [d5], G5, ?_, by rw [← et]; exact q5.2⟩
      exact r5.put (j := 0) (m := .lst (out ++ [d5])) w0 rfl rfl hg ⟨hg, _, upd_same, dx.append (.cons dt5 .nil)⟩
  · rintro H1 ⟨out, G2, r2, iv⟩
    rw [List.take_length] at iv
    obtain ⟨G3, le, s3, _, fr⟩ := r2.freeze w0
    obtain ⟨_, _, _, xs, hx, dx⟩ := r2.cell 0 p _ rfl rfl
    exact c _ _ G3 H1 (s.trans s3) (.list (by rw [fr p (by simp)]; exact hx) (dx.mono le)) (fin out iv)
/-- no test -/
theorem wt_yes {P : Bool → Prop} (q : P true) : WT K S tYes ρ P := fun σ G H k w s c => c true G H (.refl w) q

/-! ### while -/
theorem ws_while {tt : TT} {tb : TS} {μ : Mu} {N : EndsD} (I : Nat → Rho → Mu → Prop) (m0 : Nat) (h0 : I m0 ρ μ)
    (hs : ∀ m ρ' μ', I m ρ' μ' → WT K S tt (view ρ' μ') fun b => if b = true then WS K S tb ρ' μ' { N with nx := fun ρ2 μ2 => ∃ m', m' < m ∧ I m' ρ2 μ2, ct := fun ρ2 μ2 => ∃ m', m' < m ∧ I m' ρ2 μ2, bk := N.nx } else N.nx ρ' μ') :
    WS K S (tWhile tt tb) ρ μ N := fun G0 H0 σ H E w0 r f => by
  refine ⟨fun m σ H => ∃ ρ' μ', Rep K S G0 H0 σ H ρ' μ' ∧ I m ρ' μ', ⟨m0, ρ, μ, r, h0⟩, ?_⟩
  rintro m σ1 H1 ⟨ρ', μ', ⟨G, as, r⟩, iv⟩
  obtain ⟨G1, le, s1, sl, fr⟩ := r.freeze w0
  refine hs m ρ' μ' iv σ1 G1 H1 _ s1.w sl fun b G' H' s q => ?_
  have r' := r.unfreeze w0 le fr s
  cases b with
  | false => exact f.nx _ _ _ _ ⟨G, as, r'⟩ q
  | true =>
    refine ⟨fun σ H => ∃ m', m' < m ∧ ∃ ρ' μ', Rep K S G0 H0 σ H ρ' μ' ∧ I m' ρ' μ', fun σ2 H2 z => ?_, ?_⟩
    · obtain ⟨m', h1, h2⟩ := z
      exact ⟨m', h1, h2⟩
    · refine q G0 H0 σ1 H' { E with nx := _, ct := _, bk := E.nx } w0 ⟨G, as, r'⟩ ⟨?_, f.rt, f.nx, ?_⟩
      · rintro σ2 H2 ρ2 μ2 r2 ⟨m', h1, h2⟩
        exact ⟨m', h1, ρ2, μ2, r2, h2⟩
      · rintro σ2 H2 ρ2 μ2 r2 ⟨m', h1, h2⟩
        exact ⟨m', h1, ρ2, μ2, r2, h2⟩

/-! ### calls -/
/-- a def's promise over data: P says what is asked of the arguments so that what is handed back is in q -/
def spD (K : PySem.W.Frag) (P : Res → List D → (D → Prop) → Prop) : Sp := fun vs H Q _ => ∃ (S : Res) (G : Hp) (ds : List D) (q : D → Prop), Wld S G H ∧ DatL K G vs ds ∧ P S ds q ∧ ∀ v d G' H', Stp S G H G' H' → Dat K G' v d → q d → Q v H'
theorem we_call {P : Res → List D → (D → Prop) → Prop} {tA : TA} {E : XK} {Q : D → Prop} (h : WA K S tA ρ fun ds => P S ds Q) : WE K S (tCall (spD K P) [] E tA) ρ Q := fun σ G H k w sl c =>
  h σ G H _ w sl fun vs ds G' H' s dt q => ⟨S, G', ds, Q, s.w, by rw [List.append_nil]; exact dt, q, fun v d G2 H2 s2 dt2 q2 => c v d G2 H2 (s.trans s2) dt2 q2⟩
/-- a def's slots at its entry -/
def startR (N : List Str) (ds : List D) : Rho := ds.map .dat ++ List.replicate (N.length - ds.length) .no
theorem slots_start {G : Hp} {N : List Str} {vs : List V} {ds : List D} (r : DatL K G vs ds) : Slots K G (L2.start N vs) (startR N ds) := by
  have hl := r.length
  refine ⟨by unfold L2.start startR; simp [hl], fun i d e => ?_⟩
  unfold startR at e
  unfold L2.start
  by_cases x : i < ds.length
  · rw [List.getElem?_append_left (by simpa using x)] at e
    rw [List.getElem?_append_left (by rw [List.length_map, hl]; exact x)]
    rw [List.getElem?_map] at e ⊢
    cases q : ds[i]? with
    | none =>
      rw [q] at e
      cases e
    | some d' =>
      rw [q] at e
      cases e
      obtain ⟨v, h1, h2⟩ := r.get q
      exact ⟨v, by rw [h1]; rfl, h2⟩
  · rw [List.getElem?_append_right (by simpa using x)] at e
    have z := List.mem_of_getElem? e
    have z' := List.eq_of_mem_replicate z
    cases z'
/-- a def's body: the reading of its term, over data -/
theorem body_of {t : TS} {N : List Str} {vs : List V} {ds : List D} {G H : Hp} {Q : VK} {q : D → Prop} (w : Wld S G H) (r : DatL K G vs ds) (c : ∀ v d G' H', Stp S G H G' H' → Dat K G' v d → q d → Q v H')
    (h : WS K S t (startR N ds) [] { nx := fun _ _ => q .non, rt := q }) : t { nx := fun _ H' => Q .non H', rt := Q } (L2.start N vs) H := by
  refine h G H _ H _ w.src ⟨G, [], .refl w, slots_start r, rfl, List.nodup_nil, fun i j e => ?_, fun j a m e1 _ => by simp at e1⟩ ⟨?_, c, fun _ _ _ _ _ z => z, fun _ _ _ _ _ z => z⟩
  · unfold startR at e
    have z := List.mem_of_getElem? e
    rcases List.mem_append.mp z with z | z
    · obtain ⟨d, _, z⟩ := List.mem_map.mp z
      cases z
    · have z' := List.eq_of_mem_replicate z
      cases z'
  · rintro σ H1 ρ μ ⟨G1, as, r1⟩ z
    exact c _ _ G1 H1 r1.st .non z
end
end X3

set_option Elab.async false
set_option linter.all false
set_option maxRecDepth 100000
set_option maxHeartbeats 4000000
/-! # Exceptions of own classes as values: made, their fields read, isinstance -/
namespace X3
open PySem PySem.Calls PySem.Spec PyProof.Rows L2
namespace XEx
open PySem.Builtin PySem.Builtin.ObjectAttr
/-- what is asked of the built-in base at the end of the classes' order -/
structure Tail (B newId initId : String) (tl : List Value) : Prop where
  base : ExcBaseFacts B newId initId tl
  pass : ∀ z, refuseLoop z "__setattr__" tl = pure ()
theorem tailVE : Tail "ValueError" "ValueError.__new__" "ValueError.__init__" HandSPX.veTail :=
  { base := F.excBase_ValueError, pass := F.store_ValueError.passes }
theorem tailLE : Tail "LookupError" "LookupError.__new__" "LookupError.__init__" [.type "LookupError", .type "Exception", .type "BaseException", .type "object"] :=
  { base := F.excBase_LookupError, pass := F.store_LookupError.passes }
end XEx
section
open Builtin Builtin.ObjectAttr
variable {P : Program} {w : World} {K : PySem.W.Frag} {around : Around} {R : Result → Shared → Prop} {st : Shared} {nm : Str} {tok : Tok} {u : Value} {a C : Addr} {ob : Obj} {dc : Option Obj} {cd : ClassData}
/-- object.__setattr__, its classes letting it pass: the store in the own dict is left -/
theorem walk_set (KI : K.In st.heap) (J : PySem.W.InstAt st.heap a ob C dc) (cl : PySem.W.clsIn K C = some cd) (isO : PySem.W.mroIn K C (.type "object") = some true) (ps : ∀ z, refuseLoop z "__setattr__" cd.mro = pure ()) (free : PySem.W.findIn K (.ref C) nm = some none)
    (go : wpAny (model P w) around.in1 (storeInOwnDict (.ref a) (.ref C) (.str nm tok) nm u false) (fun f st' => match f with | .done r => R (.ok r) st' | .again c => c.quiet = true ∧ codeAny (model P w) around c R st') (fun e st' => R (.error e) st') st) :
    codeAny (model P w) around (.call (.builtin "object.__setattr__") { pos := [.ref a, .str nm tok, u] }) R st := by
  have slot := F.store_object
  have ord : PySem.W.Looks (model P w) st.heap (mroOf (.ref C)) cd.mro := PySem.W.Looks.andThen (PySem.W.looks_clsIn KI cl) .now
  have look := PySem.W.looks_findIn (M := model P w) KI free
  refine codeAny_call_builtin slot.slot.plain slot.entry (PySem.W.check_slot slot.kind slot.split (J.type.andThen (PySem.W.looks_mroIn KI isO)) (slot.args _ _ _) ?_)
  rw [PySem.W.osa_eq, refuse_eq]
  refine wpAny_bind (wpAny_bind ?_)
  refine J.type.at (wpAny_bind (ord.at ?_))
  rw [ps]
  refine wpAny_pure (wpAny_bind ?_)
  refine J.type.at (wpAny_bind (look.at (wpAny_bind ?_)))
  exact PySem.W.Looks.at (r := none) .now go
/-- .. no dict as yet: one is made -/
theorem set_first {vs : Array Value} (KI : K.In st.heap) (at_ : st.heap.get? a = some ⟨.ref C, none, .fields vs, #[]⟩) (cl : PySem.W.clsIn K C = some cd) (hasD : cd.hasDict = true) (isO : PySem.W.mroIn K C (.type "object") = some true) (ps : ∀ z, refuseLoop z "__setattr__" cd.mro = pure ()) (free : PySem.W.findIn K (.ref C) nm = some none)
    (go : ∀ hp tk b, st.heap.objs.size ≤ b → b ≠ a → (∀ y o, y ≠ a → st.heap.get? y = some o → hp.get? y = some o) → hp.get? a = some ⟨.ref C, some b, .fields vs, #[]⟩ → hp.Ns1 b (fun y => if y = nm then some u else none) → R (.ok (.ret .none)) { st with heap := hp, toks := tk }) :
    codeAny (model P w) around (.call (.builtin "object.__setattr__") { pos := [.ref a, .str nm tok, u] }) R st := by
  have J : PySem.W.InstAt st.heap a ⟨.ref C, none, .fields vs, #[]⟩ C none := ⟨at_, rfl, rfl, trivial⟩
  refine walk_set KI J cl isO ps free ?_
  have look := PySem.W.looks_clsIn (M := model P w) KI cl
  have new : a ≠ st.heap.objs.size := fun z => Nat.lt_irrefl _ (z ▸ Heap.lt_size at_)
  obtain ⟨hp, g, dw, t, os⟩ := st
  obtain ⟨c1, c2, c3, c4, c5, c6, c7, c8, c9, c10, c11⟩ := cd
  cases (show c6 = true from hasD)
  unfold storeInOwnDict
  unfold ownDictForStores
  repeat (first | with_reducible refine HandSPX.store_in_new ?_ ?_ | with_reducible refine look.at ?_ | with_reducible refine wpAny_loadPart_at at_ ?_ | wp_step)
  · have there := (Heap.get?_update_ne (hp.push { cls := .type "dict", data := .dict #[] }) _ _ (fun o => { o with dict := some hp.objs.size }) new.symm).trans (Heap.get?_push_at rfl rfl)
    exact ⟨_, _, _, there, rfl, fun _ z => absurd z (by simp), fun _ => rfl⟩
  · intro hp' t' ns sb
    refine go hp' t' _ (Nat.le_refl _) new.symm (fun y o hy ho => ?_) ?_ ns
    · rw [sb.2 y (Nat.ne_of_lt (Heap.lt_size ho)), Heap.get?_update_ne _ _ _ _ hy]
      exact Heap.get?_push_of_some _ ho
    · rw [sb.2 a new]
      exact Heap.get?_update_self _ (Heap.get?_push_of_some _ at_) rfl
/-- .. one more beside others -/
theorem set_next {vs : Array Value} {b : Addr} {m : Str → Option Value} {names : List Str} (KI : K.In st.heap) (at_ : st.heap.get? a = some ⟨.ref C, some b, .fields vs, #[]⟩) (old : st.heap.Ns1 b m) (wi : Within m names) (few : names.length ≤ 1000) (cl : PySem.W.clsIn K C = some cd) (hasD : cd.hasDict = true)
    (isO : PySem.W.mroIn K C (.type "object") = some true) (ps : ∀ z, refuseLoop z "__setattr__" cd.mro = pure ()) (free : PySem.W.findIn K (.ref C) nm = some none)
    (go : ∀ hp tk, (∀ y o, y ≠ b → st.heap.get? y = some o → hp.get? y = some o) → hp.Ns1 b (fun y => if y = nm then some u else m y) → R (.ok (.ret .none)) { st with heap := hp, toks := tk }) :
    codeAny (model P w) around (.call (.builtin "object.__setattr__") { pos := [.ref a, .str nm tok, u] }) R st := by
  obtain ⟨ob, _, _, atb, _, _⟩ := old.count wi
  have J : PySem.W.InstAt st.heap a ⟨.ref C, some b, .fields vs, #[]⟩ C (some ob) := ⟨at_, rfl, rfl, atb⟩
  refine walk_set KI J cl isO ps free ?_
  have look := PySem.W.looks_clsIn (M := model P w) KI cl
  obtain ⟨hp, g, dw, t, os⟩ := st
  obtain ⟨c1, c2, c3, c4, c5, c6, c7, c8, c9, c10, c11⟩ := cd
  cases (show c6 = true from hasD)
  unfold storeInOwnDict
  unfold ownDictForStores
  repeat (first | with_reducible refine OEX.store_in_old old wi few ?_ | with_reducible refine look.at ?_ | with_reducible refine wpAny_loadPart_at at_ ?_ | wp_step)
  exact fun hp' t' ns sb => go hp' t' (fun y o hy ho => by rw [sb.2 y hy]; exact ho) ns
end
/-- what the top has written of a class of exceptions -/
structure ExK (K : PySem.W.Frag) (C : Addr) (newId : String) (tl : List Value) : Prop where
  cls : ∃ nm q N bs bm sn sub ab col dd k0 k1 k2 k3 k5, K.lookup C = some (excClassObj nm q C N bs bm true sn sub ab col dd k0 k1 k2 k3 k5 newId) ∧ PySem.W.excTail tl bm = true
  sa : PySem.W.findIn K (.ref C) "__setattr__" = some (some (.builtin "object.__setattr__"))
  isO : PySem.W.mroIn K C (.type "object") = some true
  kC : PySem.W.keepIn K (.ref C) = true
section
open PySem.Builtin PySem.Builtin.ObjectAttr
variable {K : PySem.W.Frag} {C : Addr} {B newId initId : String} {tl : List Value}
/-- its class record, as object.__setattr__ asks it -/
theorem ExK.told (T : ExK K C newId tl) (TT : XEx.Tail B newId initId tl) : ∃ cd, PySem.W.clsIn K C = some cd ∧ cd.hasDict = true ∧ ∀ z, refuseLoop z "__setattr__" cd.mro = pure () := by
  obtain ⟨nm, q, N, bs, bm, sn, sub, ab, col, dd, k0, k1, k2, k3, k5, lk, tail⟩ := T.cls
  refine ⟨_, by unfold PySem.W.clsIn; rw [lk] <;> rfl, rfl, fun z => ?_⟩
  show refuseLoop z "__setattr__" (.ref C :: bm) = pure ()
  rw [refuseLoop_ref]
  exact PySem.W.excTail_pass z (TT.pass z) bm tail
end
section
variable {X : Cx} {pins : List (Addr × Obj)} {σ : L2.St} {H : Hp} {st : Shared} {a C b : Addr} {f : Str} {y : V} {u : Value} {fs : List (Str × V)} {Q : Unit → Shared → Prop} {E : Value → Shared → Prop} {A : Around} {B newId initId : String} {tl : List Value}
/-- self.f = y ahead of all others: the dict comes, then it is self's -/
theorem put_first (TT : XEx.Tail B newId initId tl) (T : ExK X.K C newId tl) (I : Inv X pins σ H st) (at_ : H a = some (exo a C none)) (free : PySem.W.findIn X.K (.ref C) f = some none) (ry : RelV y u)
    (go : ∀ b st', H b = none → b ≠ a → Inv X pins σ (upd (upd H b (exd b [(f, y)])) a (exo a C (some b))) st' → Q () st') : wpAny (model X.prog X.w) A (setAttr (.ref a) f u) Q E st := by
  obtain ⟨cd, cl, hd, ps⟩ := T.told TT
  obtain ⟨t1, ga⟩ := exo_at I.hok at_
  refine PySem.W.set_plain (od := none) I.kIn ⟨ga, rfl, rfl, trivial⟩ T.sa ?_
  refine set_first (st := { st with toks := st.toks + 1 }) I.kIn ga cl hd T.isO ps free fun hp tk b far ne keep here ns => ?_
  -- between the two: the dict is there, self is as it was
  have back : ∀ z o, st.heap.get? z = some o → (hp.update a fun _ => ⟨.ref C, none, .fields #[.ref t1, .none, .none, .none, .bool false, .none], #[]⟩).get? z = some o := fun z o e => by
    by_cases x : z = a
    · subst x
      rw [ga] at e
      rw [← e]
      exact Heap.get?_update_self _ here rfl
    · rw [Heap.get?_update_ne _ _ _ _ x]
      exact keep z o x e
  have rel : ∀ g, RelO (([(f, y)] : List (Str × V)).lookup g) (if g = f then some u else none) := relO_put (fs := []) (mA := fun _ => none) ry fun _ => True.intro
  have I1 := I.laid (t' := tk) (a := b) (o := exd b [(f, y)]) back far (exd_ok (ns.at fun o e => (Heap.get?_update_ne _ _ _ _ ne).trans e) rel)
  refine go b _ (I.hok.fresh far) ne (I1.write (t' := tk) (x := a) (e := a) (o := exo a C (some b)) ?_ (.inl rfl) (fun z o x e => ?_) ⟨_, here⟩ (exo_ok here))
  · rw [upd_ne ne.symm, at_]
    exact True.intro
  · rw [← e]
    exact (Heap.get?_update_ne _ _ _ _ x).symm
/-- .. beside others -/
theorem put_next (TT : XEx.Tail B newId initId tl) (T : ExK X.K C newId tl) (I : Inv X pins σ H st) (at_ : H a = some (exo a C (some b))) (atb : H b = some (exd b fs)) (few : fs.length ≤ 900) (free : PySem.W.findIn X.K (.ref C) f = some none) (ry : RelV y u)
    (go : ∀ st', Inv X pins σ (upd H b (exd b ((f, y) :: fs))) st' → Q () st') : wpAny (model X.prog X.w) A (setAttr (.ref a) f u) Q E st := by
  obtain ⟨cd, cl, hd, ps⟩ := T.told TT
  obtain ⟨t1, ga⟩ := exo_at I.hok at_
  obtain ⟨m, ns, rel⟩ := exd_at I.hok atb
  have wi := within_of rel
  obtain ⟨ob, _, _, gb, _, _⟩ := ns.count wi
  refine PySem.W.set_plain (od := some ob) I.kIn ⟨ga, rfl, rfl, gb⟩ T.sa ?_
  refine set_next (st := { st with toks := st.toks + 1 }) I.kIn ga ns wi (by rw [List.length_map]; omega) cl hd T.isO ps free fun hp tk keep ns' => go _ ?_
  have some_b : ∃ o, hp.get? b = some o := ns'.ns.elim fun o z => z.elim fun _ z => z.elim fun _ z => ⟨o, z.1⟩
  refine I.write (t' := tk) (x := b) (e := b) (o := exd b ((f, y) :: fs)) ?_ (.inl rfl) keep some_b (exd_ok ns' (relO_put ry rel))
  rw [atb]
  exact True.intro
end
/-- self.f = e, self an exception that is being made -/
def tXst (K : PySem.W.Frag) (newId : String) (tl : List Value) (f : Str) (to te : TE) : TS := fun D σ H => te σ H fun y H1 => to σ H1 fun x H2 => ∃ a C : Addr, x = .ref a ∧ ExK K C newId tl ∧ PySem.W.findIn K (.ref C) f = some none ∧
  ((H2 a = some (exo a C none) ∧ ∀ b, H2 b = none → b ≠ a → D.nx σ (upd (upd H2 b (exd b [(f, y)])) a (exo a C (some b)))) ∨
    ∃ (b : Addr) (fs : List (Str × V)), H2 a = some (exo a C (some b)) ∧ H2 b = some (exd b fs) ∧ fs.length ≤ 900 ∧ D.nx σ (upd H2 b (exd b ((f, y) :: fs))))
/-- C(e, ..) as a value, C's own __init__ keeping sp -/
def tXmk (C : Addr) (sp : Sp) (ta : TA) : TE := fun σ H Q => ta σ H fun vs H1 => vs.length ≤ 1000 ∧ ∀ a, H1 a = none → sp (.ref a :: vs) (upd H1 a (exo a C none)) (fun v H2 => v = .non ∧ Q (.ref a) H2) (fun _ _ _ => False)
section
variable {X : Cx} {o e : Expr} {es : List Expr} {to te : TE} {ta : TA} {f x : Str} {p p' p1 p2 pos : Pos} {B newId initId : String} {tl : List Value}
theorem ps_xst (TT : XEx.Tail B newId initId tl) (ho : PE X o to) (he : PE X e te) (hs : swapsWith e (some (.Attribute o f p')) pos.line X.env = pure false := by rfl) : PS X (.Assign [.Attribute o f p'] e pos) (tXst X.K newId tl f to te) where
  run pins s0 σ H D I h := by
    refine plainObj_wpAny_Assign_Attribute ?_ hs
    refine thn (he.run pins s0 σ H _ I h) fun u s1 ⟨y, H1, I1, ry, h1⟩ => ?_
    refine thn (ho.run pins s1 σ H1 _ I1 h1) fun ua s2 ⟨xa, H2, I2, rx, a, C, xe, T, free, q⟩ => ?_
    cases xe
    cases (show ua = Value.ref a from rx)
    cases q with
    | inl q => exact put_first TT T I2 q.1 free ry fun b st' n ne J => ⟨σ, _, J, q.2 b n ne⟩
    | inr q =>
      obtain ⟨b, fs, at_, atb, few, q⟩ := q
      exact put_next TT T I2 at_ atb few free ry fun st' J => ⟨σ, _, J, q⟩
theorem pe_xmk {C fI : Addr} {k : Nat} {fd : FuncData} {ps : List Str} {sp : Sp} (TT : XEx.Tail B newId initId tl) (T : ExK X.K C newId tl) (iC : PySem.W.findIn X.K (.ref C) "__init__" = some (some (.ref fI))) (tI : PySem.W.typeIn X.K (.ref fI) = some (.type "function"))
    (Fi : FnOk X.prog X.w X.K X.mg X.base CX0 k fI fd ps sp) (room : Room (k + 1) X.A) (bi : Binds X.K fd ps []) (gl : Gl X x) (gm : X.mg x = some (.ref C)) (ha : PA X (e :: es) ta)
    (d1 : (x == ("__debug__" : Str)) = false := by decide) (d2 : starEach (e :: es) X.env = (false, eval e X.env) :: starEach es X.env := by rfl) (d3 : (backTo pos (starEach es X.env)).any (·.1) = false := by rfl) :
    PE X (.Call (.Name x p) (e :: es) [] pos) (tXmk C sp ta) where
  run pins s0 σ H Q I h := by
    obtain ⟨nm, q, N, bs, bm, sn, sub, ab, col, dd, k0, k1, k2, k3, k5, lk, tail⟩ := T.cls
    refine wpAny_Call_Name_kw (ld_glob I gl gm (PySem.W.callWith_K (h₀ := X.base) I.ok.mod.kin T.kC ?_ d2 d3) d1)
    refine thn (ha.run pos pins s0 σ H _ I h) fun us s1 ⟨vs, H1, I1, rs, few, go⟩ => ⟨I1.kIn, ?_⟩
    -- the tuple of its arguments, then self
    have up : s1.heap.objs.size ≤ s1.heap.objs.size + 1 := Nat.le_succ _
    have q := go (s1.heap.objs.size + 1) (I1.hok.fresh up)
    have self : ((s1.heap.push (PySem.W.kdv_tup us)).push (HandSPX.excO C s1.heap.objs.size)).get? (s1.heap.objs.size + 1) = some (HandSPX.excO C s1.heap.objs.size) := by heap_get
    have I2 := I1.laid (t' := s1.toks) (a := s1.heap.objs.size + 1) (o := exo (s1.heap.objs.size + 1) C none) (h' := (s1.heap.push (PySem.W.kdv_tup us)).push (HandSPX.excO C s1.heap.objs.size)) (fun z o y => Heap.get?_push_of_some _ (Heap.get?_push_of_some _ y)) up (exo_ok self)
    have rs2 : Vals (V.ref (s1.heap.objs.size + 1) :: vs) (Value.ref (s1.heap.objs.size + 1) :: us) := .cons rfl rs
    have many : (Value.ref (s1.heap.objs.size + 1) :: us).length = ps.length := rs2.length.symm.trans (Fi.len _ _ _ _ q)
    have bd := bi { s1 with heap := (s1.heap.push (PySem.W.kdv_tup us)).push (HandSPX.excO C s1.heap.objs.size) } _ I2.kIn ((congrArg List.length (List.append_nil _)).trans many)
    rw [List.append_nil] at bd
    have few' : us.length ≤ sizeLine := by
      have := rs.length
      rw [sizeLine_eq]
      omega
    refine wpAny_call (HandSPX.call_own TT.base (fun Y => PySem.W.excTail_contains Y bm tail) (I1.kIn _ _ lk) (PySem.W.looks_findIn I1.kIn iC) (fun z => PySem.W.bind_fn I1.kIn z tI) few' ?_)
    refine codeAny_mono (Fi.run _ X.stack _ _ { pos := Value.ref (s1.heap.objs.size + 1) :: us } _ _ _ (fun _ _ _ => False) (room.make C us []) (I2.env0.make C us []) bd rs2 q) fun r s2 back => ?_
    match r, back with
    | .ok (.ret v), ⟨_, H2, os2, bare2, un2, hok2, rv, ve, q2⟩ =>
      cases ve
      exact ⟨rv, .ref _, H2, I2.call' (ch := []) os2 un2 hok2 bare2 (fun b z => absurd z (by simp)), rfl, q2⟩
    | .error _, back => exact back.elim
    | .ok .next, back => exact back.elim
    | .ok .brk, back => exact back.elim
    | .ok .cont, back => exact back.elim
/-- C() where C has no own __init__ -/
theorem pe_xmk0 {C : Addr} {bmB : List Value} (F : ExcBaseFacts B newId initId bmB) (q : PySem.W.excIn X.K C bmB newId = true) (gC : X.mg x = some (.ref C)) (kC : PySem.W.keepIn X.K (.ref C) = true) (hg : Gl X x)
    (hdb : (x == ("__debug__" : Str)) = false := by decide) : PE X (.Call (.Name x p) [] [] pos) (fun σ H Q => ∀ a, H a = none → Q (.ref a) (upd H a (ExO (.ref C) a))) where
  run pins s0 σ H Q I h := by
    refine wpAny_Call_Name_kw (ld_glob I hg gC (PySem.W.callWith_K0 I.kIn kC ?_) hdb)
    obtain ⟨bm, N, nm, qn, bs, hdct, sn, sub, ab, col, dd, k0, k1, k2, k3, k5, mN, lk, ns, ni, T⟩ := exc_obj I.kIn q
    refine wpAny_call_exc_subT F T lk ns ni (fun hp a made => ?_) (Nat.zero_le _)
    obtain ⟨t1, at_, _, _⟩ := made.there
    exact ⟨.ref a, upd H a (ExO (.ref C) a), I.laidN made.keeps made.new (I.hok.gone made.new) (exO_ok at_ ⟨rfl, rfl⟩ rfl rfl rfl (show 4 < 6 by decide)), rfl, h a (I.hok.gone made.new)⟩
end

/-! ### fields, isinstance -/
/-- e.f, e an exception that has a dict -/
def tXfl (K : PySem.W.Frag) (te : TE) (f : Str) : TE := fun σ H Q => te σ H fun x H1 => ∃ (a C d : Addr) (fs : List (Str × V)) (v : V), x = .ref a ∧ H1 a = some (exo a C (some d)) ∧ H1 d = some (exd d fs) ∧ XfC K C ∧ PySem.W.findIn K (.ref C) f = some none ∧ fs.lookup f = some v ∧ Q v H1
theorem pe_xfl {X : Cx} {e : Expr} {te : TE} {f : Str} {pos : Pos} (he : PE X e te) (hb : attributeBase e f X.env (eval e X.env) = eval e X.env := by rfl) : PE X (.Attribute e f pos) (tXfl X.K te f) where
  run pins s0 σ H Q I h := attr_of hb (thn (he.run pins s0 σ H _ I h) fun ua s1 ⟨x, H1, I1, rx, a, C, d, fs, v, ex, ea, ed, T, free, l, q⟩ => by
    cases ex
    cases (show ua = Value.ref a from rx)
    obtain ⟨m, ns, rel⟩ := exd_at I1.hok ed
    obtain ⟨t1, at_⟩ := exo_at I1.hok ea
    obtain ⟨od, atd, look⟩ := lookIn_ns ns
    have has := rel f
    rw [l] at has
    obtain ⟨z, hz, rz⟩ := RelO.some_of has
    exact HandSPX.exc_get I1.kIn (od := some od) ⟨at_, rfl, rfl, atd⟩ T.ga T.gg T.exC (PySem.W.findObj_own T.hdC free rfl ((look f).trans (congrArg some hz))) (handed_of rz) ⟨v, H1, I1.tok _, rz, q⟩)
end X3
namespace X3
open PySem PySem.Spec PyProof.Rows L2
/-- an exception of the class at D stands at a -/
def ExAt (H : Hp) (a D : Addr) : Prop := H a = some (ExO (.ref D) a) ∨ ∃ d, H a = some (exo a D (some d)) ∧ ∃ fs, H d = some (exd d fs)
theorem exAt_inst {X : Cx} {pins : List (Addr × Obj)} {σ : L2.St} {H : Hp} {s : Shared} {a D : Addr} (I : Inv X pins σ H s) (h : ExAt H a D) : ∃ ox od, PySem.W.InstAt s.heap a ox D od := by
  rcases h with h | ⟨d, h, fs, hd⟩
  · obtain ⟨⟨oe, vs, ho, hz, hd, _⟩, _, _⟩ := I.hok a _ h
    obtain ⟨oc, oda, odt, osl⟩ := oe
    obtain ⟨h1, h2⟩ := hz
    dsimp only at h1 h2 hd
    subst h1 h2 hd
    exact ⟨_, none, ho, rfl, rfl, trivial⟩
  · obtain ⟨t1, ho⟩ := exo_at I.hok h
    obtain ⟨mA, hns, hr⟩ := exd_at I.hok hd
    obtain ⟨od, hod, _⟩ := lookIn_ns hns
    exact ⟨_, some od, ho, rfl, rfl, hod⟩
theorem kit_ex {K : PySem.W.Frag} {a D : Addr} {ox : Obj} {od : Option Obj} (C : ExcC K D) : PySem.W.KitX K (.ref a) (.ref D) (fun h => PySem.W.InstAt h a ox D od) :=
  PySem.W.kitx_exc (by obtain ⟨cd, h, _⟩ := PySem.W.any_some C.hd; rw [h]; rfl) C.hg C.hk C.hs C.ha C.hn C.ht C.hm
/-- isinstance(e, c), isinstance(e, (c, ..)) of an exception -/
def rIsX (K : PySem.W.Frag) : List V → Hp → VK → Prop := fun xs H Q => ∃ (a D : Addr) (c : V) (u : Value) (b : Bool), xs = [.ref a, c] ∧ ExAt H a D ∧ ExcC K D ∧ ClsV c u ∧ PySem.W.kitOne K (.ref D) u = some b ∧ Q (.bl b) H
def rIsXT (K : PySem.W.Frag) : List V → Hp → VK → Prop := fun xs H Q => ∃ (a D tp : Addr) (cs : List V) (us : List Value) (b : Bool), xs = [.ref a, .ref tp] ∧ SqT K H tp cs ∧ Paired ClsV cs us ∧ ExAt H a D ∧ ExcC K D ∧ PySem.W.kitAny K (.ref D) us = some b ∧ Q (.bl b) H
theorem call_isX {X : Cx} : CallR X (.builtin "isinstance") (rIsX X.K) := by
  intro pins st σ H xs us Q I r h
  obtain ⟨a, D, c, u, b, rfl, ea, C, k, e, q⟩ := h
  obtain ⟨ua, uc, rfl, r1, r2⟩ := vals2 r
  have e2 := k.eq r2
  subst e2
  cases (show ua = Value.ref a from r1)
  obtain ⟨ox, od, J⟩ := exAt_inst I ea
  exact PySem.W.kia_one (kit_ex C) I.kIn J e (fun z => nomatch z) fun tk => ⟨.bl b, H, I.tok tk, rfl, q⟩
theorem call_isXT {X : Cx} : CallR X (.builtin "isinstance") (rIsXT X.K) := by
  intro pins st σ H xs us Q I r h
  obtain ⟨a, D, tp, cs, ws, b, rfl, hT, k, ea, C, e, q⟩ := h
  obtain ⟨ua, uc, rfl, r1, r2⟩ := vals2 r
  cases (show uc = Value.ref tp from r2)
  cases (show ua = Value.ref a from r1)
  obtain ⟨its, rv, ⟨o, h1, h2, n, h3⟩, _⟩ := I.tuple hT
  have e3 := ClsV.all k rv
  subst e3
  obtain ⟨oc, od, dt, sl⟩ := o
  simp only at h2 h3
  subst h2 h3
  obtain ⟨ox, od', J⟩ := exAt_inst I ea
  exact PySem.W.kia_tup (kit_ex C) I.kIn J h1 e (fun z => nomatch z) fun tk => ⟨.bl b, H, I.tok tk, rfl, q⟩
/-- .. over data -/
theorem exAt_of {K : PySem.W.Frag} {G H : Hp} {v : V} {D : Addr} {fs : Option (List (Str × X3.D))} (le : Le G H) (h : Dat K G v (.exc D fs)) : ∃ a, v = .ref a ∧ ExAt H a D := by
  cases h with
  | exc0 h => exact ⟨_, rfl, .inl (le _ _ h)⟩
  | exc1 h1 h2 _ => exact ⟨_, rfl, .inr ⟨_, le _ _ h1, _, le _ _ h2⟩⟩
theorem lookup_cons {α : Type} (f g : Str) (y : α) (fs : List (Str × α)) : ((f, y) :: fs).lookup g = if g = f then some y else fs.lookup g := by
  by_cases h : g = f
  · rw [if_pos h, h]
    simp [List.lookup]
  · rw [if_neg h]
    have e : (g == f) = false := by simpa using h
    simp [List.lookup, e]
theorem DatF.lookup {K : PySem.W.Frag} {G : Hp} {f : Str} {y : X3.D} : ∀ {vs : List (Str × V)} {ds : List (Str × X3.D)}, DatF K G vs ds → ds.lookup f = some y → ∃ u, vs.lookup f = some u ∧ Dat K G u y
  | _, _, .nil, l => by cases l
  | _, _, .cons (k := k) (v := v) h r, l => by
    rw [lookup_cons] at l
    by_cases e : f = k
    · rw [if_pos e] at l
      cases l
      exact ⟨v, by rw [lookup_cons, if_pos e], h⟩
    · rw [if_neg e] at l
      obtain ⟨u, h1, h2⟩ := DatF.lookup r l
      exact ⟨u, by rw [lookup_cons, if_neg e]; exact h1, h2⟩
section
variable {K : PySem.W.Frag} {S : Res} {ρ : Rho} {Q : X3.D → Prop}
theorem wc_isX {C : Addr} {fs : Option (List (Str × X3.D))} {c : V} {u : Value} {b : Bool} (hc : ExcC K C) (k : ClsV c u) (e : PySem.W.kitOne K (.ref C) u = some b) (q : Q (.bl b)) : WRC K S (rIsX K) [.exc C fs, .val c] Q := fun G H vs kk w dx cc => by
  cases dx with
  | cons a r =>
    cases r with
    | cons a2 r =>
      cases r
      cases a2
      obtain ⟨p, rfl, ea⟩ := exAt_of w.le a
      exact ⟨p, C, c, u, b, rfl, ea, hc, k, e, cc _ _ G H (.refl w) (.bl b) q⟩
/-- e.f -/
theorem we_xfl {te : TE} {f : Str} (h : WE K S te ρ fun d => ∃ C fs y, d = .exc C (some fs) ∧ XfC K C ∧ PySem.W.findIn K (.ref C) f = some none ∧ fs.lookup f = some y ∧ Q y) : WE K S (tXfl K te f) ρ Q := fun σ G H k w sl c =>
  h σ G H _ w sl fun v d G' H' s dt q => by
    obtain ⟨C, fs, y, rfl, T, hno, l, q⟩ := q
    cases dt with
    | exc1 h1 h2 r =>
      obtain ⟨u, hu, du⟩ := r.lookup l
      exact ⟨_, C, _, _, u, rfl, s.w.le _ _ h1, s.w.le _ _ h2, T, hno, hu, c u y G' H' s du q⟩
/-- C() -/
theorem we_xmk0 {C : Addr} (q : Q (.exc C none)) : WE K S (fun σ H Q => ∀ a, H a = none → Q (.ref a) (upd H a (ExO (.ref C) a))) ρ Q := fun σ G H k w sl c => by
  intro a ha
  exact c _ _ _ _ (.new w ha) (.exc0 upd_same) q
end
end X3

set_option Elab.async false
set_option linter.all false
set_option maxRecDepth 100000
set_option maxHeartbeats 4000000
/-! # The own __init__ of an exception, over data -/
namespace X3
open PySem PySem.Spec PyProof.Rows L2
section
variable {K : PySem.W.Frag} {S : Res} {G Hc G1 H1 : Hp} {a C dx : Addr} {newId : String} {tl : List Value} {Q : VK}
/-- the exception and its dict become data -/
theorem stp_exc {fs : List (Str × V)} (w : Wld S G Hc) (ha : Hc a = none) (s : Stp S G (upd Hc a (exo a C none)) G1 H1) (hd : H1 dx = none) (hne : dx ≠ a) :
    Stp S G Hc (upd (upd G1 dx (exd dx fs)) a (exo a C (some dx))) (upd (upd H1 dx (exd dx fs)) a (exo a C (some dx))) := by
  have na : ¬ S.fp a := w.nfp ha
  have nd : ¬ S.fp dx := s.w.nfp hd
  have ga : G1 a = none := by
    cases e : G1 a with
    | none => rfl
    | some o =>
      rcases s.nw a o e with z | z
      · rw [w.fresh ha] at z
        cases z
      · rw [upd_same] at z
        cases z
  have hdc : Hc dx = none := by
    cases e : Hc dx with
    | none => rfl
    | some o =>
      have z := s.hh dx o nd (by rw [upd_ne hne]; exact e)
      rw [hd] at z
      cases z
  refine ⟨fun b o e => ?_, fun b o nf e => ?_, fun b o e => ?_, ⟨fun b o e => ?_, ?_, fun b f => ?_⟩⟩
  · have e1 := s.gg b o e
    rw [upd_ne (ne_of_none e1 ga), upd_ne (ne_of_none e1 (s.w.fresh hd))]
    exact e1
  · have e1 := s.hh b o nf (by rw [upd_ne (ne_of_none e ha)]; exact e)
    rw [upd_ne (ne_of_none e ha), upd_ne (ne_of_none e1 hd)]
    exact e1
  · by_cases x : b = a
    · exact .inr (by rw [x]; exact ha)
    · rw [upd_ne x] at e
      by_cases y : b = dx
      · exact .inr (by rw [y]; exact hdc)
      · rw [upd_ne y] at e
        rcases s.nw b o e with z | z
        · exact .inl z
        · rw [upd_ne x] at z
          exact .inr z
  · by_cases x : b = a
    · subst x
      rw [upd_same] at e ⊢
      exact e
    · rw [upd_ne x] at e ⊢
      by_cases y : b = dx
      · subst y
        rw [upd_same] at e ⊢
        exact e
      · rw [upd_ne y] at e ⊢
        exact s.w.le b o e
  · refine S.loc H1 _ (fun b f => ?_) s.w.src
    rw [upd_ne (fun z : b = a => na (by rw [← z]; exact f)), upd_ne (fun z : b = dx => nd (by rw [← z]; exact f))]
  · rw [upd_ne (fun z : b = a => na (by rw [← z]; exact f)), upd_ne (fun z : b = dx => nd (by rw [← z]; exact f))]
    exact s.w.sep b f
theorem exo_there (w : Wld S G Hc) (ha : Hc a = none) (s : Stp S G (upd Hc a (exo a C none)) G1 H1) : H1 a = some (exo a C none) := s.hh a _ (w.nfp ha) upd_same
theorem wld_exo (w : Wld S G Hc) (ha : Hc a = none) : Wld S G (upd Hc a (exo a C none)) := (Stp.junk w (Le.new ha)).w
/-- self.f = te, and no more -/
def spX1 (K : PySem.W.Frag) (newId : String) (tl : List Value) (f : Str) (P : X3.D → (X3.D → Prop) → Prop) : Sp := fun vs H Q _ => ∃ (a C : Addr) (v : V) (S : Res) (G Hc : Hp) (d : X3.D) (q : X3.D → Prop),
  vs = [.ref a, v] ∧ Hc a = none ∧ H = upd Hc a (exo a C none) ∧ ExK K C newId tl ∧ PySem.W.findIn K (.ref C) f = some none ∧ Wld S G Hc ∧ Dat K G v d ∧ P d q ∧ ∀ dy G2 H2, Stp S G Hc G2 H2 → Dat K G2 (.ref a) (.exc C (some [(f, dy)])) → q dy → Q .non H2
theorem read_x1 {f : Str} {te : TE} {P : X3.D → (X3.D → Prop) → Prop} {vs : List V} {H : Hp} {E : XK} (h : spX1 K newId tl f P vs H Q E) (ht : ∀ S d q, P d q → WE K S te [.no, .dat d] q) (N : List Str) (hN : N.length = 2) :
    tXst K newId tl f (tVar 0) te { nx := fun _ H' => Q .non H', rt := Q } (L2.start N vs) H := by
  obtain ⟨a, C, v, S, G, Hc, d, q, rfl, ha, rfl, T, hno, w, dt, hp, k⟩ := h
  have hst : L2.start N [.ref a, v] = [some (.ref a), some v] := by
    unfold L2.start
    rw [hN]
    rfl
  rw [hst]
  have sl : Slots K G [some (.ref a), some v] [.no, .dat d] := ⟨rfl, fun i d' e => by
    match i, e with
    | 0, e => cases e
    | 1, e =>
      cases e
      exact ⟨v, rfl, dt⟩⟩
  refine ht S d q hp _ G _ _ (wld_exo w ha) sl fun y dy G1 H1 s dty qy => ?_
  refine ⟨_, rfl, a, C, rfl, T, hno, .inl ⟨exo_there w ha s, fun dx hd hne => ?_⟩⟩
  have le1 : Le G1 (upd (upd G1 dx (exd dx [(f, y)])) a (exo a C (some dx))) := by
    intro b o e
    have x : b ≠ a := fun z => by
      subst z
      rcases s.nw b o e with z | z
      · rw [w.fresh ha] at z
        cases z
      · rw [upd_same] at z
        cases z
    rw [upd_ne x, upd_ne (ne_of_none e (s.w.fresh hd))]
    exact e
  exact k dy _ _ (stp_exc w ha s hd hne) (.exc1 upd_same (by rw [upd_ne hne, upd_same]) (.cons (dty.mono le1) .nil)) qy
/-- C(e) -/
theorem we_x1 {tA : TA} {f : Str} {P : X3.D → (X3.D → Prop) → Prop} {ρ : Rho} {q : X3.D → Prop} (T : ExK K C newId tl) (hno : PySem.W.findIn K (.ref C) f = some none) (h : WA K S tA ρ fun ds => ∃ d, ds = [d] ∧ P d fun dy => q (.exc C (some [(f, dy)]))) :
    WE K S (tXmk C (spX1 K newId tl f P) tA) ρ q := fun σ G H k w sl c => by
  refine h σ G H _ w sl fun vs ds G' H' s dt q' => ?_
  obtain ⟨d, rfl, hp⟩ := q'
  cases dt with
  | cons dv r =>
    cases r
    refine ⟨(by show 1 ≤ 1000; decide), fun a ha => ⟨a, C, _, S, G', H', d, _, rfl, ha, rfl, T, hno, s.w, dv, hp, fun dy G2 H2 s2 d2 q2 => ⟨rfl, ?_⟩⟩⟩
    exact c _ _ G2 H2 (s.trans s2) d2 q2
/-- self.f = a; self.g = b -/
def spX2 (K : PySem.W.Frag) (newId : String) (tl : List Value) (f g : Str) : Sp := fun vs H Q _ => ∃ (a C : Addr) (v1 v2 : V) (S : Res) (G Hc : Hp) (d1 d2 : X3.D),
  vs = [.ref a, v1, v2] ∧ Hc a = none ∧ H = upd Hc a (exo a C none) ∧ ExK K C newId tl ∧ PySem.W.findIn K (.ref C) f = some none ∧ PySem.W.findIn K (.ref C) g = some none ∧ Wld S G Hc ∧ Dat K G v1 d1 ∧ Dat K G v2 d2 ∧ ∀ G2 H2, Stp S G Hc G2 H2 → Dat K G2 (.ref a) (.exc C (some [(g, d2), (f, d1)])) → Q .non H2
theorem read_x2 {f g : Str} {vs : List V} {H : Hp} {E : XK} (h : spX2 K newId tl f g vs H Q E) (N : List Str) (hN : N.length = 3) :
    tSeq (tXst K newId tl f (tVar 0) (tVar 1)) (tXst K newId tl g (tVar 0) (tVar 2)) { nx := fun _ H' => Q .non H', rt := Q } (L2.start N vs) H := by
  obtain ⟨a, C, v1, v2, S, G, Hc, d1, d2, rfl, ha, rfl, T, hf, hg, w, dt1, dt2, k⟩ := h
  have hst : L2.start N [.ref a, v1, v2] = [some (.ref a), some v1, some v2] := by
    unfold L2.start
    rw [hN]
    rfl
  rw [hst]
  have s : Stp S G (upd Hc a (exo a C none)) G (upd Hc a (exo a C none)) := .refl (wld_exo w ha)
  refine ⟨_, rfl, _, rfl, a, C, rfl, T, hf, .inl ⟨upd_same, fun dx hd hne => ?_⟩⟩
  refine ⟨_, rfl, _, rfl, a, C, rfl, T, hg, .inr ⟨dx, [(f, v1)], upd_same, by rw [upd_ne hne, upd_same], (by show 1 ≤ 900; decide), ?_⟩⟩
  have st := stp_exc (fs := [(g, v2), (f, v1)]) w ha s hd hne
  have eq : upd (upd (upd (upd Hc a (exo a C none)) dx (exd dx [(f, v1)])) a (exo a C (some dx))) dx (exd dx [(g, v2), (f, v1)]) = upd (upd (upd Hc a (exo a C none)) dx (exd dx [(g, v2), (f, v1)])) a (exo a C (some dx)) := by
    funext b
    by_cases x : b = dx
    · subst x
      rw [upd_same, upd_ne hne, upd_same]
    · rw [upd_ne x]
      by_cases y : b = a
      · subst y
        rw [upd_same, upd_same]
      · simp only [upd_ne y, upd_ne x]
  rw [eq]
  have le1 : Le G (upd (upd G dx (exd dx [(g, v2), (f, v1)])) a (exo a C (some dx))) := st.gg
  exact k _ _ st (.exc1 upd_same (by rw [upd_ne hne, upd_same]) (.cons (dt2.mono le1) (.cons (dt1.mono le1) .nil)))
theorem we_x2 {tA : TA} {f g : Str} {ρ : Rho} {q : X3.D → Prop} (T : ExK K C newId tl) (hf : PySem.W.findIn K (.ref C) f = some none) (hg : PySem.W.findIn K (.ref C) g = some none) (h : WA K S tA ρ fun ds => ∃ d1 d2, ds = [d1, d2] ∧ q (.exc C (some [(g, d2), (f, d1)]))) :
    WE K S (tXmk C (spX2 K newId tl f g) tA) ρ q := fun σ G H k w sl c => by
  refine h σ G H _ w sl fun vs ds G' H' s dt q' => ?_
  obtain ⟨d1, d2, rfl, hp⟩ := q'
  cases dt with
  | cons dv r =>
    cases r with
    | cons dv2 r =>
      cases r
      refine ⟨(by show 2 ≤ 1000; decide), fun a ha => ⟨a, C, _, _, S, G', H', d1, d2, rfl, ha, rfl, T, hf, hg, s.w, dv, dv2, fun G2 H2 s2 dd => ⟨rfl, ?_⟩⟩⟩
      exact c _ _ G2 H2 (s.trans s2) dd hp
end
end X3

set_option Elab.async false
set_option linter.all false
set_option maxRecDepth 100000
set_option maxHeartbeats 4000000
/-! # Defs that ask repr: promises where no repr runs around; the law's own end -/
namespace X3
open PySem PySem.Spec L2 PyProof.Rows
/-- a def's promise, kept where nothing is being shown (no guard is held) -/
structure FnG (P : Program) (w : World) (K : PySem.W.Frag) (mg : Str → Option Value) (base : Heap) (CX : CXT) (k : Nat) (f : Addr) (fd : FuncData) (ps : List Str) (sp : Sp) : Prop where
  many : ∀ {vs H Q E}, sp vs H Q E → vs.length = ps.length
  keeps : ∀ {A : Around} {out : List Env} {st : Shared} {H : Hp} {us : List Value} {vs : List V} {Q : VK} {E : XK}, A.guards = some [] → Room k A → Env0 P w K mg base A out st H → BindsTo st fd { pos := us } (ps.zip us) → Vals vs us → sp vs H Q E →
    codeAny (model P w) A (.call (.ref f) { pos := us }) (CR CX out P w H st Q E) st
section
variable {P : Program} {w : World} {K : PySem.W.Frag} {mg : Str → Option Value} {base : Heap} {x qual : Str} {dstm : Stmt} {f : Addr} {fd : FuncData} {N ps : List Str} {k : Nat} {sp : Sp}
theorem Fun.okG (F : Fun K x qual dstm f fd) (sc : FnScope N ps (defScope dstm)) (many : ∀ vs H Q E, sp vs H Q E → vs.length = ps.length)
    (body : ∀ (cv : Value) (A : Around) (out : List Env) (st : Shared) (H : Hp) (vs : List V) (Q : VK) (E : XK), A.guards = some [] → Room k (A.deeper (envOfC qual (defScope dstm) st.heap.objs.size f cv)) → sp vs H Q E →
      ∃ t, PSs (cxOf CX0 P w K mg base N qual (defScope dstm) f cv A out st H E).nox (defBody dstm) t ∧ t { nx := fun _ H' => Q .non H', rt := Q } (start N vs) H) : FnG P w K mg base CX0 (k + 1) f fd ps sp where
  many h := many _ _ _ _ h
  keeps {A out st H us vs Q E} guard room e0 bound rs want := by
    obtain ⟨c0, d0, v1, v2, v3, a0, cv, v4, sl, rfl, lk, code⟩ := F.ex
    have here : ∀ b o, base.get? b = some o → st.heap.get? b = some o := fun b o e => (e0.bs b o e).1
    have KH := e0.mod.kin.keeps here
    refine codeAny_call_function (room.depth) (KH _ _ lk) rfl sc.co sc.gen rfl (PySem.W.codeRec_of KH code) (bound _ _ _ _ ?_)
    refine wpAny_newFunctionEnv_cells sc.kind (fun y hy => ?_) fun env same st1 ne => ?_
    · cases sc.par y.1 (List.of_mem_zip (a := y.1) (b := y.2) hy).1 with
      | inl z => exact .inl z
      | inr z => exact .inr ⟨z, PySem.W.cellsFrom_some _ _ _ (.inl z)⟩
    · cases same
      obtain ⟨t, der, rd⟩ := body cv A out st H vs Q E guard (room.deeper _) want
      have lim := (e0.mod.nolimit.keeps here).keeps ne.toInCall.keep
      have at_start := inv_start (CX := CX0) (E := E) sc room.hd e0 (many _ _ _ _ want) rs ne
      refine ⟨lim, codeAny_func (wpAny_mono (der.nox.run [] st1 (start N vs) H _ at_start rd) (fun fl st2 z => ?_) fun _ _ z => z)⟩
      match fl, z with
      | .ret u, ⟨v, _, H2, J, rv, q⟩ => exact ⟨v, H2, J.os, J.bare, J.base, J.hok, rv, q⟩
      | .next, ⟨_, H2, J, q⟩ => exact ⟨.non, H2, J.os, J.bare, J.base, J.hok, rfl, q⟩
      | .brk, ⟨_, _, _, no⟩ => exact (show False from no).elim
      | .cont, ⟨_, _, _, no⟩ => exact (show False from no).elim
end
section
variable {X : Cx} {k : Nat} {f : Addr} {fd : FuncData} {ps : List Str} {sp : Sp} {E : XK} {x : Str} {p pos : Pos} {e : Expr} {es : List Expr} {t : TA}
theorem pe_callG (F : FnG X.prog X.w X.K X.mg X.base CX0 k f fd ps sp) (guard : X.A.guards = some []) (room : Room k X.A) (gl : Gl X x) (gm : X.mg x = some (.ref f)) (kp : PySem.W.keepIn X.K (.ref f) = true) (bi : Binds X.K fd ps []) (ha : PA X (e :: es) t)
    (d1 : (x == ("__debug__" : Str)) = false := by decide) (d2 : starEach (e :: es) X.env = (false, eval e X.env) :: starEach es X.env := by rfl) (d3 : (backTo pos (starEach es X.env)).any (·.1) = false := by rfl) :
    PE X (.Call (.Name x p) (e :: es) [] pos) (tCall sp [] E t) where
  run pins s0 σ H Q I h := by
    refine wpAny_Call_Name_kw (ld_glob I gl gm (PySem.W.callWith_K (h₀ := X.base) I.ok.mod.kin kp ?_ d2 d3) d1)
    refine thn (ha.run pos pins s0 σ H _ I h) fun us s1 ⟨vs, H1, I1, rs, want⟩ => ⟨I1.kIn, ?_⟩
    have want : sp vs H1 Q E := List.append_nil vs ▸ want
    have bd := bi s1 us I1.kIn ((congrArg List.length (List.append_nil us)).trans (rs.length.symm.trans (F.many want)))
    rw [List.append_nil] at bd
    refine wpAny_call (codeAny_mono (F.keeps (out := X.stack) guard room I1.env0 bd rs want) fun r s2 back => ?_)
    match r, back with
    | .ok (.ret _), back => exact I1.after back
    | .error _, no => exact no.elim
    | .ok .next, no => exact no.elim
    | .ok .brk, no => exact no.elim
    | .ok .cont, no => exact no.elim
end
/-- at the address of sys.modules stands a dict -/
def One (h : Heap) : Prop := ∃ o es ep, h.get? sysModules = some o ∧ o.data = .dict es ep
/-- the law's call: the script alone is tracked, and read only -/
theorem law_callG {P : Program} {w : World} {K : PySem.W.Frag} {mg mb : Str → Option Value} {k : Nat} {fa a : Addr} {fd : FuncData} {x : Str} {sp : Sp} {st : Shared} {us : List Value} {ns : List Int}
    (KI : K.In st.heap) (gns : st.heap.Ns mainGlobals mg) (bns : st.heap.Ns builtinsNs mb) (blt : ∀ y : Str, y ≠ "__name__" → mb y = bootBuiltins y) (lim : st.heap.NoLimit) (bare : st.gens = #[]) (at_ : st.heap.get? a = some { cls := .type "list", data := .seq us.toArray })
    (allI : IntsAre us ns) (few : ns.length ≤ sizeLine) (room : Room k callerA) (one : One st.heap) (F : ∀ base : Heap, K.In base → base.Ns mainGlobals mg → One base → FnG P w K mg base CX0 k fa fd [x] sp) (bi : ∀ (s : Shared) (u : Value), BindsTo s fd { pos := [u] } [(x, u)])
    (want : ∀ H : Hp, SqL K H a (ns.map V.int) → sp [.ref a] H (fun v _ => v = .bl true) fun _ _ _ => False) :
    codeAny (model P w) callerA (.call (.ref fa) { pos := [.ref a] }) (fun r s2 => r = .ok (.ret (.bool true)) ∧ OldK st.heap s2.heap ∧ s2.os = st.os ∧ AllBare s2.gens) st := by
  have rs := vals_ints allI
  let ob : Obj := { cls := .type "list", data := .seq us.toArray }
  -- what is told: the script, unless the written part holds it
  let H : Hp := fun b => if b = a ∧ K.lookup a = none then some (.frz ob (.lst (ns.map V.int))) else none
  have told : ∀ {b o}, H b = some o → b = a ∧ K.lookup a = none ∧ o = .frz ob (.lst (ns.map V.int)) := fun {b o} e => by
    have e' : (if b = a ∧ K.lookup a = none then some (HO.frz ob (.lst (ns.map V.int))) else none) = some o := e
    split at e'
    · rename_i c
      exact ⟨c.1, c.2, (Option.some.inj e').symm⟩
    · cases e'
  have sees : SqL K H a (ns.map V.int) := by
    cases lk : K.lookup a with
    | none => exact .inl (.inr ⟨ob, if_pos ⟨rfl, lk⟩⟩)
    | some o =>
      have e := KI a o lk
      have e : ob = o := Option.some.inj (at_.symm.trans e)
      have size : us.toArray.size ≤ sizeLine := by
        rw [List.size_toArray, allI.length]
        exact few
      exact .inr ⟨ob, us.toArray, _, e ▸ lk, rfl, rfl, rfl, size, by simpa using rs⟩
  have okH : HOk P w H st.heap := fun b o e => by
    obtain ⟨z, _, z2⟩ := told e
    rw [z, z2]
    exact ⟨at_, (List.length_map (V.int)).symm ▸ few, us, _, rs, at_⟩
  have untold : ∀ {b o}, st.heap.get? b = some o → o ≠ ob → H b = none := fun {b o} e ne => by
    cases q : H b with
    | none => rfl
    | some z =>
      rw [(told q).1, at_] at e
      exact absurd (Option.some.inj e).symm ne
  have nsH : ∀ {b m}, st.heap.Ns b m → (hidT st.heap H).Ns b m := fun {b m} ⟨o, es, ep, e, dt, r⟩ => ⟨o, es, ep, hidT_get e (untold e fun z => by rw [z] at dt; cases dt), dt, r⟩
  have KB : K.In (hidT st.heap H) := fun b o lk => by
    refine hidT_get (KI b o lk) ?_
    cases q : H b with
    | none => rfl
    | some z =>
      obtain ⟨y, no, _⟩ := told q
      rw [y, no] at lk
      cases lk
  have top : Mod K mg (hidT st.heap H) := ⟨KB, nsH gns, ⟨mb, nsH bns, blt⟩, lim.elim fun m z => ⟨m, nsH z.1, z.2⟩⟩
  have e0 : Env0 P w K mg (hidT st.heap H) callerA [] st H :=
    { frames := rfl, mod := top, bs := fun b o e => of_hidT e, bsz := Nat.le_of_eq (hidT_size _ _), funs := trivial, frf := fun b z => (by cases z), hok := okH, bare := .of_eq bare }
  have one' : One (hidT st.heap H) := by
    obtain ⟨o, es, ep, e, dt⟩ := one
    exact ⟨o, es, ep, hidT_get e (untold e fun z => by rw [z] at dt; cases dt), dt⟩
  refine codeAny_mono ((F _ KB (nsH gns) one').keeps (out := []) rfl room e0 (bi st (.ref a)) (vs := [.ref a]) (.cons rfl .nil) (want H sees)) fun r s2 back => ?_
  match r, back with
  | .error _, no => exact no.elim
  | .ok .next, no => exact no.elim
  | .ok .brk, no => exact no.elim
  | .ok .cont, no => exact no.elim
  | .ok (.ret u), ⟨v, H2, os, bare2, un, ok2, rv, q⟩ =>
    cases (show v = .bl true from q)
    cases (show u = Value.bool true from rv)
    refine ⟨rfl, .of_keep fun b o e => ?_, os, bare2⟩
    cases q2 : H b with
    | none => exact un.keep b o e q2 nofun nofun
    | some z =>
      obtain ⟨y, _, y2⟩ := told q2
      have still := (ok2 b _ (un.frzs b _ _ (y2 ▸ q2))).1
      rw [y] at e still ⊢
      rw [at_] at e
      cases e
      exact still
theorem walk_ofG {l : PySem.W.OpenLaw} {n k : Nat} {q : Program} {loose : List Str} {XP : (Str → Option Value) → Heap → Prop} {YP : World → Heap → Prop} {d : DefRec} {K : Params → PySem.W.Frag} {sp : World → Sp} {x : Str} (imp : importsNone q = true) (most : l.most = some n) (few : n ≤ sizeLine) (plain : d.params.defaults = []) (room : Room k callerA)
    (KI : ∀ (w : World) (h : Heap), YP w h → (K w.params).In h)
    (F : ∀ (w : World) (mg : Str → Option Value) (fa : Addr) (h : Heap), (K w.params).In h → h.Ns mainGlobals mg → mg d.name = some (.ref fa) → ∃ fd : FuncData, (∀ (s : Shared) (u : Value), BindsTo s fd { pos := [u] } [(x, u)]) ∧ ∀ base : Heap, (K w.params).In base → base.Ns mainGlobals mg → One base → FnG l.prog w (K w.params) mg base CX0 k fa fd [x] (sp w))
    (want : ∀ (w : World) (H : Hp) (a : Addr) (ns : List Int), ns.length ≤ n → SqL (K w.params) H a (ns.map V.int) → sp w [.ref a] H (fun v _ => v = .bl true) fun _ _ _ => False) : PySem.W.WalkO q loose XP YP l.row.toRowW d [] (fun f vs => PySem.call f vs) := by
  refine Att.attach_call most plain fun w s0 st mg mb fa o pm cd doc a us ns G Y _ _ _ gm at_ allI len bare => ?_
  have T := G.T
  obtain ⟨fd, bi, F'⟩ := F w mg fa _ (KI w _ Y) T.g gm
  refine law_callG (KI w _ Y) T.g T.b T.builtins T.nolimit bare at_ allI (Nat.le_trans len few) room ?_ F' bi fun H sees => want w H a ns len sees
  obtain ⟨_, ⟨o, es, ep, e, dt, _⟩, _⟩ := (T.seer imp).mods
  exact ⟨o, es, ep, e, dt⟩
end X3

set_option Elab.async false
set_option linter.all false
set_option maxRecDepth 100000
set_option maxHeartbeats 4000000
/-! # repr of data -/
namespace X3
open PySem PySem.Spec PyProof.Rows L2
mutual
/-- data as the library's own, with dicts that are empty or have one text for a key, and an int -/
inductive Rp (K : PySem.W.Frag) (H : Hp) : V → PyData → Prop
  | non : Rp K H .non .none
  | bl (b : Bool) : Rp K H (.bl b) (.bool b)
  | int (i : Int) : Rp K H (.int i) (.int i)
  | str (x : Str) : Rp K H (.str x) (.str x)
  | lst {a : Addr} {xs : List V} {ds : List PyData} : SqL K H a xs → RpL K H xs ds → Rp K H (.ref a) (.list ds)
  | tup {a : Addr} {xs : List V} {ds : List PyData} : SqT K H a xs → RpL K H xs ds → Rp K H (.ref a) (.tuple ds)
  | dict0 {a : Addr} : H a = some (.dK []) → Rp K H (.ref a) (.dict [])
  | dict1 {a : Addr} {k : Str} {i : Int} : H a = some (.dK [(.inr k, .int i)]) → Rp K H (.ref a) (.dict [(.str k, .int i)])
inductive RpL (K : PySem.W.Frag) (H : Hp) : List V → List PyData → Prop
  | nil : RpL K H [] []
  | cons {v : V} {vs : List V} {d : PyData} {ds : List PyData} : Rp K H v d → RpL K H vs ds → RpL K H (v :: vs) (d :: ds)
end
section
variable {X : Cx} {pins : List (Addr × Obj)} {σ : L2.St} {H : Hp} {s : Shared}
mutual
theorem Rp.reads (I : Inv X pins σ H s) (hn : One X.base) : ∀ {d : PyData} {v : V} {u : Value}, Rp X.K H v d → RelV v u → ∃ as, Reads s.heap u d as ∧ sysModules ∉ as
  | _, _, _, .non, r => by
    cases r
    exact ⟨_, Reads.none, by simp⟩
  | _, _, _, .bl b, r => by
    cases r
    exact ⟨_, Reads.bool b, by simp⟩
  | _, _, _, .int i, r => by
    obtain ⟨t, rfl⟩ := r
    exact ⟨_, Reads.int i t, by simp⟩
  | _, _, _, .str x, r => by
    obtain ⟨t, rfl⟩ := r
    exact ⟨_, Reads.str x t, by simp⟩
  | _, _, _, .lst (a := a) hs ha, r => by
    cases r
    obtain ⟨its, rv, ⟨o, n, ho, hc, _, hd⟩, -⟩ := I.list hs
    obtain ⟨as, hr, hm⟩ := RpL.reads I hn ha rv
    refine ⟨_, Reads.list ho hc hd hr, ?_⟩
    obtain ⟨o2, es, ep, h2, h3⟩ := hn
    have ne : a ≠ sysModules := fun z => by
      have e := I.bk _ _ h2
      rw [← z, ho] at e
      cases e
      rw [hd] at h3
      cases h3
    simp only [List.mem_cons, not_or]
    exact ⟨fun z => ne z.symm, hm⟩
  | _, _, _, .tup hs ha, r => by
    cases r
    obtain ⟨its, rv, ⟨o, ho, hc, n, hd⟩, -⟩ := I.tuple hs
    obtain ⟨as, hr, hm⟩ := RpL.reads I hn ha rv
    exact ⟨_, Reads.tuple ho hc hd hr, hm⟩
  | _, _, _, .dict0 (a := a) h, r => by
    cases r
    obtain ⟨_, hS, vs, rel, o, es, ep, e, ex, ed, kk, pr, _⟩ := dk_of I.hok h
    have ne : ¬ (a = sysModules) := by simpa using hS
    cases rel
    generalize hl : es.toList = l at pr
    cases pr
    refine ⟨_, Reads.dict (kvs := []) e ex.1 ed (by rw [hl]; exact ReadsAll.nil) (by rw [hl]; exact ReadsAll.nil), ?_⟩
    simp only [List.append_nil, List.mem_cons, List.not_mem_nil, or_false]
    exact fun z => ne z.symm
  | _, _, _, .dict1 (a := a) (k := k0) (i := i0) h, r => by
    cases r
    obtain ⟨_, hS, vs, rel, o, es, ep, e, ex, ed, kk, pr, _⟩ := dk_of I.hok h
    have ne : ¬ (a = sysModules) := by simpa using hS
    obtain ⟨kv, rfl, rk1, rk2⟩ : ∃ kv, vs = [kv] ∧ Sum.inr k0 = kv.1 ∧ L2.RelV (.int i0) kv.2 := by
      cases rel with
      | cons rk rr =>
        cases rr
        exact ⟨_, rfl, rk.1, rk.2⟩
    obtain ⟨kk0, vv0⟩ := kv
    dsimp only at rk1 rk2
    subst rk1
    obtain ⟨t, rfl⟩ := rk2
    generalize hl : es.toList = l at pr
    cases pr with
    | cons hk hv hp =>
        cases hp
        rename_i en
        dsimp only at hk hv
        obtain ⟨t2, ek⟩ : ∃ t2, en.key = .str k0 t2 := by
          rcases keyIs_shape (show keyIs (.inr k0) en.key = true from hk) with ⟨i, t, q, _⟩ | ⟨x, t, q, e2⟩
          · cases q
          · cases q
            exact ⟨t, e2⟩
        refine ⟨_, Reads.dict (kvs := [(.str k0, .int i0)]) e ex.1 ed (by rw [hl]; simp only [List.map]; rw [ek]; exact ReadsAll.cons (Reads.str k0 t2) ReadsAll.nil) (by rw [hl]; simp only [List.map]; rw [hv]; exact ReadsAll.cons (Reads.int i0 t) ReadsAll.nil), ?_⟩
        simp only [List.append_nil, List.mem_cons, List.not_mem_nil, or_false]
        exact fun z => ne z.symm
theorem RpL.reads (I : Inv X pins σ H s) (hn : One X.base) : ∀ {ds : List PyData} {vs : List V} {us : List Value}, RpL X.K H vs ds → Vals vs us → ∃ as, ReadsAll s.heap us ds as ∧ sysModules ∉ as
  | _, _, _, .nil, r => by
    cases r
    exact ⟨_, ReadsAll.nil, by simp⟩
  | _, _, _, .cons h1 h2, r => by
    cases r with
    | cons r1 r2 =>
      obtain ⟨as, q1, m1⟩ := Rp.reads I hn h1 r1
      obtain ⟨bs, q2, m2⟩ := RpL.reads I hn h2 r2
      exact ⟨_, ReadsAll.cons q1 q2, fun z => (List.mem_append.mp z).elim m1 m2⟩
end
end
/-- repr(x): x told as data -/
def rRepr (K : PySem.W.Frag) : List V → Hp → VK → Prop := fun xs H Q => ∃ (x : V) (d : PyData), xs = [x] ∧ (∃ a, x = .ref a) ∧ Rp K H x d ∧ d.showable = true ∧ d.depth ≤ 60 ∧ d.shown.length ≤ sizeLine ∧ Q (.str d.shown) H
theorem call_repr {X : Cx} (hg : X.A.guards = some []) (hu : X.A.units + 64 < cLine) (hn : One X.base) : CallR X (.builtin "repr") (rRepr X.K) := by
  intro pins st σ H xs us Q I r h
  obtain ⟨x, d, rfl, ⟨a, rfl⟩, rp, hs, hd, hz, q⟩ := h
  obtain ⟨u, rfl, ru⟩ := vals1 r
  cases (show u = Value.ref a from ru)
  obtain ⟨as, hr, hm⟩ := Rp.reads I hn rp rfl
  exact repr_of_reads' hr hs (fun _ => hm) hg (by omega) (fun _ _ e => e) (fun h' u tk hk => ⟨.str d.shown, H, I.kept hk, ⟨_, rfl⟩, q⟩) hz
mutual
/-- data as the library's own -/
def D.rp : X3.D → PyData
  | .non => .none
  | .bl b => .bool b
  | .int i => .int i
  | .str x => .str x
  | .list ds => .list (D.rps ds)
  | .tup ds => .tuple (D.rps ds)
  | .dict [(.inr k, .int i)] => .dict [(.str k, .int i)]
  | _ => .dict []
def D.rps : List X3.D → List PyData
  | [] => []
  | d :: ds => D.rp d :: D.rps ds
end
mutual
def D.shw : X3.D → Bool
  | .non => true
  | .bl _ => true
  | .int i => decide (i.natAbs.log2 < 1920)
  | .str _ => true
  | .list ds => D.shws ds
  | .tup ds => D.shws ds
  | .dict [] => true
  | .dict [(.inr _, .int i)] => decide (i.natAbs.log2 < 1920)
  | _ => false
def D.shws : List X3.D → Bool
  | [] => true
  | d :: ds => D.shw d && D.shws ds
end
section
variable {K : PySem.W.Frag} {G : Hp}
mutual
theorem Dat.rp : ∀ {v : V} {d : X3.D}, Dat K G v d → D.shw d = true → Rp K G v (D.rp d)
  | _, _, .non, _ => .non
  | _, _, .bl b, _ => .bl b
  | _, _, .int i, _ => .int i
  | _, _, .str x, _ => .str x
  | _, _, .list h r, p => .lst (SqL.of h) (DatL.rp r p)
  | _, _, .tup h r, p => .tup h (DatL.rp r p)
  | _, _, .dict h r, p => by
    cases r with
    | nil => exact .dict0 h
    | cons hd r =>
      cases r with
      | nil =>
        rename_i k v d
        cases k with
        | inl k => cases p
        | inr k =>
          cases hd with
          | int i => exact .dict1 h
          | _ => cases p
      | cons hd2 r2 =>
        rename_i k v d k2 vs v2 d2 ds
        cases k <;> cases d <;> cases p
theorem DatL.rp : ∀ {v : List V} {d : List X3.D}, DatL K G v d → D.shws d = true → RpL K G v (D.rps d)
  | _, _, .nil, _ => .nil
  | _, _, .cons h r, p => by
    have p' := Bool.and_eq_true_iff.mp p
    exact .cons (Dat.rp h p'.1) (DatL.rp r p'.2)
end
mutual
theorem Rp.le {H : Hp} (e : Le G H) : ∀ {v : V} {d : PyData}, Rp K G v d → Rp K H v d
  | _, _, .non => .non
  | _, _, .bl b => .bl b
  | _, _, .int i => .int i
  | _, _, .str x => .str x
  | _, _, .lst h r => .lst (le_l e h) (RpL.le e r)
  | _, _, .tup h r => .tup (le_t e h) (RpL.le e r)
  | _, _, .dict0 h => .dict0 (e _ _ h)
  | _, _, .dict1 h => .dict1 (e _ _ h)
theorem RpL.le {H : Hp} (e : Le G H) : ∀ {v : List V} {d : List PyData}, RpL K G v d → RpL K H v d
  | _, _, .nil => .nil
  | _, _, .cons h r => .cons (Rp.le e h) (RpL.le e r)
end
end
/-- what may be shown -/
structure ShwOk (d : X3.D) : Prop where
  shw : D.shw d = true
  able : (D.rp d).showable = true
  deep : (D.rp d).depth ≤ 60
  size : (D.rp d).shown.length ≤ sizeLine
theorem wc_repr {K : PySem.W.Frag} {S : Res} {Q : X3.D → Prop} {d : X3.D} (hr : (∃ ds, d = .list ds) ∨ ∃ ds, d = .tup ds) (ok : ShwOk d) (q : Q (.str (D.rp d).shown)) : WRC K S (rRepr K) [d] Q := fun G H vs k w dx c => by
  cases dx with
  | cons a r =>
    cases r
    refine ⟨_, _, rfl, ?_, Rp.le w.le (Dat.rp a ok.shw), ok.able, ok.deep, ok.size, c _ _ G H (.refl w) (.str _) q⟩
    rcases hr with ⟨ds, rfl⟩ | ⟨ds, rfl⟩
    · cases a
      exact ⟨_, rfl⟩
    · cases a
      exact ⟨_, rfl⟩
end X3

set_option Elab.async false
set_option linter.all false
set_option maxRecDepth 100000
set_option maxHeartbeats 4000000
/-! # X3: more operations -/
namespace X3
open PySem PySem.Spec PyProof.Rows L2
section
variable {K : PySem.W.Frag} {S : Res} {ρ : Rho} {Q : X3.D → Prop}
/-- == and != of texts, of ints -/
theorem wr_eqS {x y : Str} (q : Q (.bl (decide (x = y)))) : WR2 K S rEq (.str x) (.str y) Q := fun G H vx vy k w dx dy c => by
  cases dx
  cases dy
  refine ⟨rfl, ?_⟩
  rw [show decide (V.str x = V.str y) = decide (x = y) from decide_eq_decide.mpr ⟨V.str.inj, fun e => by rw [e]⟩]
  exact c _ _ G H (.refl w) (.bl _) q
theorem wr_neS {x y : Str} (q : Q (.bl (!decide (x = y)))) : WR2 K S rNe (.str x) (.str y) Q := fun G H vx vy k w dx dy c => by
  cases dx
  cases dy
  refine ⟨rfl, ?_⟩
  rw [show decide (V.str x = V.str y) = decide (x = y) from decide_eq_decide.mpr ⟨V.str.inj, fun e => by rw [e]⟩]
  exact c _ _ G H (.refl w) (.bl _) q
theorem wr_eqI {x y : Int} (q : Q (.bl (decide (x = y)))) : WR2 K S rEq (.int x) (.int y) Q := fun G H vx vy k w dx dy c => by
  cases dx
  cases dy
  refine ⟨rfl, ?_⟩
  rw [show decide (V.int x = V.int y) = decide (x = y) from decide_eq_decide.mpr ⟨V.int.inj, fun e => by rw [e]⟩]
  exact c _ _ G H (.refl w) (.bl _) q
theorem wr_neI {x y : Int} (q : Q (.bl (!decide (x = y)))) : WR2 K S rNe (.int x) (.int y) Q := fun G H vx vy k w dx dy c => by
  cases dx
  cases dy
  refine ⟨rfl, ?_⟩
  rw [show decide (V.int x = V.int y) = decide (x = y) from decide_eq_decide.mpr ⟨V.int.inj, fun e => by rw [e]⟩]
  exact c _ _ G H (.refl w) (.bl _) q
/-- {} -/
theorem we_dnew (q : Q (.dict [])) : WE K S tDNewK ρ Q := fun σ G H k w sl c => fun p hp => c _ _ _ _ (.new w hp) (.dict upd_same .nil) q
/-- {'a': e} -/
theorem we_disp1 {k : Str} {te : TE} (h : WE K S te ρ fun d => Q (.dict [(.inr k, d)])) : WE K S (tDisp [(tC (.str k), te)]) ρ Q := fun σ G H kk w sl c => by
  intro p hp
  have w1 : Wld S G (upd H p (.dK [])) := (Stp.junk w (Le.new hp)).w
  refine h σ G _ _ w1 sl fun v d G' H' s dt q => ?_
  have nf := w.nfp hp
  have hp' : H' p = some (.dK []) := s.hh p _ nf upd_same
  refine ⟨hp', [(.inr k, v)], rfl, (by show 1 ≤ 15; decide), ?_⟩
  have gp : G' p = none := by
    cases e : G' p with
    | none => rfl
    | some o =>
      rcases s.nw p o e with z | z
      · rw [w.fresh hp] at z
        cases z
      · rw [upd_same] at z
        cases z
  have em : mergeK [] [(.inr k, v)] = [((.inr k : Key), v)] := rfl
  rw [em]
  refine c _ _ (upd G' p (.dK [(.inr k, v)])) _ ⟨fun b o e => ?_, fun b o n e => ?_, fun b o e => ?_, ⟨fun b o e => ?_, ?_, fun b f => ?_⟩⟩ (.dict upd_same (.cons (dt.mono (Le.new gp)) .nil)) q
  · have e1 := s.gg b o e
    rw [upd_ne (ne_of_none e1 gp)]
    exact e1
  · have ne := ne_of_none e hp
    rw [upd_ne ne]
    exact s.hh b o n (by rw [upd_ne ne]; exact e)
  · by_cases x : b = p
    · exact .inr (by rw [x]; exact hp)
    · rw [upd_ne x] at e
      rcases s.nw b o e with z | z
      · exact .inl z
      · rw [upd_ne x] at z
        exact .inr z
  · by_cases x : b = p
    · subst x
      rw [upd_same] at e ⊢
      exact e
    · rw [upd_ne x] at e ⊢
      exact s.w.le b o e
  · exact S.loc H' _ (fun b f => (upd_ne (fun z : b = p => nf (by rw [← z]; exact f))).symm) s.w.src
  · rw [upd_ne (fun z : b = p => nf (by rw [← z]; exact f))]
    exact s.w.sep b f
/-- any item of a list -/
theorem wr_ixAny {ds : List X3.D} {i : Int} (h0 : 0 ≤ i) (h1 : i < ds.length) (q : ∀ d ∈ ds, Q d) : WR2 K S (rIx K) (.list ds) (.int i) Q := by
  have hi : i.toNat < ds.length := by omega
  have e : atI ds i = some ds[i.toNat] := by
    unfold atI ixN
    simp [h0, h1, hi]
  exact wr_ixL e (q _ (List.getElem_mem hi))
/-- isinstance of an exception: a tuple of built-in classes -/
theorem wc_isXT {C : Addr} {fs : Option (List (Str × X3.D))} {ts : List String} {b : Bool} (hc : ExcC K C) (e : PySem.W.kitAny K (.ref C) (ts.map Value.type) = some b) (q : Q (.bl b)) :
    WRC K S (rIsXT K) [.exc C fs, .tup (ts.map fun t => .val (.ty t))] Q := fun G H vs kk w dx cc => by
  cases dx with
  | cons a r =>
    cases r with
    | cons a2 r =>
      cases r
      obtain ⟨p, rfl, ea⟩ := exAt_of w.le a
      cases a2 with
      | tup h1 r2 =>
        have ev : ∀ {vs : List V} {us : List String}, DatL K G vs (us.map fun t => X3.D.val (.ty t)) → vs = us.map V.ty := fun {vs us} => by
          induction us generalizing vs with
          | nil =>
            intro h
            cases h
            rfl
          | cons u us ih =>
            intro h
            cases h with
            | cons a r =>
              cases a
              rw [ih r]
              rfl
        have pc : ∀ us : List String, Paired ClsV (us.map V.ty) (us.map Value.type) := fun us => by
          induction us with
          | nil => exact .nil
          | cons u us ih => exact .cons (.ty u) ih
        have e2 := ev r2
        exact ⟨p, C, _, _, _, b, rfl, le_t w.le h1, by rw [e2]; exact pc ts, ea, hc, e, cc _ _ G H (.refl w) (.bl b) q⟩
/-- int(text) -/
theorem wc_intS {x : Str} {n : Int} (h : PySem.intText? x = some n) (hl : x.length ≤ 640) (q : Q (.int n)) : WRC K S (fun xs H Q => ∃ a n, xs = [.str a] ∧ PySem.intText? a = some n ∧ a.length ≤ 640 ∧ Q (.int n) H) [.str x] Q := fun G H vs kk w dx cc => by
  cases dx with
  | cons a r =>
    cases r
    cases a
    exact ⟨x, n, rfl, h, hl, cc _ _ G H (.refl w) (.int n) q⟩
end
section
variable {X : Cx}
/-- a text times a written number -/
def strRep (z : Str) (n : Int) : Str := ⟨(List.replicate n.toNat z.cps).foldl (· ++ ·) #[]⟩
structure StrRepOk (z : Str) (n : Int) : Prop where
  low : 1 < n
  high : n < 1000000
  some : (z.length == 0) = false
  fit : (z.length : Int) * n ≤ 1000000
  long : Builtin.Str.tooLong (z.length * n.toNat) = false
  size : (strRep z n).length ≤ sizeLine
def rStrRep : R2 := fun x y H Q => ∃ z n, x = .str z ∧ y = .int n ∧ StrRepOk z n ∧ Q (.str (strRep z n)) H
theorem op_strRep : OpR X (binaryOp .Mult) rStrRep := by
  intro pins st σ H x y v u Q I rx ry h
  obtain ⟨z, n, rfl, rfl, ok, q⟩ := h
  obtain ⟨t, rfl⟩ := rx
  obtain ⟨t', rfl⟩ := ry
  have l := ok.low
  have hh := ok.high
  have e1 : (n == 1 || z.length == 0) = false := by
    rw [ok.some, Bool.or_false]
    simp
    omega
  refine PySem.P.mul_str (by
    have h1 : ¬ n < -2 ^ 63 := by omega
    have h2 : ¬ (2 : Int) ^ 63 ≤ n := by omega
    simp
    omega) (fun _ _ => ?_) (fun _ _ => ok.long) ?_
  · have hf := ok.fit
    have : (z.length : Int) ≤ (2 ^ 63 - 1) / n := (Int.le_ediv_iff_mul_le (by omega)).mpr (by omega)
    omega
  · rw [if_neg (by omega : ¬ n < 1), e1, if_neg Bool.false_ne_true]
    exact ⟨ok.size, ⟨.str (strRep z n), H, I.tok _, ⟨_, rfl⟩, q⟩⟩
end
theorem wr_strRep {K : PySem.W.Frag} {S : Res} {Q : X3.D → Prop} {z : Str} {n : Int} (ok : StrRepOk z n) (q : Q (.str (strRep z n))) : WR2 K S rStrRep (.str z) (.int n) Q := fun G H vx vy k w dx dy c => by
  cases dx
  cases dy
  exact ⟨z, n, rfl, rfl, ok, c _ _ G H (.refl w) (.str _) q⟩
end X3

set_option Elab.async false
set_option linter.all false
set_option maxRecDepth 100000
set_option maxHeartbeats 4000000
/-! # X3: operations that go by the data; steps in one word -/
namespace X3
open PySem PySem.Spec PyProof.Rows L2
def rOr (r r' : R2) : R2 := fun x y H Q => r x y H Q ∨ r' x y H Q
abbrev rAddI : R2 := rI0 fun i j => .int (i + j)
abbrev rAddS : R2 := fun x y H Q => ∃ i j, x = .str i ∧ y = .str j ∧ i.length + j.length ≤ sizeLine ∧ Q (.str (i ++ j)) H
def rPlus : R2 := rOr rAddI (rOr rCat rAddS)
def rTimes : R2 := rOr (rI CMul fun i j => .int (i * j)) (rOr rRep rStrRep)
def rEqA (K : PySem.W.Frag) : R2 := rOr rEq (rEqD K)
def rNeA (K : PySem.W.Frag) : R2 := rOr rNe (rNeD K)
def rTup (K : PySem.W.Frag) : List V → Hp → VK → Prop := fun xs H Q => ∃ p ys, xs = [.ref p] ∧ ((SqL K H p ys ∧ ∀ l, H l = none → Q (.ref l) (upd H l (.tup ys))) ∨ (SqT K H p ys ∧ Q (.ref p) H))
def rCount (K : PySem.W.Frag) : List V → Hp → VK → Prop := fun vs H Q => ∃ x m, vs = [x] ∧ LenV K x H m ∧ Q (.int m) H
def rIntS : List V → Hp → VK → Prop := fun xs H Q => ∃ a n, xs = [.str a] ∧ PySem.intText? a = some n ∧ a.length ≤ 640 ∧ Q (.int n) H
section
variable {K : PySem.W.Frag} {S : Res} {ρ : Rho} {Q : X3.D → Prop}
theorem wc_tupleR {d : X3.D} {ds : List X3.D} (h : d = .list ds ∨ d = .tup ds) (q : Q (.tup ds)) : WRC K S (rTup K) [d] Q := wc_tuple h q
theorem wc_lenR {d : X3.D} {n : Nat} (h : LenD d n) (q : Q (.int n)) : WRC K S (rCount K) [d] Q := wc_len h q
theorem wc_intR {x : Str} {n : Int} (h : PySem.intText? x = some n) (hl : x.length ≤ 640) (q : Q (.int n)) : WRC K S rIntS [.str x] Q := wc_intS h hl q
end
section
variable {X : Cx}
theorem op_plus : OpR X (binaryOp .Add) rPlus := op_add.or (op_cat.or op_add_str)
theorem op_times : OpR X (binaryOp .Mult) rTimes := op_mul.or (op_rep.or op_strRep)
theorem op_eqA (hu : X.A.units + 64 < cLine) : OpR X (compareOp .Eq) (rEqA X.K) := op_eq.or (op_eqD hu)
theorem op_neA (hu : X.A.units + 64 < cLine) : OpR X (compareOp .NotEq) (rNeA X.K) := op_ne.or (op_neD hu)
theorem hu64 {A : Around} {k : Nat} (hr : Room k A) : A.units + 64 < cLine := by
  have := hr.un
  omega
end
section
variable {K : PySem.W.Frag} {S : Res} {ρ : Rho} {Q : X3.D → Prop}
theorem wp_i {i j : Int} (q : Q (.int (i + j))) : WR2 K S rPlus (.int i) (.int j) Q := wr_or1 (wr_ii (g := fun i j => i + j) q)
theorem wp_l {xs ys : List X3.D} (hl : xs.length + ys.length ≤ 100000) (q : Q (.list (xs ++ ys))) : WR2 K S rPlus (.list xs) (.list ys) Q := wr_or2 (wr_or1 (wr_cat hl q))
theorem wp_s {x y : Str} (hl : x.length + y.length ≤ 100000) (q : Q (.str (x ++ y))) : WR2 K S rPlus (.str x) (.str y) Q := wr_or2 (wr_or2 (wr_adds hl q))
theorem wt_l {xs : List X3.D} {n : Int} (h1 : -1000000 ≤ n) (h2 : n ≤ 1000000) (hl : xs.length * n.toNat ≤ 100000) (q : Q (.list (List.replicate n.toNat xs).flatten)) : WR2 K S rTimes (.list xs) (.int n) Q := wr_or2 (wr_or1 (wr_rep h1 h2 hl q))
theorem wt_s {z : Str} {n : Int} (ok : StrRepOk z n) (q : Q (.str (strRep z n))) : WR2 K S rTimes (.str z) (.int n) Q := wr_or2 (wr_or2 (wr_strRep ok q))
theorem we_eqS {x y : Str} (q : Q (.bl (decide (x = y)))) : WR2 K S (rEqA K) (.str x) (.str y) Q := wr_or1 (wr_eqS q)
theorem we_neS {x y : Str} (q : Q (.bl (!decide (x = y)))) : WR2 K S (rNeA K) (.str x) (.str y) Q := wr_or1 (wr_neS q)
theorem we_eqI {x y : Int} (q : Q (.bl (decide (x = y)))) : WR2 K S (rEqA K) (.int x) (.int y) Q := wr_or1 (wr_eqI q)
theorem we_neI {x y : Int} (q : Q (.bl (!decide (x = y)))) : WR2 K S (rNeA K) (.int x) (.int y) Q := wr_or1 (wr_neI q)
theorem we_eqD {x y : X3.D} (h : EqOk x y) (q : Q (.bl (PyData.eqv x.pd y.pd))) : WR2 K S (rEqA K) x y Q := wr_or2 (wr_eqD h q)
theorem we_neD {x y : X3.D} (h : EqOk x y) (q : Q (.bl (!PyData.eqv x.pd y.pd))) : WR2 K S (rNeA K) x y Q := wr_or2 (wr_neD h q)
theorem rng_split {lo : Int} {n : Nat} {pre post : List X3.D} {d : X3.D} (h : rng lo n = pre ++ d :: post) : pre.length < n ∧ d = .int (lo + (pre.length : Nat)) ∧ pre = rng lo pre.length ∧ pre ++ [d] = rng lo (pre.length + 1) := by
  have hl : pre.length < n := by
    have := congrArg List.length h
    rw [rng_len] at this
    simp at this
    omega
  have e1 : (rng lo n)[pre.length]? = some d := by rw [h]; simp
  rw [rng_get hl] at e1
  have e1 := Option.some.inj e1
  have e2 : pre = rng lo pre.length := by
    have a := congrArg (List.take pre.length) h
    rw [List.take_left] at a
    rw [← a]
    refine List.ext_getElem? fun i => ?_
    rw [List.getElem?_take]
    by_cases x : i < pre.length
    · rw [if_pos x, rng_get (by omega), rng_get (by rw [List.length_take, rng_len]; omega)]
    · rw [if_neg x, List.getElem?_eq_none (by rw [rng_len, List.length_take, rng_len]; omega)]
  refine ⟨hl, e1.symm, e2, ?_⟩
  have e3 : rng lo (pre.length + 1) = rng lo pre.length ++ [.int (lo + (pre.length : Nat))] := by
    unfold rng
    rw [List.range_succ, List.map_append]
    rfl
  rw [e3, ← e2, e1]
end
/-- the frozen world ahead of which nothing is frozen -/
theorem ws_first {K : PySem.W.Frag} {S : Res} {t : TS} {σ : L2.St} {ρ : Rho} {H : Hp} {Q : VK} {q : X3.D → Prop} (ok : S.ok H) (hl : σ.length = ρ.length) (hs : ∀ (i : Nat) (d : X3.D), ρ[i]? = some (SD.dat d) → ∃ v, σ[i]? = some (some v) ∧ ∀ G, Dat K G v d)
    (no : ∀ (i j : Nat), ρ[i]? ≠ some (SD.own j)) (c : ∀ v d G H', Dat K G v d → q d → Q v H') (h : WS K S t ρ [] { nx := fun _ _ => q .non, rt := q }) : t { nx := fun _ H' => Q .non H', rt := Q } σ H := by
  have w : Wld S (fun _ => none) H := ⟨fun a o e => (by cases e), ok, fun _ _ => rfl⟩
  refine h (fun _ => none) H σ H _ ok ⟨fun _ => none, [], .refl w, ⟨hl, fun i d e => ?_⟩, rfl, List.nodup_nil, fun i j e => absurd e (no i j), fun j a m e1 _ => by simp at e1⟩ ⟨?_, fun v d G H' _ dt z => c v d G H' dt z, fun _ _ _ _ _ z => z.elim, fun _ _ _ _ _ z => z.elim⟩
  · obtain ⟨v, e1, e2⟩ := hs i d e
    exact ⟨v, e1, e2 _⟩
  · rintro σ H1 ρ μ ⟨G1, as, r1⟩ z
    exact c _ _ G1 H1 .non z
end X3

set_option Elab.async false
set_option linter.all false
set_option maxRecDepth 100000
set_option maxHeartbeats 4000000
namespace Tk
open PySem L2 X3
def topS (i : Nat) : Stmt := PySem.Challenge.pw_takenout_k00_errors.main.body.getD i (.Pass ⟨0, 0, 0, 0⟩)
/-! ### the source of what is drawn -/
def sd (c : Addr) (l m t : Int) : List (Key × V) := [(.inr "cells", .ref c), (.inr "left", .int l), (.inr "mixed", .int m), (.inr "turn", .int t)]
theorem k_cl : ¬ (Sum.inr ("cells" : Str) : Key) = Sum.inr ("left" : Str) := by decide +kernel
theorem k_cm : ¬ (Sum.inr ("cells" : Str) : Key) = Sum.inr ("mixed" : Str) := by decide +kernel
theorem k_ct : ¬ (Sum.inr ("cells" : Str) : Key) = Sum.inr ("turn" : Str) := by decide +kernel
theorem k_lm : ¬ (Sum.inr ("left" : Str) : Key) = Sum.inr ("mixed" : Str) := by decide +kernel
theorem k_lt : ¬ (Sum.inr ("left" : Str) : Key) = Sum.inr ("turn" : Str) := by decide +kernel
theorem k_mt : ¬ (Sum.inr ("mixed" : Str) : Key) = Sum.inr ("turn" : Str) := by decide +kernel
theorem sd_c {c : Addr} {l m t : Int} : valV (sd c l m t) (.inr "cells") = some (.ref c) := valV_pos rfl
theorem sd_l {c : Addr} {l m t : Int} : valV (sd c l m t) (.inr "left") = some (.int l) := (valV_neg k_cl).trans (valV_pos rfl)
theorem sd_m {c : Addr} {l m t : Int} : valV (sd c l m t) (.inr "mixed") = some (.int m) := (valV_neg k_cm).trans ((valV_neg k_lm).trans (valV_pos rfl))
theorem sd_t {c : Addr} {l m t : Int} : valV (sd c l m t) (.inr "turn") = some (.int t) := (valV_neg k_ct).trans ((valV_neg k_lt).trans ((valV_neg k_mt).trans (valV_pos rfl)))
theorem put_l {c : Addr} {l m t x : Int} : putK (sd c l m t) (.inr "left") (.int x) = sd c x m t := by
  unfold putK sd
  simp [show ¬ (("cells" : Str) = "left") by decide +kernel, show ¬ (("mixed" : Str) = "left") by decide +kernel, show ¬ (("turn" : Str) = "left") by decide +kernel]
theorem put_m {c : Addr} {l m t x : Int} : putK (sd c l m t) (.inr "mixed") (.int x) = sd c l x t := by
  unfold putK sd
  simp [show ¬ (("cells" : Str) = "mixed") by decide +kernel, show ¬ (("left" : Str) = "mixed") by decide +kernel, show ¬ (("turn" : Str) = "mixed") by decide +kernel]
theorem put_t {c : Addr} {l m t x : Int} : putK (sd c l m t) (.inr "turn") (.int x) = sd c l m x := by
  unfold putK sd
  simp [show ¬ (("cells" : Str) = "turn") by decide +kernel, show ¬ (("left" : Str) = "turn") by decide +kernel, show ¬ (("mixed" : Str) = "turn") by decide +kernel]
theorem merge_sd {c : Addr} {l m t : Int} : mergeK [] (sd c l m t) = sd c l m t := by
  unfold mergeK sd
  simp only [List.foldl]
  unfold putK
  simp [show ¬ (("cells" : Str) = "left") by decide +kernel, show ¬ (("cells" : Str) = "mixed") by decide +kernel, show ¬ (("cells" : Str) = "turn") by decide +kernel, show ¬ (("left" : Str) = "mixed") by decide +kernel, show ¬ (("left" : Str) = "turn") by decide +kernel, show ¬ (("mixed" : Str) = "turn") by decide +kernel]
def absI (z : Int) : Int := if z < 0 then -z else z
structure SrcAt (s c : Addr) (H : Hp) : Prop where
  ne : s ≠ c
  ex : ∃ (cells : List Int) (l m t : Int), H s = some (.dK (sd c l m t)) ∧ H c = some (.lst (cells.map V.int)) ∧ cells.length ≤ 63
def srcR (s c : Addr) : Res where
  fp := fun a => a = s ∨ a = c
  ok := SrcAt s c
  loc := fun H H' h ⟨ne, cells, l, m, t, h1, h2, h3⟩ => ⟨ne, cells, l, m, t, (h s (.inl rfl)).symm.trans h1, (h c (.inr rfl)).symm.trans h2, h3⟩
  live := fun H ⟨ne, cells, l, m, t, h1, h2, h3⟩ a h => by
    rcases h with h | h
    · rw [h, h1]
      exact Option.some_ne_none _
    · rw [h, h2]
      exact Option.some_ne_none _
/-- what is asked of a draw -/
def pPick : Res → List D → (D → Prop) → Prop := fun S ds q => ∃ (s c : Addr) (n : Int), S = srcR s c ∧ ds = [.val (.ref s), .int n] ∧ 1 ≤ n ∧ n < 1000000 ∧ ∀ i : Int, 0 ≤ i → i < n → q (.int i)
/-- between two turns of a draw's while -/
def pickW (s c : Addr) (n : Int) (H : Hp) (mm : Nat) (σ : L2.St) (H2 : Hp) : Prop := ∃ (cells : List Int) (l m t : Int), mm = cells.length ∧ σ = [some (.ref s), some (.int n), none, none] ∧ H2 s = some (.dK (sd c l m t)) ∧ H2 c = some (.lst (cells.map V.int)) ∧ cells.length ≤ 63 ∧ ∀ b o, ¬ (b = s ∨ b = c) → H b = some o → H2 b = some o
theorem max_n {n : Int} (h : 1 ≤ n) : (if n > 1 then n else 1) = n := by
  split
  · rfl
  · omega
def spSource (K : PySem.W.Frag) : Sp := fun vs H Q _ => ∃ (a : Addr) (ns : List Int), vs = [.ref a] ∧ SqL K H a (ns.map V.int) ∧ ns.length ≤ 63 ∧
  ∀ s c H', H s = none → H c = none → Le H H' → SrcAt s c H' → Q (.ref s) H'
abbrev sSource : Stmt := topS 16
abbrev sPick : Stmt := topS 17
theorem scSource : FnScope ["script", "mixed", "cell"] ["script"] (defScope sSource) := ⟨rfl, rfl, rfl, by decide +kernel, rfl, by decide +kernel, by decide +kernel⟩
theorem scPick : FnScope ["source", "many", "left", "mixed"] ["source", "many"] (defScope sPick) := ⟨rfl, rfl, rfl, by decide +kernel, rfl, by decide +kernel, by decide +kernel⟩
section
variable {P : Program} {w : World} {K : PySem.W.Frag} {mg : Str → Option Value} {base : Heap}
theorem ok_source {f : Addr} {fd : FuncData} (F : Fun K "_law_source" "_law_source" sSource f fd) (nAbs : mg "abs" = none) (nInt : mg "int" = none) : FnOk P w K mg base CX0 1 f fd ["script"] (spSource K) := by
  refine F.ok scSource (fun vs H Q E h => ?_) (fun cdv A outer s H vs Q E hr h => ?_)
  · obtain ⟨a, ns, rfl, _⟩ := h
    rfl
  · obtain ⟨a, ns, rfl, hs, hl, k⟩ := h
    refine ⟨_, pss_cons (ps_set (i := 1) scSource.nd rfl (Or.inl rfl) pe_int)
      (pss_cons (ps_for PassesOwn.never rfl (pi_list (pv 0)) (pg_name (i := 2) scSource.nd rfl (Or.inl rfl))
        (pss_one (ps_set (i := 1) scSource.nd rfl (Or.inl rfl) (pe_op op_mod (pe_callTy call_int1 (by rfl) nInt PyProof.Rows.boot_int (pa_cons (pe_op op_add (pe_op op_add (pe_op op_mul (pv 1) pe_int) (pe_op op_mul (pv 2) pe_int)) pe_int) pa_nil)) pe_int))))
      (pss_one (ps_ret (pe_disp (pps_cons pe_str (pe_revL (pe_lc (own := [("cell", 2)]) (g := gName 2) (tt := tYes) rfl scSource.nd (pi_list (pv 0)) (blkOk_by (N := ["script", "mixed", "cell"]) (sc := defScope sSource) (by decide +kernel)) (fun _ _ _ _ _ => pg_name (i := 2) scSource.nd rfl (Or.inl rfl)) (fun _ _ _ _ _ => pts_nil) (fun _ _ _ _ _ => (pe_callB call_abs (by rfl) nAbs PyProof.Rows.boot_abs (pa_cons (pv 2) pa_nil)))))
        (pps_cons pe_str pe_int (pps_cons pe_str (pv 1) (pps_cons pe_str pe_int pps_nil)))) (by decide +kernel) rfl (by simp) (by decide))))), ?_⟩
    refine ⟨_, rfl, a, rfl, ⟨_, hs⟩, for_list (K := K) (a := a) (xs := ns.map V.int) (fun i σ H2 => ∃ (m : Int) (v : Option V), σ = [some (.ref a), some (.int m), v] ∧ H2 = H) ⟨11, none, rfl, rfl⟩ (fun i σ H2 _ ⟨_, _, _, e⟩ => by rw [e]; exact hs) ?_ ?_⟩
    · rintro i y σ H2 hi ⟨m, v, rfl, rfl⟩
      obtain ⟨z, rfl⟩ : ∃ z, y = V.int z := by
        rw [List.getElem?_map] at hi
        cases e : ns[i]? with
        | none =>
          rw [e] at hi
          cases hi
        | some z =>
          rw [e] at hi
          exact ⟨z, (Option.some.inj hi).symm⟩
      refine ⟨_, rfl, _, _, rfl, rfl, .inr ⟨by decide, by decide⟩, _, rfl, _, _, rfl, rfl, .inr ⟨by decide, by decide⟩, _, _, rfl, rfl, _, _, rfl, rfl, .inl ⟨_, rfl, _, _, rfl, rfl, (by show (0 : Int) < 2147483629; decide), ?_⟩⟩
      exact ⟨_, _, rfl, rfl⟩
    · rintro σ H2 ⟨m, v, rfl, rfl⟩
      intro p hp
      have hs1 : SqL K (upd H2 p (.dK [])) a (ns.map V.int) := le_l (Le.new hp) hs
      refine ⟨_, rfl, a, rfl, ⟨_, hs1⟩, fun q hq => lc_list (xs := ns.map V.int) (fun i H3 => H3 = upd (upd H2 p (.dK [])) q (.lst (((ns.take i).map absI).map V.int))) rfl (fun i H3 _ e => by rw [e]; exact le_l (Le.new hq) hs1) ?_ ?_⟩
      · rintro i x H3 hi rfl
        have hi' := hi
        rw [List.getElem?_map] at hi
        cases e : ns[i]? with
        | none =>
          rw [e] at hi
          cases hi
        | some z =>
          rw [e] at hi
          have ex : x = V.int z := (Option.some.inj hi).symm
          subst ex
          refine ⟨rfl, ?_⟩
          unfold tYes
          dsimp only
          rw [if_pos rfl]
          refine ⟨_, rfl, _, rfl, _, upd_same, ?_, ?_⟩
          · simp only [List.length_map, List.length_take]
            exact Nat.lt_of_le_of_lt (Nat.le_trans (Nat.min_le_right _ _) hl) (by decide)
          · rw [upd_upd, List.take_add_one, e]
            simp [absI]
      · rintro H3 rfl
        have npq : p ≠ q := fun z => by
          rw [← z, upd_same] at hq
          cases hq
        refine ⟨q, _, rfl, SqL.of upd_same, fun c hc => ?_⟩
        have nqc : q ≠ c := ne_of_none upd_same hc
        have npc : p ≠ c := ne_of_none (o := .dK []) (by rw [upd_ne npq, upd_same]) hc
        refine ⟨_, rfl, by rw [upd_ne npc, upd_ne npq, upd_same], sd c 1 m 0, rfl, (by decide : 4 ≤ 15), ?_⟩
        rw [merge_sd]
        have le1 : Le H2 (upd H2 p (.dK [])) := Le.new hp
        have le2 : Le H2 (upd (upd H2 p (.dK [])) q (.lst (((ns.take (ns.map V.int).length).map absI).map V.int))) := le1.trans (Le.new hq)
        have hc2 : H2 c = none := (le2.trans (Le.refl _)).none hc
        refine k p c _ hp hc2 (fun b o e => ?_) ⟨npc, ((ns.map absI).reverse), 1, m, 0, upd_same, ?_, ?_⟩
        · rw [upd_ne (ne_of_none e hp), upd_ne (ne_of_none e hc2)]
          exact le2 b o e
        · rw [upd_ne npc.symm, upd_same, List.take_of_length_le (by simp)]
          simp
        · simp only [List.length_reverse, List.length_map]
          exact hl
theorem ok_pick {f : Addr} {fd : FuncData} (F : Fun K "_law_pick" "_law_pick" sPick f fd) (nLen : mg "len" = none) (nMax : mg "max" = none) (nInt : mg "int" = none) : FnOk P w K mg base CX0 1 f fd ["source", "many"] (spD K pPick) := by
  refine F.ok scPick (fun vs H Q E h => ?_) (fun cdv A outer s H vs Q E hr h => ?_)
  · obtain ⟨S, G, ds, q, _, r, ⟨s, c, n, _, rfl, _⟩, _⟩ := h
    exact r.length
  · obtain ⟨S, G, ds, q, w0, r, ⟨s, c, n, rfl, rfl, h1, h2, hq⟩, k⟩ := h
    have hu := hu_of hr
    refine ⟨_, Evl.pss_cut (ps_while PassesOwn.never (PW.pt (pw_and (pt_cmpR op_gt (pv 1) pe_int (nomark _)) (pw_and (pt_cmpR op_lt (pe_dget hu (pv 0) pe_str (fun _ _ => rfl)) pe_int (nomark _))
        (pw_and1 (pt_cmpR op_gt (pe_callB call_len (by rfl) nLen PySem.boot_len (pa_cons (pe_dget hu (pv 0) pe_str (fun _ _ => rfl)) pa_nil)) pe_int (nomark _))))))
        (pss_one (ps_dput hu (pv 0) pe_str (pe_bm0 PySem.F.plainAttrs_list PySem.F.slot_list_pop PySem.F.type_list_pop mt_pop (pe_dget hu (pv 0) pe_str (fun _ _ => rfl))) rfl)))
      (pss_cons (ps_set (i := 2) scPick.nd rfl (Or.inl rfl) (pe_dget hu (pv 0) pe_str (fun _ _ => rfl)))
      (pss_cons (ps_if (PW.pt (pw_or (pt_cmpR op_lt (pv 1) pe_int (nomark _)) (pw_or1 (pt_cmpR op_gt (pv 2) pe_int (nomark _)))))
        (pss_cons (ps_dput hu (pv 0) pe_str (pe_op op_fdiv (pv 2) (pe_callB (call_max2 rfl) (by rfl) nMax PyProof.Rows.boot_max (pa_cons pe_int (pa_cons (pv 1) pa_nil)))) rfl)
          (pss_one (ps_ret (pe_op op_mod (pe_callTy call_int1 (by rfl) nInt PyProof.Rows.boot_int (pa_cons (pv 2) pa_nil)) (pe_callB (call_max2 rfl) (by rfl) nMax PyProof.Rows.boot_max (pa_cons pe_int (pa_cons (pv 1) pa_nil))))))) pss_nil)
      (pss_cons (ps_dput hu (pv 0) pe_str (pe_op op_add (pe_dget hu (pv 0) pe_str (fun _ _ => rfl)) pe_int) rfl)
      (pss_cons (ps_set (i := 3) scPick.nd rfl (Or.inl rfl) (pe_op op_mod (pe_callTy call_int1 (by rfl) nInt PyProof.Rows.boot_int (pa_cons (pe_op op_add (pe_dget hu (pv 0) pe_str (fun _ _ => rfl)) (pe_op op_mul (pe_dget hu (pv 0) pe_str (fun _ _ => rfl)) pe_int)) pa_nil)) pe_int))
      (pss_cons (ps_set (i := 3) scPick.nd rfl (Or.inl rfl) (pe_op op_mod (pe_callTy call_int1 (by rfl) nInt PyProof.Rows.boot_int (pa_cons (pe_op op_add (pe_op op_mul (pv 3) (pv 3)) (pe_op op_mul (pe_dget hu (pv 0) pe_str (fun _ _ => rfl)) pe_int)) pa_nil)) pe_int))
      (pss_cons (ps_dput hu (pv 0) pe_str (pv 3) rfl)
      (pss_one (ps_ret (pe_op op_mod (pe_callTy call_int1 (by rfl) nInt PyProof.Rows.boot_int (pa_cons (pe_op op_fdiv (pv 3) pe_int) pa_nil)) (pv 1)))))))))), ?_⟩
    cases r with
    | cons r0 rr =>
    cases rr with
    | cons r1 rr =>
    cases rr
    cases r1
    cases r0
    -- what stays
    have keep : ∀ {H2 : Hp}, (∀ b o, ¬ (b = s ∨ b = c) → H b = some o → H2 b = some o) → SrcAt s c H2 → ∀ i : Int, 0 ≤ i → i < n → Q (.int i) H2 := fun {H2} h2 sa i i0 i1 =>
      k _ _ G H2 ⟨Le.refl _, h2, fun _ _ e => .inl e, ⟨fun b o e => h2 b o (fun z => by rw [w0.sep b z] at e; cases e) (w0.le b o e), sa, w0.sep⟩⟩ (.int i) (hq i i0 i1)
    obtain ⟨nsc, cells, l, m, t, hs, hc, hlen⟩ := w0.src
    refine ⟨fun σ H2 => ∃ mm, pickW s c n H mm σ H2, ?_, ?_⟩
    · refine ⟨pickW s c n H, ⟨_, cells, l, m, t, rfl, rfl, hs, hc, hlen, fun _ _ _ e => e⟩, ?_⟩
      rintro mm σ H2 ⟨cells, l, m, t, rfl, rfl, hs, hc, hlen, kp⟩
      refine ⟨_, rfl, _, _, rfl, rfl, _, rfl, ?_⟩
      refine ite2 (fun _ => ?_) (fun _ => ?_)
      · refine ⟨_, rfl, s, .int l, rfl, sd_l ▸ DGet.k (k := .inr "left") hs, _, _, rfl, rfl, _, rfl, ?_⟩
        refine ite2 (fun _ => ?_) (fun _ => ?_)
        · refine ⟨_, rfl, s, .ref c, rfl, sd_c ▸ DGet.k (k := .inr "cells") hs, _, cells.length, rfl, .inl ⟨_, SqL.of hc, by simp⟩, _, _, rfl, rfl, _, rfl, ?_⟩
          refine ite2 (fun hpos => ?_) (fun _ => ?_)
          · have hp : 0 < cells.length := by
              have := of_decide_eq_true hpos
              omega
            obtain ⟨x, hx⟩ : ∃ x, cells[cells.length - 1]? = some x := ⟨_, List.getElem?_eq_getElem (by omega)⟩
            refine ⟨fun σ' H' => ∃ m', m' < cells.length ∧ pickW s c n H m' σ' H', fun σ' H' z => z, ?_⟩
            refine ⟨_, rfl, s, .ref c, rfl, sd_c ▸ DGet.k (k := .inr "cells") hs, .inl ⟨rfl, _, SqL.of hc⟩, c, _, .int x, rfl, rfl, hc, (by rw [List.length_map, List.getElem?_map, hx]; rfl), ?_⟩
            refine ⟨_, rfl, s, _, rfl, DPut.k (k := .inr "left") (by rw [upd_ne nsc]; exact hs) (by show 4 < sizeLine; decide), ?_⟩
            refine ⟨cells.length - 1, by omega, cells.dropLast, x, m, t, by simp, rfl, by rw [upd_same, put_l], ?_, ?_, fun b o nb e => ?_⟩
            · rw [upd_ne (Ne.symm nsc), upd_same, List.map_dropLast]
            · simp
              omega
            · rw [upd_ne fun z => nb (.inl z), upd_ne fun z => nb (.inr z)]
              exact kp b o nb e
          · exact ⟨_, cells, l, m, t, rfl, rfl, hs, hc, hlen, kp⟩
        · exact ⟨_, cells, l, m, t, rfl, rfl, hs, hc, hlen, kp⟩
      · exact ⟨_, cells, l, m, t, rfl, rfl, hs, hc, hlen, kp⟩
    · rintro σ H2 ⟨_, cells, l, m, t, _, rfl, hs, hc, hlen, kp⟩
      refine ⟨_, rfl, s, .int l, rfl, sd_l ▸ DGet.k (k := .inr "left") hs, ?_⟩
      have gone : ∀ (x y z : Int), SrcAt s c (upd H2 s (.dK (sd c x y z))) ∧ ∀ b o, ¬ (b = s ∨ b = c) → H b = some o → (upd H2 s (.dK (sd c x y z))) b = some o := fun x y z =>
        ⟨⟨nsc, cells, x, y, z, upd_same, by rw [upd_ne (Ne.symm nsc)]; exact hc, hlen⟩, fun b o nb e => by rw [upd_ne fun z => nb (.inl z)]; exact kp b o nb e⟩
      have four : ∀ x y z : Int, (sd c x y z).length < sizeLine := fun _ _ _ => by show 4 < sizeLine; decide
      refine ⟨_, rfl, _, _, rfl, rfl, _, rfl, ?_⟩
      refine ite2 (fun _ => iteT ?a1) (fun _ => ⟨_, rfl, _, _, rfl, rfl, _, rfl, ite2 (fun _ => ?a2) (fun _ => ?a3)⟩)
      case a3 =>
        -- source['turn'] = source['turn'] + 1 ..
        refine ⟨_, rfl, s, .int t, rfl, sd_t ▸ DGet.k (k := .inr "turn") hs, _, _, rfl, rfl, ?_⟩
        refine ⟨_, rfl, s, _, rfl, DPut.k (k := .inr "turn") hs (four _ _ _), ?_⟩
        rw [put_t]
        refine ⟨_, rfl, s, .int m, rfl, sd_m ▸ DGet.k (k := .inr "mixed") upd_same, ?_⟩
        refine ⟨_, rfl, s, .int (t + 1), rfl, sd_t ▸ DGet.k (k := .inr "turn") upd_same, _, _, rfl, rfl, .inr ⟨by decide, by decide⟩, _, _, rfl, rfl, .inl ⟨_, rfl, _, _, rfl, rfl, (by show (0 : Int) < 998244353; decide), ?_⟩⟩
        have b1 := Int.emod_nonneg (m + (t + 1) * 104729) (show (998244353 : Int) ≠ 0 by decide)
        have b2 := Int.emod_lt_of_pos (m + (t + 1) * 104729) (show (0 : Int) < 998244353 by decide)
        refine ⟨_, rfl, _, rfl, _, _, rfl, rfl, .inl ⟨by omega, by omega⟩, ?_⟩
        refine ⟨_, rfl, s, .int (t + 1), rfl, sd_t ▸ DGet.k (k := .inr "turn") upd_same, _, _, rfl, rfl, .inr ⟨by decide, by decide⟩, _, _, rfl, rfl, .inl ⟨_, rfl, _, _, rfl, rfl, (by show (0 : Int) < 2147483647; decide), ?_⟩⟩
        refine ⟨_, rfl, _, rfl, s, _, rfl, DPut.k (k := .inr "mixed") upd_same (four _ _ _), ?_⟩
        rw [put_m, upd_upd]
        refine ⟨_, rfl, _, _, rfl, rfl, ⟨by decide, by decide⟩, .inl ⟨_, rfl, _, rfl, _, _, rfl, rfl, (by show (0 : Int) < n; omega), ?_⟩⟩
        obtain ⟨g1, g2⟩ := gone l ((((m + (t + 1) * 104729) % 998244353) * ((m + (t + 1) * 104729) % 998244353) + (t + 1) * 17) % 2147483647) (t + 1)
        exact keep g2 g1 _ (Int.emod_nonneg _ (by omega)) (Int.emod_lt_of_pos _ (by omega))
      all_goals
        refine ⟨_, rfl, _, rfl, _, _, rfl, ?_⟩
        rw [max_n h1]
        refine ⟨_, _, rfl, rfl, ⟨by omega, by omega⟩, ?_⟩
        refine ⟨_, rfl, s, _, rfl, DPut.k (k := .inr "left") hs (four _ _ _), ?_⟩
        rw [put_l]
        refine ⟨_, rfl, .inl ⟨_, rfl, _, rfl, _, _, rfl, ?_⟩⟩
        rw [max_n h1]
        refine ⟨_, _, rfl, rfl, (by show (0 : Int) < n; omega), ?_⟩
        obtain ⟨g1, g2⟩ := gone (l / n) m t
        exact keep g2 g1 _ (Int.emod_nonneg _ (by omega)) (Int.emod_lt_of_pos _ (by omega))
end
end Tk

set_option Elab.async false
set_option linter.all false
set_option maxRecDepth 100000
set_option maxHeartbeats 4000000
namespace Tk
open PySem L2 X3
abbrev sKinds : Stmt := topS 18
abbrev sBases : Stmt := topS 19
abbrev sEvery : Stmt := topS 20
abbrev sKept : Stmt := topS 21
abbrev sLaw : Stmt := topS 22
abbrev sI0 : Stmt := inClass (topS 2) 0
abbrev sI1 : Stmt := inClass (topS 3) 0
abbrev sI2 : Stmt := inClass (topS 4) 0
abbrev sI3 : Stmt := inClass (topS 5) 0
abbrev sI4 : Stmt := inClass (topS 6) 0
abbrev sI6 : Stmt := inClass (topS 8) 0
abbrev sI9 : Stmt := inClass (topS 11) 0
abbrev sI10 : Stmt := inClass (topS 12) 0
abbrev sI11 : Stmt := inClass (topS 14) 0

/-- the twelve errors -/
inductive E12 where
  | x0 | x1 | x2 | x3 | x4 | x5 | x6 | x7 | x8 | x9 | x10 | x11
  deriving DecidableEq
def E12.ix : E12 → Nat
  | .x0 => 0
  | .x1 => 1
  | .x2 => 2
  | .x3 => 3
  | .x4 => 4
  | .x5 => 5
  | .x6 => 6
  | .x7 => 7
  | .x8 => 8
  | .x9 => 9
  | .x10 => 10
  | .x11 => 11

abbrev veT : List Value := HandSPX.veTail
abbrev leT : List Value := [.type "LookupError", .type "Exception", .type "BaseException", .type "object"]
/-- what the top has written of the classes -/
structure Txt (K : PySem.W.Frag) (mg : Str → Option Value) (c : E12 → Addr) (cO cN : Addr) : Prop where
  nms : ∀ e : E12, mg (match e with | .x0 => "NoOrder" | .x1 => "BadBook" | .x2 => "BadOrder" | .x3 => "BadDeed" | .x4 => "BadScript" | .x5 => "NotEqual" | .x6 => "Crossed" | .x7 => "TooGreat" | .x8 => "NothingDone" | .x9 => "BadText" | .x10 => "BadAct" | .x11 => "UnknownName") = some (.ref (c e))
  gO : mg "OutError" = some (.ref cO)
  gN : mg "NameMissing" = some (.ref cN)
  nValueError : mg "ValueError" = none
  nLookupError : mg "LookupError" = none
  nKeyError : mg "KeyError" = none
  nIndexError : mg "IndexError" = none
  nisinstance : mg "isinstance" = none
  nrepr : mg "repr" = none
  nlen : mg "len" = none
  ntuple : mg "tuple" = none
  nint : mg "int" = none
  nrange : mg "range" = none
  ex : ∀ e, ExcC K (c e)
  kit : ∀ e f, PySem.W.kitOne K (.ref (c e)) (.ref (c f)) = some (decide (e = f))
  kO : ∀ e, PySem.W.kitOne K (.ref (c e)) (.ref cO) = some (decide (e ≠ .x11))
  kV : ∀ e, PySem.W.kitOne K (.ref (c e)) (.type "ValueError") = some (decide (e ≠ .x11))
  kN : ∀ e, PySem.W.kitOne K (.ref (c e)) (.ref cN) = some (decide (e = .x11))
  kL : ∀ e, PySem.W.kitOne K (.ref (c e)) (.type "LookupError") = some (decide (e = .x11))
  kT : ∀ e, PySem.W.kitAny K (.ref (c e)) [.type "KeyError", .type "IndexError"] = some false
  q5 : PySem.W.excIn K (c .x5) veT "ValueError.__new__" = true
  k5 : PySem.W.keepIn K (.ref (c .x5)) = true
  q7 : PySem.W.excIn K (c .x7) veT "ValueError.__new__" = true
  k7 : PySem.W.keepIn K (.ref (c .x7)) = true
  q8 : PySem.W.excIn K (c .x8) veT "ValueError.__new__" = true
  k8 : PySem.W.keepIn K (.ref (c .x8)) = true

  x0 : ExK K (c .x0) "ValueError.__new__" veT
  x1 : ExK K (c .x1) "ValueError.__new__" veT
  x2 : ExK K (c .x2) "ValueError.__new__" veT
  x3 : ExK K (c .x3) "ValueError.__new__" veT
  x4 : ExK K (c .x4) "ValueError.__new__" veT
  x6 : ExK K (c .x6) "ValueError.__new__" veT
  x9 : ExK K (c .x9) "ValueError.__new__" veT
  x10 : ExK K (c .x10) "ValueError.__new__" veT
  x11 : ExK K (c .x11) "LookupError.__new__" leT

  f0 : PySem.W.findIn K (.ref (c .x0)) "stuck" = some none
  f1 : PySem.W.findIn K (.ref (c .x1)) "path" = some none
  f2 : PySem.W.findIn K (.ref (c .x2)) "path" = some none
  f3 : PySem.W.findIn K (.ref (c .x3)) "word" = some none
  f4 : PySem.W.findIn K (.ref (c .x4)) "number" = some none
  f9 : PySem.W.findIn K (.ref (c .x9)) "place" = some none
  f10 : PySem.W.findIn K (.ref (c .x10)) "word" = some none
  f11 : PySem.W.findIn K (.ref (c .x11)) "name" = some none

  f6a : PySem.W.findIn K (.ref (c .x6)) "one" = some none
  f6b : PySem.W.findIn K (.ref (c .x6)) "other" = some none
section
variable {K : PySem.W.Frag} {mg : Str → Option Value} {c : E12 → Addr} {cO cN : Addr}
theorem Txt.g0 (T : Txt K mg c cO cN) : mg "NoOrder" = some (.ref (c .x0)) := T.nms .x0
theorem Txt.g1 (T : Txt K mg c cO cN) : mg "BadBook" = some (.ref (c .x1)) := T.nms .x1
theorem Txt.g2 (T : Txt K mg c cO cN) : mg "BadOrder" = some (.ref (c .x2)) := T.nms .x2
theorem Txt.g3 (T : Txt K mg c cO cN) : mg "BadDeed" = some (.ref (c .x3)) := T.nms .x3
theorem Txt.g4 (T : Txt K mg c cO cN) : mg "BadScript" = some (.ref (c .x4)) := T.nms .x4
theorem Txt.g5 (T : Txt K mg c cO cN) : mg "NotEqual" = some (.ref (c .x5)) := T.nms .x5
theorem Txt.g6 (T : Txt K mg c cO cN) : mg "Crossed" = some (.ref (c .x6)) := T.nms .x6
theorem Txt.g7 (T : Txt K mg c cO cN) : mg "TooGreat" = some (.ref (c .x7)) := T.nms .x7
theorem Txt.g8 (T : Txt K mg c cO cN) : mg "NothingDone" = some (.ref (c .x8)) := T.nms .x8
theorem Txt.g9 (T : Txt K mg c cO cN) : mg "BadText" = some (.ref (c .x9)) := T.nms .x9
theorem Txt.g10 (T : Txt K mg c cO cN) : mg "BadAct" = some (.ref (c .x10)) := T.nms .x10
theorem Txt.g11 (T : Txt K mg c cO cN) : mg "UnknownName" = some (.ref (c .x11)) := T.nms .x11

theorem Txt.xf (T : Txt K mg c cO cN) (e : E12) : XfC K (c e) := ⟨(T.ex e).hg, (T.ex e).hk, (T.ex e).hs, (T.ex e).hd⟩
end
/-- what each of the errors is given, told by data -/
def kindsD (e : E12) : X3.D := .list [.bl (decide (e = .x0)), .bl (decide (e = .x1)), .bl (decide (e = .x2)), .bl (decide (e = .x3)), .bl (decide (e = .x4)), .bl (decide (e = .x5)), .bl (decide (e = .x6)), .bl (decide (e = .x7)), .bl (decide (e = .x8)), .bl (decide (e = .x9)), .bl (decide (e = .x10)), .bl (decide (e = .x11))]
def basesD (e : E12) : X3.D := .list [.bl (decide (e ≠ .x11)), .bl (decide (e ≠ .x11)), .bl (decide (e = .x11)), .bl (decide (e = .x11)), .bl false]
def pKinds (c : E12 → Addr) : Res → List X3.D → (X3.D → Prop) → Prop := fun _ ds q => ∃ e fs, ds = [.exc (c e) fs] ∧ q (kindsD e)
def pBases (c : E12 → Addr) : Res → List X3.D → (X3.D → Prop) → Prop := fun _ ds q => ∃ e fs, ds = [.exc (c e) fs] ∧ q (basesD e)
theorem scKinds : FnScope ["e", "found"] ["e"] (defScope sKinds) := ⟨rfl, rfl, rfl, by decide +kernel, rfl, by decide +kernel, by decide +kernel⟩
theorem scBases : FnScope ["e", "found"] ["e"] (defScope sBases) := ⟨rfl, rfl, rfl, by decide +kernel, rfl, by decide +kernel, by decide +kernel⟩
theorem scEvery : FnScope ["word", "number", "some", "other", "found"] ["word", "number", "some", "other"] (defScope sEvery) := ⟨rfl, rfl, rfl, by decide +kernel, rfl, by decide +kernel, by decide +kernel⟩
theorem scKept : FnScope ["every", "word", "number", "some", "other", "paths"] ["every", "word", "number", "some", "other"] (defScope sKept) := ⟨rfl, rfl, rfl, by decide +kernel, rfl, by decide +kernel, by decide +kernel⟩
section
variable {P : Program} {w : World} {K : PySem.W.Frag} {mg : Str → Option Value} {base : Heap} {c : E12 → Addr} {cO cN : Addr}
theorem ok_kinds {f : Addr} {fd : FuncData} (F : Fun K "_law_kinds" "_law_kinds" sKinds f fd) (T : Txt K mg c cO cN) : FnOk P w K mg base CX0 1 f fd ["e"] (spD K (pKinds c)) := by
  refine F.ok scKinds (fun vs H Q E h => ?_) (fun cdv A outer s H vs Q E hr h => ?_)
  · obtain ⟨S, G, ds, q, _, r, ⟨e, fs, rfl, _⟩, _⟩ := h
    exact r.length
  · obtain ⟨S, G, ds, q, w0, r, ⟨e, fs, rfl, hq⟩, k⟩ := h
    refine ⟨_, (pss_cons (ps_set (i := 1) scKinds.nd rfl (Or.inl rfl) (pe_lst (pa_cons (pe_callB (r := rIsX K) call_isX (by rfl) T.nisinstance PyProof.Rows.boot_isinstance (pa_cons (pv 0) (pa_cons (pe_glob (v := .ref (c .x0)) (by rfl) T.g0 rfl) pa_nil))) (pa_cons (pe_callB (r := rIsX K) call_isX (by rfl) T.nisinstance PyProof.Rows.boot_isinstance (pa_cons (pv 0) (pa_cons (pe_glob (v := .ref (c .x1)) (by rfl) T.g1 rfl) pa_nil))) (pa_cons (pe_callB (r := rIsX K) call_isX (by rfl) T.nisinstance PyProof.Rows.boot_isinstance (pa_cons (pv 0) (pa_cons (pe_glob (v := .ref (c .x2)) (by rfl) T.g2 rfl) pa_nil))) (pa_cons (pe_callB (r := rIsX K) call_isX (by rfl) T.nisinstance PyProof.Rows.boot_isinstance (pa_cons (pv 0) (pa_cons (pe_glob (v := .ref (c .x3)) (by rfl) T.g3 rfl) pa_nil))) pa_nil))))))
      (pss_cons (ps_set (i := 1) scKinds.nd rfl (Or.inl rfl) (pe_op op_plus (pv 1) (pe_lst (pa_cons (pe_callB (r := rIsX K) call_isX (by rfl) T.nisinstance PyProof.Rows.boot_isinstance (pa_cons (pv 0) (pa_cons (pe_glob (v := .ref (c .x4)) (by rfl) T.g4 rfl) pa_nil))) (pa_cons (pe_callB (r := rIsX K) call_isX (by rfl) T.nisinstance PyProof.Rows.boot_isinstance (pa_cons (pv 0) (pa_cons (pe_glob (v := .ref (c .x5)) (by rfl) T.g5 rfl) pa_nil))) (pa_cons (pe_callB (r := rIsX K) call_isX (by rfl) T.nisinstance PyProof.Rows.boot_isinstance (pa_cons (pv 0) (pa_cons (pe_glob (v := .ref (c .x6)) (by rfl) T.g6 rfl) pa_nil))) (pa_cons (pe_callB (r := rIsX K) call_isX (by rfl) T.nisinstance PyProof.Rows.boot_isinstance (pa_cons (pv 0) (pa_cons (pe_glob (v := .ref (c .x7)) (by rfl) T.g7 rfl) pa_nil))) pa_nil)))))))
      (pss_cons (ps_set (i := 1) scKinds.nd rfl (Or.inl rfl) (pe_op op_plus (pv 1) (pe_lst (pa_cons (pe_callB (r := rIsX K) call_isX (by rfl) T.nisinstance PyProof.Rows.boot_isinstance (pa_cons (pv 0) (pa_cons (pe_glob (v := .ref (c .x8)) (by rfl) T.g8 rfl) pa_nil))) (pa_cons (pe_callB (r := rIsX K) call_isX (by rfl) T.nisinstance PyProof.Rows.boot_isinstance (pa_cons (pv 0) (pa_cons (pe_glob (v := .ref (c .x9)) (by rfl) T.g9 rfl) pa_nil))) (pa_cons (pe_callB (r := rIsX K) call_isX (by rfl) T.nisinstance PyProof.Rows.boot_isinstance (pa_cons (pv 0) (pa_cons (pe_glob (v := .ref (c .x10)) (by rfl) T.g10 rfl) pa_nil))) pa_nil))))))
      (pss_one (ps_ret (pe_op op_plus (pv 1) (pe_lst (pa_cons (pe_callB (r := rIsX K) call_isX (by rfl) T.nisinstance PyProof.Rows.boot_isinstance (pa_cons (pv 0) (pa_cons (pe_glob (v := .ref (c .x11)) (by rfl) T.g11 rfl) pa_nil))) pa_nil)))))))), ?_⟩
    refine body_of w0 r k ?_
    repeat (first | with_reducible refine wc_isX (T.ex e) (.own _) (T.kit e _) ?_ | (first | with_reducible refine we_op ?_ | with_reducible refine we_lst ?_ | with_reducible refine wa_cons ?_ | with_reducible refine wa_nil ?_ | with_reducible refine we_cb ?_ | with_reducible refine we_tup ?_ | with_reducible refine we_un ?_ | with_reducible refine we_int ?_ | with_reducible refine we_str ?_ | with_reducible refine we_bl ?_ | with_reducible refine we_non ?_ | with_reducible refine we_val ?_ | with_reducible refine wp_l (Nat.le_of_ble_eq_true rfl) ?_ | refine (And.intro (a := _ ≤ _) (Nat.le_of_ble_eq_true rfl) ?_) | with_reducible refine ws_seq (ws_asg ?_) | with_reducible refine ws_ret ?_ | refine we_var (by rfl) ?_))
    exact hq
theorem wc_isXT2 {K : PySem.W.Frag} {S : Res} {Q : X3.D → Prop} {C : Addr} {fs : Option (List (Str × X3.D))} {a b : String} {x : Bool} (hc : ExcC K C) (e : PySem.W.kitAny K (.ref C) [.type a, .type b] = some x) (q : Q (.bl x)) : WRC K S (rIsXT K) [.exc C fs, .tup [.val (.ty a), .val (.ty b)]] Q := wc_isXT (ts := [a, b]) hc e q
theorem ok_bases {f : Addr} {fd : FuncData} (F : Fun K "_law_bases" "_law_bases" sBases f fd) (T : Txt K mg c cO cN) : FnOk P w K mg base CX0 1 f fd ["e"] (spD K (pBases c)) := by
  refine F.ok scBases (fun vs H Q E h => ?_) (fun cdv A outer s H vs Q E hr h => ?_)
  · obtain ⟨S, G, ds, q, _, r, ⟨e, fs, rfl, _⟩, _⟩ := h
    exact r.length
  · obtain ⟨S, G, ds, q, w0, r, ⟨e, fs, rfl, hq⟩, k⟩ := h
    refine ⟨_, (pss_cons (ps_set (i := 1) scBases.nd rfl (Or.inl rfl) (pe_lst (pa_cons (pe_callB (r := rIsX K) call_isX (by rfl) T.nisinstance PyProof.Rows.boot_isinstance (pa_cons (pv 0) (pa_cons (pe_glob (v := .ref cO) (by rfl) T.gO rfl) pa_nil))) (pa_cons (pe_callB (r := rIsX K) call_isX (by rfl) T.nisinstance PyProof.Rows.boot_isinstance (pa_cons (pv 0) (pa_cons (pe_bltn (v := .ty "ValueError") (u := .type "ValueError") (by rfl) T.nValueError (by decide +kernel) rfl) pa_nil))) pa_nil))))
      (pss_one (ps_ret (pe_op op_plus (pv 1) (pe_lst (pa_cons (pe_callB (r := rIsX K) call_isX (by rfl) T.nisinstance PyProof.Rows.boot_isinstance (pa_cons (pv 0) (pa_cons (pe_glob (v := .ref cN) (by rfl) T.gN rfl) pa_nil))) (pa_cons (pe_callB (r := rIsX K) call_isX (by rfl) T.nisinstance PyProof.Rows.boot_isinstance (pa_cons (pv 0) (pa_cons (pe_bltn (v := .ty "LookupError") (u := .type "LookupError") (by rfl) T.nLookupError (by decide +kernel) rfl) pa_nil))) (pa_cons (pe_callB (r := rIsXT K) call_isXT (by rfl) T.nisinstance PyProof.Rows.boot_isinstance (pa_cons (pv 0) (pa_cons (pe_tup (pa_cons (pe_bltn (v := .ty "KeyError") (u := .type "KeyError") (by rfl) T.nKeyError (by decide +kernel) rfl) (pa_cons (pe_bltn (v := .ty "IndexError") (u := .type "IndexError") (by rfl) T.nIndexError (by decide +kernel) rfl) pa_nil))) pa_nil))) pa_nil)))))))), ?_⟩
    refine body_of w0 r k ?_
    repeat (first | with_reducible refine wc_isX (T.ex e) (.own _) (T.kO e) ?_ | with_reducible refine wc_isX (T.ex e) (.own _) (T.kN e) ?_ | with_reducible refine wc_isX (T.ex e) (.ty _) (T.kV e) ?_ | with_reducible refine wc_isX (T.ex e) (.ty _) (T.kL e) ?_ | with_reducible refine wc_isXT2 (T.ex e) (T.kT e) ?_ | (first | with_reducible refine we_op ?_ | with_reducible refine we_lst ?_ | with_reducible refine wa_cons ?_ | with_reducible refine wa_nil ?_ | with_reducible refine we_cb ?_ | with_reducible refine we_tup ?_ | with_reducible refine we_un ?_ | with_reducible refine we_int ?_ | with_reducible refine we_str ?_ | with_reducible refine we_bl ?_ | with_reducible refine we_non ?_ | with_reducible refine we_val ?_ | with_reducible refine wp_l (Nat.le_of_ble_eq_true rfl) ?_ | refine (And.intro (a := _ ≤ _) (Nat.le_of_ble_eq_true rfl) ?_) | with_reducible refine ws_seq (ws_asg ?_) | with_reducible refine ws_ret ?_ | refine we_var (by rfl) ?_))
    exact hq
/-! ### their making -/
def pTup : X3.D → (X3.D → Prop) → Prop := fun d q => ∃ xs, (d = .list xs ∨ d = .tup xs) ∧ q (.tup xs)
def pAs : X3.D → (X3.D → Prop) → Prop := fun d q => q d
theorem scI0 : FnScope ["self", "stuck"] ["self", "stuck"] (defScope sI0) := ⟨rfl, rfl, rfl, by decide +kernel, rfl, by decide +kernel, by decide +kernel⟩
theorem scI1 : FnScope ["self", "path"] ["self", "path"] (defScope sI1) := ⟨rfl, rfl, rfl, by decide +kernel, rfl, by decide +kernel, by decide +kernel⟩
theorem scI2 : FnScope ["self", "path"] ["self", "path"] (defScope sI2) := ⟨rfl, rfl, rfl, by decide +kernel, rfl, by decide +kernel, by decide +kernel⟩
theorem scI3 : FnScope ["self", "word"] ["self", "word"] (defScope sI3) := ⟨rfl, rfl, rfl, by decide +kernel, rfl, by decide +kernel, by decide +kernel⟩
theorem scI4 : FnScope ["self", "number"] ["self", "number"] (defScope sI4) := ⟨rfl, rfl, rfl, by decide +kernel, rfl, by decide +kernel, by decide +kernel⟩
theorem scI6 : FnScope ["self", "one", "other"] ["self", "one", "other"] (defScope sI6) := ⟨rfl, rfl, rfl, by decide +kernel, rfl, by decide +kernel, by decide +kernel⟩
theorem scI9 : FnScope ["self", "place"] ["self", "place"] (defScope sI9) := ⟨rfl, rfl, rfl, by decide +kernel, rfl, by decide +kernel, by decide +kernel⟩
theorem scI10 : FnScope ["self", "word"] ["self", "word"] (defScope sI10) := ⟨rfl, rfl, rfl, by decide +kernel, rfl, by decide +kernel, by decide +kernel⟩
theorem scI11 : FnScope ["self", "name"] ["self", "name"] (defScope sI11) := ⟨rfl, rfl, rfl, by decide +kernel, rfl, by decide +kernel, by decide +kernel⟩

abbrev spI (K : PySem.W.Frag) : E12 → Sp
  | .x0 => spX1 K "ValueError.__new__" veT "stuck" pTup
  | .x1 => spX1 K "ValueError.__new__" veT "path" pTup
  | .x2 => spX1 K "ValueError.__new__" veT "path" pTup
  | .x3 => spX1 K "ValueError.__new__" veT "word" pAs
  | .x4 => spX1 K "ValueError.__new__" veT "number" pAs
  | .x6 => spX2 K "ValueError.__new__" veT "one" "other"
  | .x9 => spX1 K "ValueError.__new__" veT "place" pAs
  | .x10 => spX1 K "ValueError.__new__" veT "word" pAs
  | .x11 => spX1 K "LookupError.__new__" leT "name" pAs
  | _ => fun _ _ _ _ => False
theorem ok_I0 {f : Addr} {fd : FuncData} (F : Fun K "__init__" "NoOrder.__init__" sI0 f fd) (hT : mg "tuple" = none) : FnOk P w K mg base CX0 1 f fd ["self", "stuck"] (spI K .x0) := by
  refine F.ok scI0 (fun vs H Q E h => ?_) (fun cdv A outer s H vs Q E hr h => ?_)
  · obtain ⟨a, C, v, S, G, Hc, d, q, rfl, _⟩ := h
    rfl
  · refine ⟨_, pss_one (ps_xst XEx.tailVE (pv 0) (pe_callTy (r := rTup K) call_tuple_of (by rfl) hT PyProof.Rows.boot_tuple (pa_cons (pv 1) pa_nil)) rfl), ?_⟩
    refine read_x1 h (fun S d q hp => ?_) _ rfl
    obtain ⟨xs, hd, hq⟩ := hp
    exact we_cb (wa_cons (we_var rfl (wa_nil (wc_tupleR hd hq))))
theorem ok_I1 {f : Addr} {fd : FuncData} (F : Fun K "__init__" "BadBook.__init__" sI1 f fd) (hT : mg "tuple" = none) : FnOk P w K mg base CX0 1 f fd ["self", "path"] (spI K .x1) := by
  refine F.ok scI1 (fun vs H Q E h => ?_) (fun cdv A outer s H vs Q E hr h => ?_)
  · obtain ⟨a, C, v, S, G, Hc, d, q, rfl, _⟩ := h
    rfl
  · refine ⟨_, pss_one (ps_xst XEx.tailVE (pv 0) (pe_callTy (r := rTup K) call_tuple_of (by rfl) hT PyProof.Rows.boot_tuple (pa_cons (pv 1) pa_nil)) rfl), ?_⟩
    refine read_x1 h (fun S d q hp => ?_) _ rfl
    obtain ⟨xs, hd, hq⟩ := hp
    exact we_cb (wa_cons (we_var rfl (wa_nil (wc_tupleR hd hq))))
theorem ok_I2 {f : Addr} {fd : FuncData} (F : Fun K "__init__" "BadOrder.__init__" sI2 f fd) (hT : mg "tuple" = none) : FnOk P w K mg base CX0 1 f fd ["self", "path"] (spI K .x2) := by
  refine F.ok scI2 (fun vs H Q E h => ?_) (fun cdv A outer s H vs Q E hr h => ?_)
  · obtain ⟨a, C, v, S, G, Hc, d, q, rfl, _⟩ := h
    rfl
  · refine ⟨_, pss_one (ps_xst XEx.tailVE (pv 0) (pe_callTy (r := rTup K) call_tuple_of (by rfl) hT PyProof.Rows.boot_tuple (pa_cons (pv 1) pa_nil)) rfl), ?_⟩
    refine read_x1 h (fun S d q hp => ?_) _ rfl
    obtain ⟨xs, hd, hq⟩ := hp
    exact we_cb (wa_cons (we_var rfl (wa_nil (wc_tupleR hd hq))))
theorem ok_I3 {f : Addr} {fd : FuncData} (F : Fun K "__init__" "BadDeed.__init__" sI3 f fd) (hT : mg "tuple" = none) : FnOk P w K mg base CX0 1 f fd ["self", "word"] (spI K .x3) := by
  refine F.ok scI3 (fun vs H Q E h => ?_) (fun cdv A outer s H vs Q E hr h => ?_)
  · obtain ⟨a, C, v, S, G, Hc, d, q, rfl, _⟩ := h
    rfl
  · refine ⟨_, pss_one (ps_xst XEx.tailVE (pv 0) (pv 1) rfl), ?_⟩
    refine read_x1 h (fun S d q hp => ?_) _ rfl
    exact we_var rfl hp
theorem ok_I4 {f : Addr} {fd : FuncData} (F : Fun K "__init__" "BadScript.__init__" sI4 f fd) (hT : mg "tuple" = none) : FnOk P w K mg base CX0 1 f fd ["self", "number"] (spI K .x4) := by
  refine F.ok scI4 (fun vs H Q E h => ?_) (fun cdv A outer s H vs Q E hr h => ?_)
  · obtain ⟨a, C, v, S, G, Hc, d, q, rfl, _⟩ := h
    rfl
  · refine ⟨_, pss_one (ps_xst XEx.tailVE (pv 0) (pv 1) rfl), ?_⟩
    refine read_x1 h (fun S d q hp => ?_) _ rfl
    exact we_var rfl hp
theorem ok_I9 {f : Addr} {fd : FuncData} (F : Fun K "__init__" "BadText.__init__" sI9 f fd) (hT : mg "tuple" = none) : FnOk P w K mg base CX0 1 f fd ["self", "place"] (spI K .x9) := by
  refine F.ok scI9 (fun vs H Q E h => ?_) (fun cdv A outer s H vs Q E hr h => ?_)
  · obtain ⟨a, C, v, S, G, Hc, d, q, rfl, _⟩ := h
    rfl
  · refine ⟨_, pss_one (ps_xst XEx.tailVE (pv 0) (pv 1) rfl), ?_⟩
    refine read_x1 h (fun S d q hp => ?_) _ rfl
    exact we_var rfl hp
theorem ok_I10 {f : Addr} {fd : FuncData} (F : Fun K "__init__" "BadAct.__init__" sI10 f fd) (hT : mg "tuple" = none) : FnOk P w K mg base CX0 1 f fd ["self", "word"] (spI K .x10) := by
  refine F.ok scI10 (fun vs H Q E h => ?_) (fun cdv A outer s H vs Q E hr h => ?_)
  · obtain ⟨a, C, v, S, G, Hc, d, q, rfl, _⟩ := h
    rfl
  · refine ⟨_, pss_one (ps_xst XEx.tailVE (pv 0) (pv 1) rfl), ?_⟩
    refine read_x1 h (fun S d q hp => ?_) _ rfl
    exact we_var rfl hp
theorem ok_I11 {f : Addr} {fd : FuncData} (F : Fun K "__init__" "UnknownName.__init__" sI11 f fd) (hT : mg "tuple" = none) : FnOk P w K mg base CX0 1 f fd ["self", "name"] (spI K .x11) := by
  refine F.ok scI11 (fun vs H Q E h => ?_) (fun cdv A outer s H vs Q E hr h => ?_)
  · obtain ⟨a, C, v, S, G, Hc, d, q, rfl, _⟩ := h
    rfl
  · refine ⟨_, pss_one (ps_xst XEx.tailLE (pv 0) (pv 1) rfl), ?_⟩
    refine read_x1 h (fun S d q hp => ?_) _ rfl
    exact we_var rfl hp

theorem ok_I6 {f : Addr} {fd : FuncData} (F : Fun K "__init__" "Crossed.__init__" sI6 f fd) : FnOk P w K mg base CX0 1 f fd ["self", "one", "other"] (spI K .x6) := by
  refine F.ok scI6 (fun vs H Q E h => ?_) (fun cdv A outer s H vs Q E hr h => ?_)
  · obtain ⟨a, C, v1, v2, S, G, Hc, d1, d2, rfl, _⟩ := h
    rfl
  · refine ⟨_, pss_cons (ps_xst XEx.tailVE (pv 0) (pv 1) rfl) (pss_one (ps_xst XEx.tailVE (pv 0) (pv 2) rfl)), ?_⟩
    exact read_x2 h _ rfl
/-- what each holds -/
def fsD (w n : X3.D) (xs : List X3.D) (o : X3.D) : E12 → Option (List (Str × X3.D))
  | .x0 => some [("stuck", .tup xs)]
  | .x1 => some [("path", .tup xs)]
  | .x2 => some [("path", .tup xs)]
  | .x3 => some [("word", w)]
  | .x4 => some [("number", n)]
  | .x6 => some [("other", o), ("one", w)]
  | .x9 => some [("place", n)]
  | .x10 => some [("word", w)]
  | .x11 => some [("name", o)]
  | _ => none
def exD (c : E12 → Addr) (w n : X3.D) (xs : List X3.D) (o : X3.D) (e : E12) : X3.D := .exc (c e) (fsD w n xs o e)
def everyD (c : E12 → Addr) (w n : X3.D) (xs : List X3.D) (o : X3.D) : List X3.D := [exD c w n xs o .x0, exD c w n xs o .x1, exD c w n xs o .x2, exD c w n xs o .x3, exD c w n xs o .x4, exD c w n xs o .x5, exD c w n xs o .x6, exD c w n xs o .x7, exD c w n xs o .x8, exD c w n xs o .x9, exD c w n xs o .x10, exD c w n xs o .x11]
def pEvery (c : E12 → Addr) : Res → List X3.D → (X3.D → Prop) → Prop := fun _ ds q => ∃ w n so xs o, ds = [w, n, so, o] ∧ (so = .list xs ∨ so = .tup xs) ∧ q (.list (everyD c w n xs o))
structure Ini (P : Program) (w : World) (K : PySem.W.Frag) (mg : Str → Option Value) (base : Heap) (c : E12 → Addr) (fI : E12 → Addr) (fd : E12 → FuncData) : Prop where
  i0 : PySem.W.findIn K (.ref (c .x0)) "__init__" = some (some (.ref (fI .x0)))
  t0 : PySem.W.typeIn K (.ref (fI .x0)) = some (.type "function")
  F0 : FnOk P w K mg base CX0 1 (fI .x0) (fd .x0) ["self", "stuck"] (spI K .x0)
  b0 : Binds K (fd .x0) ["self", "stuck"] []
  i1 : PySem.W.findIn K (.ref (c .x1)) "__init__" = some (some (.ref (fI .x1)))
  t1 : PySem.W.typeIn K (.ref (fI .x1)) = some (.type "function")
  F1 : FnOk P w K mg base CX0 1 (fI .x1) (fd .x1) ["self", "path"] (spI K .x1)
  b1 : Binds K (fd .x1) ["self", "path"] []
  i2 : PySem.W.findIn K (.ref (c .x2)) "__init__" = some (some (.ref (fI .x2)))
  t2 : PySem.W.typeIn K (.ref (fI .x2)) = some (.type "function")
  F2 : FnOk P w K mg base CX0 1 (fI .x2) (fd .x2) ["self", "path"] (spI K .x2)
  b2 : Binds K (fd .x2) ["self", "path"] []
  i3 : PySem.W.findIn K (.ref (c .x3)) "__init__" = some (some (.ref (fI .x3)))
  t3 : PySem.W.typeIn K (.ref (fI .x3)) = some (.type "function")
  F3 : FnOk P w K mg base CX0 1 (fI .x3) (fd .x3) ["self", "word"] (spI K .x3)
  b3 : Binds K (fd .x3) ["self", "word"] []
  i4 : PySem.W.findIn K (.ref (c .x4)) "__init__" = some (some (.ref (fI .x4)))
  t4 : PySem.W.typeIn K (.ref (fI .x4)) = some (.type "function")
  F4 : FnOk P w K mg base CX0 1 (fI .x4) (fd .x4) ["self", "number"] (spI K .x4)
  b4 : Binds K (fd .x4) ["self", "number"] []
  i6 : PySem.W.findIn K (.ref (c .x6)) "__init__" = some (some (.ref (fI .x6)))
  t6 : PySem.W.typeIn K (.ref (fI .x6)) = some (.type "function")
  F6 : FnOk P w K mg base CX0 1 (fI .x6) (fd .x6) ["self", "one", "other"] (spI K .x6)
  b6 : Binds K (fd .x6) ["self", "one", "other"] []
  i9 : PySem.W.findIn K (.ref (c .x9)) "__init__" = some (some (.ref (fI .x9)))
  t9 : PySem.W.typeIn K (.ref (fI .x9)) = some (.type "function")
  F9 : FnOk P w K mg base CX0 1 (fI .x9) (fd .x9) ["self", "place"] (spI K .x9)
  b9 : Binds K (fd .x9) ["self", "place"] []
  i10 : PySem.W.findIn K (.ref (c .x10)) "__init__" = some (some (.ref (fI .x10)))
  t10 : PySem.W.typeIn K (.ref (fI .x10)) = some (.type "function")
  F10 : FnOk P w K mg base CX0 1 (fI .x10) (fd .x10) ["self", "word"] (spI K .x10)
  b10 : Binds K (fd .x10) ["self", "word"] []
  i11 : PySem.W.findIn K (.ref (c .x11)) "__init__" = some (some (.ref (fI .x11)))
  t11 : PySem.W.typeIn K (.ref (fI .x11)) = some (.type "function")
  F11 : FnOk P w K mg base CX0 1 (fI .x11) (fd .x11) ["self", "name"] (spI K .x11)
  b11 : Binds K (fd .x11) ["self", "name"] []

theorem we_x1T {K : PySem.W.Frag} {S : Res} {newId : String} {tl : List Value} {C : Addr} {tA : TA} {f : Str} {ρ : Rho} {q : X3.D → Prop} (T : ExK K C newId tl) (hno : PySem.W.findIn K (.ref C) f = some none)
    (h : WA K S tA ρ fun ds => ∃ d xs, ds = [d] ∧ (d = .list xs ∨ d = .tup xs) ∧ q (.exc C (some [(f, .tup xs)]))) : WE K S (tXmk C (spX1 K newId tl f pTup) tA) ρ q := we_x1 T hno fun σ G H k w sl cc => h σ G H k w sl fun vs ds G' H' s dt z => cc vs ds G' H' s dt (let ⟨d, xs, e, hd, hq⟩ := z; ⟨d, e, xs, hd, hq⟩)
theorem we_x1A {K : PySem.W.Frag} {S : Res} {newId : String} {tl : List Value} {C : Addr} {tA : TA} {f : Str} {ρ : Rho} {q : X3.D → Prop} (T : ExK K C newId tl) (hno : PySem.W.findIn K (.ref C) f = some none)
    (h : WA K S tA ρ fun ds => ∃ d, ds = [d] ∧ q (.exc C (some [(f, d)]))) : WE K S (tXmk C (spX1 K newId tl f pAs) tA) ρ q := we_x1 T hno h
theorem ok_every {f : Addr} {fd : FuncData} {fI : E12 → Addr} {fdI : E12 → FuncData} (F : Fun K "_law_every" "_law_every" sEvery f fd) (T : Txt K mg c cO cN) (I : Ini P w K mg base c fI fdI) : FnOk P w K mg base CX0 3 f fd ["word", "number", "some", "other"] (spD K (pEvery c)) := by
  refine F.ok scEvery (fun vs H Q E h => ?_) (fun cdv A outer s H vs Q E hr h => ?_)
  · obtain ⟨S, G, ds, q, _, r, ⟨w, n, so, xs, o, rfl, _⟩, _⟩ := h
    exact r.length
  · obtain ⟨S, G, ds, q, w0, r, ⟨w, n, so, xs, o, rfl, hso, hq⟩, k⟩ := h
    refine ⟨_, (pss_cons (ps_set (i := 4) scEvery.nd rfl (Or.inl rfl) (pe_lst (pa_cons (pe_xmk XEx.tailVE T.x0 I.i0 I.t0 I.F0 (hr.mono (by decide)) I.b0 (by rfl) T.g0 (pa_cons (pv 2) pa_nil)) (pa_cons (pe_xmk XEx.tailVE T.x1 I.i1 I.t1 I.F1 (hr.mono (by decide)) I.b1 (by rfl) T.g1 (pa_cons (pv 2) pa_nil)) (pa_cons (pe_xmk XEx.tailVE T.x2 I.i2 I.t2 I.F2 (hr.mono (by decide)) I.b2 (by rfl) T.g2 (pa_cons (pv 2) pa_nil)) (pa_cons (pe_xmk XEx.tailVE T.x3 I.i3 I.t3 I.F3 (hr.mono (by decide)) I.b3 (by rfl) T.g3 (pa_cons (pv 0) pa_nil)) (pa_cons (pe_xmk XEx.tailVE T.x4 I.i4 I.t4 I.F4 (hr.mono (by decide)) I.b4 (by rfl) T.g4 (pa_cons (pv 1) pa_nil)) (pa_cons (pe_xmk0 XEx.tailVE.base T.q5 T.g5 T.k5 (by rfl)) pa_nil))))))))
      (pss_cons (ps_set (i := 4) scEvery.nd rfl (Or.inl rfl) (pe_op op_plus (pv 4) (pe_lst (pa_cons (pe_xmk XEx.tailVE T.x6 I.i6 I.t6 I.F6 (hr.mono (by decide)) I.b6 (by rfl) T.g6 (pa_cons (pv 0) (pa_cons (pv 3) pa_nil))) (pa_cons (pe_xmk0 XEx.tailVE.base T.q7 T.g7 T.k7 (by rfl)) (pa_cons (pe_xmk0 XEx.tailVE.base T.q8 T.g8 T.k8 (by rfl)) (pa_cons (pe_xmk XEx.tailVE T.x9 I.i9 I.t9 I.F9 (hr.mono (by decide)) I.b9 (by rfl) T.g9 (pa_cons (pv 1) pa_nil)) (pa_cons (pe_xmk XEx.tailVE T.x10 I.i10 I.t10 I.F10 (hr.mono (by decide)) I.b10 (by rfl) T.g10 (pa_cons (pv 0) pa_nil)) pa_nil))))))))
      (pss_one (ps_ret (pe_op op_plus (pv 4) (pe_lst (pa_cons (pe_xmk XEx.tailLE T.x11 I.i11 I.t11 I.F11 (hr.mono (by decide)) I.b11 (by rfl) T.g11 (pa_cons (pv 3) pa_nil)) pa_nil))))))), ?_⟩
    refine body_of w0 r k ?_
    repeat (first | with_reducible refine we_xmk0 ?_ | with_reducible refine we_x1T T.x0 T.f0 ?_ | with_reducible refine we_x1T T.x1 T.f1 ?_ | with_reducible refine we_x1T T.x2 T.f2 ?_ | with_reducible refine we_x1A T.x3 T.f3 ?_ | with_reducible refine we_x1A T.x4 T.f4 ?_ | with_reducible refine we_x1A T.x9 T.f9 ?_ | with_reducible refine we_x1A T.x10 T.f10 ?_ | with_reducible refine we_x1A T.x11 T.f11 ?_ | with_reducible refine we_x2 T.x6 T.f6a T.f6b ?_ | with_reducible refine ⟨_, _, rfl, hso, ?_⟩ | with_reducible refine ⟨_, _, rfl, ?_⟩ | with_reducible refine ⟨_, rfl, ?_⟩ | (first | with_reducible refine we_op ?_ | with_reducible refine we_lst ?_ | with_reducible refine wa_cons ?_ | with_reducible refine wa_nil ?_ | with_reducible refine we_cb ?_ | with_reducible refine we_tup ?_ | with_reducible refine we_un ?_ | with_reducible refine we_int ?_ | with_reducible refine we_str ?_ | with_reducible refine we_bl ?_ | with_reducible refine we_non ?_ | with_reducible refine we_val ?_ | with_reducible refine wp_l (Nat.le_of_ble_eq_true rfl) ?_ | refine (And.intro (a := _ ≤ _) (Nat.le_of_ble_eq_true rfl) ?_) | with_reducible refine ws_seq (ws_asg ?_) | with_reducible refine ws_ret ?_ | refine we_var (by rfl) ?_))
    exact hq
/-! ### what is kept -/
theorem lk1 {f : Str} {y : X3.D} {fs : List (Str × X3.D)} : ((f, y) :: fs).lookup f = some y := by rw [lookup_cons, if_pos rfl]
theorem lk2 {f g : Str} {y z : X3.D} {fs : List (Str × X3.D)} (h : f ≠ g) : ((g, z) :: (f, y) :: fs).lookup f = some y := by rw [lookup_cons, if_neg h, lookup_cons, if_pos rfl]
theorem ifNe {α : Type} [DecidableEq α] {a b : α} {x y : Prop} (h : a = b) (hy : y) : if (!decide (a = b)) = true then x else y := by
  rw [decide_eq_true h]
  exact hy
theorem rep2 {K : PySem.W.Frag} {S : Res} {Q : X3.D → Prop} {d : X3.D} (q : Q (.list [d, d])) : WR2 K S rTimes (.list [d]) (.int 2) Q := wt_l (by decide) (by decide) (Nat.le_of_ble_eq_true rfl) q
theorem rep3 {K : PySem.W.Frag} {S : Res} {Q : X3.D → Prop} {d : X3.D} (q : Q (.list [d, d, d])) : WR2 K S rTimes (.list [d]) (.int 3) Q := wt_l (by decide) (by decide) (Nat.le_of_ble_eq_true rfl) q
def pKept (c : E12 → Addr) : Res → List X3.D → (X3.D → Prop) → Prop := fun _ ds q => ∃ w n so xs o, ds = [.list (everyD c w n xs o), w, n, so, o] ∧ (so = .list xs ∨ so = .tup xs) ∧ ShwOk (.list [.tup xs, .tup xs, .tup xs]) ∧ ShwOk (.list [n, n]) ∧ ShwOk (.list [w, w, w]) ∧ ShwOk (.list [o, o]) ∧ q (.bl true)
theorem ev0 {w n o : X3.D} {xs : List X3.D} : atI (everyD c w n xs o) 0 = some (.exc (c .x0) (some [("stuck", .tup xs)])) := rfl
theorem ev1 {w n o : X3.D} {xs : List X3.D} : atI (everyD c w n xs o) 1 = some (.exc (c .x1) (some [("path", .tup xs)])) := rfl
theorem ev2 {w n o : X3.D} {xs : List X3.D} : atI (everyD c w n xs o) 2 = some (.exc (c .x2) (some [("path", .tup xs)])) := rfl
theorem ev3 {w n o : X3.D} {xs : List X3.D} : atI (everyD c w n xs o) 3 = some (.exc (c .x3) (some [("word", w)])) := rfl
theorem ev4 {w n o : X3.D} {xs : List X3.D} : atI (everyD c w n xs o) 4 = some (.exc (c .x4) (some [("number", n)])) := rfl
theorem ev5 {w n o : X3.D} {xs : List X3.D} : atI (everyD c w n xs o) 5 = some (.exc (c .x5) (none)) := rfl
theorem ev6 {w n o : X3.D} {xs : List X3.D} : atI (everyD c w n xs o) 6 = some (.exc (c .x6) (some [("other", o), ("one", w)])) := rfl
theorem ev7 {w n o : X3.D} {xs : List X3.D} : atI (everyD c w n xs o) 7 = some (.exc (c .x7) (none)) := rfl
theorem ev8 {w n o : X3.D} {xs : List X3.D} : atI (everyD c w n xs o) 8 = some (.exc (c .x8) (none)) := rfl
theorem ev9 {w n o : X3.D} {xs : List X3.D} : atI (everyD c w n xs o) 9 = some (.exc (c .x9) (some [("place", n)])) := rfl
theorem ev10 {w n o : X3.D} {xs : List X3.D} : atI (everyD c w n xs o) 10 = some (.exc (c .x10) (some [("word", w)])) := rfl
theorem ev11 {w n o : X3.D} {xs : List X3.D} : atI (everyD c w n xs o) 11 = some (.exc (c .x11) (some [("name", o)])) := rfl

theorem ok_kept {f : Addr} {fd : FuncData} (F : Fun K "_law_kept" "_law_kept" sKept f fd) (T : Txt K mg c cO cN) (h1 : One base) : FnG P w K mg base CX0 1 f fd ["every", "word", "number", "some", "other"] (spD K (pKept c)) := by
  refine X3.Fun.okG F scKept (fun vs H Q E h => ?_) (fun cdv A outer s H vs Q E hgu hr h => ?_)
  · obtain ⟨S, G, ds, q, _, r, ⟨w, n, so, xs, o, rfl, _⟩, _⟩ := h
    exact r.length
  · obtain ⟨S, G, ds, q, w0, r, ⟨w, n, so, xs, o, rfl, hso, s1, s2, s3, s4, hq⟩, k⟩ := h
    have hu := hu64 hr
    refine ⟨_, (pss_cons (ps_set (i := 5) scKept.nd rfl (Or.inl rfl) (pe_lst (pa_cons (show PE _ _ (tXfl K _ _) from pe_xfl (pe_ix (r := rIx K) ix_seq (pv 0) pe_int (fun _ _ => rfl)) rfl) (pa_cons (show PE _ _ (tXfl K _ _) from pe_xfl (pe_ix (r := rIx K) ix_seq (pv 0) pe_int (fun _ _ => rfl)) rfl) (pa_cons (show PE _ _ (tXfl K _ _) from pe_xfl (pe_ix (r := rIx K) ix_seq (pv 0) pe_int (fun _ _ => rfl)) rfl) pa_nil)))))
      (pss_cons (ps_if (PW.pt (pw_or (pt_cmpR (r := rNeA K) (op_neA hu) (pe_callB (r := rRepr K) (call_repr hgu (hu64 hr) h1) (by rfl) T.nrepr PyProof.Rows.boot_repr (pa_cons (pv 5) pa_nil)) (pe_callB (r := rRepr K) (call_repr hgu (hu64 hr) h1) (by rfl) T.nrepr PyProof.Rows.boot_repr (pa_cons (pe_op op_times (pe_lst (pa_cons (pe_callTy (r := rTup K) call_tuple_of (by rfl) T.ntuple PyProof.Rows.boot_tuple (pa_cons (pv 3) pa_nil)) pa_nil)) pe_int) pa_nil)) (nomark _)) (pw_or1 (pt_cmpR (r := rNeA K) (op_neA hu) (pe_callB (r := rRepr K) (call_repr hgu (hu64 hr) h1) (by rfl) T.nrepr PyProof.Rows.boot_repr (pa_cons (pe_lst (pa_cons (show PE _ _ (tXfl K _ _) from pe_xfl (pe_ix (r := rIx K) ix_seq (pv 0) pe_int (fun _ _ => rfl)) rfl) (pa_cons (show PE _ _ (tXfl K _ _) from pe_xfl (pe_ix (r := rIx K) ix_seq (pv 0) pe_int (fun _ _ => rfl)) rfl) pa_nil))) pa_nil)) (pe_callB (r := rRepr K) (call_repr hgu (hu64 hr) h1) (by rfl) T.nrepr PyProof.Rows.boot_repr (pa_cons (pe_op op_times (pe_lst (pa_cons (pv 2) pa_nil)) pe_int) pa_nil)) (nomark _))))) (pss_one (ps_ret pe_bl)) pss_nil)
      (pss_cons (ps_if (pt_cmpR (r := rNeA K) (op_neA hu) (pe_callB (r := rRepr K) (call_repr hgu (hu64 hr) h1) (by rfl) T.nrepr PyProof.Rows.boot_repr (pa_cons (pe_lst (pa_cons (show PE _ _ (tXfl K _ _) from pe_xfl (pe_ix (r := rIx K) ix_seq (pv 0) pe_int (fun _ _ => rfl)) rfl) (pa_cons (show PE _ _ (tXfl K _ _) from pe_xfl (pe_ix (r := rIx K) ix_seq (pv 0) pe_int (fun _ _ => rfl)) rfl) (pa_cons (show PE _ _ (tXfl K _ _) from pe_xfl (pe_ix (r := rIx K) ix_seq (pv 0) pe_int (fun _ _ => rfl)) rfl) pa_nil)))) pa_nil)) (pe_callB (r := rRepr K) (call_repr hgu (hu64 hr) h1) (by rfl) T.nrepr PyProof.Rows.boot_repr (pa_cons (pe_op op_times (pe_lst (pa_cons (pv 1) pa_nil)) pe_int) pa_nil)) (nomark _)) (pss_one (ps_ret pe_bl)) pss_nil)
      (pss_one (ps_ret (pe_cmpR (r := rEqA K) (op_eqA hu) (pe_callB (r := rRepr K) (call_repr hgu (hu64 hr) h1) (by rfl) T.nrepr PyProof.Rows.boot_repr (pa_cons (pe_lst (pa_cons (show PE _ _ (tXfl K _ _) from pe_xfl (pe_ix (r := rIx K) ix_seq (pv 0) pe_int (fun _ _ => rfl)) rfl) (pa_cons (show PE _ _ (tXfl K _ _) from pe_xfl (pe_ix (r := rIx K) ix_seq (pv 0) pe_int (fun _ _ => rfl)) rfl) pa_nil))) pa_nil)) (pe_callB (r := rRepr K) (call_repr hgu (hu64 hr) h1) (by rfl) T.nrepr PyProof.Rows.boot_repr (pa_cons (pe_op op_times (pe_lst (pa_cons (pv 4) pa_nil)) pe_int) pa_nil)) (nomark _))))))), ?_⟩
    refine body_of w0 r k ?_
    repeat (first | with_reducible refine wr_ixL ev0 ?_ | with_reducible refine wr_ixL ev1 ?_ | with_reducible refine wr_ixL ev2 ?_ | with_reducible refine wr_ixL ev3 ?_ | with_reducible refine wr_ixL ev4 ?_ | with_reducible refine wr_ixL ev5 ?_ | with_reducible refine wr_ixL ev6 ?_ | with_reducible refine wr_ixL ev7 ?_ | with_reducible refine wr_ixL ev8 ?_ | with_reducible refine wr_ixL ev9 ?_ | with_reducible refine wr_ixL ev10 ?_ | with_reducible refine wr_ixL ev11 ?_ | with_reducible refine we_xfl ?_ | with_reducible refine ⟨_, _, _, rfl, T.xf _, T.f0, lk1, ?_⟩ | with_reducible refine ⟨_, _, _, rfl, T.xf _, T.f1, lk1, ?_⟩ | with_reducible refine ⟨_, _, _, rfl, T.xf _, T.f2, lk1, ?_⟩ | with_reducible refine ⟨_, _, _, rfl, T.xf _, T.f3, lk1, ?_⟩ | with_reducible refine ⟨_, _, _, rfl, T.xf _, T.f4, lk1, ?_⟩ | with_reducible refine ⟨_, _, _, rfl, T.xf _, T.f9, lk1, ?_⟩ | with_reducible refine ⟨_, _, _, rfl, T.xf _, T.f10, lk1, ?_⟩ | with_reducible refine ⟨_, _, _, rfl, T.xf _, T.f11, lk1, ?_⟩ | with_reducible refine ⟨_, _, _, rfl, T.xf _, T.f6b, lk1, ?_⟩ | with_reducible refine ⟨_, _, _, rfl, T.xf _, T.f6a, lk2 (by decide +kernel), ?_⟩ | with_reducible refine wc_tupleR hso ?_ | with_reducible refine wc_repr (.inl ⟨_, rfl⟩) s1 ?_ | with_reducible refine wc_repr (.inl ⟨_, rfl⟩) s2 ?_ | with_reducible refine wc_repr (.inl ⟨_, rfl⟩) s3 ?_ | with_reducible refine wc_repr (.inl ⟨_, rfl⟩) s4 ?_ | with_reducible refine rep2 ?_ | with_reducible refine rep3 ?_ | with_reducible refine we_neS ?_ | with_reducible refine we_eqS ?_ | with_reducible refine wt_or ?_ | with_reducible refine wt_test ?_ | with_reducible refine ⟨_, rfl, ?_⟩ | with_reducible refine ifNe rfl ?_ | with_reducible refine iteF ?_ | with_reducible refine ws_seq ?_ | with_reducible refine ws_asg ?_ | with_reducible refine ws_if ?_ | with_reducible refine ws_next ?_ | (first | with_reducible refine we_op ?_ | with_reducible refine we_lst ?_ | with_reducible refine wa_cons ?_ | with_reducible refine wa_nil ?_ | with_reducible refine we_cb ?_ | with_reducible refine we_tup ?_ | with_reducible refine we_un ?_ | with_reducible refine we_int ?_ | with_reducible refine we_str ?_ | with_reducible refine we_bl ?_ | with_reducible refine we_non ?_ | with_reducible refine we_val ?_ | with_reducible refine wp_l (Nat.le_of_ble_eq_true rfl) ?_ | refine (And.intro (a := _ ≤ _) (Nat.le_of_ble_eq_true rfl) ?_) | with_reducible refine ws_seq (ws_asg ?_) | with_reducible refine ws_ret ?_ | refine we_var (by rfl) ?_))
    show q (.bl (decide _))
    rw [decide_eq_true rfl]
    exact hq
/-! ### the law -/
abbrev great : Int := 1000000000000000000000000000000
def words : List X3.D := [.str "", .str "x", .str "no such name", .non, .str (strRep "x" 100), .tup [.str "a"], .int 0, .list [.str "a", .dict []]]
def numbs : List X3.D := [.int 0, .int 1, .int 7, .int 200, .int great, .int (-1), .non]
def somes : List X3.D := [.list [.str "a", .str "b"], .list [], .tup [.str "a"], .list [.int 0, .int 1, .int 0], .tup [.tup [.str "x", .str "y"]], .list [.list []]]
def others : List X3.D := [.tup [], .tup [.str "a", .str "b"], .list [.int 0, .int 1], .non, .str "path", .dict [(.inr "a", .int 0)], .int 5, .bl true]
theorem words_ok : ∀ d ∈ words, ShwOk (.list [d, d, d]) := by
  intro d h
  simp only [words, List.mem_cons, List.not_mem_nil, or_false] at h
  rcases h with rfl | rfl | rfl | rfl | rfl | rfl | rfl | rfl <;> exact ⟨by decide +kernel, by decide +kernel, by decide +kernel, by decide +kernel⟩
theorem numbs_ok : ∀ d ∈ numbs, ShwOk (.list [d, d]) := by
  intro d h
  simp only [numbs, List.mem_cons, List.not_mem_nil, or_false] at h
  rcases h with rfl | rfl | rfl | rfl | rfl | rfl | rfl <;> exact ⟨by decide +kernel, by decide +kernel, by decide +kernel, by decide +kernel⟩
theorem others_ok : ∀ d ∈ others, ShwOk (.list [d, d]) := by
  intro d h
  simp only [others, List.mem_cons, List.not_mem_nil, or_false] at h
  rcases h with rfl | rfl | rfl | rfl | rfl | rfl | rfl | rfl <;> exact ⟨by decide +kernel, by decide +kernel, by decide +kernel, by decide +kernel⟩
theorem somes_ok : ∀ d ∈ somes, ∃ xs, (d = .list xs ∨ d = .tup xs) ∧ ShwOk (.list [.tup xs, .tup xs, .tup xs]) := by
  intro d h
  simp only [somes, List.mem_cons, List.not_mem_nil, or_false] at h
  rcases h with rfl | rfl | rfl | rfl | rfl | rfl
  · exact ⟨_, .inl rfl, ⟨by decide +kernel, by decide +kernel, by decide +kernel, by decide +kernel⟩⟩
  · exact ⟨_, .inl rfl, ⟨by decide +kernel, by decide +kernel, by decide +kernel, by decide +kernel⟩⟩
  · exact ⟨_, .inr rfl, ⟨by decide +kernel, by decide +kernel, by decide +kernel, by decide +kernel⟩⟩
  · exact ⟨_, .inl rfl, ⟨by decide +kernel, by decide +kernel, by decide +kernel, by decide +kernel⟩⟩
  · exact ⟨_, .inr rfl, ⟨by decide +kernel, by decide +kernel, by decide +kernel, by decide +kernel⟩⟩
  · exact ⟨_, .inl rfl, ⟨by decide +kernel, by decide +kernel, by decide +kernel, by decide +kernel⟩⟩
theorem ok30 : StrRepOk "0" 30 := ⟨by decide, by decide, by decide +kernel, by decide +kernel, by decide +kernel, by decide +kernel⟩
theorem ok100 : StrRepOk "x" 100 := ⟨by decide, by decide, by decide +kernel, by decide +kernel, by decide +kernel, by decide +kernel⟩
theorem hl30 : ("1" : Str).length + (strRep "0" 30).length ≤ 100000 := by decide +kernel
theorem int30 : PySem.intText? ("1" ++ strRep "0" 30) = some great := by decide +kernel
theorem len30 : ("1" ++ strRep "0" 30 : Str).length ≤ 640 := by decide +kernel
def rowK (e : E12) (m : Nat) : List X3.D := (List.range m).map fun j => .bl (decide ((0 : Int) + (j : Nat) = 0 + (e.ix : Nat)))
def rowB (e : E12) : List X3.D := [.bl (decide ((0 : Int) + (e.ix : Nat) < 11)), .bl (decide ((0 : Int) + (e.ix : Nat) < 11)), .bl (decide ((0 : Int) + (e.ix : Nat) = 11)), .bl (decide ((0 : Int) + (e.ix : Nat) = 11)), .bl false]
theorem eqK (e : E12) : EqOk (kindsD e) (.list (rowK e 12)) ∧ PyData.eqv (kindsD e).pd (X3.D.list (rowK e 12)).pd = true := by
  cases e <;> exact ⟨⟨by decide +kernel, by decide +kernel, by decide +kernel, by decide +kernel⟩, by decide +kernel⟩
theorem eqB (e : E12) : EqOk (basesD e) (.list (rowB e)) ∧ PyData.eqv (basesD e).pd (X3.D.list (rowB e)).pd = true := by
  cases e <;> exact ⟨⟨by decide +kernel, by decide +kernel, by decide +kernel, by decide +kernel⟩, by decide +kernel⟩
theorem evE {w n o : X3.D} {xs : List X3.D} (e : E12) : atI (everyD c w n xs o) (0 + (e.ix : Nat)) = some (exD c w n xs o e) := by cases e <;> rfl
theorem ix_ex {n : Nat} (h : n < 12) : ∃ e : E12, e.ix = n := by
  match n, h with
  | 0, _ => exact ⟨.x0, rfl⟩
  | 1, _ => exact ⟨.x1, rfl⟩
  | 2, _ => exact ⟨.x2, rfl⟩
  | 3, _ => exact ⟨.x3, rfl⟩
  | 4, _ => exact ⟨.x4, rfl⟩
  | 5, _ => exact ⟨.x5, rfl⟩
  | 6, _ => exact ⟨.x6, rfl⟩
  | 7, _ => exact ⟨.x7, rfl⟩
  | 8, _ => exact ⟨.x8, rfl⟩
  | 9, _ => exact ⟨.x9, rfl⟩
  | 10, _ => exact ⟨.x10, rfl⟩
  | 11, _ => exact ⟨.x11, rfl⟩

theorem ifT {x : Bool} {a b : Prop} (h : x = true) (hb : b) : if (!x) = true then a else b := by
  rw [h]
  exact hb
structure Defs (P : Program) (w : World) (K : PySem.W.Frag) (mg : Str → Option Value) (base : Heap) (c : E12 → Addr) (fs : Nat → Addr) (fd : Nat → FuncData) : Prop where
  g__law_source : mg "_law_source" = some (.ref (fs 0))
  k__law_source : PySem.W.keepIn K (.ref (fs 0)) = true
  b__law_source : Binds K (fd 0) ["script"] []
  F__law_source : FnOk P w K mg base CX0 1 (fs 0) (fd 0) ["script"] (spSource K)
  g__law_pick : mg "_law_pick" = some (.ref (fs 1))
  k__law_pick : PySem.W.keepIn K (.ref (fs 1)) = true
  b__law_pick : Binds K (fd 1) ["source", "many"] []
  F__law_pick : FnOk P w K mg base CX0 1 (fs 1) (fd 1) ["source", "many"] (spD K pPick)
  g__law_kinds : mg "_law_kinds" = some (.ref (fs 2))
  k__law_kinds : PySem.W.keepIn K (.ref (fs 2)) = true
  b__law_kinds : Binds K (fd 2) ["e"] []
  F__law_kinds : FnOk P w K mg base CX0 1 (fs 2) (fd 2) ["e"] (spD K (pKinds c))
  g__law_bases : mg "_law_bases" = some (.ref (fs 3))
  k__law_bases : PySem.W.keepIn K (.ref (fs 3)) = true
  b__law_bases : Binds K (fd 3) ["e"] []
  F__law_bases : FnOk P w K mg base CX0 1 (fs 3) (fd 3) ["e"] (spD K (pBases c))
  g__law_every : mg "_law_every" = some (.ref (fs 4))
  k__law_every : PySem.W.keepIn K (.ref (fs 4)) = true
  b__law_every : Binds K (fd 4) ["word", "number", "some", "other"] []
  F__law_every : FnOk P w K mg base CX0 3 (fs 4) (fd 4) ["word", "number", "some", "other"] (spD K (pEvery c))
  g__law_kept : mg "_law_kept" = some (.ref (fs 5))
  k__law_kept : PySem.W.keepIn K (.ref (fs 5)) = true
  b__law_kept : Binds K (fd 5) ["every", "word", "number", "some", "other"] []
  F__law_kept : FnG P w K mg base CX0 1 (fs 5) (fd 5) ["every", "word", "number", "some", "other"] (spD K (pKept c))

end
end Tk

set_option Elab.async false
set_option linter.all false
set_option maxRecDepth 100000
set_option maxHeartbeats 4000000
namespace Tk
open PySem L2 X3
section
variable {P : Program} {w : World} {K : PySem.W.Frag} {mg : Str → Option Value} {base : Heap} {c : E12 → Addr} {cO cN : Addr}
def spLaw (K : PySem.W.Frag) : Sp := fun vs H Q _ => ∃ (a : Addr) (ns : List Int), vs = [.ref a] ∧ SqL K H a (ns.map V.int) ∧ ns.length ≤ 63 ∧ ∀ H', Q (.bl true) H'
theorem scLaw : FnScope ["script", "source", "great", "lap", "word", "number", "some", "other", "every", "k", "j"] ["script"] (defScope sLaw) := ⟨rfl, rfl, rfl, by decide +kernel, rfl, by decide +kernel, by decide +kernel⟩
theorem seq_call {sp : Sp} {E : XK} {rest : TS} {D : Ends} {σ : L2.St} {H : Hp} {x : V} (h0 : σ[0]? = some (some x)) (h : sp [x] H (fun v H1 => rest D (σ.set 1 (some v)) H1) E) : tSeq (tAsg (tCall sp [] E (tCons (tVar 0) tNil)) (gName 1)) rest D σ H := ⟨x, h0, h⟩
theorem ok_law {f : Addr} {fd : FuncData} {fs : Nat → Addr} {fds : Nat → FuncData} (F : Fun K "law" "law" sLaw f fd) (T : Txt K mg c cO cN) (D : Defs P w K mg base c fs fds) : FnG P w K mg base CX0 4 f fd ["script"] (spLaw K) := by
  refine X3.Fun.okG F scLaw (fun vs H Q E h => ?_) (fun cdv A outer s H vs Q E hgu hr h => ?_)
  · obtain ⟨a, ns, rfl, _⟩ := h
    rfl
  · obtain ⟨a, ns, rfl, hS, hlen, k⟩ := h
    have hu := hu64 hr
    refine ⟨_, (pss_cons (ps_set (i := 1) scLaw.nd rfl (Or.inl rfl) (pe_call D.F__law_source (hr.mono (by decide)) (by rfl) D.g__law_source D.k__law_source D.b__law_source .nil pass0 (pa_cons (pv 0) pa_nil)))
      (pss_cons (ps_set (i := 2) scLaw.nd rfl (Or.inl rfl) (pe_callTy (r := rIntS) call_int_str (by rfl) T.nint PyProof.Rows.boot_int (pa_cons (pe_op op_plus pe_str (pe_op op_times pe_str pe_int)) pa_nil)))
      (pss_cons (ps_for PassesOwn.never rfl (pi_range1 (by rfl) T.nrange (pa_cons pe_int pa_nil)) (pg_name (i := 3) scLaw.nd rfl (Or.inl rfl)) (pss_cons (ps_set (i := 4) scLaw.nd rfl (Or.inl rfl) (pe_ix (r := rIx K) ix_seq (pe_lst (pa_cons pe_str (pa_cons pe_str (pa_cons pe_str (pa_cons pe_non (pa_cons (pe_op op_times pe_str pe_int) (pa_cons (pe_tup (pa_cons pe_str pa_nil)) (pa_cons pe_int (pa_cons (pe_lst (pa_cons pe_str (pa_cons pe_dnewK pa_nil))) pa_nil))))))))) (pe_call D.F__law_pick (hr.mono (by decide)) (by rfl) D.g__law_pick D.k__law_pick D.b__law_pick .nil pass0 (pa_cons (pv 1) (pa_cons pe_int pa_nil))) (fun _ _ => rfl)))
      (pss_cons (ps_set (i := 5) scLaw.nd rfl (Or.inl rfl) (pe_ix (r := rIx K) ix_seq (pe_lst (pa_cons pe_int (pa_cons pe_int (pa_cons pe_int (pa_cons pe_int (pa_cons (pv 2) (pa_cons (pe_un un_neg pe_int) (pa_cons pe_non pa_nil)))))))) (pe_call D.F__law_pick (hr.mono (by decide)) (by rfl) D.g__law_pick D.k__law_pick D.b__law_pick .nil pass0 (pa_cons (pv 1) (pa_cons pe_int pa_nil))) (fun _ _ => rfl)))
      (pss_cons (ps_set (i := 6) scLaw.nd rfl (Or.inl rfl) (pe_ix (r := rIx K) ix_seq (pe_lst (pa_cons (pe_lst (pa_cons pe_str (pa_cons pe_str pa_nil))) (pa_cons (pe_lst pa_nil) (pa_cons (pe_tup (pa_cons pe_str pa_nil)) (pa_cons (pe_lst (pa_cons pe_int (pa_cons pe_int (pa_cons pe_int pa_nil)))) (pa_cons (pe_tup (pa_cons (pe_tup (pa_cons pe_str (pa_cons pe_str pa_nil))) pa_nil)) (pa_cons (pe_lst (pa_cons (pe_lst pa_nil) pa_nil)) pa_nil))))))) (pe_call D.F__law_pick (hr.mono (by decide)) (by rfl) D.g__law_pick D.k__law_pick D.b__law_pick .nil pass0 (pa_cons (pv 1) (pa_cons pe_int pa_nil))) (fun _ _ => rfl)))
      (pss_cons (ps_set (i := 7) scLaw.nd rfl (Or.inl rfl) (pe_ix (r := rIx K) ix_seq (pe_lst (pa_cons (pe_tup pa_nil) (pa_cons (pe_tup (pa_cons pe_str (pa_cons pe_str pa_nil))) (pa_cons (pe_lst (pa_cons pe_int (pa_cons pe_int pa_nil))) (pa_cons pe_non (pa_cons pe_str (pa_cons (pe_disp (pps_cons pe_str pe_int pps_nil) (by decide +kernel) rfl (by simp) (by decide)) (pa_cons pe_int (pa_cons pe_bl pa_nil))))))))) (pe_call D.F__law_pick (hr.mono (by decide)) (by rfl) D.g__law_pick D.k__law_pick D.b__law_pick .nil pass0 (pa_cons (pv 1) (pa_cons pe_int pa_nil))) (fun _ _ => rfl)))
      (pss_cons (ps_set (i := 8) scLaw.nd rfl (Or.inl rfl) (pe_call D.F__law_every (hr.mono (by decide)) (by rfl) D.g__law_every D.k__law_every D.b__law_every .nil pass0 (pa_cons (pv 4) (pa_cons (pv 5) (pa_cons (pv 6) (pa_cons (pv 7) pa_nil))))))
      (pss_cons (ps_for PassesOwn.never rfl (pi_range1 (by rfl) T.nrange (pa_cons (pe_callB (r := rCount K) call_len (by rfl) T.nlen PySem.boot_len (pa_cons (pv 8) pa_nil)) pa_nil)) (pg_name (i := 9) scLaw.nd rfl (Or.inr rfl)) (pss_cons (ps_if (pt_cmpR (r := rNeA K) (op_neA hu) (pe_call D.F__law_kinds (hr.mono (by decide)) (by rfl) D.g__law_kinds D.k__law_kinds D.b__law_kinds .nil pass0 (pa_cons (pe_ix (r := rIx K) ix_seq (pv 8) (pv 9) (fun _ _ => rfl)) pa_nil)) (pe_lc (own := [("j", 10)]) (g := gName 10) (tt := tYes) rfl scLaw.nd (pi_range1 (by rfl) T.nrange (pa_cons (pe_callB (r := rCount K) call_len (by rfl) T.nlen PySem.boot_len (pa_cons (pv 8) pa_nil)) pa_nil)) (blkOk_by (N := ["script", "source", "great", "lap", "word", "number", "some", "other", "every", "k", "j"]) (sc := defScope sLaw) (by decide +kernel)) (fun _ _ _ _ _ => (pg_name (i := 10) scLaw.nd rfl (Or.inl rfl))) (fun _ _ _ _ _ => pts_nil) (fun _ _ _ _ _ => (pe_cmpR op_eq (pv 10) (pv 9) (nomark _)))) (nomark _)) (pss_one (ps_ret pe_bl)) pss_nil)
      (pss_one (ps_if (pt_cmpR (r := rNeA K) (op_neA hu) (pe_call D.F__law_bases (hr.mono (by decide)) (by rfl) D.g__law_bases D.k__law_bases D.b__law_bases .nil pass0 (pa_cons (pe_ix (r := rIx K) ix_seq (pv 8) (pv 9) (fun _ _ => rfl)) pa_nil)) (pe_lst (pa_cons (pe_cmpR op_lt (pv 9) pe_int (nomark _)) (pa_cons (pe_cmpR op_lt (pv 9) pe_int (nomark _)) (pa_cons (pe_cmpR (r := rEqA K) (op_eqA hu) (pv 9) pe_int (nomark _)) (pa_cons (pe_cmpR (r := rEqA K) (op_eqA hu) (pv 9) pe_int (nomark _)) (pa_cons pe_bl pa_nil)))))) (nomark _)) (pss_one (ps_ret pe_bl)) pss_nil))))
      (pss_one (ps_if (PW.pt (pw_or (pt_cmpR (r := rNeA K) (op_neA hu) (pe_callB (r := rCount K) call_len (by rfl) T.nlen PySem.boot_len (pa_cons (pv 8) pa_nil)) pe_int (nomark _)) (pw_or1 (pt_not (pt_val (pe_callG (E := E) D.F__law_kept hgu (hr.mono (by decide)) (by rfl) D.g__law_kept D.k__law_kept D.b__law_kept (pa_cons (pv 8) (pa_cons (pv 4) (pa_cons (pv 5) (pa_cons (pv 6) (pa_cons (pv 7) pa_nil))))))))))) (pss_one (ps_ret pe_bl)) pss_nil)))))))))
      (pss_one (ps_ret pe_bl))))), ?_⟩
    refine seq_call (x := .ref a) rfl ⟨a, ns, rfl, hS, hlen, fun s c' H' hs hc le sa => ?_⟩
    dsimp only
    refine ws_first (S := srcR s c') (K := K) (ρ := [.no, .dat (.val (.ref s)), .no, .no, .no, .no, .no, .no, .no, .no, .no]) (q := fun d => d = .bl true) sa (by rfl) (fun i d e => ?h1) (fun i j e => ?h2) (fun v d G H2 dt e => ?h3) ?_
    case h3 =>
      subst e
      cases dt
      exact k H2
    case h1 => match i, e with
      | 0, e => cases e
      | 1, e => cases e; exact ⟨.ref s, rfl, fun G => .val _⟩
      | 2, e => cases e
      | 3, e => cases e
      | 4, e => cases e
      | 5, e => cases e
      | 6, e => cases e
      | 7, e => cases e
      | 8, e => cases e
      | 9, e => cases e
      | 10, e => cases e
      | _ + 11, e => cases e
    case h2 => match i, e with
      | 0, e => cases e
      | 1, e => cases e
      | 2, e => cases e
      | 3, e => cases e
      | 4, e => cases e
      | 5, e => cases e
      | 6, e => cases e
      | 7, e => cases e
      | 8, e => cases e
      | 9, e => cases e
      | 10, e => cases e
      | _ + 11, e => cases e
    -- great
    refine ws_seq (ws_asg ?_)
    repeat (first | with_reducible refine wt_s ok30 ?_ | with_reducible refine wp_s hl30 ?_ | with_reducible refine wc_intR int30 len30 ?_ | (first | with_reducible refine we_op ?_ | with_reducible refine we_lst ?_ | with_reducible refine wa_cons ?_ | with_reducible refine wa_nil ?_ | with_reducible refine we_cb ?_ | with_reducible refine we_tup ?_ | with_reducible refine we_un ?_ | with_reducible refine we_int ?_ | with_reducible refine we_str ?_ | with_reducible refine we_bl ?_ | with_reducible refine we_non ?_ | with_reducible refine we_val ?_ | with_reducible refine wp_l (Nat.le_of_ble_eq_true rfl) ?_ | refine (And.intro (a := _ ≤ _) (Nat.le_of_ble_eq_true rfl) ?_) | with_reducible refine ws_seq (ws_asg ?_) | with_reducible refine ws_ret ?_ | refine we_var (by rfl) ?_))
    -- for lap in range(2)
    refine ws_seq (ws_for (is := [3]) (fun _ ρ' μ' => μ' = [] ∧ ∃ x0 x3 x4 x5 x6 x7 x8 x9 x10, ρ' = [x0, .dat (.val (.ref s)), .dat (.int great), x3, x4, x5, x6, x7, x8, x9, x10]) (wi_rng1 ?_))
    refine wa_cons (we_int (wa_nil ⟨2, rfl, by decide, by decide, ?_⟩))
    refine ⟨⟨rfl, _, _, _, _, _, _, _, _, _, rfl⟩, ?_, ?_⟩
    · rintro pre d post ρ' μ' hd ⟨rfl, x0, x3, x4, x5, x6, x7, x8, x9, x10, rfl⟩
      refine wg_name ?_
      -- word
      refine ws_seq (ws_asg ?_)
      repeat (first | with_reducible refine wt_s ok100 ?_ | with_reducible refine we_dnew ?_ | (first | with_reducible refine we_op ?_ | with_reducible refine we_lst ?_ | with_reducible refine wa_cons ?_ | with_reducible refine wa_nil ?_ | with_reducible refine we_cb ?_ | with_reducible refine we_tup ?_ | with_reducible refine we_un ?_ | with_reducible refine we_int ?_ | with_reducible refine we_str ?_ | with_reducible refine we_bl ?_ | with_reducible refine we_non ?_ | with_reducible refine we_val ?_ | with_reducible refine wp_l (Nat.le_of_ble_eq_true rfl) ?_ | refine (And.intro (a := _ ≤ _) (Nat.le_of_ble_eq_true rfl) ?_) | with_reducible refine ws_seq (ws_asg ?_) | with_reducible refine ws_ret ?_ | refine we_var (by rfl) ?_))
      refine we_call (wa_cons (we_var rfl (wa_cons (we_int (wa_nil ⟨s, c', 8, rfl, rfl, by decide, by decide, fun i h0 h1 => wr_ixAny (ds := words) h0 h1 fun wd hwd => ?_⟩)))))
      -- number
      refine ws_seq (ws_asg ?_)
      repeat (first | with_reducible refine wu_neg ?_ | (first | with_reducible refine we_op ?_ | with_reducible refine we_lst ?_ | with_reducible refine wa_cons ?_ | with_reducible refine wa_nil ?_ | with_reducible refine we_cb ?_ | with_reducible refine we_tup ?_ | with_reducible refine we_un ?_ | with_reducible refine we_int ?_ | with_reducible refine we_str ?_ | with_reducible refine we_bl ?_ | with_reducible refine we_non ?_ | with_reducible refine we_val ?_ | with_reducible refine wp_l (Nat.le_of_ble_eq_true rfl) ?_ | refine (And.intro (a := _ ≤ _) (Nat.le_of_ble_eq_true rfl) ?_) | with_reducible refine ws_seq (ws_asg ?_) | with_reducible refine ws_ret ?_ | refine we_var (by rfl) ?_))
      refine we_call (wa_cons (we_var rfl (wa_cons (we_int (wa_nil ⟨s, c', 7, rfl, rfl, by decide, by decide, fun i h0 h1 => wr_ixAny (ds := numbs) h0 h1 fun nu hnu => ?_⟩)))))
      -- some
      refine ws_seq (ws_asg ?_)
      repeat (first | (first | with_reducible refine we_op ?_ | with_reducible refine we_lst ?_ | with_reducible refine wa_cons ?_ | with_reducible refine wa_nil ?_ | with_reducible refine we_cb ?_ | with_reducible refine we_tup ?_ | with_reducible refine we_un ?_ | with_reducible refine we_int ?_ | with_reducible refine we_str ?_ | with_reducible refine we_bl ?_ | with_reducible refine we_non ?_ | with_reducible refine we_val ?_ | with_reducible refine wp_l (Nat.le_of_ble_eq_true rfl) ?_ | refine (And.intro (a := _ ≤ _) (Nat.le_of_ble_eq_true rfl) ?_) | with_reducible refine ws_seq (ws_asg ?_) | with_reducible refine ws_ret ?_ | refine we_var (by rfl) ?_))
      refine we_call (wa_cons (we_var rfl (wa_cons (we_int (wa_nil ⟨s, c', 6, rfl, rfl, by decide, by decide, fun i h0 h1 => wr_ixAny (ds := somes) h0 h1 fun so hso => ?_⟩)))))
      obtain ⟨xs, hxs, sx⟩ := somes_ok so hso
      -- other
      refine ws_seq (ws_asg ?_)
      repeat (first | with_reducible refine we_disp1 ?_ | (first | with_reducible refine we_op ?_ | with_reducible refine we_lst ?_ | with_reducible refine wa_cons ?_ | with_reducible refine wa_nil ?_ | with_reducible refine we_cb ?_ | with_reducible refine we_tup ?_ | with_reducible refine we_un ?_ | with_reducible refine we_int ?_ | with_reducible refine we_str ?_ | with_reducible refine we_bl ?_ | with_reducible refine we_non ?_ | with_reducible refine we_val ?_ | with_reducible refine wp_l (Nat.le_of_ble_eq_true rfl) ?_ | refine (And.intro (a := _ ≤ _) (Nat.le_of_ble_eq_true rfl) ?_) | with_reducible refine ws_seq (ws_asg ?_) | with_reducible refine ws_ret ?_ | refine we_var (by rfl) ?_))
      refine we_call (wa_cons (we_var rfl (wa_cons (we_int (wa_nil ⟨s, c', 8, rfl, rfl, by decide, by decide, fun i h0 h1 => wr_ixAny (ds := others) h0 h1 fun ot hot => ?_⟩)))))
      -- every
      refine ws_seq (ws_asg (we_call ?_))
      repeat (first | (first | with_reducible refine we_op ?_ | with_reducible refine we_lst ?_ | with_reducible refine wa_cons ?_ | with_reducible refine wa_nil ?_ | with_reducible refine we_cb ?_ | with_reducible refine we_tup ?_ | with_reducible refine we_un ?_ | with_reducible refine we_int ?_ | with_reducible refine we_str ?_ | with_reducible refine we_bl ?_ | with_reducible refine we_non ?_ | with_reducible refine we_val ?_ | with_reducible refine wp_l (Nat.le_of_ble_eq_true rfl) ?_ | refine (And.intro (a := _ ≤ _) (Nat.le_of_ble_eq_true rfl) ?_) | with_reducible refine ws_seq (ws_asg ?_) | with_reducible refine ws_ret ?_ | refine we_var (by rfl) ?_))
      refine ⟨wd, nu, so, xs, ot, rfl, hxs, ?_⟩
      -- for k
      refine ws_seq (ws_for (is := [9]) (fun _ ρ' μ' => μ' = [] ∧ ∃ x9 x10, ρ' = [x0, .dat (.val (.ref s)), .dat (.int great), .dat d, .dat wd, .dat nu, .dat so, .dat ot, .dat (.list (everyD c wd nu xs ot)), x9, x10]) (wi_rng1 ?_))
      refine wa_cons (we_cb (wa_cons (we_var rfl (wa_nil (wc_lenR (n := 12) (by rfl) (wa_nil ⟨12, rfl, by decide, by decide, ?_⟩))))))
      refine ⟨⟨rfl, _, _, rfl⟩, ?_, ?_⟩
      · clear x9 x10
        rintro pre2 d2 post2 ρ' μ' hd2 ⟨rfl, x9, x10, rfl⟩
        obtain ⟨hl2, rfl, _, _⟩ := rng_split hd2
        obtain ⟨e, he⟩ := ix_ex hl2
        rw [← he]
        refine wg_name ?_
        obtain ⟨ec, ec2⟩ := eqK e
        obtain ⟨eb, eb2⟩ := eqB e
        -- the kinds
        refine ws_seq (ws_if (wt_test (we_op (we_call (wa_cons (we_op (we_var (by rfl) (we_var (by rfl) (wr_ixL (evE e) ?_))))))))) 
        refine wa_nil ⟨e, _, rfl, ?_⟩
        refine we_lc (is := [10]) (fun pr out => ∃ m, pr = rng 0 m ∧ out = rowK e m) (fun i hi => by simpa using hi) (wi_rng1 ?_)
        refine wa_cons (we_cb (wa_cons (we_var (by rfl) (wa_nil (wc_lenR (n := 12) (by rfl) (wa_nil ⟨12, rfl, by decide, by decide, ?_⟩))))))
        refine ⟨⟨0, rfl, rfl⟩, ?_, ?_⟩
        · rintro pr dd po out hd3 ⟨m, rfl, rfl⟩
          obtain ⟨hl3, rfl, _, hn⟩ := rng_split hd3
          rw [rng_len] at hn hl3
          rw [rng_len]
          refine wg_name (wt_yes ?_)
          rw [if_pos rfl]
          refine we_op (we_var (by rfl) (we_var (by rfl) (wr_eqI ⟨?_, m + 1, hn, ?_⟩)))
          · unfold rowK
            rw [List.length_map, List.length_range]
            exact Nat.lt_of_lt_of_le hl3 (by decide)
          · unfold rowK
            rw [List.range_succ, List.map_append]
            rfl
        · rintro out ⟨m, hm, rfl⟩
          obtain rfl : m = 12 := by
            have := congrArg List.length hm
            rw [rng_len, rng_len] at this
            exact this.symm
          refine we_neD ec ⟨_, rfl, ifT ec2 (ws_next ?_)⟩
          -- the bases
          refine ws_if (wt_test (we_op (we_call (wa_cons (we_op (we_var (by rfl) (we_var (by rfl) (wr_ixL (evE e) ?_))))))))
          refine wa_nil ⟨e, _, rfl, ?_⟩
          repeat (first | with_reducible refine we_eqI ?_ | with_reducible refine wr_ib ?_ | (first | with_reducible refine we_op ?_ | with_reducible refine we_lst ?_ | with_reducible refine wa_cons ?_ | with_reducible refine wa_nil ?_ | with_reducible refine we_cb ?_ | with_reducible refine we_tup ?_ | with_reducible refine we_un ?_ | with_reducible refine we_int ?_ | with_reducible refine we_str ?_ | with_reducible refine we_bl ?_ | with_reducible refine we_non ?_ | with_reducible refine we_val ?_ | with_reducible refine wp_l (Nat.le_of_ble_eq_true rfl) ?_ | refine (And.intro (a := _ ≤ _) (Nat.le_of_ble_eq_true rfl) ?_) | with_reducible refine ws_seq (ws_asg ?_) | with_reducible refine ws_ret ?_ | refine we_var (by rfl) ?_))
          refine we_neD (y := .list (rowB e)) eb ⟨_, rfl, ifT eb2 (ws_next ⟨rfl, _, _, rfl⟩)⟩
      · rintro ρ' μ' ⟨rfl, x9', x10', rfl⟩
        refine ws_if (wt_or (wt_test (we_op (we_cb (wa_cons (we_var (by rfl) (wa_nil (wc_lenR (n := 12) (by rfl) (we_int (we_neI ⟨_, rfl, ?_⟩)))))))))) 
        refine ifNe rfl (wt_not (wt_b (we_call ?_)))
        repeat (first | (first | with_reducible refine we_op ?_ | with_reducible refine we_lst ?_ | with_reducible refine wa_cons ?_ | with_reducible refine wa_nil ?_ | with_reducible refine we_cb ?_ | with_reducible refine we_tup ?_ | with_reducible refine we_un ?_ | with_reducible refine we_int ?_ | with_reducible refine we_str ?_ | with_reducible refine we_bl ?_ | with_reducible refine we_non ?_ | with_reducible refine we_val ?_ | with_reducible refine wp_l (Nat.le_of_ble_eq_true rfl) ?_ | refine (And.intro (a := _ ≤ _) (Nat.le_of_ble_eq_true rfl) ?_) | with_reducible refine ws_seq (ws_asg ?_) | with_reducible refine ws_ret ?_ | refine we_var (by rfl) ?_))
        refine ⟨wd, nu, so, xs, ot, rfl, hxs, sx, numbs_ok nu hnu, words_ok wd hwd, others_ok ot hot, true, rfl, ?_⟩
        refine iteF (ws_next ⟨rfl, _, _, _, _, _, _, _, _, _, rfl⟩)
    · rintro ρ' μ' ⟨rfl, x0, x3, x4, x5, x6, x7, x8, x9, x10, rfl⟩
      exact ws_ret (we_bl rfl)
end
end Tk

set_option Elab.async false
set_option linter.all false
set_option maxRecDepth 100000
set_option maxHeartbeats 8000000
namespace Tk
open PySem L2 X3
def cF (c0 c1 c2 c3 c4 c5 c6 c7 c8 c9 c10 c11 : Addr) : E12 → Addr
  | .x0 => c0
  | .x1 => c1
  | .x2 => c2
  | .x3 => c3
  | .x4 => c4
  | .x5 => c5
  | .x6 => c6
  | .x7 => c7
  | .x8 => c8
  | .x9 => c9
  | .x10 => c10
  | .x11 => c11

def fF (c0 c1 c2 c3 c4 c5 c6 c7 c8 c9 c10 c11 : Addr) : E12 → Addr
  | .x0 => c0
  | .x1 => c1
  | .x2 => c2
  | .x3 => c3
  | .x4 => c4
  | .x6 => c6
  | .x9 => c9
  | .x10 => c10
  | .x11 => c11
  | _ => c0
def dF (d0 e0 e1 e2 e3 e4 e6 e9 e10 e11 : FuncData) : E12 → FuncData
  | .x0 => e0
  | .x1 => e1
  | .x2 => e2
  | .x3 => e3
  | .x4 => e4
  | .x6 => e6
  | .x9 => e9
  | .x10 => e10
  | .x11 => e11
  | _ => d0
def aF (c0 c1 c2 c3 c4 c5 : Addr) : Nat → Addr
  | 0 => c0
  | 1 => c1
  | 2 => c2
  | 3 => c3
  | 4 => c4
  | _ => c5
def gF (c0 c1 c2 c3 c4 c5 : FuncData) : Nat → FuncData
  | 0 => c0
  | 1 => c1
  | 2 => c2
  | 3 => c3
  | 4 => c4
  | _ => c5
theorem all_mk {l : PySem.W.OpenLaw} {w : World} {K : PySem.W.Frag} {h : Heap} {mg : Str → Option Value} {fa c0 c1 c2 c3 c4 c5 c6 c7 c8 c9 c10 c11 cO cN f0 f1 f2 f3 f4 f6 f9 f10 f11 f16 f17 f18 f19 f20 f21 f22 : Addr} (X : K.In h) (G : h.Ns mainGlobals mg) (hfa : mg "law" = some (.ref fa))
    {nm0 qn0 : Str} {NN0 : Addr} {bs0 bm0 : List Value} {sn0 : List Str} {sub0 : List Value} {ab0 : Bool} {col0 : Option Bool} {dd0 : Option Addr} {m0_0 m1_0 m2_0 m3_0 m5_0 : Option Value}
    {oci0 kVi0 dci0 pmi0 cdi0 cti0 : Value} {odi0 ani0 : Option Addr} {sli0 : Array (Option Value)}
    {nm1 qn1 : Str} {NN1 : Addr} {bs1 bm1 : List Value} {sn1 : List Str} {sub1 : List Value} {ab1 : Bool} {col1 : Option Bool} {dd1 : Option Addr} {m0_1 m1_1 m2_1 m3_1 m5_1 : Option Value}
    {oci1 kVi1 dci1 pmi1 cdi1 cti1 : Value} {odi1 ani1 : Option Addr} {sli1 : Array (Option Value)}
    {nm2 qn2 : Str} {NN2 : Addr} {bs2 bm2 : List Value} {sn2 : List Str} {sub2 : List Value} {ab2 : Bool} {col2 : Option Bool} {dd2 : Option Addr} {m0_2 m1_2 m2_2 m3_2 m5_2 : Option Value}
    {oci2 kVi2 dci2 pmi2 cdi2 cti2 : Value} {odi2 ani2 : Option Addr} {sli2 : Array (Option Value)}
    {nm3 qn3 : Str} {NN3 : Addr} {bs3 bm3 : List Value} {sn3 : List Str} {sub3 : List Value} {ab3 : Bool} {col3 : Option Bool} {dd3 : Option Addr} {m0_3 m1_3 m2_3 m3_3 m5_3 : Option Value}
    {oci3 kVi3 dci3 pmi3 cdi3 cti3 : Value} {odi3 ani3 : Option Addr} {sli3 : Array (Option Value)}
    {nm4 qn4 : Str} {NN4 : Addr} {bs4 bm4 : List Value} {sn4 : List Str} {sub4 : List Value} {ab4 : Bool} {col4 : Option Bool} {dd4 : Option Addr} {m0_4 m1_4 m2_4 m3_4 m5_4 : Option Value}
    {oci4 kVi4 dci4 pmi4 cdi4 cti4 : Value} {odi4 ani4 : Option Addr} {sli4 : Array (Option Value)}
    {nm6 qn6 : Str} {NN6 : Addr} {bs6 bm6 : List Value} {sn6 : List Str} {sub6 : List Value} {ab6 : Bool} {col6 : Option Bool} {dd6 : Option Addr} {m0_6 m1_6 m2_6 m3_6 m5_6 : Option Value}
    {oci6 kVi6 dci6 pmi6 cdi6 cti6 : Value} {odi6 ani6 : Option Addr} {sli6 : Array (Option Value)}
    {nm9 qn9 : Str} {NN9 : Addr} {bs9 bm9 : List Value} {sn9 : List Str} {sub9 : List Value} {ab9 : Bool} {col9 : Option Bool} {dd9 : Option Addr} {m0_9 m1_9 m2_9 m3_9 m5_9 : Option Value}
    {oci9 kVi9 dci9 pmi9 cdi9 cti9 : Value} {odi9 ani9 : Option Addr} {sli9 : Array (Option Value)}
    {nm10 qn10 : Str} {NN10 : Addr} {bs10 bm10 : List Value} {sn10 : List Str} {sub10 : List Value} {ab10 : Bool} {col10 : Option Bool} {dd10 : Option Addr} {m0_10 m1_10 m2_10 m3_10 m5_10 : Option Value}
    {oci10 kVi10 dci10 pmi10 cdi10 cti10 : Value} {odi10 ani10 : Option Addr} {sli10 : Array (Option Value)}
    {nm11 qn11 : Str} {NN11 : Addr} {bs11 bm11 : List Value} {sn11 : List Str} {sub11 : List Value} {ab11 : Bool} {col11 : Option Bool} {dd11 : Option Addr} {m0_11 m1_11 m2_11 m3_11 m5_11 : Option Value}
    {oci11 kVi11 dci11 pmi11 cdi11 cti11 : Value} {odi11 ani11 : Option Addr} {sli11 : Array (Option Value)}
    {oc16 kV16 dc16 pm16 cd16 ct16 : Value} {od16 an16 : Option Addr} {sl16 : Array (Option Value)}
    {oc17 kV17 dc17 pm17 cd17 ct17 : Value} {od17 an17 : Option Addr} {sl17 : Array (Option Value)}
    {oc18 kV18 dc18 pm18 cd18 ct18 : Value} {od18 an18 : Option Addr} {sl18 : Array (Option Value)}
    {oc19 kV19 dc19 pm19 cd19 ct19 : Value} {od19 an19 : Option Addr} {sl19 : Array (Option Value)}
    {oc20 kV20 dc20 pm20 cd20 ct20 : Value} {od20 an20 : Option Addr} {sl20 : Array (Option Value)}
    {oc21 kV21 dc21 pm21 cd21 ct21 : Value} {od21 an21 : Option Addr} {sl21 : Array (Option Value)}
    {oc22 kV22 dc22 pm22 cd22 ct22 : Value} {od22 an22 : Option Addr} {sl22 : Array (Option Value)}
    (a0 : PySem.W.nsIn K mainGlobals "NoOrder" = some (some (.ref c0)))
    (a1 : PySem.W.nsIn K mainGlobals "BadBook" = some (some (.ref c1)))
    (a2 : PySem.W.nsIn K mainGlobals "BadOrder" = some (some (.ref c2)))
    (a3 : PySem.W.nsIn K mainGlobals "BadDeed" = some (some (.ref c3)))
    (a4 : PySem.W.nsIn K mainGlobals "BadScript" = some (some (.ref c4)))
    (a5 : PySem.W.nsIn K mainGlobals "NotEqual" = some (some (.ref c5)))
    (a6 : PySem.W.nsIn K mainGlobals "Crossed" = some (some (.ref c6)))
    (a7 : PySem.W.nsIn K mainGlobals "TooGreat" = some (some (.ref c7)))
    (a8 : PySem.W.nsIn K mainGlobals "NothingDone" = some (some (.ref c8)))
    (a9 : PySem.W.nsIn K mainGlobals "BadText" = some (some (.ref c9)))
    (a10 : PySem.W.nsIn K mainGlobals "BadAct" = some (some (.ref c10)))
    (a11 : PySem.W.nsIn K mainGlobals "UnknownName" = some (some (.ref c11)))
    (aO : PySem.W.nsIn K mainGlobals "OutError" = some (some (.ref cO)))
    (aN : PySem.W.nsIn K mainGlobals "NameMissing" = some (some (.ref cN)))
    (nValueError : PySem.W.nsIn K mainGlobals "ValueError" = some none)
    (nLookupError : PySem.W.nsIn K mainGlobals "LookupError" = some none)
    (nKeyError : PySem.W.nsIn K mainGlobals "KeyError" = some none)
    (nIndexError : PySem.W.nsIn K mainGlobals "IndexError" = some none)
    (nisinstance : PySem.W.nsIn K mainGlobals "isinstance" = some none)
    (nrepr : PySem.W.nsIn K mainGlobals "repr" = some none)
    (nlen : PySem.W.nsIn K mainGlobals "len" = some none)
    (ntuple : PySem.W.nsIn K mainGlobals "tuple" = some none)
    (nint : PySem.W.nsIn K mainGlobals "int" = some none)
    (nrange : PySem.W.nsIn K mainGlobals "range" = some none)
    (nabs : PySem.W.nsIn K mainGlobals "abs" = some none)
    (nmax : PySem.W.nsIn K mainGlobals "max" = some none)
    (hn : PySem.W.specialIn K (.builtin "object.__class__") "__get__" = some (some (.builtin "getset_descriptor.__get__")))
    (ht : PySem.W.takesIn K (.builtin "object.__class__") = some true)
    (kk0 : PySem.W.keepIn K (.ref c0) = true)
    (hg0 : PySem.W.findIn K (.ref c0) "__getattribute__" = some (some (.builtin "BaseException.__getattribute__")))
    (hk0 : PySem.W.findIn K (.ref c0) "__getattr__" = some none)
    (hs0 : PySem.W.subIn K (.ref c0) (.type "BaseException") = some true)
    (hd0 : PySem.W.hasDictIn K c0 = true)
    (ha0 : PySem.W.findIn K (.ref c0) "__class__" = some (some (.builtin "object.__class__")))
    (hm0 : PySem.W.mroIn K c0 (.type "object") = some true)
    (kit0_0 : PySem.W.kitOne K (.ref c0) (.ref c0) = some true)
    (kit0_1 : PySem.W.kitOne K (.ref c0) (.ref c1) = some false)
    (kit0_2 : PySem.W.kitOne K (.ref c0) (.ref c2) = some false)
    (kit0_3 : PySem.W.kitOne K (.ref c0) (.ref c3) = some false)
    (kit0_4 : PySem.W.kitOne K (.ref c0) (.ref c4) = some false)
    (kit0_5 : PySem.W.kitOne K (.ref c0) (.ref c5) = some false)
    (kit0_6 : PySem.W.kitOne K (.ref c0) (.ref c6) = some false)
    (kit0_7 : PySem.W.kitOne K (.ref c0) (.ref c7) = some false)
    (kit0_8 : PySem.W.kitOne K (.ref c0) (.ref c8) = some false)
    (kit0_9 : PySem.W.kitOne K (.ref c0) (.ref c9) = some false)
    (kit0_10 : PySem.W.kitOne K (.ref c0) (.ref c10) = some false)
    (kit0_11 : PySem.W.kitOne K (.ref c0) (.ref c11) = some false)
    (kO0 : PySem.W.kitOne K (.ref c0) (.ref cO) = some true)
    (kV0 : PySem.W.kitOne K (.ref c0) (.type "ValueError") = some true)
    (kN0 : PySem.W.kitOne K (.ref c0) (.ref cN) = some false)
    (kL0 : PySem.W.kitOne K (.ref c0) (.type "LookupError") = some false)
    (kT0 : PySem.W.kitAny K (.ref c0) [.type "KeyError", .type "IndexError"] = some false)
    (xL0 : K.lookup c0 = some (excClassObj nm0 qn0 c0 NN0 bs0 bm0 true sn0 sub0 ab0 col0 dd0 m0_0 m1_0 m2_0 m3_0 m5_0 "ValueError.__new__"))
    (rT0 : PySem.W.excTail veT bm0 = true)
    (sa0 : PySem.W.findIn K (.ref c0) "__setattr__" = some (some (.builtin "object.__setattr__")))
    (ii0 : PySem.W.findIn K (.ref c0) "__init__" = some (some (.ref f0)))
    (ti0 : PySem.W.typeIn K (.ref f0) = some (.type "function"))
    (li0 : K.lookup f0 = some ⟨oci0, odi0, .func (PySem.W.fnOf "__init__" "NoOrder.__init__" (defArgs sI0) (defBody sI0) (defScope sI0) .none kVi0 dci0 pmi0 ani0 cdi0 cti0), sli0⟩)
    (ci0 : PySem.W.codeIn K cdi0 "NoOrder.__init__" = true)
    (ki0 : PySem.W.keepIn K (.ref f0) = true)
    (fl0 : PySem.W.findIn K (.ref c0) "stuck" = some none)
    (kk1 : PySem.W.keepIn K (.ref c1) = true)
    (hg1 : PySem.W.findIn K (.ref c1) "__getattribute__" = some (some (.builtin "BaseException.__getattribute__")))
    (hk1 : PySem.W.findIn K (.ref c1) "__getattr__" = some none)
    (hs1 : PySem.W.subIn K (.ref c1) (.type "BaseException") = some true)
    (hd1 : PySem.W.hasDictIn K c1 = true)
    (ha1 : PySem.W.findIn K (.ref c1) "__class__" = some (some (.builtin "object.__class__")))
    (hm1 : PySem.W.mroIn K c1 (.type "object") = some true)
    (kit1_0 : PySem.W.kitOne K (.ref c1) (.ref c0) = some false)
    (kit1_1 : PySem.W.kitOne K (.ref c1) (.ref c1) = some true)
    (kit1_2 : PySem.W.kitOne K (.ref c1) (.ref c2) = some false)
    (kit1_3 : PySem.W.kitOne K (.ref c1) (.ref c3) = some false)
    (kit1_4 : PySem.W.kitOne K (.ref c1) (.ref c4) = some false)
    (kit1_5 : PySem.W.kitOne K (.ref c1) (.ref c5) = some false)
    (kit1_6 : PySem.W.kitOne K (.ref c1) (.ref c6) = some false)
    (kit1_7 : PySem.W.kitOne K (.ref c1) (.ref c7) = some false)
    (kit1_8 : PySem.W.kitOne K (.ref c1) (.ref c8) = some false)
    (kit1_9 : PySem.W.kitOne K (.ref c1) (.ref c9) = some false)
    (kit1_10 : PySem.W.kitOne K (.ref c1) (.ref c10) = some false)
    (kit1_11 : PySem.W.kitOne K (.ref c1) (.ref c11) = some false)
    (kO1 : PySem.W.kitOne K (.ref c1) (.ref cO) = some true)
    (kV1 : PySem.W.kitOne K (.ref c1) (.type "ValueError") = some true)
    (kN1 : PySem.W.kitOne K (.ref c1) (.ref cN) = some false)
    (kL1 : PySem.W.kitOne K (.ref c1) (.type "LookupError") = some false)
    (kT1 : PySem.W.kitAny K (.ref c1) [.type "KeyError", .type "IndexError"] = some false)
    (xL1 : K.lookup c1 = some (excClassObj nm1 qn1 c1 NN1 bs1 bm1 true sn1 sub1 ab1 col1 dd1 m0_1 m1_1 m2_1 m3_1 m5_1 "ValueError.__new__"))
    (rT1 : PySem.W.excTail veT bm1 = true)
    (sa1 : PySem.W.findIn K (.ref c1) "__setattr__" = some (some (.builtin "object.__setattr__")))
    (ii1 : PySem.W.findIn K (.ref c1) "__init__" = some (some (.ref f1)))
    (ti1 : PySem.W.typeIn K (.ref f1) = some (.type "function"))
    (li1 : K.lookup f1 = some ⟨oci1, odi1, .func (PySem.W.fnOf "__init__" "BadBook.__init__" (defArgs sI1) (defBody sI1) (defScope sI1) .none kVi1 dci1 pmi1 ani1 cdi1 cti1), sli1⟩)
    (ci1 : PySem.W.codeIn K cdi1 "BadBook.__init__" = true)
    (ki1 : PySem.W.keepIn K (.ref f1) = true)
    (fl1 : PySem.W.findIn K (.ref c1) "path" = some none)
    (kk2 : PySem.W.keepIn K (.ref c2) = true)
    (hg2 : PySem.W.findIn K (.ref c2) "__getattribute__" = some (some (.builtin "BaseException.__getattribute__")))
    (hk2 : PySem.W.findIn K (.ref c2) "__getattr__" = some none)
    (hs2 : PySem.W.subIn K (.ref c2) (.type "BaseException") = some true)
    (hd2 : PySem.W.hasDictIn K c2 = true)
    (ha2 : PySem.W.findIn K (.ref c2) "__class__" = some (some (.builtin "object.__class__")))
    (hm2 : PySem.W.mroIn K c2 (.type "object") = some true)
    (kit2_0 : PySem.W.kitOne K (.ref c2) (.ref c0) = some false)
    (kit2_1 : PySem.W.kitOne K (.ref c2) (.ref c1) = some false)
    (kit2_2 : PySem.W.kitOne K (.ref c2) (.ref c2) = some true)
    (kit2_3 : PySem.W.kitOne K (.ref c2) (.ref c3) = some false)
    (kit2_4 : PySem.W.kitOne K (.ref c2) (.ref c4) = some false)
    (kit2_5 : PySem.W.kitOne K (.ref c2) (.ref c5) = some false)
    (kit2_6 : PySem.W.kitOne K (.ref c2) (.ref c6) = some false)
    (kit2_7 : PySem.W.kitOne K (.ref c2) (.ref c7) = some false)
    (kit2_8 : PySem.W.kitOne K (.ref c2) (.ref c8) = some false)
    (kit2_9 : PySem.W.kitOne K (.ref c2) (.ref c9) = some false)
    (kit2_10 : PySem.W.kitOne K (.ref c2) (.ref c10) = some false)
    (kit2_11 : PySem.W.kitOne K (.ref c2) (.ref c11) = some false)
    (kO2 : PySem.W.kitOne K (.ref c2) (.ref cO) = some true)
    (kV2 : PySem.W.kitOne K (.ref c2) (.type "ValueError") = some true)
    (kN2 : PySem.W.kitOne K (.ref c2) (.ref cN) = some false)
    (kL2 : PySem.W.kitOne K (.ref c2) (.type "LookupError") = some false)
    (kT2 : PySem.W.kitAny K (.ref c2) [.type "KeyError", .type "IndexError"] = some false)
    (xL2 : K.lookup c2 = some (excClassObj nm2 qn2 c2 NN2 bs2 bm2 true sn2 sub2 ab2 col2 dd2 m0_2 m1_2 m2_2 m3_2 m5_2 "ValueError.__new__"))
    (rT2 : PySem.W.excTail veT bm2 = true)
    (sa2 : PySem.W.findIn K (.ref c2) "__setattr__" = some (some (.builtin "object.__setattr__")))
    (ii2 : PySem.W.findIn K (.ref c2) "__init__" = some (some (.ref f2)))
    (ti2 : PySem.W.typeIn K (.ref f2) = some (.type "function"))
    (li2 : K.lookup f2 = some ⟨oci2, odi2, .func (PySem.W.fnOf "__init__" "BadOrder.__init__" (defArgs sI2) (defBody sI2) (defScope sI2) .none kVi2 dci2 pmi2 ani2 cdi2 cti2), sli2⟩)
    (ci2 : PySem.W.codeIn K cdi2 "BadOrder.__init__" = true)
    (ki2 : PySem.W.keepIn K (.ref f2) = true)
    (fl2 : PySem.W.findIn K (.ref c2) "path" = some none)
    (kk3 : PySem.W.keepIn K (.ref c3) = true)
    (hg3 : PySem.W.findIn K (.ref c3) "__getattribute__" = some (some (.builtin "BaseException.__getattribute__")))
    (hk3 : PySem.W.findIn K (.ref c3) "__getattr__" = some none)
    (hs3 : PySem.W.subIn K (.ref c3) (.type "BaseException") = some true)
    (hd3 : PySem.W.hasDictIn K c3 = true)
    (ha3 : PySem.W.findIn K (.ref c3) "__class__" = some (some (.builtin "object.__class__")))
    (hm3 : PySem.W.mroIn K c3 (.type "object") = some true)
    (kit3_0 : PySem.W.kitOne K (.ref c3) (.ref c0) = some false)
    (kit3_1 : PySem.W.kitOne K (.ref c3) (.ref c1) = some false)
    (kit3_2 : PySem.W.kitOne K (.ref c3) (.ref c2) = some false)
    (kit3_3 : PySem.W.kitOne K (.ref c3) (.ref c3) = some true)
    (kit3_4 : PySem.W.kitOne K (.ref c3) (.ref c4) = some false)
    (kit3_5 : PySem.W.kitOne K (.ref c3) (.ref c5) = some false)
    (kit3_6 : PySem.W.kitOne K (.ref c3) (.ref c6) = some false)
    (kit3_7 : PySem.W.kitOne K (.ref c3) (.ref c7) = some false)
    (kit3_8 : PySem.W.kitOne K (.ref c3) (.ref c8) = some false)
    (kit3_9 : PySem.W.kitOne K (.ref c3) (.ref c9) = some false)
    (kit3_10 : PySem.W.kitOne K (.ref c3) (.ref c10) = some false)
    (kit3_11 : PySem.W.kitOne K (.ref c3) (.ref c11) = some false)
    (kO3 : PySem.W.kitOne K (.ref c3) (.ref cO) = some true)
    (kV3 : PySem.W.kitOne K (.ref c3) (.type "ValueError") = some true)
    (kN3 : PySem.W.kitOne K (.ref c3) (.ref cN) = some false)
    (kL3 : PySem.W.kitOne K (.ref c3) (.type "LookupError") = some false)
    (kT3 : PySem.W.kitAny K (.ref c3) [.type "KeyError", .type "IndexError"] = some false)
    (xL3 : K.lookup c3 = some (excClassObj nm3 qn3 c3 NN3 bs3 bm3 true sn3 sub3 ab3 col3 dd3 m0_3 m1_3 m2_3 m3_3 m5_3 "ValueError.__new__"))
    (rT3 : PySem.W.excTail veT bm3 = true)
    (sa3 : PySem.W.findIn K (.ref c3) "__setattr__" = some (some (.builtin "object.__setattr__")))
    (ii3 : PySem.W.findIn K (.ref c3) "__init__" = some (some (.ref f3)))
    (ti3 : PySem.W.typeIn K (.ref f3) = some (.type "function"))
    (li3 : K.lookup f3 = some ⟨oci3, odi3, .func (PySem.W.fnOf "__init__" "BadDeed.__init__" (defArgs sI3) (defBody sI3) (defScope sI3) .none kVi3 dci3 pmi3 ani3 cdi3 cti3), sli3⟩)
    (ci3 : PySem.W.codeIn K cdi3 "BadDeed.__init__" = true)
    (ki3 : PySem.W.keepIn K (.ref f3) = true)
    (fl3 : PySem.W.findIn K (.ref c3) "word" = some none)
    (kk4 : PySem.W.keepIn K (.ref c4) = true)
    (hg4 : PySem.W.findIn K (.ref c4) "__getattribute__" = some (some (.builtin "BaseException.__getattribute__")))
    (hk4 : PySem.W.findIn K (.ref c4) "__getattr__" = some none)
    (hs4 : PySem.W.subIn K (.ref c4) (.type "BaseException") = some true)
    (hd4 : PySem.W.hasDictIn K c4 = true)
    (ha4 : PySem.W.findIn K (.ref c4) "__class__" = some (some (.builtin "object.__class__")))
    (hm4 : PySem.W.mroIn K c4 (.type "object") = some true)
    (kit4_0 : PySem.W.kitOne K (.ref c4) (.ref c0) = some false)
    (kit4_1 : PySem.W.kitOne K (.ref c4) (.ref c1) = some false)
    (kit4_2 : PySem.W.kitOne K (.ref c4) (.ref c2) = some false)
    (kit4_3 : PySem.W.kitOne K (.ref c4) (.ref c3) = some false)
    (kit4_4 : PySem.W.kitOne K (.ref c4) (.ref c4) = some true)
    (kit4_5 : PySem.W.kitOne K (.ref c4) (.ref c5) = some false)
    (kit4_6 : PySem.W.kitOne K (.ref c4) (.ref c6) = some false)
    (kit4_7 : PySem.W.kitOne K (.ref c4) (.ref c7) = some false)
    (kit4_8 : PySem.W.kitOne K (.ref c4) (.ref c8) = some false)
    (kit4_9 : PySem.W.kitOne K (.ref c4) (.ref c9) = some false)
    (kit4_10 : PySem.W.kitOne K (.ref c4) (.ref c10) = some false)
    (kit4_11 : PySem.W.kitOne K (.ref c4) (.ref c11) = some false)
    (kO4 : PySem.W.kitOne K (.ref c4) (.ref cO) = some true)
    (kV4 : PySem.W.kitOne K (.ref c4) (.type "ValueError") = some true)
    (kN4 : PySem.W.kitOne K (.ref c4) (.ref cN) = some false)
    (kL4 : PySem.W.kitOne K (.ref c4) (.type "LookupError") = some false)
    (kT4 : PySem.W.kitAny K (.ref c4) [.type "KeyError", .type "IndexError"] = some false)
    (xL4 : K.lookup c4 = some (excClassObj nm4 qn4 c4 NN4 bs4 bm4 true sn4 sub4 ab4 col4 dd4 m0_4 m1_4 m2_4 m3_4 m5_4 "ValueError.__new__"))
    (rT4 : PySem.W.excTail veT bm4 = true)
    (sa4 : PySem.W.findIn K (.ref c4) "__setattr__" = some (some (.builtin "object.__setattr__")))
    (ii4 : PySem.W.findIn K (.ref c4) "__init__" = some (some (.ref f4)))
    (ti4 : PySem.W.typeIn K (.ref f4) = some (.type "function"))
    (li4 : K.lookup f4 = some ⟨oci4, odi4, .func (PySem.W.fnOf "__init__" "BadScript.__init__" (defArgs sI4) (defBody sI4) (defScope sI4) .none kVi4 dci4 pmi4 ani4 cdi4 cti4), sli4⟩)
    (ci4 : PySem.W.codeIn K cdi4 "BadScript.__init__" = true)
    (ki4 : PySem.W.keepIn K (.ref f4) = true)
    (fl4 : PySem.W.findIn K (.ref c4) "number" = some none)
    (kk5 : PySem.W.keepIn K (.ref c5) = true)
    (hg5 : PySem.W.findIn K (.ref c5) "__getattribute__" = some (some (.builtin "BaseException.__getattribute__")))
    (hk5 : PySem.W.findIn K (.ref c5) "__getattr__" = some none)
    (hs5 : PySem.W.subIn K (.ref c5) (.type "BaseException") = some true)
    (hd5 : PySem.W.hasDictIn K c5 = true)
    (ha5 : PySem.W.findIn K (.ref c5) "__class__" = some (some (.builtin "object.__class__")))
    (hm5 : PySem.W.mroIn K c5 (.type "object") = some true)
    (kit5_0 : PySem.W.kitOne K (.ref c5) (.ref c0) = some false)
    (kit5_1 : PySem.W.kitOne K (.ref c5) (.ref c1) = some false)
    (kit5_2 : PySem.W.kitOne K (.ref c5) (.ref c2) = some false)
    (kit5_3 : PySem.W.kitOne K (.ref c5) (.ref c3) = some false)
    (kit5_4 : PySem.W.kitOne K (.ref c5) (.ref c4) = some false)
    (kit5_5 : PySem.W.kitOne K (.ref c5) (.ref c5) = some true)
    (kit5_6 : PySem.W.kitOne K (.ref c5) (.ref c6) = some false)
    (kit5_7 : PySem.W.kitOne K (.ref c5) (.ref c7) = some false)
    (kit5_8 : PySem.W.kitOne K (.ref c5) (.ref c8) = some false)
    (kit5_9 : PySem.W.kitOne K (.ref c5) (.ref c9) = some false)
    (kit5_10 : PySem.W.kitOne K (.ref c5) (.ref c10) = some false)
    (kit5_11 : PySem.W.kitOne K (.ref c5) (.ref c11) = some false)
    (kO5 : PySem.W.kitOne K (.ref c5) (.ref cO) = some true)
    (kV5 : PySem.W.kitOne K (.ref c5) (.type "ValueError") = some true)
    (kN5 : PySem.W.kitOne K (.ref c5) (.ref cN) = some false)
    (kL5 : PySem.W.kitOne K (.ref c5) (.type "LookupError") = some false)
    (kT5 : PySem.W.kitAny K (.ref c5) [.type "KeyError", .type "IndexError"] = some false)
    (q5 : PySem.W.excIn K c5 veT "ValueError.__new__" = true)
    (kk6 : PySem.W.keepIn K (.ref c6) = true)
    (hg6 : PySem.W.findIn K (.ref c6) "__getattribute__" = some (some (.builtin "BaseException.__getattribute__")))
    (hk6 : PySem.W.findIn K (.ref c6) "__getattr__" = some none)
    (hs6 : PySem.W.subIn K (.ref c6) (.type "BaseException") = some true)
    (hd6 : PySem.W.hasDictIn K c6 = true)
    (ha6 : PySem.W.findIn K (.ref c6) "__class__" = some (some (.builtin "object.__class__")))
    (hm6 : PySem.W.mroIn K c6 (.type "object") = some true)
    (kit6_0 : PySem.W.kitOne K (.ref c6) (.ref c0) = some false)
    (kit6_1 : PySem.W.kitOne K (.ref c6) (.ref c1) = some false)
    (kit6_2 : PySem.W.kitOne K (.ref c6) (.ref c2) = some false)
    (kit6_3 : PySem.W.kitOne K (.ref c6) (.ref c3) = some false)
    (kit6_4 : PySem.W.kitOne K (.ref c6) (.ref c4) = some false)
    (kit6_5 : PySem.W.kitOne K (.ref c6) (.ref c5) = some false)
    (kit6_6 : PySem.W.kitOne K (.ref c6) (.ref c6) = some true)
    (kit6_7 : PySem.W.kitOne K (.ref c6) (.ref c7) = some false)
    (kit6_8 : PySem.W.kitOne K (.ref c6) (.ref c8) = some false)
    (kit6_9 : PySem.W.kitOne K (.ref c6) (.ref c9) = some false)
    (kit6_10 : PySem.W.kitOne K (.ref c6) (.ref c10) = some false)
    (kit6_11 : PySem.W.kitOne K (.ref c6) (.ref c11) = some false)
    (kO6 : PySem.W.kitOne K (.ref c6) (.ref cO) = some true)
    (kV6 : PySem.W.kitOne K (.ref c6) (.type "ValueError") = some true)
    (kN6 : PySem.W.kitOne K (.ref c6) (.ref cN) = some false)
    (kL6 : PySem.W.kitOne K (.ref c6) (.type "LookupError") = some false)
    (kT6 : PySem.W.kitAny K (.ref c6) [.type "KeyError", .type "IndexError"] = some false)
    (xL6 : K.lookup c6 = some (excClassObj nm6 qn6 c6 NN6 bs6 bm6 true sn6 sub6 ab6 col6 dd6 m0_6 m1_6 m2_6 m3_6 m5_6 "ValueError.__new__"))
    (rT6 : PySem.W.excTail veT bm6 = true)
    (sa6 : PySem.W.findIn K (.ref c6) "__setattr__" = some (some (.builtin "object.__setattr__")))
    (ii6 : PySem.W.findIn K (.ref c6) "__init__" = some (some (.ref f6)))
    (ti6 : PySem.W.typeIn K (.ref f6) = some (.type "function"))
    (li6 : K.lookup f6 = some ⟨oci6, odi6, .func (PySem.W.fnOf "__init__" "Crossed.__init__" (defArgs sI6) (defBody sI6) (defScope sI6) .none kVi6 dci6 pmi6 ani6 cdi6 cti6), sli6⟩)
    (ci6 : PySem.W.codeIn K cdi6 "Crossed.__init__" = true)
    (ki6 : PySem.W.keepIn K (.ref f6) = true)
    (fl6a : PySem.W.findIn K (.ref c6) "one" = some none)
    (fl6b : PySem.W.findIn K (.ref c6) "other" = some none)
    (kk7 : PySem.W.keepIn K (.ref c7) = true)
    (hg7 : PySem.W.findIn K (.ref c7) "__getattribute__" = some (some (.builtin "BaseException.__getattribute__")))
    (hk7 : PySem.W.findIn K (.ref c7) "__getattr__" = some none)
    (hs7 : PySem.W.subIn K (.ref c7) (.type "BaseException") = some true)
    (hd7 : PySem.W.hasDictIn K c7 = true)
    (ha7 : PySem.W.findIn K (.ref c7) "__class__" = some (some (.builtin "object.__class__")))
    (hm7 : PySem.W.mroIn K c7 (.type "object") = some true)
    (kit7_0 : PySem.W.kitOne K (.ref c7) (.ref c0) = some false)
    (kit7_1 : PySem.W.kitOne K (.ref c7) (.ref c1) = some false)
    (kit7_2 : PySem.W.kitOne K (.ref c7) (.ref c2) = some false)
    (kit7_3 : PySem.W.kitOne K (.ref c7) (.ref c3) = some false)
    (kit7_4 : PySem.W.kitOne K (.ref c7) (.ref c4) = some false)
    (kit7_5 : PySem.W.kitOne K (.ref c7) (.ref c5) = some false)
    (kit7_6 : PySem.W.kitOne K (.ref c7) (.ref c6) = some false)
    (kit7_7 : PySem.W.kitOne K (.ref c7) (.ref c7) = some true)
    (kit7_8 : PySem.W.kitOne K (.ref c7) (.ref c8) = some false)
    (kit7_9 : PySem.W.kitOne K (.ref c7) (.ref c9) = some false)
    (kit7_10 : PySem.W.kitOne K (.ref c7) (.ref c10) = some false)
    (kit7_11 : PySem.W.kitOne K (.ref c7) (.ref c11) = some false)
    (kO7 : PySem.W.kitOne K (.ref c7) (.ref cO) = some true)
    (kV7 : PySem.W.kitOne K (.ref c7) (.type "ValueError") = some true)
    (kN7 : PySem.W.kitOne K (.ref c7) (.ref cN) = some false)
    (kL7 : PySem.W.kitOne K (.ref c7) (.type "LookupError") = some false)
    (kT7 : PySem.W.kitAny K (.ref c7) [.type "KeyError", .type "IndexError"] = some false)
    (q7 : PySem.W.excIn K c7 veT "ValueError.__new__" = true)
    (kk8 : PySem.W.keepIn K (.ref c8) = true)
    (hg8 : PySem.W.findIn K (.ref c8) "__getattribute__" = some (some (.builtin "BaseException.__getattribute__")))
    (hk8 : PySem.W.findIn K (.ref c8) "__getattr__" = some none)
    (hs8 : PySem.W.subIn K (.ref c8) (.type "BaseException") = some true)
    (hd8 : PySem.W.hasDictIn K c8 = true)
    (ha8 : PySem.W.findIn K (.ref c8) "__class__" = some (some (.builtin "object.__class__")))
    (hm8 : PySem.W.mroIn K c8 (.type "object") = some true)
    (kit8_0 : PySem.W.kitOne K (.ref c8) (.ref c0) = some false)
    (kit8_1 : PySem.W.kitOne K (.ref c8) (.ref c1) = some false)
    (kit8_2 : PySem.W.kitOne K (.ref c8) (.ref c2) = some false)
    (kit8_3 : PySem.W.kitOne K (.ref c8) (.ref c3) = some false)
    (kit8_4 : PySem.W.kitOne K (.ref c8) (.ref c4) = some false)
    (kit8_5 : PySem.W.kitOne K (.ref c8) (.ref c5) = some false)
    (kit8_6 : PySem.W.kitOne K (.ref c8) (.ref c6) = some false)
    (kit8_7 : PySem.W.kitOne K (.ref c8) (.ref c7) = some false)
    (kit8_8 : PySem.W.kitOne K (.ref c8) (.ref c8) = some true)
    (kit8_9 : PySem.W.kitOne K (.ref c8) (.ref c9) = some false)
    (kit8_10 : PySem.W.kitOne K (.ref c8) (.ref c10) = some false)
    (kit8_11 : PySem.W.kitOne K (.ref c8) (.ref c11) = some false)
    (kO8 : PySem.W.kitOne K (.ref c8) (.ref cO) = some true)
    (kV8 : PySem.W.kitOne K (.ref c8) (.type "ValueError") = some true)
    (kN8 : PySem.W.kitOne K (.ref c8) (.ref cN) = some false)
    (kL8 : PySem.W.kitOne K (.ref c8) (.type "LookupError") = some false)
    (kT8 : PySem.W.kitAny K (.ref c8) [.type "KeyError", .type "IndexError"] = some false)
    (q8 : PySem.W.excIn K c8 veT "ValueError.__new__" = true)
    (kk9 : PySem.W.keepIn K (.ref c9) = true)
    (hg9 : PySem.W.findIn K (.ref c9) "__getattribute__" = some (some (.builtin "BaseException.__getattribute__")))
    (hk9 : PySem.W.findIn K (.ref c9) "__getattr__" = some none)
    (hs9 : PySem.W.subIn K (.ref c9) (.type "BaseException") = some true)
    (hd9 : PySem.W.hasDictIn K c9 = true)
    (ha9 : PySem.W.findIn K (.ref c9) "__class__" = some (some (.builtin "object.__class__")))
    (hm9 : PySem.W.mroIn K c9 (.type "object") = some true)
    (kit9_0 : PySem.W.kitOne K (.ref c9) (.ref c0) = some false)
    (kit9_1 : PySem.W.kitOne K (.ref c9) (.ref c1) = some false)
    (kit9_2 : PySem.W.kitOne K (.ref c9) (.ref c2) = some false)
    (kit9_3 : PySem.W.kitOne K (.ref c9) (.ref c3) = some false)
    (kit9_4 : PySem.W.kitOne K (.ref c9) (.ref c4) = some false)
    (kit9_5 : PySem.W.kitOne K (.ref c9) (.ref c5) = some false)
    (kit9_6 : PySem.W.kitOne K (.ref c9) (.ref c6) = some false)
    (kit9_7 : PySem.W.kitOne K (.ref c9) (.ref c7) = some false)
    (kit9_8 : PySem.W.kitOne K (.ref c9) (.ref c8) = some false)
    (kit9_9 : PySem.W.kitOne K (.ref c9) (.ref c9) = some true)
    (kit9_10 : PySem.W.kitOne K (.ref c9) (.ref c10) = some false)
    (kit9_11 : PySem.W.kitOne K (.ref c9) (.ref c11) = some false)
    (kO9 : PySem.W.kitOne K (.ref c9) (.ref cO) = some true)
    (kV9 : PySem.W.kitOne K (.ref c9) (.type "ValueError") = some true)
    (kN9 : PySem.W.kitOne K (.ref c9) (.ref cN) = some false)
    (kL9 : PySem.W.kitOne K (.ref c9) (.type "LookupError") = some false)
    (kT9 : PySem.W.kitAny K (.ref c9) [.type "KeyError", .type "IndexError"] = some false)
    (xL9 : K.lookup c9 = some (excClassObj nm9 qn9 c9 NN9 bs9 bm9 true sn9 sub9 ab9 col9 dd9 m0_9 m1_9 m2_9 m3_9 m5_9 "ValueError.__new__"))
    (rT9 : PySem.W.excTail veT bm9 = true)
    (sa9 : PySem.W.findIn K (.ref c9) "__setattr__" = some (some (.builtin "object.__setattr__")))
    (ii9 : PySem.W.findIn K (.ref c9) "__init__" = some (some (.ref f9)))
    (ti9 : PySem.W.typeIn K (.ref f9) = some (.type "function"))
    (li9 : K.lookup f9 = some ⟨oci9, odi9, .func (PySem.W.fnOf "__init__" "BadText.__init__" (defArgs sI9) (defBody sI9) (defScope sI9) .none kVi9 dci9 pmi9 ani9 cdi9 cti9), sli9⟩)
    (ci9 : PySem.W.codeIn K cdi9 "BadText.__init__" = true)
    (ki9 : PySem.W.keepIn K (.ref f9) = true)
    (fl9 : PySem.W.findIn K (.ref c9) "place" = some none)
    (kk10 : PySem.W.keepIn K (.ref c10) = true)
    (hg10 : PySem.W.findIn K (.ref c10) "__getattribute__" = some (some (.builtin "BaseException.__getattribute__")))
    (hk10 : PySem.W.findIn K (.ref c10) "__getattr__" = some none)
    (hs10 : PySem.W.subIn K (.ref c10) (.type "BaseException") = some true)
    (hd10 : PySem.W.hasDictIn K c10 = true)
    (ha10 : PySem.W.findIn K (.ref c10) "__class__" = some (some (.builtin "object.__class__")))
    (hm10 : PySem.W.mroIn K c10 (.type "object") = some true)
    (kit10_0 : PySem.W.kitOne K (.ref c10) (.ref c0) = some false)
    (kit10_1 : PySem.W.kitOne K (.ref c10) (.ref c1) = some false)
    (kit10_2 : PySem.W.kitOne K (.ref c10) (.ref c2) = some false)
    (kit10_3 : PySem.W.kitOne K (.ref c10) (.ref c3) = some false)
    (kit10_4 : PySem.W.kitOne K (.ref c10) (.ref c4) = some false)
    (kit10_5 : PySem.W.kitOne K (.ref c10) (.ref c5) = some false)
    (kit10_6 : PySem.W.kitOne K (.ref c10) (.ref c6) = some false)
    (kit10_7 : PySem.W.kitOne K (.ref c10) (.ref c7) = some false)
    (kit10_8 : PySem.W.kitOne K (.ref c10) (.ref c8) = some false)
    (kit10_9 : PySem.W.kitOne K (.ref c10) (.ref c9) = some false)
    (kit10_10 : PySem.W.kitOne K (.ref c10) (.ref c10) = some true)
    (kit10_11 : PySem.W.kitOne K (.ref c10) (.ref c11) = some false)
    (kO10 : PySem.W.kitOne K (.ref c10) (.ref cO) = some true)
    (kV10 : PySem.W.kitOne K (.ref c10) (.type "ValueError") = some true)
    (kN10 : PySem.W.kitOne K (.ref c10) (.ref cN) = some false)
    (kL10 : PySem.W.kitOne K (.ref c10) (.type "LookupError") = some false)
    (kT10 : PySem.W.kitAny K (.ref c10) [.type "KeyError", .type "IndexError"] = some false)
    (xL10 : K.lookup c10 = some (excClassObj nm10 qn10 c10 NN10 bs10 bm10 true sn10 sub10 ab10 col10 dd10 m0_10 m1_10 m2_10 m3_10 m5_10 "ValueError.__new__"))
    (rT10 : PySem.W.excTail veT bm10 = true)
    (sa10 : PySem.W.findIn K (.ref c10) "__setattr__" = some (some (.builtin "object.__setattr__")))
    (ii10 : PySem.W.findIn K (.ref c10) "__init__" = some (some (.ref f10)))
    (ti10 : PySem.W.typeIn K (.ref f10) = some (.type "function"))
    (li10 : K.lookup f10 = some ⟨oci10, odi10, .func (PySem.W.fnOf "__init__" "BadAct.__init__" (defArgs sI10) (defBody sI10) (defScope sI10) .none kVi10 dci10 pmi10 ani10 cdi10 cti10), sli10⟩)
    (ci10 : PySem.W.codeIn K cdi10 "BadAct.__init__" = true)
    (ki10 : PySem.W.keepIn K (.ref f10) = true)
    (fl10 : PySem.W.findIn K (.ref c10) "word" = some none)
    (kk11 : PySem.W.keepIn K (.ref c11) = true)
    (hg11 : PySem.W.findIn K (.ref c11) "__getattribute__" = some (some (.builtin "BaseException.__getattribute__")))
    (hk11 : PySem.W.findIn K (.ref c11) "__getattr__" = some none)
    (hs11 : PySem.W.subIn K (.ref c11) (.type "BaseException") = some true)
    (hd11 : PySem.W.hasDictIn K c11 = true)
    (ha11 : PySem.W.findIn K (.ref c11) "__class__" = some (some (.builtin "object.__class__")))
    (hm11 : PySem.W.mroIn K c11 (.type "object") = some true)
    (kit11_0 : PySem.W.kitOne K (.ref c11) (.ref c0) = some false)
    (kit11_1 : PySem.W.kitOne K (.ref c11) (.ref c1) = some false)
    (kit11_2 : PySem.W.kitOne K (.ref c11) (.ref c2) = some false)
    (kit11_3 : PySem.W.kitOne K (.ref c11) (.ref c3) = some false)
    (kit11_4 : PySem.W.kitOne K (.ref c11) (.ref c4) = some false)
    (kit11_5 : PySem.W.kitOne K (.ref c11) (.ref c5) = some false)
    (kit11_6 : PySem.W.kitOne K (.ref c11) (.ref c6) = some false)
    (kit11_7 : PySem.W.kitOne K (.ref c11) (.ref c7) = some false)
    (kit11_8 : PySem.W.kitOne K (.ref c11) (.ref c8) = some false)
    (kit11_9 : PySem.W.kitOne K (.ref c11) (.ref c9) = some false)
    (kit11_10 : PySem.W.kitOne K (.ref c11) (.ref c10) = some false)
    (kit11_11 : PySem.W.kitOne K (.ref c11) (.ref c11) = some true)
    (kO11 : PySem.W.kitOne K (.ref c11) (.ref cO) = some false)
    (kV11 : PySem.W.kitOne K (.ref c11) (.type "ValueError") = some false)
    (kN11 : PySem.W.kitOne K (.ref c11) (.ref cN) = some true)
    (kL11 : PySem.W.kitOne K (.ref c11) (.type "LookupError") = some true)
    (kT11 : PySem.W.kitAny K (.ref c11) [.type "KeyError", .type "IndexError"] = some false)
    (xL11 : K.lookup c11 = some (excClassObj nm11 qn11 c11 NN11 bs11 bm11 true sn11 sub11 ab11 col11 dd11 m0_11 m1_11 m2_11 m3_11 m5_11 "LookupError.__new__"))
    (rT11 : PySem.W.excTail leT bm11 = true)
    (sa11 : PySem.W.findIn K (.ref c11) "__setattr__" = some (some (.builtin "object.__setattr__")))
    (ii11 : PySem.W.findIn K (.ref c11) "__init__" = some (some (.ref f11)))
    (ti11 : PySem.W.typeIn K (.ref f11) = some (.type "function"))
    (li11 : K.lookup f11 = some ⟨oci11, odi11, .func (PySem.W.fnOf "__init__" "UnknownName.__init__" (defArgs sI11) (defBody sI11) (defScope sI11) .none kVi11 dci11 pmi11 ani11 cdi11 cti11), sli11⟩)
    (ci11 : PySem.W.codeIn K cdi11 "UnknownName.__init__" = true)
    (ki11 : PySem.W.keepIn K (.ref f11) = true)
    (fl11 : PySem.W.findIn K (.ref c11) "name" = some none)
    (b16 : PySem.W.nsIn K mainGlobals "_law_source" = some (some (.ref f16)))
    (l16 : K.lookup f16 = some ⟨oc16, od16, .func (PySem.W.fnOf "_law_source" "_law_source" (defArgs sSource) (defBody sSource) (defScope sSource) .none kV16 dc16 pm16 an16 cd16 ct16), sl16⟩)
    (c_16 : PySem.W.codeIn K cd16 "_law_source" = true)
    (k_16 : PySem.W.keepIn K (.ref f16) = true)
    (b17 : PySem.W.nsIn K mainGlobals "_law_pick" = some (some (.ref f17)))
    (l17 : K.lookup f17 = some ⟨oc17, od17, .func (PySem.W.fnOf "_law_pick" "_law_pick" (defArgs sPick) (defBody sPick) (defScope sPick) .none kV17 dc17 pm17 an17 cd17 ct17), sl17⟩)
    (c_17 : PySem.W.codeIn K cd17 "_law_pick" = true)
    (k_17 : PySem.W.keepIn K (.ref f17) = true)
    (b18 : PySem.W.nsIn K mainGlobals "_law_kinds" = some (some (.ref f18)))
    (l18 : K.lookup f18 = some ⟨oc18, od18, .func (PySem.W.fnOf "_law_kinds" "_law_kinds" (defArgs sKinds) (defBody sKinds) (defScope sKinds) .none kV18 dc18 pm18 an18 cd18 ct18), sl18⟩)
    (c_18 : PySem.W.codeIn K cd18 "_law_kinds" = true)
    (k_18 : PySem.W.keepIn K (.ref f18) = true)
    (b19 : PySem.W.nsIn K mainGlobals "_law_bases" = some (some (.ref f19)))
    (l19 : K.lookup f19 = some ⟨oc19, od19, .func (PySem.W.fnOf "_law_bases" "_law_bases" (defArgs sBases) (defBody sBases) (defScope sBases) .none kV19 dc19 pm19 an19 cd19 ct19), sl19⟩)
    (c_19 : PySem.W.codeIn K cd19 "_law_bases" = true)
    (k_19 : PySem.W.keepIn K (.ref f19) = true)
    (b20 : PySem.W.nsIn K mainGlobals "_law_every" = some (some (.ref f20)))
    (l20 : K.lookup f20 = some ⟨oc20, od20, .func (PySem.W.fnOf "_law_every" "_law_every" (defArgs sEvery) (defBody sEvery) (defScope sEvery) .none kV20 dc20 pm20 an20 cd20 ct20), sl20⟩)
    (c_20 : PySem.W.codeIn K cd20 "_law_every" = true)
    (k_20 : PySem.W.keepIn K (.ref f20) = true)
    (b21 : PySem.W.nsIn K mainGlobals "_law_kept" = some (some (.ref f21)))
    (l21 : K.lookup f21 = some ⟨oc21, od21, .func (PySem.W.fnOf "_law_kept" "_law_kept" (defArgs sKept) (defBody sKept) (defScope sKept) .none kV21 dc21 pm21 an21 cd21 ct21), sl21⟩)
    (c_21 : PySem.W.codeIn K cd21 "_law_kept" = true)
    (k_21 : PySem.W.keepIn K (.ref f21) = true)
    (b22 : PySem.W.nsIn K mainGlobals "law" = some (some (.ref f22)))
    (l22 : K.lookup f22 = some ⟨oc22, od22, .func (PySem.W.fnOf "law" "law" (defArgs sLaw) (defBody sLaw) (defScope sLaw) .none kV22 dc22 pm22 an22 cd22 ct22), sl22⟩)
    (c_22 : PySem.W.codeIn K cd22 "law" = true)
    (k_22 : PySem.W.keepIn K (.ref f22) = true) :
    ∃ fd : FuncData, (∀ (s : Shared) (v : Value), BindsTo s fd ⟨[v], []⟩ [("script", v)]) ∧ ∀ base : Heap, K.In base → base.Ns mainGlobals mg → One base → FnG l.prog w K mg base CX0 4 fa fd ["script"] (spLaw K) := by
  have e := hfa.symm.trans (PySem.W.mg_of X G b22)
  cases e
  have T : Txt K mg (cF c0 c1 c2 c3 c4 c5 c6 c7 c8 c9 c10 c11) cO cN := {
    nms := fun e => match e with
      | .x0 => PySem.W.mg_of X G a0
      | .x1 => PySem.W.mg_of X G a1
      | .x2 => PySem.W.mg_of X G a2
      | .x3 => PySem.W.mg_of X G a3
      | .x4 => PySem.W.mg_of X G a4
      | .x5 => PySem.W.mg_of X G a5
      | .x6 => PySem.W.mg_of X G a6
      | .x7 => PySem.W.mg_of X G a7
      | .x8 => PySem.W.mg_of X G a8
      | .x9 => PySem.W.mg_of X G a9
      | .x10 => PySem.W.mg_of X G a10
      | .x11 => PySem.W.mg_of X G a11
    gO := PySem.W.mg_of X G aO
    gN := PySem.W.mg_of X G aN
    nValueError := PySem.W.mg_none_of X G nValueError
    nLookupError := PySem.W.mg_none_of X G nLookupError
    nKeyError := PySem.W.mg_none_of X G nKeyError
    nIndexError := PySem.W.mg_none_of X G nIndexError
    nisinstance := PySem.W.mg_none_of X G nisinstance
    nrepr := PySem.W.mg_none_of X G nrepr
    nlen := PySem.W.mg_none_of X G nlen
    ntuple := PySem.W.mg_none_of X G ntuple
    nint := PySem.W.mg_none_of X G nint
    nrange := PySem.W.mg_none_of X G nrange
    ex := fun e => match e with
      | .x0 => ⟨hg0, hk0, hs0, hd0, ha0, hn, ht, hm0⟩
      | .x1 => ⟨hg1, hk1, hs1, hd1, ha1, hn, ht, hm1⟩
      | .x2 => ⟨hg2, hk2, hs2, hd2, ha2, hn, ht, hm2⟩
      | .x3 => ⟨hg3, hk3, hs3, hd3, ha3, hn, ht, hm3⟩
      | .x4 => ⟨hg4, hk4, hs4, hd4, ha4, hn, ht, hm4⟩
      | .x5 => ⟨hg5, hk5, hs5, hd5, ha5, hn, ht, hm5⟩
      | .x6 => ⟨hg6, hk6, hs6, hd6, ha6, hn, ht, hm6⟩
      | .x7 => ⟨hg7, hk7, hs7, hd7, ha7, hn, ht, hm7⟩
      | .x8 => ⟨hg8, hk8, hs8, hd8, ha8, hn, ht, hm8⟩
      | .x9 => ⟨hg9, hk9, hs9, hd9, ha9, hn, ht, hm9⟩
      | .x10 => ⟨hg10, hk10, hs10, hd10, ha10, hn, ht, hm10⟩
      | .x11 => ⟨hg11, hk11, hs11, hd11, ha11, hn, ht, hm11⟩
    kit := fun e f => match e, f with
      | .x0, .x0 => kit0_0
      | .x0, .x1 => kit0_1
      | .x0, .x2 => kit0_2
      | .x0, .x3 => kit0_3
      | .x0, .x4 => kit0_4
      | .x0, .x5 => kit0_5
      | .x0, .x6 => kit0_6
      | .x0, .x7 => kit0_7
      | .x0, .x8 => kit0_8
      | .x0, .x9 => kit0_9
      | .x0, .x10 => kit0_10
      | .x0, .x11 => kit0_11
      | .x1, .x0 => kit1_0
      | .x1, .x1 => kit1_1
      | .x1, .x2 => kit1_2
      | .x1, .x3 => kit1_3
      | .x1, .x4 => kit1_4
      | .x1, .x5 => kit1_5
      | .x1, .x6 => kit1_6
      | .x1, .x7 => kit1_7
      | .x1, .x8 => kit1_8
      | .x1, .x9 => kit1_9
      | .x1, .x10 => kit1_10
      | .x1, .x11 => kit1_11
      | .x2, .x0 => kit2_0
      | .x2, .x1 => kit2_1
      | .x2, .x2 => kit2_2
      | .x2, .x3 => kit2_3
      | .x2, .x4 => kit2_4
      | .x2, .x5 => kit2_5
      | .x2, .x6 => kit2_6
      | .x2, .x7 => kit2_7
      | .x2, .x8 => kit2_8
      | .x2, .x9 => kit2_9
      | .x2, .x10 => kit2_10
      | .x2, .x11 => kit2_11
      | .x3, .x0 => kit3_0
      | .x3, .x1 => kit3_1
      | .x3, .x2 => kit3_2
      | .x3, .x3 => kit3_3
      | .x3, .x4 => kit3_4
      | .x3, .x5 => kit3_5
      | .x3, .x6 => kit3_6
      | .x3, .x7 => kit3_7
      | .x3, .x8 => kit3_8
      | .x3, .x9 => kit3_9
      | .x3, .x10 => kit3_10
      | .x3, .x11 => kit3_11
      | .x4, .x0 => kit4_0
      | .x4, .x1 => kit4_1
      | .x4, .x2 => kit4_2
      | .x4, .x3 => kit4_3
      | .x4, .x4 => kit4_4
      | .x4, .x5 => kit4_5
      | .x4, .x6 => kit4_6
      | .x4, .x7 => kit4_7
      | .x4, .x8 => kit4_8
      | .x4, .x9 => kit4_9
      | .x4, .x10 => kit4_10
      | .x4, .x11 => kit4_11
      | .x5, .x0 => kit5_0
      | .x5, .x1 => kit5_1
      | .x5, .x2 => kit5_2
      | .x5, .x3 => kit5_3
      | .x5, .x4 => kit5_4
      | .x5, .x5 => kit5_5
      | .x5, .x6 => kit5_6
      | .x5, .x7 => kit5_7
      | .x5, .x8 => kit5_8
      | .x5, .x9 => kit5_9
      | .x5, .x10 => kit5_10
      | .x5, .x11 => kit5_11
      | .x6, .x0 => kit6_0
      | .x6, .x1 => kit6_1
      | .x6, .x2 => kit6_2
      | .x6, .x3 => kit6_3
      | .x6, .x4 => kit6_4
      | .x6, .x5 => kit6_5
      | .x6, .x6 => kit6_6
      | .x6, .x7 => kit6_7
      | .x6, .x8 => kit6_8
      | .x6, .x9 => kit6_9
      | .x6, .x10 => kit6_10
      | .x6, .x11 => kit6_11
      | .x7, .x0 => kit7_0
      | .x7, .x1 => kit7_1
      | .x7, .x2 => kit7_2
      | .x7, .x3 => kit7_3
      | .x7, .x4 => kit7_4
      | .x7, .x5 => kit7_5
      | .x7, .x6 => kit7_6
      | .x7, .x7 => kit7_7
      | .x7, .x8 => kit7_8
      | .x7, .x9 => kit7_9
      | .x7, .x10 => kit7_10
      | .x7, .x11 => kit7_11
      | .x8, .x0 => kit8_0
      | .x8, .x1 => kit8_1
      | .x8, .x2 => kit8_2
      | .x8, .x3 => kit8_3
      | .x8, .x4 => kit8_4
      | .x8, .x5 => kit8_5
      | .x8, .x6 => kit8_6
      | .x8, .x7 => kit8_7
      | .x8, .x8 => kit8_8
      | .x8, .x9 => kit8_9
      | .x8, .x10 => kit8_10
      | .x8, .x11 => kit8_11
      | .x9, .x0 => kit9_0
      | .x9, .x1 => kit9_1
      | .x9, .x2 => kit9_2
      | .x9, .x3 => kit9_3
      | .x9, .x4 => kit9_4
      | .x9, .x5 => kit9_5
      | .x9, .x6 => kit9_6
      | .x9, .x7 => kit9_7
      | .x9, .x8 => kit9_8
      | .x9, .x9 => kit9_9
      | .x9, .x10 => kit9_10
      | .x9, .x11 => kit9_11
      | .x10, .x0 => kit10_0
      | .x10, .x1 => kit10_1
      | .x10, .x2 => kit10_2
      | .x10, .x3 => kit10_3
      | .x10, .x4 => kit10_4
      | .x10, .x5 => kit10_5
      | .x10, .x6 => kit10_6
      | .x10, .x7 => kit10_7
      | .x10, .x8 => kit10_8
      | .x10, .x9 => kit10_9
      | .x10, .x10 => kit10_10
      | .x10, .x11 => kit10_11
      | .x11, .x0 => kit11_0
      | .x11, .x1 => kit11_1
      | .x11, .x2 => kit11_2
      | .x11, .x3 => kit11_3
      | .x11, .x4 => kit11_4
      | .x11, .x5 => kit11_5
      | .x11, .x6 => kit11_6
      | .x11, .x7 => kit11_7
      | .x11, .x8 => kit11_8
      | .x11, .x9 => kit11_9
      | .x11, .x10 => kit11_10
      | .x11, .x11 => kit11_11
    kO := fun e => match e with
      | .x0 => kO0
      | .x1 => kO1
      | .x2 => kO2
      | .x3 => kO3
      | .x4 => kO4
      | .x5 => kO5
      | .x6 => kO6
      | .x7 => kO7
      | .x8 => kO8
      | .x9 => kO9
      | .x10 => kO10
      | .x11 => kO11
    kV := fun e => match e with
      | .x0 => kV0
      | .x1 => kV1
      | .x2 => kV2
      | .x3 => kV3
      | .x4 => kV4
      | .x5 => kV5
      | .x6 => kV6
      | .x7 => kV7
      | .x8 => kV8
      | .x9 => kV9
      | .x10 => kV10
      | .x11 => kV11
    kN := fun e => match e with
      | .x0 => kN0
      | .x1 => kN1
      | .x2 => kN2
      | .x3 => kN3
      | .x4 => kN4
      | .x5 => kN5
      | .x6 => kN6
      | .x7 => kN7
      | .x8 => kN8
      | .x9 => kN9
      | .x10 => kN10
      | .x11 => kN11
    kL := fun e => match e with
      | .x0 => kL0
      | .x1 => kL1
      | .x2 => kL2
      | .x3 => kL3
      | .x4 => kL4
      | .x5 => kL5
      | .x6 => kL6
      | .x7 => kL7
      | .x8 => kL8
      | .x9 => kL9
      | .x10 => kL10
      | .x11 => kL11
    kT := fun e => match e with
      | .x0 => kT0
      | .x1 => kT1
      | .x2 => kT2
      | .x3 => kT3
      | .x4 => kT4
      | .x5 => kT5
      | .x6 => kT6
      | .x7 => kT7
      | .x8 => kT8
      | .x9 => kT9
      | .x10 => kT10
      | .x11 => kT11
    q5 := q5
    k5 := kk5
    q7 := q7
    k7 := kk7
    q8 := q8
    k8 := kk8
    x0 := ⟨⟨_, _, _, _, _, _, _, _, _, _, _, _, _, _, _, xL0, rT0⟩, sa0, hm0, kk0⟩
    x1 := ⟨⟨_, _, _, _, _, _, _, _, _, _, _, _, _, _, _, xL1, rT1⟩, sa1, hm1, kk1⟩
    x2 := ⟨⟨_, _, _, _, _, _, _, _, _, _, _, _, _, _, _, xL2, rT2⟩, sa2, hm2, kk2⟩
    x3 := ⟨⟨_, _, _, _, _, _, _, _, _, _, _, _, _, _, _, xL3, rT3⟩, sa3, hm3, kk3⟩
    x4 := ⟨⟨_, _, _, _, _, _, _, _, _, _, _, _, _, _, _, xL4, rT4⟩, sa4, hm4, kk4⟩
    x6 := ⟨⟨_, _, _, _, _, _, _, _, _, _, _, _, _, _, _, xL6, rT6⟩, sa6, hm6, kk6⟩
    x9 := ⟨⟨_, _, _, _, _, _, _, _, _, _, _, _, _, _, _, xL9, rT9⟩, sa9, hm9, kk9⟩
    x10 := ⟨⟨_, _, _, _, _, _, _, _, _, _, _, _, _, _, _, xL10, rT10⟩, sa10, hm10, kk10⟩
    x11 := ⟨⟨_, _, _, _, _, _, _, _, _, _, _, _, _, _, _, xL11, rT11⟩, sa11, hm11, kk11⟩
    f0 := fl0
    f1 := fl1
    f2 := fl2
    f3 := fl3
    f4 := fl4
    f9 := fl9
    f10 := fl10
    f11 := fl11
    f6a := fl6a
    f6b := fl6b }
  obtain ⟨e0, I0⟩ : ∃ fd, Fun K "__init__" "NoOrder.__init__" sI0 f0 fd := ⟨_, fun_mk li0 ci0 ki0⟩
  obtain ⟨e1, I1⟩ : ∃ fd, Fun K "__init__" "BadBook.__init__" sI1 f1 fd := ⟨_, fun_mk li1 ci1 ki1⟩
  obtain ⟨e2, I2⟩ : ∃ fd, Fun K "__init__" "BadOrder.__init__" sI2 f2 fd := ⟨_, fun_mk li2 ci2 ki2⟩
  obtain ⟨e3, I3⟩ : ∃ fd, Fun K "__init__" "BadDeed.__init__" sI3 f3 fd := ⟨_, fun_mk li3 ci3 ki3⟩
  obtain ⟨e4, I4⟩ : ∃ fd, Fun K "__init__" "BadScript.__init__" sI4 f4 fd := ⟨_, fun_mk li4 ci4 ki4⟩
  obtain ⟨e6, I6⟩ : ∃ fd, Fun K "__init__" "Crossed.__init__" sI6 f6 fd := ⟨_, fun_mk li6 ci6 ki6⟩
  obtain ⟨e9, I9⟩ : ∃ fd, Fun K "__init__" "BadText.__init__" sI9 f9 fd := ⟨_, fun_mk li9 ci9 ki9⟩
  obtain ⟨e10, I10⟩ : ∃ fd, Fun K "__init__" "BadAct.__init__" sI10 f10 fd := ⟨_, fun_mk li10 ci10 ki10⟩
  obtain ⟨e11, I11⟩ : ∃ fd, Fun K "__init__" "UnknownName.__init__" sI11 f11 fd := ⟨_, fun_mk li11 ci11 ki11⟩
  obtain ⟨g16, F16⟩ : ∃ fd, Fun K "_law_source" "_law_source" sSource f16 fd := ⟨_, fun_mk l16 c_16 k_16⟩
  obtain ⟨g17, F17⟩ : ∃ fd, Fun K "_law_pick" "_law_pick" sPick f17 fd := ⟨_, fun_mk l17 c_17 k_17⟩
  obtain ⟨g18, F18⟩ : ∃ fd, Fun K "_law_kinds" "_law_kinds" sKinds f18 fd := ⟨_, fun_mk l18 c_18 k_18⟩
  obtain ⟨g19, F19⟩ : ∃ fd, Fun K "_law_bases" "_law_bases" sBases f19 fd := ⟨_, fun_mk l19 c_19 k_19⟩
  obtain ⟨g20, F20⟩ : ∃ fd, Fun K "_law_every" "_law_every" sEvery f20 fd := ⟨_, fun_mk l20 c_20 k_20⟩
  obtain ⟨g21, F21⟩ : ∃ fd, Fun K "_law_kept" "_law_kept" sKept f21 fd := ⟨_, fun_mk l21 c_21 k_21⟩
  have F22 := fun_mk (st := sLaw) l22 c_22 k_22
  refine ⟨PySem.W.fnOf "law" "law" (defArgs sLaw) (defBody sLaw) (defScope sLaw) .none kV22 dc22 pm22 an22 cd22 ct22, fun s v => ?hB, fun base KB GB h1 => ok_law (fs := aF f16 f17 f18 f19 f20 f21) (fds := gF g16 g17 g18 g19 g20 g21) F22 T ?hD⟩
  case hB => exact .of_eq rfl
  case hD =>
    have I : Ini l.prog w K mg base (cF c0 c1 c2 c3 c4 c5 c6 c7 c8 c9 c10 c11) (fF f0 f1 f2 f3 f4 c0 f6 c0 c0 f9 f10 f11) (dF e0 e0 e1 e2 e3 e4 e6 e9 e10 e11) := {
      i0 := ii0
      t0 := ti0
      F0 := ok_I0 I0 T.ntuple
      b0 := I0.binds (ps := ["self", "stuck"]) fun _ _ _ _ _ _ us hl => match us, hl with | [_, _], _ => rfl
      i1 := ii1
      t1 := ti1
      F1 := ok_I1 I1 T.ntuple
      b1 := I1.binds (ps := ["self", "path"]) fun _ _ _ _ _ _ us hl => match us, hl with | [_, _], _ => rfl
      i2 := ii2
      t2 := ti2
      F2 := ok_I2 I2 T.ntuple
      b2 := I2.binds (ps := ["self", "path"]) fun _ _ _ _ _ _ us hl => match us, hl with | [_, _], _ => rfl
      i3 := ii3
      t3 := ti3
      F3 := ok_I3 I3 T.ntuple
      b3 := I3.binds (ps := ["self", "word"]) fun _ _ _ _ _ _ us hl => match us, hl with | [_, _], _ => rfl
      i4 := ii4
      t4 := ti4
      F4 := ok_I4 I4 T.ntuple
      b4 := I4.binds (ps := ["self", "number"]) fun _ _ _ _ _ _ us hl => match us, hl with | [_, _], _ => rfl
      i6 := ii6
      t6 := ti6
      F6 := ok_I6 I6
      b6 := I6.binds (ps := ["self", "one", "other"]) fun _ _ _ _ _ _ us hl => match us, hl with | [_, _, _], _ => rfl
      i9 := ii9
      t9 := ti9
      F9 := ok_I9 I9 T.ntuple
      b9 := I9.binds (ps := ["self", "place"]) fun _ _ _ _ _ _ us hl => match us, hl with | [_, _], _ => rfl
      i10 := ii10
      t10 := ti10
      F10 := ok_I10 I10 T.ntuple
      b10 := I10.binds (ps := ["self", "word"]) fun _ _ _ _ _ _ us hl => match us, hl with | [_, _], _ => rfl
      i11 := ii11
      t11 := ti11
      F11 := ok_I11 I11 T.ntuple
      b11 := I11.binds (ps := ["self", "name"]) fun _ _ _ _ _ _ us hl => match us, hl with | [_, _], _ => rfl }
    exact {
      g__law_source := PySem.W.mg_of X G b16
      k__law_source := k_16
      b__law_source := F16.binds (ps := ["script"]) fun _ _ _ _ _ _ us hl => match us, hl with | [_], _ => rfl
      g__law_pick := PySem.W.mg_of X G b17
      k__law_pick := k_17
      b__law_pick := F17.binds (ps := ["source", "many"]) fun _ _ _ _ _ _ us hl => match us, hl with | [_, _], _ => rfl
      g__law_kinds := PySem.W.mg_of X G b18
      k__law_kinds := k_18
      b__law_kinds := F18.binds (ps := ["e"]) fun _ _ _ _ _ _ us hl => match us, hl with | [_], _ => rfl
      g__law_bases := PySem.W.mg_of X G b19
      k__law_bases := k_19
      b__law_bases := F19.binds (ps := ["e"]) fun _ _ _ _ _ _ us hl => match us, hl with | [_], _ => rfl
      g__law_every := PySem.W.mg_of X G b20
      k__law_every := k_20
      b__law_every := F20.binds (ps := ["word", "number", "some", "other"]) fun _ _ _ _ _ _ us hl => match us, hl with | [_, _, _, _], _ => rfl
      g__law_kept := PySem.W.mg_of X G b21
      k__law_kept := k_21
      b__law_kept := F21.binds (ps := ["every", "word", "number", "some", "other"]) fun _ _ _ _ _ _ us hl => match us, hl with | [_, _, _, _, _], _ => rfl
      F__law_source := ok_source F16 (PySem.W.mg_none_of X G nabs) T.nint
      F__law_pick := ok_pick F17 T.nlen (PySem.W.mg_none_of X G nmax) T.nint
      F__law_kinds := ok_kinds F18 T
      F__law_bases := ok_bases F19 T
      F__law_every := ok_every F20 T I
      F__law_kept := ok_kept F21 T h1 }
end Tk

open PySem PySem.W PyProof.Rows
set_option Elab.async false
set_option maxRecDepth 100000
set_option maxHeartbeats 8000000
open_top hd for PySem.Challenge.rw_takenout_k00_errors

open PySem PySem.W PyProof.Rows
theorem PySem.Challenge.cw_takenout_k00_errors_holds : PySem.Challenge.rw_takenout_k00_errors.Holds := by
  refine hd ?_
  k_fill
  refine X3.walk_ofG (l := PySem.Challenge.rw_takenout_k00_errors) (n := 63) (k := 4) (x := "script") (sp := fun w => Tk.spLaw (hd.heap_39 w.params)) (by decide +kernel) rfl (by decide) rfl ⟨rfl, by decide, by decide⟩ (fun w h Y => PySem.W.kIn_of Y) ?F ?S
  case S => exact fun w H a ns hl hS => ⟨a, ns, rfl, hS, hl, fun _ => rfl⟩
  case F =>
    intro w mg fa h KX G hmg
    refine' Tk.all_mk (K := hd.heap_39 w.params) KX G hmg ?a0 ?a1 ?a2 ?a3 ?a4 ?a5 ?a6 ?a7 ?a8 ?a9 ?a10 ?a11 ?aO ?aN ?nValueError ?nLookupError ?nKeyError ?nIndexError ?nisinstance ?nrepr ?nlen ?ntuple ?nint ?nrange ?nabs ?nmax ?hn ?ht ?kk0 ?hg0 ?hk0 ?hs0 ?hd0 ?ha0 ?hm0 ?kit0_0 ?kit0_1 ?kit0_2 ?kit0_3 ?kit0_4 ?kit0_5 ?kit0_6 ?kit0_7 ?kit0_8 ?kit0_9 ?kit0_10 ?kit0_11 ?kO0 ?kV0 ?kN0 ?kL0 ?kT0 ?xL0 ?rT0 ?sa0 ?ii0 ?ti0 ?li0 ?ci0 ?ki0 ?fl0 ?kk1 ?hg1 ?hk1 ?hs1 ?hd1 ?ha1 ?hm1 ?kit1_0 ?kit1_1 ?kit1_2 ?kit1_3 ?kit1_4 ?kit1_5 ?kit1_6 ?kit1_7 ?kit1_8 ?kit1_9 ?kit1_10 ?kit1_11 ?kO1 ?kV1 ?kN1 ?kL1 ?kT1 ?xL1 ?rT1 ?sa1 ?ii1 ?ti1 ?li1 ?ci1 ?ki1 ?fl1 ?kk2 ?hg2 ?hk2 ?hs2 ?hd2 ?ha2 ?hm2 ?kit2_0 ?kit2_1 ?kit2_2 ?kit2_3 ?kit2_4 ?kit2_5 ?kit2_6 ?kit2_7 ?kit2_8 ?kit2_9 ?kit2_10 ?kit2_11 ?kO2 ?kV2 ?kN2 ?kL2 ?kT2 ?xL2 ?rT2 ?sa2 ?ii2 ?ti2 ?li2 ?ci2 ?ki2 ?fl2 ?kk3 ?hg3 ?hk3 ?hs3 ?hd3 ?ha3 ?hm3 ?kit3_0 ?kit3_1 ?kit3_2 ?kit3_3 ?kit3_4 ?kit3_5 ?kit3_6 ?kit3_7 ?kit3_8 ?kit3_9 ?kit3_10 ?kit3_11 ?kO3 ?kV3 ?kN3 ?kL3 ?kT3 ?xL3 ?rT3 ?sa3 ?ii3 ?ti3 ?li3 ?ci3 ?ki3 ?fl3 ?kk4 ?hg4 ?hk4 ?hs4 ?hd4 ?ha4 ?hm4 ?kit4_0 ?kit4_1 ?kit4_2 ?kit4_3 ?kit4_4 ?kit4_5 ?kit4_6 ?kit4_7 ?kit4_8 ?kit4_9 ?kit4_10 ?kit4_11 ?kO4 ?kV4 ?kN4 ?kL4 ?kT4 ?xL4 ?rT4 ?sa4 ?ii4 ?ti4 ?li4 ?ci4 ?ki4 ?fl4 ?kk5 ?hg5 ?hk5 ?hs5 ?hd5 ?ha5 ?hm5 ?kit5_0 ?kit5_1 ?kit5_2 ?kit5_3 ?kit5_4 ?kit5_5 ?kit5_6 ?kit5_7 ?kit5_8 ?kit5_9 ?kit5_10 ?kit5_11 ?kO5 ?kV5 ?kN5 ?kL5 ?kT5 ?q5 ?kk6 ?hg6 ?hk6 ?hs6 ?hd6 ?ha6 ?hm6 ?kit6_0 ?kit6_1 ?kit6_2 ?kit6_3 ?kit6_4 ?kit6_5 ?kit6_6 ?kit6_7 ?kit6_8 ?kit6_9 ?kit6_10 ?kit6_11 ?kO6 ?kV6 ?kN6 ?kL6 ?kT6 ?xL6 ?rT6 ?sa6 ?ii6 ?ti6 ?li6 ?ci6 ?ki6 ?fl6a ?fl6b ?kk7 ?hg7 ?hk7 ?hs7 ?hd7 ?ha7 ?hm7 ?kit7_0 ?kit7_1 ?kit7_2 ?kit7_3 ?kit7_4 ?kit7_5 ?kit7_6 ?kit7_7 ?kit7_8 ?kit7_9 ?kit7_10 ?kit7_11 ?kO7 ?kV7 ?kN7 ?kL7 ?kT7 ?q7 ?kk8 ?hg8 ?hk8 ?hs8 ?hd8 ?ha8 ?hm8 ?kit8_0 ?kit8_1 ?kit8_2 ?kit8_3 ?kit8_4 ?kit8_5 ?kit8_6 ?kit8_7 ?kit8_8 ?kit8_9 ?kit8_10 ?kit8_11 ?kO8 ?kV8 ?kN8 ?kL8 ?kT8 ?q8 ?kk9 ?hg9 ?hk9 ?hs9 ?hd9 ?ha9 ?hm9 ?kit9_0 ?kit9_1 ?kit9_2 ?kit9_3 ?kit9_4 ?kit9_5 ?kit9_6 ?kit9_7 ?kit9_8 ?kit9_9 ?kit9_10 ?kit9_11 ?kO9 ?kV9 ?kN9 ?kL9 ?kT9 ?xL9 ?rT9 ?sa9 ?ii9 ?ti9 ?li9 ?ci9 ?ki9 ?fl9 ?kk10 ?hg10 ?hk10 ?hs10 ?hd10 ?ha10 ?hm10 ?kit10_0 ?kit10_1 ?kit10_2 ?kit10_3 ?kit10_4 ?kit10_5 ?kit10_6 ?kit10_7 ?kit10_8 ?kit10_9 ?kit10_10 ?kit10_11 ?kO10 ?kV10 ?kN10 ?kL10 ?kT10 ?xL10 ?rT10 ?sa10 ?ii10 ?ti10 ?li10 ?ci10 ?ki10 ?fl10 ?kk11 ?hg11 ?hk11 ?hs11 ?hd11 ?ha11 ?hm11 ?kit11_0 ?kit11_1 ?kit11_2 ?kit11_3 ?kit11_4 ?kit11_5 ?kit11_6 ?kit11_7 ?kit11_8 ?kit11_9 ?kit11_10 ?kit11_11 ?kO11 ?kV11 ?kN11 ?kL11 ?kT11 ?xL11 ?rT11 ?sa11 ?ii11 ?ti11 ?li11 ?ci11 ?ki11 ?fl11 ?b16 ?l16 ?c_16 ?k_16 ?b17 ?l17 ?c_17 ?k_17 ?b18 ?l18 ?c_18 ?k_18 ?b19 ?l19 ?c_19 ?k_19 ?b20 ?l20 ?c_20 ?k_20 ?b21 ?l21 ?c_21 ?k_21 ?b22 ?l22 ?c_22 ?k_22
    (case a0 => k_is)
    (case a1 => k_is)
    (case a2 => k_is)
    (case a3 => k_is)
    (case a4 => k_is)
    (case a5 => k_is)
    (case a6 => k_is)
    (case a7 => k_is)
    (case a8 => k_is)
    (case a9 => k_is)
    (case a10 => k_is)
    (case a11 => k_is)
    (case aO => k_is)
    (case aN => k_is)
    (case nValueError => k_is)
    (case nLookupError => k_is)
    (case nKeyError => k_is)
    (case nIndexError => k_is)
    (case nisinstance => k_is)
    (case nrepr => k_is)
    (case nlen => k_is)
    (case ntuple => k_is)
    (case nint => k_is)
    (case nrange => k_is)
    (case nabs => k_is)
    (case nmax => k_is)
    (case hn => k_is)
    (case ht => k_is)
    (case kk0 => k_is)
    (case hg0 => k_is)
    (case hk0 => k_is)
    (case hs0 => k_is)
    (case hd0 => k_is)
    (case ha0 => k_is)
    (case hm0 => k_is)
    (case kit0_0 => first | kit_is | k_is)
    (case kit0_1 => first | kit_is | k_is)
    (case kit0_2 => first | kit_is | k_is)
    (case kit0_3 => first | kit_is | k_is)
    (case kit0_4 => first | kit_is | k_is)
    (case kit0_5 => first | kit_is | k_is)
    (case kit0_6 => first | kit_is | k_is)
    (case kit0_7 => first | kit_is | k_is)
    (case kit0_8 => first | kit_is | k_is)
    (case kit0_9 => first | kit_is | k_is)
    (case kit0_10 => first | kit_is | k_is)
    (case kit0_11 => first | kit_is | k_is)
    (case kO0 => first | kit_is | k_is)
    (case kV0 => first | kit_is | k_is)
    (case kN0 => first | kit_is | k_is)
    (case kL0 => first | kit_is | k_is)
    (case kT0 => first | kit_is | k_is)
    (case xL0 => k_is)
    (case rT0 => first | rfl | decide +kernel | k_is)
    (case sa0 => k_is)
    (case ii0 => k_is)
    (case ti0 => k_is)
    (case li0 => k_is)
    (case ci0 => k_is)
    (case ki0 => k_is)
    (case fl0 => k_is)
    (case kk1 => k_is)
    (case hg1 => k_is)
    (case hk1 => k_is)
    (case hs1 => k_is)
    (case hd1 => k_is)
    (case ha1 => k_is)
    (case hm1 => k_is)
    (case kit1_0 => first | kit_is | k_is)
    (case kit1_1 => first | kit_is | k_is)
    (case kit1_2 => first | kit_is | k_is)
    (case kit1_3 => first | kit_is | k_is)
    (case kit1_4 => first | kit_is | k_is)
    (case kit1_5 => first | kit_is | k_is)
    (case kit1_6 => first | kit_is | k_is)
    (case kit1_7 => first | kit_is | k_is)
    (case kit1_8 => first | kit_is | k_is)
    (case kit1_9 => first | kit_is | k_is)
    (case kit1_10 => first | kit_is | k_is)
    (case kit1_11 => first | kit_is | k_is)
    (case kO1 => first | kit_is | k_is)
    (case kV1 => first | kit_is | k_is)
    (case kN1 => first | kit_is | k_is)
    (case kL1 => first | kit_is | k_is)
    (case kT1 => first | kit_is | k_is)
    (case xL1 => k_is)
    (case rT1 => first | rfl | decide +kernel | k_is)
    (case sa1 => k_is)
    (case ii1 => k_is)
    (case ti1 => k_is)
    (case li1 => k_is)
    (case ci1 => k_is)
    (case ki1 => k_is)
    (case fl1 => k_is)
    (case kk2 => k_is)
    (case hg2 => k_is)
    (case hk2 => k_is)
    (case hs2 => k_is)
    (case hd2 => k_is)
    (case ha2 => k_is)
    (case hm2 => k_is)
    (case kit2_0 => first | kit_is | k_is)
    (case kit2_1 => first | kit_is | k_is)
    (case kit2_2 => first | kit_is | k_is)
    (case kit2_3 => first | kit_is | k_is)
    (case kit2_4 => first | kit_is | k_is)
    (case kit2_5 => first | kit_is | k_is)
    (case kit2_6 => first | kit_is | k_is)
    (case kit2_7 => first | kit_is | k_is)
    (case kit2_8 => first | kit_is | k_is)
    (case kit2_9 => first | kit_is | k_is)
    (case kit2_10 => first | kit_is | k_is)
    (case kit2_11 => first | kit_is | k_is)
    (case kO2 => first | kit_is | k_is)
    (case kV2 => first | kit_is | k_is)
    (case kN2 => first | kit_is | k_is)
    (case kL2 => first | kit_is | k_is)
    (case kT2 => first | kit_is | k_is)
    (case xL2 => k_is)
    (case rT2 => first | rfl | decide +kernel | k_is)
    (case sa2 => k_is)
    (case ii2 => k_is)
    (case ti2 => k_is)
    (case li2 => k_is)
    (case ci2 => k_is)
    (case ki2 => k_is)
    (case fl2 => k_is)
    (case kk3 => k_is)
    (case hg3 => k_is)
    (case hk3 => k_is)
    (case hs3 => k_is)
    (case hd3 => k_is)
    (case ha3 => k_is)
    (case hm3 => k_is)
    (case kit3_0 => first | kit_is | k_is)
    (case kit3_1 => first | kit_is | k_is)
    (case kit3_2 => first | kit_is | k_is)
    (case kit3_3 => first | kit_is | k_is)
    (case kit3_4 => first | kit_is | k_is)
    (case kit3_5 => first | kit_is | k_is)
    (case kit3_6 => first | kit_is | k_is)
    (case kit3_7 => first | kit_is | k_is)
    (case kit3_8 => first | kit_is | k_is)
    (case kit3_9 => first | kit_is | k_is)
    (case kit3_10 => first | kit_is | k_is)
    (case kit3_11 => first | kit_is | k_is)
    (case kO3 => first | kit_is | k_is)
    (case kV3 => first | kit_is | k_is)
    (case kN3 => first | kit_is | k_is)
    (case kL3 => first | kit_is | k_is)
    (case kT3 => first | kit_is | k_is)
    (case xL3 => k_is)
    (case rT3 => first | rfl | decide +kernel | k_is)
    (case sa3 => k_is)
    (case ii3 => k_is)
    (case ti3 => k_is)
    (case li3 => k_is)
    (case ci3 => k_is)
    (case ki3 => k_is)
    (case fl3 => k_is)
    (case kk4 => k_is)
    (case hg4 => k_is)
    (case hk4 => k_is)
    (case hs4 => k_is)
    (case hd4 => k_is)
    (case ha4 => k_is)
    (case hm4 => k_is)
    (case kit4_0 => first | kit_is | k_is)
    (case kit4_1 => first | kit_is | k_is)
    (case kit4_2 => first | kit_is | k_is)
    (case kit4_3 => first | kit_is | k_is)
    (case kit4_4 => first | kit_is | k_is)
    (case kit4_5 => first | kit_is | k_is)
    (case kit4_6 => first | kit_is | k_is)
    (case kit4_7 => first | kit_is | k_is)
    (case kit4_8 => first | kit_is | k_is)
    (case kit4_9 => first | kit_is | k_is)
    (case kit4_10 => first | kit_is | k_is)
    (case kit4_11 => first | kit_is | k_is)
    (case kO4 => first | kit_is | k_is)
    (case kV4 => first | kit_is | k_is)
    (case kN4 => first | kit_is | k_is)
    (case kL4 => first | kit_is | k_is)
    (case kT4 => first | kit_is | k_is)
    (case xL4 => k_is)
    (case rT4 => first | rfl | decide +kernel | k_is)
    (case sa4 => k_is)
    (case ii4 => k_is)
    (case ti4 => k_is)
    (case li4 => k_is)
    (case ci4 => k_is)
    (case ki4 => k_is)
    (case fl4 => k_is)
    (case kk5 => k_is)
    (case hg5 => k_is)
    (case hk5 => k_is)
    (case hs5 => k_is)
    (case hd5 => k_is)
    (case ha5 => k_is)
    (case hm5 => k_is)
    (case kit5_0 => first | kit_is | k_is)
    (case kit5_1 => first | kit_is | k_is)
    (case kit5_2 => first | kit_is | k_is)
    (case kit5_3 => first | kit_is | k_is)
    (case kit5_4 => first | kit_is | k_is)
    (case kit5_5 => first | kit_is | k_is)
    (case kit5_6 => first | kit_is | k_is)
    (case kit5_7 => first | kit_is | k_is)
    (case kit5_8 => first | kit_is | k_is)
    (case kit5_9 => first | kit_is | k_is)
    (case kit5_10 => first | kit_is | k_is)
    (case kit5_11 => first | kit_is | k_is)
    (case kO5 => first | kit_is | k_is)
    (case kV5 => first | kit_is | k_is)
    (case kN5 => first | kit_is | k_is)
    (case kL5 => first | kit_is | k_is)
    (case kT5 => first | kit_is | k_is)
    (case q5 => first | k_exc | k_is)
    (case kk6 => k_is)
    (case hg6 => k_is)
    (case hk6 => k_is)
    (case hs6 => k_is)
    (case hd6 => k_is)
    (case ha6 => k_is)
    (case hm6 => k_is)
    (case kit6_0 => first | kit_is | k_is)
    (case kit6_1 => first | kit_is | k_is)
    (case kit6_2 => first | kit_is | k_is)
    (case kit6_3 => first | kit_is | k_is)
    (case kit6_4 => first | kit_is | k_is)
    (case kit6_5 => first | kit_is | k_is)
    (case kit6_6 => first | kit_is | k_is)
    (case kit6_7 => first | kit_is | k_is)
    (case kit6_8 => first | kit_is | k_is)
    (case kit6_9 => first | kit_is | k_is)
    (case kit6_10 => first | kit_is | k_is)
    (case kit6_11 => first | kit_is | k_is)
    (case kO6 => first | kit_is | k_is)
    (case kV6 => first | kit_is | k_is)
    (case kN6 => first | kit_is | k_is)
    (case kL6 => first | kit_is | k_is)
    (case kT6 => first | kit_is | k_is)
    (case xL6 => k_is)
    (case rT6 => first | rfl | decide +kernel | k_is)
    (case sa6 => k_is)
    (case ii6 => k_is)
    (case ti6 => k_is)
    (case li6 => k_is)
    (case ci6 => k_is)
    (case ki6 => k_is)
    (case fl6a => k_is)
    (case fl6b => k_is)
    (case kk7 => k_is)
    (case hg7 => k_is)
    (case hk7 => k_is)
    (case hs7 => k_is)
    (case hd7 => k_is)
    (case ha7 => k_is)
    (case hm7 => k_is)
    (case kit7_0 => first | kit_is | k_is)
    (case kit7_1 => first | kit_is | k_is)
    (case kit7_2 => first | kit_is | k_is)
    (case kit7_3 => first | kit_is | k_is)
    (case kit7_4 => first | kit_is | k_is)
    (case kit7_5 => first | kit_is | k_is)
    (case kit7_6 => first | kit_is | k_is)
    (case kit7_7 => first | kit_is | k_is)
    (case kit7_8 => first | kit_is | k_is)
    (case kit7_9 => first | kit_is | k_is)
    (case kit7_10 => first | kit_is | k_is)
    (case kit7_11 => first | kit_is | k_is)
    (case kO7 => first | kit_is | k_is)
    (case kV7 => first | kit_is | k_is)
    (case kN7 => first | kit_is | k_is)
    (case kL7 => first | kit_is | k_is)
    (case kT7 => first | kit_is | k_is)
    (case q7 => first | k_exc | k_is)
    (case kk8 => k_is)
    (case hg8 => k_is)
    (case hk8 => k_is)
    (case hs8 => k_is)
    (case hd8 => k_is)
    (case ha8 => k_is)
    (case hm8 => k_is)
    (case kit8_0 => first | kit_is | k_is)
    (case kit8_1 => first | kit_is | k_is)
    (case kit8_2 => first | kit_is | k_is)
    (case kit8_3 => first | kit_is | k_is)
    (case kit8_4 => first | kit_is | k_is)
    (case kit8_5 => first | kit_is | k_is)
    (case kit8_6 => first | kit_is | k_is)
    (case kit8_7 => first | kit_is | k_is)
    (case kit8_8 => first | kit_is | k_is)
    (case kit8_9 => first | kit_is | k_is)
    (case kit8_10 => first | kit_is | k_is)
    (case kit8_11 => first | kit_is | k_is)
    (case kO8 => first | kit_is | k_is)
    (case kV8 => first | kit_is | k_is)
    (case kN8 => first | kit_is | k_is)
    (case kL8 => first | kit_is | k_is)
    (case kT8 => first | kit_is | k_is)
    (case q8 => first | k_exc | k_is)
    (case kk9 => k_is)
    (case hg9 => k_is)
    (case hk9 => k_is)
    (case hs9 => k_is)
    (case hd9 => k_is)
    (case ha9 => k_is)
    (case hm9 => k_is)
    (case kit9_0 => first | kit_is | k_is)
    (case kit9_1 => first | kit_is | k_is)
    (case kit9_2 => first | kit_is | k_is)
    (case kit9_3 => first | kit_is | k_is)
    (case kit9_4 => first | kit_is | k_is)
    (case kit9_5 => first | kit_is | k_is)
    (case kit9_6 => first | kit_is | k_is)
    (case kit9_7 => first | kit_is | k_is)
    (case kit9_8 => first | kit_is | k_is)
    (case kit9_9 => first | kit_is | k_is)
    (case kit9_10 => first | kit_is | k_is)
    (case kit9_11 => first | kit_is | k_is)
    (case kO9 => first | kit_is | k_is)
    (case kV9 => first | kit_is | k_is)
    (case kN9 => first | kit_is | k_is)
    (case kL9 => first | kit_is | k_is)
    (case kT9 => first | kit_is | k_is)
    (case xL9 => k_is)
    (case rT9 => first | rfl | decide +kernel | k_is)
    (case sa9 => k_is)
    (case ii9 => k_is)
    (case ti9 => k_is)
    (case li9 => k_is)
    (case ci9 => k_is)
    (case ki9 => k_is)
    (case fl9 => k_is)
    (case kk10 => k_is)
    (case hg10 => k_is)
    (case hk10 => k_is)
    (case hs10 => k_is)
    (case hd10 => k_is)
    (case ha10 => k_is)
    (case hm10 => k_is)
    (case kit10_0 => first | kit_is | k_is)
    (case kit10_1 => first | kit_is | k_is)
    (case kit10_2 => first | kit_is | k_is)
    (case kit10_3 => first | kit_is | k_is)
    (case kit10_4 => first | kit_is | k_is)
    (case kit10_5 => first | kit_is | k_is)
    (case kit10_6 => first | kit_is | k_is)
    (case kit10_7 => first | kit_is | k_is)
    (case kit10_8 => first | kit_is | k_is)
    (case kit10_9 => first | kit_is | k_is)
    (case kit10_10 => first | kit_is | k_is)
    (case kit10_11 => first | kit_is | k_is)
    (case kO10 => first | kit_is | k_is)
    (case kV10 => first | kit_is | k_is)
    (case kN10 => first | kit_is | k_is)
    (case kL10 => first | kit_is | k_is)
    (case kT10 => first | kit_is | k_is)
    (case xL10 => k_is)
    (case rT10 => first | rfl | decide +kernel | k_is)
    (case sa10 => k_is)
    (case ii10 => k_is)
    (case ti10 => k_is)
    (case li10 => k_is)
    (case ci10 => k_is)
    (case ki10 => k_is)
    (case fl10 => k_is)
    (case kk11 => k_is)
    (case hg11 => k_is)
    (case hk11 => k_is)
    (case hs11 => k_is)
    (case hd11 => k_is)
    (case ha11 => k_is)
    (case hm11 => k_is)
    (case kit11_0 => first | kit_is | k_is)
    (case kit11_1 => first | kit_is | k_is)
    (case kit11_2 => first | kit_is | k_is)
    (case kit11_3 => first | kit_is | k_is)
    (case kit11_4 => first | kit_is | k_is)
    (case kit11_5 => first | kit_is | k_is)
    (case kit11_6 => first | kit_is | k_is)
    (case kit11_7 => first | kit_is | k_is)
    (case kit11_8 => first | kit_is | k_is)
    (case kit11_9 => first | kit_is | k_is)
    (case kit11_10 => first | kit_is | k_is)
    (case kit11_11 => first | kit_is | k_is)
    (case kO11 => first | kit_is | k_is)
    (case kV11 => first | kit_is | k_is)
    (case kN11 => first | kit_is | k_is)
    (case kL11 => first | kit_is | k_is)
    (case kT11 => first | kit_is | k_is)
    (case xL11 => k_is)
    (case rT11 => first | rfl | decide +kernel | k_is)
    (case sa11 => k_is)
    (case ii11 => k_is)
    (case ti11 => k_is)
    (case li11 => k_is)
    (case ci11 => k_is)
    (case ki11 => k_is)
    (case fl11 => k_is)
    (case b16 => k_is)
    (case l16 => k_is)
    (case c_16 => k_is)
    (case k_16 => k_is)
    (case b17 => k_is)
    (case l17 => k_is)
    (case c_17 => k_is)
    (case k_17 => k_is)
    (case b18 => k_is)
    (case l18 => k_is)
    (case c_18 => k_is)
    (case k_18 => k_is)
    (case b19 => k_is)
    (case l19 => k_is)
    (case c_19 => k_is)
    (case k_19 => k_is)
    (case b20 => k_is)
    (case l20 => k_is)
    (case c_20 => k_is)
    (case k_20 => k_is)
    (case b21 => k_is)
    (case l21 => k_is)
    (case c_21 => k_is)
    (case k_21 => k_is)
    (case b22 => k_is)
    (case l22 => k_is)
    (case c_22 => k_is)
    (case k_22 => k_is)

