import PyProof.Rows.All
import Wide.All
import OpenK.AllK
import Wide.FinOn
import PyProof.EqAt
import PyProof.EqKinds
import PyProof.TupleCall
import HandS.ForMost
import HandS.ExcInit
import HandS.ExcField
import HandS.ExcIs
import HandS.ExcValue
import HandS.IsInst
import HandS.Deep
import HandS.Flow
import HandS.Evl
import HandS.Walk
import HandS.SetKeys
import PyProof.ExcAttrAll.LookupError
import KE.KExcInit
import KE.KExcIs
import PyProof.ReprRoads
import HandS.DictComp
import HandS.Conv
import HandS.WordsDict
import PyProof.Rows.SeqCalls
import KE.GoesMore
import HandS.Iter
import HandS.Zip0
import HandS.Style
import HandS.Small
import HandS.RaiseMore
import PyProof.P3Eq
import PyProof.ReprBulk
import PySem.Challenge.RW_takenout_k13_all_deeds
set_option Elab.async false
set_option linter.all false
set_option maxRecDepth 100000
set_option maxHeartbeats 2000000
/-! # X3: a calculus over data: what expressions and statements do, told without addresses -/
namespace X3
open PySem L2

/-! ### heaps, one within another -/
def Le (G H : Hp) : Prop := ∀ a o, G a = some o → H a = some o
theorem Le.refl (H : Hp) : Le H H := fun _ _ h => h
theorem Le.trans {G H I : Hp} (a : Le G H) (b : Le H I) : Le G I := fun x o h => b x o (a x o h)
theorem Le.new {H : Hp} {p : Addr} {o : HO} (h : H p = none) : Le H (upd H p o) := fun a u e => by
  rw [upd_ne (ne_of_none e h)]
  exact e
theorem Le.none {G H : Hp} (e : Le G H) {p : Addr} (h : H p = none) : G p = none := by
  cases h1 : G p with
  | none => rfl
  | some o =>
    rw [e p o h1] at h
    cases h
theorem le_rd {H H' : Hp} {a : Addr} {u : HO} (e : Le H H') (h : Rd H a u) : Rd H' a u := by
  rcases h with h | ⟨o, h⟩
  · exact Or.inl (e a _ h)
  · exact Or.inr ⟨o, e a _ h⟩
theorem le_l {K : PySem.W.Frag} {H H' : Hp} {a : Addr} {xs : List V} (e : Le H H') (h : SqL K H a xs) : SqL K H' a xs := by
  rcases h with h | h
  · exact Or.inl (le_rd e h)
  · exact Or.inr h
theorem le_t {K : PySem.W.Frag} {H H' : Hp} {a : Addr} {xs : List V} (e : Le H H') (h : SqT K H a xs) : SqT K H' a xs := by
  rcases h with h | h
  · exact Or.inl (le_rd e h)
  · exact Or.inr h

/-! ### data -/
inductive D where
  | non | bl (b : Bool) | int (i : Int) | str (x : Str)
  | list (ds : List D) | tup (ds : List D)
  | dict (kvs : List (Key × D))
  | obj (C : Addr) (fs : List (Str × D))
  | exc (C : Addr) (fs : Option (List (Str × D)))
  | kset (P : Program) (w : World) (S : Key → Bool) (n : Nat)
  | val (v : V)

mutual
inductive Dat (K : PySem.W.Frag) (G : Hp) : V → D → Prop
  | non : Dat K G .non .non
  | bl (b : Bool) : Dat K G (.bl b) (.bl b)
  | int (i : Int) : Dat K G (.int i) (.int i)
  | str (x : Str) : Dat K G (.str x) (.str x)
  | list {a : Addr} {xs : List V} {ds : List D} : G a = some (.lst xs) → DatL K G xs ds → Dat K G (.ref a) (.list ds)
  | tup {a : Addr} {xs : List V} {ds : List D} : SqT K G a xs → DatL K G xs ds → Dat K G (.ref a) (.tup ds)
  | dict {a : Addr} {kvs : List (Key × V)} {ds : List (Key × D)} : G a = some (.dK kvs) → DatK K G kvs ds → Dat K G (.ref a) (.dict ds)
  | obj {a C dx : Addr} {fs : List (Str × V)} {ds : List (Str × D)} : G a = some (.ins C dx fs) → DatF K G fs ds → Dat K G (.ref a) (.obj C ds)
  | exc0 {a C : Addr} : G a = some (ExO (.ref C) a) → Dat K G (.ref a) (.exc C none)
  | exc1 {a C d : Addr} {fs : List (Str × V)} {ds : List (Str × D)} : G a = some (exo a C (some d)) → G d = some (exd d fs) → DatF K G fs ds → Dat K G (.ref a) (.exc C (some ds))
  | kset {a : Addr} {P : Program} {w : World} {S : Key → Bool} {n : Nat} : G a = some (SetK P w a S n) → Dat K G (.ref a) (.kset P w S n)
  | val (v : V) : Dat K G v (.val v)
inductive DatL (K : PySem.W.Frag) (G : Hp) : List V → List D → Prop
  | nil : DatL K G [] []
  | cons {v : V} {vs : List V} {d : D} {ds : List D} : Dat K G v d → DatL K G vs ds → DatL K G (v :: vs) (d :: ds)
inductive DatK (K : PySem.W.Frag) (G : Hp) : List (Key × V) → List (Key × D) → Prop
  | nil : DatK K G [] []
  | cons {k : Key} {v : V} {vs : List (Key × V)} {d : D} {ds : List (Key × D)} : Dat K G v d → DatK K G vs ds → DatK K G ((k, v) :: vs) ((k, d) :: ds)
inductive DatF (K : PySem.W.Frag) (G : Hp) : List (Str × V) → List (Str × D) → Prop
  | nil : DatF K G [] []
  | cons {k : Str} {v : V} {vs : List (Str × V)} {d : D} {ds : List (Str × D)} : Dat K G v d → DatF K G vs ds → DatF K G ((k, v) :: vs) ((k, d) :: ds)
end

section
variable {K : PySem.W.Frag} {G G' : Hp}
mutual
theorem Dat.mono (e : Le G G') : ∀ {v : V} {d : D}, Dat K G v d → Dat K G' v d
  | _, _, .non => .non
  | _, _, .bl b => .bl b
  | _, _, .int i => .int i
  | _, _, .str x => .str x
  | _, _, .list h r => .list (e _ _ h) (DatL.mono e r)
  | _, _, .tup h r => .tup (le_t e h) (DatL.mono e r)
  | _, _, .dict h r => .dict (e _ _ h) (DatK.mono e r)
  | _, _, .obj h r => .obj (e _ _ h) (DatF.mono e r)
  | _, _, .exc0 h => .exc0 (e _ _ h)
  | _, _, .exc1 h h2 r => .exc1 (e _ _ h) (e _ _ h2) (DatF.mono e r)
  | _, _, .kset h => .kset (e _ _ h)
  | _, _, .val v => .val v
theorem DatL.mono (e : Le G G') : ∀ {v : List V} {d : List D}, DatL K G v d → DatL K G' v d
  | _, _, .nil => .nil
  | _, _, .cons h r => .cons (Dat.mono e h) (DatL.mono e r)
theorem DatK.mono (e : Le G G') : ∀ {v : List (Key × V)} {d : List (Key × D)}, DatK K G v d → DatK K G' v d
  | _, _, .nil => .nil
  | _, _, .cons h r => .cons (Dat.mono e h) (DatK.mono e r)
theorem DatF.mono (e : Le G G') : ∀ {v : List (Str × V)} {d : List (Str × D)}, DatF K G v d → DatF K G' v d
  | _, _, .nil => .nil
  | _, _, .cons h r => .cons (Dat.mono e h) (DatF.mono e r)
end
theorem DatL.length : ∀ {vs : List V} {ds : List D}, DatL K G vs ds → vs.length = ds.length
  | _, _, .nil => rfl
  | _, _, .cons _ r => congrArg (· + 1) (DatL.length r)
theorem DatL.get : ∀ {vs : List V} {ds : List D} {i : Nat} {d : D}, DatL K G vs ds → ds[i]? = some d → ∃ v, vs[i]? = some v ∧ Dat K G v d
  | _, _, _, _, .nil, e => (by simp at e)
  | _, _, 0, _, .cons h r, e => by simp at e; subst e; exact ⟨_, rfl, h⟩
  | _, _, i + 1, d, .cons h r, e => by
    obtain ⟨v, h1, h2⟩ := DatL.get (i := i) r (by simpa using e)
    exact ⟨v, by simpa using h1, h2⟩
theorem DatL.getV : ∀ {vs : List V} {ds : List D} {i : Nat} {v : V}, DatL K G vs ds → vs[i]? = some v → ∃ d, ds[i]? = some d ∧ Dat K G v d
  | _, _, _, _, .nil, e => (by simp at e)
  | _, _, 0, _, .cons h r, e => by simp at e; subst e; exact ⟨_, rfl, h⟩
  | _, _, i + 1, d, .cons h r, e => by
    obtain ⟨v, h1, h2⟩ := DatL.getV (i := i) r (by simpa using e)
    exact ⟨v, by simpa using h1, h2⟩
theorem DatL.append : ∀ {xs ys : List V} {ds es : List D}, DatL K G xs ds → DatL K G ys es → DatL K G (xs ++ ys) (ds ++ es)
  | _, _, _, _, .nil, s => s
  | _, _, _, _, .cons h r, s => .cons h (DatL.append r s)
theorem DatL.take : ∀ {xs : List V} {ds : List D} (n : Nat), DatL K G xs ds → DatL K G (xs.take n) (ds.take n)
  | _, _, 0, _ => .nil
  | _, _, _ + 1, .nil => .nil
  | _, _, n + 1, .cons h r => .cons h (DatL.take n r)
theorem DatL.drop : ∀ {xs : List V} {ds : List D} (n : Nat), DatL K G xs ds → DatL K G (xs.drop n) (ds.drop n)
  | _, _, 0, r => r
  | _, _, _ + 1, .nil => .nil
  | _, _, n + 1, .cons _ r => DatL.drop n r
theorem DatL.reverse : ∀ {xs : List V} {ds : List D}, DatL K G xs ds → DatL K G xs.reverse ds.reverse
  | _, _, .nil => .nil
  | _, _, .cons h r => by
    rw [List.reverse_cons, List.reverse_cons]
    exact (DatL.reverse r).append (.cons h .nil)
theorem DatL.ints : ∀ {vs : List V} {ns : List Int}, DatL K G vs (ns.map D.int) → vs = ns.map V.int
  | _, [], h => by cases h; rfl
  | _, n :: ns, h => by
    have h' : DatL K G _ (D.int n :: ns.map D.int) := h
    cases h' with
    | cons a r =>
      cases a
      rw [DatL.ints r]
      rfl
theorem DatL.strs : ∀ {vs : List V} {ns : List Str}, DatL K G vs (ns.map D.str) → vs = ns.map V.str
  | _, [], h => by cases h; rfl
  | _, n :: ns, h => by
    have h' : DatL K G _ (D.str n :: ns.map D.str) := h
    cases h' with
    | cons a r =>
      cases a
      rw [DatL.strs r]
      rfl
theorem datL_ints : ∀ (ns : List Int), DatL K G (ns.map V.int) (ns.map D.int)
  | [] => .nil
  | n :: ns => .cons (.int n) (datL_ints ns)
theorem datL_strs : ∀ (ns : List Str), DatL K G (ns.map V.str) (ns.map D.str)
  | [] => .nil
  | n :: ns => .cons (.str n) (datL_strs ns)
end

/-! ### the world: frozen data G within the heap H, a resource beside it -/
structure Res where
  fp : Addr → Prop
  ok : Hp → Prop
  loc : ∀ H H' : Hp, (∀ a, fp a → H a = H' a) → ok H → ok H'
  live : ∀ H, ok H → ∀ a, fp a → H a ≠ none
theorem Res.nfp (S : Res) {H : Hp} (h : S.ok H) {p : Addr} (e : H p = none) : ¬ S.fp p := fun z => S.live H h p z e
def Res.nil : Res := ⟨fun _ => False, fun _ => True, fun _ _ _ h => h, fun _ _ _ h => h.elim⟩

structure Wld (S : Res) (G H : Hp) : Prop where
  le : Le G H
  src : S.ok H
  sep : ∀ a, S.fp a → G a = none
theorem Wld.fresh {S : Res} {G H : Hp} (w : Wld S G H) {p : Addr} (h : H p = none) : G p = none := w.le.none h
theorem Wld.nfp {S : Res} {G H : Hp} (w : Wld S G H) {p : Addr} (h : H p = none) : ¬ S.fp p := fun z => S.live H w.src p z h

structure Stp (S : Res) (G H G' H' : Hp) : Prop where
  gg : Le G G'
  hh : ∀ a o, ¬ S.fp a → H a = some o → H' a = some o
  nw : ∀ a o, G' a = some o → G a = some o ∨ H a = none
  w : Wld S G' H'
theorem Stp.refl {S : Res} {G H : Hp} (w : Wld S G H) : Stp S G H G H := ⟨Le.refl _, fun _ _ _ h => h, fun _ _ h => .inl h, w⟩
theorem Stp.trans {S : Res} {G H G1 H1 G2 H2 : Hp} (a : Stp S G H G1 H1) (b : Stp S G1 H1 G2 H2) : Stp S G H G2 H2 := by
  refine ⟨a.gg.trans b.gg, fun x o n h => b.hh x o n (a.hh x o n h), fun x o h => ?_, b.w⟩
  rcases b.nw x o h with h1 | h1
  · exact a.nw x o h1
  · refine .inr ?_
    cases e : H x with
    | none => rfl
    | some u =>
      by_cases f : S.fp x
      · exact absurd h1 (S.live H1 a.w.src x f)
      · rw [a.hh x u f e] at h1
        cases h1
/-- a new frozen object -/
theorem Stp.new {S : Res} {G H : Hp} {p : Addr} {o : HO} (w : Wld S G H) (h : H p = none) : Stp S G H (upd G p o) (upd H p o) := by
  have hg := w.fresh h
  refine ⟨Le.new hg, fun a u _ e => by rw [upd_ne (ne_of_none e h)]; exact e, fun a u e => ?_, ⟨fun a u e => ?_, ?_, fun a f => ?_⟩⟩
  · by_cases x : a = p
    · rw [x]
      exact .inr h
    · rw [upd_ne x] at e
      exact .inl e
  · by_cases x : a = p
    · subst x
      rw [upd_same] at e ⊢
      exact e
    · rw [upd_ne x] at e ⊢
      exact w.le a u e
  · exact S.loc H _ (fun a f => (upd_ne (fun z : a = p => w.nfp h (by rw [z] at f; exact f))).symm) w.src
  · rw [upd_ne (fun z : a = p => w.nfp h (by rw [z] at f; exact f))]
    exact w.sep a f
/-- new objects that nobody will name -/
theorem Stp.junk {S : Res} {G H H' : Hp} (w : Wld S G H) (e : Le H H') : Stp S G H G H' :=
  ⟨Le.refl _, fun a o _ h => e a o h, fun _ _ h => .inl h, ⟨w.le.trans e, S.loc H H' (fun a f => by
    cases h : H a with
    | none => exact absurd h (S.live H w.src a f)
    | some o => exact (e a o h).symm) w.src, w.sep⟩⟩

/-! ### slots -/
inductive SD where
  | no
  | dat (d : D)
  | own (j : Nat)
abbrev Rho := List SD
structure Slots (K : PySem.W.Frag) (G : Hp) (σ : L2.St) (ρ : Rho) : Prop where
  len : σ.length = ρ.length
  get : ∀ (i : Nat) (d : D), ρ[i]? = some (SD.dat d) → ∃ v, σ[i]? = some (some v) ∧ Dat K G v d
theorem Slots.mono {K : PySem.W.Frag} {G G' : Hp} {σ : L2.St} {ρ : Rho} (e : Le G G') (s : Slots K G σ ρ) : Slots K G' σ ρ := ⟨s.len, fun i d h =>
  let ⟨v, a, b⟩ := s.get i d h
  ⟨v, a, b.mono e⟩⟩
theorem Slots.set {K : PySem.W.Frag} {G : Hp} {σ : L2.St} {ρ : Rho} {i : Nat} {v : V} {d : D} (s : Slots K G σ ρ) (h : Dat K G v d) : Slots K G (σ.set i (some v)) (ρ.set i (.dat d)) := ⟨by rw [List.length_set, List.length_set, s.len], fun j e q => by
  have hl := s.len
  by_cases x : i = j
  · subst x
    by_cases y : i < ρ.length
    · rw [List.getElem?_set_self y] at q
      cases q
      exact ⟨v, by rw [List.getElem?_set_self (by omega)], h⟩
    · rw [List.getElem?_eq_none (by simpa using y)] at q
      cases q
  · rw [List.getElem?_set_ne x] at q ⊢
    exact s.get j e q⟩

/-! ### expressions -/
/-- te gives, whatever the heap beside what is frozen, data of which Q holds -/
def WE (K : PySem.W.Frag) (S : Res) (te : TE) (ρ : Rho) (Q : D → Prop) : Prop :=
  ∀ σ G H (k : VK), Wld S G H → Slots K G σ ρ → (∀ v d G' H', Stp S G H G' H' → Dat K G' v d → Q d → k v H') → te σ H k
def WT (K : PySem.W.Frag) (S : Res) (tt : TT) (ρ : Rho) (Q : Bool → Prop) : Prop :=
  ∀ σ G H (k : Bool → Hp → Prop), Wld S G H → Slots K G σ ρ → (∀ b G' H', Stp S G H G' H' → Q b → k b H') → tt σ H k
def WA (K : PySem.W.Frag) (S : Res) (ta : TA) (ρ : Rho) (Q : List D → Prop) : Prop :=
  ∀ σ G H (k : List V → Hp → Prop), Wld S G H → Slots K G σ ρ → (∀ vs ds G' H', Stp S G H G' H' → DatL K G' vs ds → Q ds → k vs H') → ta σ H k
/-- a two-place operation on values -/
def WR2 (K : PySem.W.Frag) (S : Res) (r : R2) (x y : D) (Q : D → Prop) : Prop :=
  ∀ G H vx vy (k : VK), Wld S G H → Dat K G vx x → Dat K G vy y → (∀ v d G' H', Stp S G H G' H' → Dat K G' v d → Q d → k v H') → r vx vy H k
def WR1 (K : PySem.W.Frag) (S : Res) (r : V → Hp → VK → Prop) (x : D) (Q : D → Prop) : Prop :=
  ∀ G H vx (k : VK), Wld S G H → Dat K G vx x → (∀ v d G' H', Stp S G H G' H' → Dat K G' v d → Q d → k v H') → r vx H k
/-- a call on values -/
def WRC (K : PySem.W.Frag) (S : Res) (r : List V → Hp → VK → Prop) (xs : List D) (Q : D → Prop) : Prop :=
  ∀ G H vs (k : VK), Wld S G H → DatL K G vs xs → (∀ v d G' H', Stp S G H G' H' → Dat K G' v d → Q d → k v H') → r vs H k

section
variable {K : PySem.W.Frag} {S : Res} {ρ : Rho} {ta tb te : TE} {tt tu : TT} {tA : TA} {Q : D → Prop}
theorem WE.imp {Q' : D → Prop} (h : WE K S te ρ Q) (i : ∀ d, Q d → Q' d) : WE K S te ρ Q' := fun σ G H k w s c => h σ G H k w s fun v d G' H' st dt q => c v d G' H' st dt (i d q)
theorem WT.imp {Q Q' : Bool → Prop} (h : WT K S tt ρ Q) (i : ∀ d, Q d → Q' d) : WT K S tt ρ Q' := fun σ G H k w s c => h σ G H k w s fun v G' H' st q => c v G' H' st (i v q)
theorem we_var {i : Nat} {d : D} (h : ρ[i]? = some (.dat d)) (q : Q d) : WE K S (tVar i) ρ Q := fun σ G H k w s c => by
  obtain ⟨v, e, dt⟩ := s.get i d h
  exact ⟨v, e, c v d G H (.refl w) dt q⟩
theorem we_int {i : Int} (q : Q (.int i)) : WE K S (tC (.int i)) ρ Q := fun σ G H k w s c => c _ _ G H (.refl w) (.int i) q
theorem we_bl {i : Bool} (q : Q (.bl i)) : WE K S (tC (.bl i)) ρ Q := fun σ G H k w s c => c _ _ G H (.refl w) (.bl i) q
theorem we_str {i : Str} (q : Q (.str i)) : WE K S (tC (.str i)) ρ Q := fun σ G H k w s c => c _ _ G H (.refl w) (.str i) q
theorem we_non (q : Q .non) : WE K S (tC .non) ρ Q := fun σ G H k w s c => c _ _ G H (.refl w) .non q
/-- a class, a def, a built-in type as a value -/
theorem we_val {v : V} (q : Q (.val v)) : WE K S (tC v) ρ Q := fun σ G H k w s c => c _ _ G H (.refl w) (.val v) q
theorem we_op {r : R2} (h : WE K S ta ρ fun x => WE K S tb ρ fun y => WR2 K S r x y Q) : WE K S (tOp r ta tb) ρ Q := fun σ G H k w s c =>
  h σ G H _ w s fun x dx G1 H1 s1 d1 h1 => h1 σ G1 H1 _ s1.w (s.mono s1.gg) fun y dy G2 H2 s2 d2 h2 =>
    h2 G2 H2 x y k s2.w (d1.mono s2.gg) d2 fun v d G3 H3 s3 d3 q => c v d G3 H3 ((s1.trans s2).trans s3) d3 q
theorem we_un {r : V → Hp → VK → Prop} (h : WE K S ta ρ fun x => WR1 K S r x Q) : WE K S (tUn r ta) ρ Q := fun σ G H k w s c =>
  h σ G H _ w s fun x dx G1 H1 s1 d1 h1 => h1 G1 H1 x k s1.w d1 fun v d G3 H3 s3 d3 q => c v d G3 H3 (s1.trans s3) d3 q
theorem wa_nil {Q : List D → Prop} (q : Q []) : WA K S tNil ρ Q := fun σ G H k w s c => c _ _ G H (.refl w) .nil q
theorem wa_cons {Q : List D → Prop} (h : WE K S te ρ fun x => WA K S tA ρ fun xs => Q (x :: xs)) : WA K S (tCons te tA) ρ Q := fun σ G H k w s c =>
  h σ G H _ w s fun x dx G1 H1 s1 d1 h1 => h1 σ G1 H1 _ s1.w (s.mono s1.gg) fun xs dxs G2 H2 s2 d2 q => c _ _ G2 H2 (s1.trans s2) (.cons (d1.mono s2.gg) d2) q
theorem we_cb {r : List V → Hp → VK → Prop} (h : WA K S tA ρ fun xs => WRC K S r xs Q) : WE K S (tCB r tA) ρ Q := fun σ G H k w s c =>
  h σ G H _ w s fun xs dxs G1 H1 s1 d1 h1 => h1 G1 H1 xs k s1.w d1 fun v d G3 H3 s3 d3 q => c v d G3 H3 (s1.trans s3) d3 q
theorem we_tup (h : WA K S tA ρ fun xs => xs.length ≤ 100000 ∧ Q (.tup xs)) : WE K S (tTup tA) ρ Q := fun σ G H k w s c =>
  h σ G H _ w s fun xs dxs G1 H1 s1 d1 h1 => ⟨by rw [d1.length]; exact Nat.le_trans h1.1 (by decide), fun p hp =>
    c _ _ _ _ (s1.trans (.new s1.w hp)) (.tup (SqT.of upd_same) (d1.mono (Le.new (s1.w.fresh hp)))) h1.2⟩
theorem we_lst (h : WA K S tA ρ fun xs => xs.length ≤ 100000 ∧ Q (.list xs)) : WE K S (tLst tA) ρ Q := fun σ G H k w s c =>
  h σ G H _ w s fun xs dxs G1 H1 s1 d1 h1 => ⟨by rw [d1.length]; exact Nat.le_trans h1.1 (by decide), fun p hp =>
    c _ _ _ _ (s1.trans (.new s1.w hp)) (.list upd_same (d1.mono (Le.new (s1.w.fresh hp)))) h1.2⟩

end
end X3

set_option Elab.async false
set_option linter.all false
set_option maxRecDepth 100000
set_option maxHeartbeats 2000000
namespace X3
open PySem L2
section
variable {K : PySem.W.Frag} {S : Res} {ρ : Rho} {ta tb te tc : TE} {tt tu : TT} {tA : TA} {Q : D → Prop}
/-! ### tests -/
theorem wt_test {P : Bool → Prop} (h : WE K S te ρ fun d => ∃ b, d = .bl b ∧ P b) : WT K S (tTest te) ρ P := fun σ G H k w s c =>
  h σ G H _ w s fun v d G' H' st dt q => by
    obtain ⟨b, rfl, q⟩ := q
    cases dt
    exact ⟨b, rfl, c b G' H' st q⟩
theorem wt_b {P : Bool → Prop} (h : WE K S te ρ fun d => ∃ b, d = .bl b ∧ P b) : WT K S (tB te) ρ P := fun σ G H k w s c =>
  h σ G H _ w s fun v d G' H' st dt q => by
    obtain ⟨b, rfl, q⟩ := q
    cases dt
    exact ⟨b, rfl, c b G' H' st q⟩
theorem wt_and {P : Bool → Prop} (h : WT K S tt ρ fun b => if b = true then WT K S tu ρ P else P false) : WT K S (tAnd tt tu) ρ P := fun σ G H k w s c =>
  h σ G H _ w s fun b G' H' st q => by
    cases b with
    | true => exact q σ G' H' k st.w (s.mono st.gg) fun b G2 H2 st2 q2 => c b G2 H2 (st.trans st2) q2
    | false => exact c false G' H' st q
theorem wt_or {P : Bool → Prop} (h : WT K S tt ρ fun b => if b = true then P true else WT K S tu ρ P) : WT K S (tOr tt tu) ρ P := fun σ G H k w s c =>
  h σ G H _ w s fun b G' H' st q => by
    cases b with
    | false => exact q σ G' H' k st.w (s.mono st.gg) fun b G2 H2 st2 q2 => c b G2 H2 (st.trans st2) q2
    | true => exact c true G' H' st q
theorem wt_not {P : Bool → Prop} (h : WT K S tt ρ fun b => P (!b)) : WT K S (tNot tt) ρ P := fun σ G H k w s c => h σ G H _ w s fun b G' H' st q => c _ G' H' st q
/-- the truth of data -/
def TruD : D → Bool → Prop
  | .non, k => k = false
  | .bl b, k => k = b
  | .int i, k => k = (i != 0)
  | .str y, k => y.length ≤ 100000 ∧ k = ((y.length : Int) != 0)
  | .list ds, k => k = !ds.isEmpty
  | .tup ds, k => k = !ds.isEmpty
  | .dict ds, k => k = !ds.isEmpty
  | _, _ => False
theorem DatL.isEmpty {G : Hp} : ∀ {vs : List V} {ds : List D}, DatL K G vs ds → vs.isEmpty = ds.isEmpty
  | _, _, .nil => rfl
  | _, _, .cons _ _ => rfl
theorem DatK.isEmpty {G : Hp} : ∀ {vs : List (Key × V)} {ds : List (Key × D)}, DatK K G vs ds → vs.isEmpty = ds.isEmpty
  | _, _, .nil => rfl
  | _, _, .cons _ _ => rfl
theorem tru_of {G H : Hp} {v : V} {d : D} {b : Bool} (e : Le G H) (dt : Dat K G v d) (t : TruD d b) : TruV K v H b := by
  cases dt with
  | non => exact t
  | bl => exact t
  | int => exact t
  | str => exact ⟨Nat.le_trans t.1 (by decide), t.2⟩
  | list h r => exact .inl ⟨_, SqL.of (e _ _ h), by rw [r.isEmpty]; exact t⟩
  | tup h r => exact .inr (.inl ⟨_, le_t e h, by rw [r.isEmpty]; exact t⟩)
  | dict h r => exact .inr (.inr ⟨_, e _ _ h, by rw [r.isEmpty]; exact t⟩)
  | obj => exact t.elim
  | exc0 => exact t.elim
  | exc1 => exact t.elim
  | kset => exact t.elim
  | val => exact t.elim
theorem wt_truth {P : Bool → Prop} (h : WE K S te ρ fun d => ∃ b, TruD d b ∧ P b) : WT K S (fun σ H Q => te σ H fun x H' => ∃ k, TruV K x H' k ∧ Q k H') ρ P := fun σ G H k w s c =>
  h σ G H _ w s fun v d G' H' st dt q => by
    obtain ⟨b, t, q⟩ := q
    exact ⟨b, tru_of st.w.le dt t, c b G' H' st q⟩
theorem we_andV (h : WE K S ta ρ fun x => ∃ c, x = .bl c ∧ if c = true then WE K S tb ρ Q else Q (.bl false)) : WE K S (tAndV ta tb) ρ Q := fun σ G H k w s c =>
  h σ G H _ w s fun v d G' H' st dt q => by
    obtain ⟨b, rfl, q⟩ := q
    cases dt
    refine ⟨b, rfl, ?_⟩
    cases b with
    | true => exact q σ G' H' k st.w (s.mono st.gg) fun v d G2 H2 st2 dt q2 => c v d G2 H2 (st.trans st2) dt q2
    | false => exact c _ _ G' H' st (.bl _) q
theorem we_orV (h : WE K S ta ρ fun x => ∃ c, x = .bl c ∧ if c = true then Q (.bl true) else WE K S tb ρ Q) : WE K S (tOrV ta tb) ρ Q := fun σ G H k w s c =>
  h σ G H _ w s fun v d G' H' st dt q => by
    obtain ⟨b, rfl, q⟩ := q
    cases dt
    refine ⟨b, rfl, ?_⟩
    cases b with
    | false => exact q σ G' H' k st.w (s.mono st.gg) fun v d G2 H2 st2 dt q2 => c v d G2 H2 (st.trans st2) dt q2
    | true => exact c _ _ G' H' st (.bl _) q
theorem we_notV (h : WE K S ta ρ fun x => ∃ c, x = .bl c ∧ Q (.bl (!c))) : WE K S (tNotV ta) ρ Q := fun σ G H k w s c =>
  h σ G H _ w s fun v d G' H' st dt q => by
    obtain ⟨b, rfl, q⟩ := q
    cases dt
    exact ⟨b, rfl, c _ _ G' H' st (.bl _) q⟩
theorem we_if (h : WT K S tt ρ fun b => if b = true then WE K S ta ρ Q else WE K S tb ρ Q) : WE K S (tIf tt ta tb) ρ Q := fun σ G H k w s c =>
  h σ G H _ w s fun b G' H' st q => by
    cases b with
    | true => exact q σ G' H' k st.w (s.mono st.gg) fun v d G2 H2 st2 dt q2 => c v d G2 H2 (st.trans st2) dt q2
    | false => exact q σ G' H' k st.w (s.mono st.gg) fun v d G2 H2 st2 dt q2 => c v d G2 H2 (st.trans st2) dt q2
theorem we_chain {r r' : R2} (h : WE K S ta ρ fun x => WE K S tb ρ fun y => WR2 K S r x y fun z => ∃ c, z = .bl c ∧ if c = true then WE K S tc ρ fun u => WR2 K S r' y u Q else Q (.bl false)) : WE K S (tChain r r' ta tb tc) ρ Q := fun σ G H k w s c =>
  h σ G H _ w s fun x dx G1 H1 s1 d1 h1 => h1 σ G1 H1 _ s1.w (s.mono s1.gg) fun y dy G2 H2 s2 d2 h2 =>
    h2 G2 H2 x y _ s2.w (d1.mono s2.gg) d2 fun v d G3 H3 s3 d3 q => by
      obtain ⟨b, rfl, q⟩ := q
      cases d3
      refine ⟨b, rfl, ?_⟩
      have s13 := (s1.trans s2).trans s3
      cases b with
      | false => exact c _ _ G3 H3 s13 (.bl _) q
      | true => exact q σ G3 H3 _ s3.w (s.mono s13.gg) fun u du G4 H4 s4 d4 h4 => h4 G4 H4 y u k s4.w (d2.mono (s3.gg.trans s4.gg)) d4 fun v d G5 H5 s5 d5 q5 => c v d G5 H5 ((s13.trans s4).trans s5) d5 q5

/-! ### operations on values -/
theorem wr_ii {g : Int → Int → Int} {i j : Int} (q : Q (.int (g i j))) : WR2 K S (rI0 fun i j => .int (g i j)) (.int i) (.int j) Q := fun G H vx vy k w dx dy c => by
  cases dx
  cases dy
  exact ⟨i, j, rfl, rfl, c _ _ G H (.refl w) (.int _) q⟩
theorem wr_ib {g : Int → Int → Bool} {i j : Int} (q : Q (.bl (g i j))) : WR2 K S (rI0 fun i j => .bl (g i j)) (.int i) (.int j) Q := fun G H vx vy k w dx dy c => by
  cases dx
  cases dy
  exact ⟨i, j, rfl, rfl, c _ _ G H (.refl w) (.bl _) q⟩
theorem wr_ci {C : Int → Int → Prop} {g : Int → Int → Int} {i j : Int} (hc : C i j) (q : Q (.int (g i j))) : WR2 K S (rI C fun i j => .int (g i j)) (.int i) (.int j) Q := fun G H vx vy k w dx dy c => by
  cases dx
  cases dy
  exact ⟨i, j, rfl, rfl, hc, c _ _ G H (.refl w) (.int _) q⟩
theorem wr_or1 {r r' : R2} {x y : D} (h : WR2 K S r x y Q) : WR2 K S (fun x y H Q => r x y H Q ∨ r' x y H Q) x y Q := fun G H vx vy k w dx dy c => .inl (h G H vx vy k w dx dy c)
theorem wr_or2 {r r' : R2} {x y : D} (h : WR2 K S r' x y Q) : WR2 K S (fun x y H Q => r x y H Q ∨ r' x y H Q) x y Q := fun G H vx vy k w dx dy c => .inr (h G H vx vy k w dx dy c)
theorem wu_neg {i : Int} (q : Q (.int (-i))) : WR1 K S (rU fun i => .int (-i)) (.int i) Q := fun G H vx k w dx c => by
  cases dx
  exact ⟨i, rfl, c _ _ G H (.refl w) (.int _) q⟩
theorem wr_adds {x y : Str} (hl : x.length + y.length ≤ 100000) (q : Q (.str (x ++ y))) : WR2 K S (fun x y H Q => ∃ i j, x = .str i ∧ y = .str j ∧ i.length + j.length ≤ sizeLine ∧ Q (.str (i ++ j)) H) (.str x) (.str y) Q := fun G H vx vy k w dx dy c => by
  cases dx
  cases dy
  exact ⟨x, y, rfl, rfl, Nat.le_trans hl (by decide), c _ _ G H (.refl w) (.str _) q⟩
/-- is None -/
def isNonD : D → Bool
  | .non => true
  | _ => false
theorem non_of {G : Hp} {v : V} {d : D} (h : Dat K G v d) (hv : ∀ u, d ≠ .val u) : decide (v = .non) = isNonD d := by
  cases h <;> first | rfl | exact absurd rfl (hv _)
theorem wr_isN {x : D} (hv : ∀ u, x ≠ .val u) (q : Q (.bl (isNonD x))) : WR2 K S (fun x y H Q => y = .non ∧ Q (.bl (decide (x = .non))) H) x .non Q := fun G H vx vy k w dx dy c => by
  cases dy
  refine ⟨rfl, ?_⟩
  rw [non_of dx hv]
  exact c _ _ G H (.refl w) (.bl _) q
theorem wr_notN {x : D} (hv : ∀ u, x ≠ .val u) (q : Q (.bl (!isNonD x))) : WR2 K S (fun x y H Q => y = .non ∧ Q (.bl (!decide (x = .non))) H) x .non Q := fun G H vx vy k w dx dy c => by
  cases dy
  refine ⟨rfl, ?_⟩
  rw [non_of dx hv]
  exact c _ _ G H (.refl w) (.bl _) q
/-- lists joined: both parts lists of data -/
theorem wr_cat {xs ys : List D} (hl : xs.length + ys.length ≤ 100000) (q : Q (.list (xs ++ ys))) : WR2 K S rCat (.list xs) (.list ys) Q := fun G H vx vy k w dx dy c => by
  cases dx with
  | list h1 r1 =>
    cases dy with
    | list h2 r2 =>
      refine ⟨_, _, _, _, rfl, rfl, w.le _ _ h1, w.le _ _ h2, ?_, fun p hp => ?_⟩
      · rw [r1.length, r2.length]
        exact Nat.le_trans hl (by decide)
      · exact c _ _ _ _ (.new w hp) (.list upd_same ((r1.append r2).mono (Le.new (w.fresh hp)))) q
theorem DatL.rep {G : Hp} {vs : List V} {ds : List D} (r : DatL K G vs ds) : ∀ n : Nat, DatL K G (List.replicate n vs).flatten (List.replicate n ds).flatten
  | 0 => .nil
  | n + 1 => by
    rw [List.replicate_succ, List.replicate_succ, List.flatten_cons, List.flatten_cons]
    exact r.append (DatL.rep r n)
theorem wr_rep {xs : List D} {n : Int} (h1 : -1000000 ≤ n) (h2 : n ≤ 1000000) (hl : xs.length * n.toNat ≤ 100000) (q : Q (.list (List.replicate n.toNat xs).flatten)) : WR2 K S rRep (.list xs) (.int n) Q := fun G H vx vy k w dx dy c => by
  cases dy
  cases dx with
  | list h r =>
    refine ⟨_, n, _, rfl, rfl, w.le _ _ h, by omega, by omega, by rw [r.length]; exact Nat.le_trans hl (by decide), fun p hp => ?_⟩
    exact c _ _ _ _ (.new w hp) (.list upd_same ((r.rep _).mono (Le.new (w.fresh hp)))) q
/-- an item of a list, a tuple -/
theorem atI_map {G : Hp} {vs : List V} {ds : List D} {i : Int} {d : D} (r : DatL K G vs ds) (h : atI ds i = some d) : ∃ v, atI vs i = some v ∧ Dat K G v d := by
  unfold atI at h ⊢
  rw [r.length]
  cases e : ixN ds.length i with
  | none =>
    rw [e] at h
    cases h
  | some j =>
    rw [e] at h
    exact r.get h
theorem wr_ixL {ds : List D} {i : Int} {d : D} (h : atI ds i = some d) (q : Q d) : WR2 K S (rIx K) (.list ds) (.int i) Q := fun G H vx vy k w dx dy c => by
  cases dy
  cases dx with
  | list h1 r1 =>
    obtain ⟨v, e, dt⟩ := atI_map r1 h
    exact .inl ⟨_, _, _, v, rfl, rfl, SqL.of (w.le _ _ h1), e, c v d G H (.refl w) dt q⟩
theorem wr_ixT {ds : List D} {i : Int} {d : D} (h : atI ds i = some d) (q : Q d) : WR2 K S (rIx K) (.tup ds) (.int i) Q := fun G H vx vy k w dx dy c => by
  cases dy
  cases dx with
  | tup h1 r1 =>
    obtain ⟨v, e, dt⟩ := atI_map r1 h
    exact .inr (.inl ⟨_, _, _, v, rfl, rfl, le_t w.le h1, e, c v d G H (.refl w) dt q⟩)
theorem wr_ixS {x : Str} {i : Int} {ch : Nat} (hl : x.length ≤ 100000) (h : atI x.cps.toList i = some ch) (q : Q (.str ⟨#[ch]⟩)) : WR2 K S (rIx K) (.str x) (.int i) Q := fun G H vx vy k w dx dy c => by
  cases dy
  cases dx
  exact .inr (.inr ⟨x, i, ch, rfl, rfl, Nat.le_trans hl (by decide), h, c _ _ G H (.refl w) (.str _) q⟩)
/-- len -/
def LenD : D → Nat → Prop
  | .str y, n => y.length ≤ 100000 ∧ n = y.length
  | .list ds, n => n = ds.length
  | .tup ds, n => n = ds.length
  | _, _ => False
theorem wc_len {d : D} {n : Nat} (h : LenD d n) (q : Q (.int n)) : WRC K S (fun xs H Q => ∃ x n, xs = [x] ∧ LenV K x H n ∧ Q (.int n) H) [d] Q := fun G H vs k w dx c => by
  cases dx with
  | cons a r =>
    cases r
    refine ⟨_, n, rfl, ?_, c _ _ G H (.refl w) (.int _) q⟩
    cases a with
    | str => exact ⟨Nat.le_trans h.1 (by decide), h.2⟩
    | list h1 r => exact .inl ⟨_, SqL.of (w.le _ _ h1), by rw [r.length]; exact h⟩
    | tup h1 r => exact .inr ⟨_, le_t w.le h1, by rw [r.length]; exact h⟩
    | _ => exact h.elim
/-- tuple(x) -/
theorem wc_tuple {d : D} {ds : List D} (h : d = .list ds ∨ d = .tup ds) (q : Q (.tup ds)) :
    WRC K S (fun xs H Q => ∃ p ys, xs = [.ref p] ∧ ((SqL K H p ys ∧ ∀ l, H l = none → Q (.ref l) (upd H l (.tup ys))) ∨ (SqT K H p ys ∧ Q (.ref p) H))) [d] Q := fun G H vs k w dx c => by
  cases dx with
  | cons a r =>
    cases r
    rcases h with rfl | rfl
    · cases a with
      | list h1 r =>
        refine ⟨_, _, rfl, .inl ⟨SqL.of (w.le _ _ h1), fun p hp => ?_⟩⟩
        exact c _ _ _ _ (.new w hp) (.tup (SqT.of upd_same) (r.mono (Le.new (w.fresh hp)))) q
    · cases a with
      | tup h1 r => exact ⟨_, _, rfl, .inr ⟨le_t w.le h1, c _ _ G H (.refl w) (.tup h1 r) q⟩⟩
/-- list(x) -/
theorem wc_list {d : D} {ds : List D} (h : d = .list ds ∨ d = .tup ds) (q : Q (.list ds)) :
    WRC K S (fun xs H Q => ∃ p ys, xs = [.ref p] ∧ (SqL K H p ys ∨ SqT K H p ys) ∧ ∀ l, H l = none → Q (.ref l) (upd H l (.lst ys))) [d] Q := fun G H vs k w dx c => by
  cases dx with
  | cons a r =>
    cases r
    rcases h with rfl | rfl
    · cases a with
      | list h1 r =>
        refine ⟨_, _, rfl, .inl (SqL.of (w.le _ _ h1)), fun p hp => ?_⟩
        exact c _ _ _ _ (.new w hp) (.list upd_same (r.mono (Le.new (w.fresh hp)))) q
    · cases a with
      | tup h1 r =>
        refine ⟨_, _, rfl, .inr (le_t w.le h1), fun p hp => ?_⟩
        exact c _ _ _ _ (.new w hp) (.list upd_same (r.mono (Le.new (w.fresh hp)))) q
/-- int(x) of an int, a bool -/
theorem wc_int {i : Int} (q : Q (.int i)) : WRC K S (fun xs H Q => (∃ i, xs = [.int i] ∧ Q (.int i) H) ∨ ∃ k, xs = [.bl k] ∧ Q (.int (if k then 1 else 0)) H) [.int i] Q := fun G H vs k w dx c => by
  cases dx with
  | cons a r =>
    cases r
    cases a
    exact .inl ⟨i, rfl, c _ _ G H (.refl w) (.int _) q⟩
theorem wc_intb {i : Bool} (q : Q (.int (if i then 1 else 0))) : WRC K S (fun xs H Q => (∃ i, xs = [.int i] ∧ Q (.int i) H) ∨ ∃ k, xs = [.bl k] ∧ Q (.int (if k then 1 else 0)) H) [.bl i] Q := fun G H vs k w dx c => by
  cases dx with
  | cons a r =>
    cases r
    cases a
    exact .inr ⟨i, rfl, c _ _ G H (.refl w) (.int _) q⟩

/-! ### data as the library's own -/
mutual
def D.pd : D → PyData
  | .non => .none
  | .bl b => .bool b
  | .int i => .int i
  | .str x => .str x
  | .list ds => .list (D.pds ds)
  | .tup ds => .tuple (D.pds ds)
  | .dict _ => .none
  | .obj _ _ => .none
  | .exc _ _ => .none
  | .kset _ _ _ _ => .none
  | .val _ => .none
def D.pds : List D → List PyData
  | [] => []
  | d :: ds => D.pd d :: D.pds ds
end
mutual
def D.pure : D → Bool
  | .non => true
  | .bl _ => true
  | .int _ => true
  | .str _ => true
  | .list ds => D.pures ds
  | .tup ds => D.pures ds
  | _ => false
def D.pures : List D → Bool
  | [] => true
  | d :: ds => D.pure d && D.pures ds
end
mutual
theorem Dat.dp {G : Hp} : ∀ {v : V} {d : D}, Dat K G v d → (D.pure d = true → Dp K G v (D.pd d))
  | _, _, .non => fun _ => .non
  | _, _, .bl b => fun _ => .bl b
  | _, _, .int i => fun _ => .int i
  | _, _, .str x => fun _ => .str x
  | _, _, .list h r => fun p => .lst (SqL.of h) (DatL.dp r p)
  | _, _, .tup h r => fun p => .tup h (DatL.dp r p)
  | _, _, .dict _ _ => fun p => absurd p Bool.false_ne_true
  | _, _, .obj _ _ => fun p => absurd p Bool.false_ne_true
  | _, _, .exc0 _ => fun p => absurd p Bool.false_ne_true
  | _, _, .exc1 _ _ _ => fun p => absurd p Bool.false_ne_true
  | _, _, .kset _ => fun p => absurd p Bool.false_ne_true
  | _, _, .val _ => fun p => absurd p Bool.false_ne_true
theorem DatL.dp {G : Hp} : ∀ {v : List V} {d : List D}, DatL K G v d → (D.pures d = true → DpAll K G v (D.pds d))
  | _, _, .nil => fun _ => .nil
  | _, _, .cons h r => fun p => .cons (Dat.dp h (Bool.and_eq_true_iff.mp p).1) (DatL.dp r (Bool.and_eq_true_iff.mp p).2)
end
mutual
theorem Dp.le {G H : Hp} (e : Le G H) : ∀ {v : V} {d : PyData}, Dp K G v d → Dp K H v d
  | _, _, .non => .non
  | _, _, .bl b => .bl b
  | _, _, .int i => .int i
  | _, _, .str x => .str x
  | _, _, .lst h r => .lst (le_l e h) (DpAll.le e r)
  | _, _, .tup h r => .tup (le_t e h) (DpAll.le e r)
theorem DpAll.le {G H : Hp} (e : Le G H) : ∀ {v : List V} {d : List PyData}, DpAll K G v d → DpAll K H v d
  | _, _, .nil => .nil
  | _, _, .cons h r => .cons (Dp.le e h) (DpAll.le e r)
end
/-- == and != of data -/
def EqOk (x y : D) : Prop := D.pure x = true ∧ D.pure y = true ∧ SeqAt.shaped x.pd = true ∧ SeqAt.shaped y.pd = true
theorem wr_eqD {x y : D} (h : EqOk x y) (q : Q (.bl (PyData.eqv x.pd y.pd))) : WR2 K S (rEqD K) x y Q := fun G H vx vy k w dx dy c =>
  ⟨_, _, Dp.le w.le (dx.dp h.1), Dp.le w.le (dy.dp h.2.1), h.2.2.1, h.2.2.2, c _ _ G H (.refl w) (.bl _) q⟩
theorem wr_neD {x y : D} (h : EqOk x y) (q : Q (.bl (!PyData.eqv x.pd y.pd))) : WR2 K S (rNeD K) x y Q := fun G H vx vy k w dx dy c =>
  ⟨_, _, Dp.le w.le (dx.dp h.1), Dp.le w.le (dy.dp h.2.1), h.2.2.1, h.2.2.2, c _ _ G H (.refl w) (.bl _) q⟩
end
end X3

set_option Elab.async false
set_option linter.all false
set_option maxRecDepth 100000
set_option maxHeartbeats 2000000
/-! # X3: statements -/
namespace X3
open PySem L2
/-- a list, a dict of one's own, that grows -/
inductive M where
  | gone
  | lst (ds : List D)
  | dict (kvs : List (Key × D))
  | kset (P : Program) (w : World) (S : Key → Bool) (n : Nat)
  | obj (x C : Addr) (fs : List (Str × D))
abbrev Mu := List M
def CellOk (K : PySem.W.Frag) (G H : Hp) (a : Addr) : M → Prop
  | .gone => True
  | .lst ds => G a = none ∧ ∃ xs, H a = some (.lst xs) ∧ DatL K G xs ds
  | .dict kvs => G a = none ∧ ∃ vs, H a = some (.dK vs) ∧ DatK K G vs kvs
  | .kset P w S n => G a = none ∧ H a = some (SetK P w a S n)
  | .obj x C fs => a = x ∧ G a = none ∧ ∃ dx vs, H a = some (.ins C dx vs) ∧ DatF K G vs fs
structure RepG (K : PySem.W.Frag) (S : Res) (G0 H0 G : Hp) (σ : L2.St) (H : Hp) (ρ : Rho) (μ : Mu) (as : List Addr) : Prop where
  st : Stp S G0 H0 G H
  sl : Slots K G σ ρ
  alen : as.length = μ.length
  nd : as.Nodup
  own : ∀ (i j : Nat), ρ[i]? = some (SD.own j) → ∃ a, as[j]? = some a ∧ σ[i]? = some (some (.ref a))
  cell : ∀ (j : Nat) (a : Addr) (m : M), as[j]? = some a → μ[j]? = some m → H0 a = none ∧ H a ≠ none ∧ CellOk K G H a m
def Rep (K : PySem.W.Frag) (S : Res) (G0 H0 : Hp) (σ : L2.St) (H : Hp) (ρ : Rho) (μ : Mu) : Prop := ∃ G as, RepG K S G0 H0 G σ H ρ μ as

structure EndsD where
  nx : Rho → Mu → Prop
  rt : D → Prop
  bk : Rho → Mu → Prop := fun _ _ => False
  ct : Rho → Mu → Prop := fun _ _ => False
structure Fits (K : PySem.W.Frag) (S : Res) (G0 H0 : Hp) (E : Ends) (N : EndsD) : Prop where
  nx : ∀ σ H ρ μ, Rep K S G0 H0 σ H ρ μ → N.nx ρ μ → E.nx σ H
  rt : ∀ v d G H, Stp S G0 H0 G H → Dat K G v d → N.rt d → E.rt v H
  bk : ∀ σ H ρ μ, Rep K S G0 H0 σ H ρ μ → N.bk ρ μ → E.bk σ H
  ct : ∀ σ H ρ μ, Rep K S G0 H0 σ H ρ μ → N.ct ρ μ → E.ct σ H
def WS (K : PySem.W.Frag) (S : Res) (ts : TS) (ρ : Rho) (μ : Mu) (N : EndsD) : Prop :=
  ∀ G0 H0 σ H (E : Ends), S.ok H0 → Rep K S G0 H0 σ H ρ μ → Fits K S G0 H0 E N → ts E σ H

def viewD (μ : Mu) : SD → SD
  | .own j => match μ[j]? with
    | some (.lst ds) => .dat (.list ds)
    | some (.dict kvs) => .dat (.dict kvs)
    | some (.kset P w S n) => .dat (.kset P w S n)
    | some (.obj _ C fs) => .dat (.obj C fs)
    | _ => .no
  | s => s
def view (ρ : Rho) (μ : Mu) : Rho := ρ.map (viewD μ)
/-- values that hold no address -/
def scalD : D → Bool
  | .non => true
  | .bl _ => true
  | .int _ => true
  | .str _ => true
  | .val _ => true
  | _ => false
theorem scal_any {K : PySem.W.Frag} {G G' : Hp} {v : V} {d : D} (h : Dat K G v d) (s : scalD d = true) : Dat K G' v d := by
  cases h with
  | non => exact .non
  | bl => exact .bl _
  | int => exact .int _
  | str => exact .str _
  | val => exact .val _
  | _ => cases s

section
variable {K : PySem.W.Frag} {S : Res} {G0 H0 G H G' H' : Hp} {σ : L2.St} {ρ : Rho} {μ : Mu} {as : List Addr}
theorem RepG.nfp (r : RepG K S G0 H0 G σ H ρ μ as) (w0 : S.ok H0) {a : Addr} (h : a ∈ as) : ¬ S.fp a := by
  obtain ⟨j, hj, e⟩ := List.mem_iff_getElem.mp h
  have hm : j < μ.length := by rw [← r.alen]; exact hj
  exact S.nfp w0 (r.cell j a μ[j] (by rw [List.getElem?_eq_getElem hj, e]) (List.getElem?_eq_getElem hm)).1
theorem CellOk.step {a : Addr} {m : M} (h : CellOk K G H a m) (nf : ¬ S.fp a) (s : Stp S G H G' H') : CellOk K G' H' a m := by
  have ng : H a ≠ none → G a = none → G' a = none := fun h1 h2 => by
    cases e : G' a with
    | none => rfl
    | some o =>
      rcases s.nw a o e with z | z
      · rw [h2] at z
        cases z
      · exact absurd z h1
  cases m with
  | gone => trivial
  | lst ds =>
    obtain ⟨h1, xs, h2, h3⟩ := h
    exact ⟨ng (by rw [h2]; exact fun z => nomatch z) h1, xs, s.hh a _ nf h2, h3.mono s.gg⟩
  | dict ds =>
    obtain ⟨h1, xs, h2, h3⟩ := h
    exact ⟨ng (by rw [h2]; exact fun z => nomatch z) h1, xs, s.hh a _ nf h2, h3.mono s.gg⟩
  | kset P w S n =>
    obtain ⟨h1, h2⟩ := h
    exact ⟨ng (by rw [h2]; exact Option.some_ne_none _) h1, s.hh a _ nf h2⟩
  | obj x C fs =>
    obtain ⟨h0, h1, dx, vs, h2, h3⟩ := h
    exact ⟨h0, ng (by rw [h2]; exact Option.some_ne_none _) h1, dx, vs, s.hh a _ nf h2, h3.mono s.gg⟩
theorem Stp.some {a : Addr} (s : Stp S G H G' H') (nf : ¬ S.fp a) (h : H a ≠ none) : H' a ≠ none := by
  cases e : H a with
  | none => exact absurd e h
  | some o =>
    rw [s.hh a o nf e]
    exact fun z => nomatch z
/-- behind an expression -/
theorem RepG.step (r : RepG K S G0 H0 G σ H ρ μ as) (w0 : S.ok H0) (s : Stp S G H G' H') : RepG K S G0 H0 G' σ H' ρ μ as :=
  ⟨r.st.trans s, r.sl.mono s.gg, r.alen, r.nd, r.own, fun j a m e1 e2 =>
    have nf := r.nfp w0 (List.mem_of_getElem? e1)
    let ⟨h1, h2, h3⟩ := r.cell j a m e1 e2
    ⟨h1, s.some nf h2, h3.step nf s⟩⟩
/-- a slot gets data -/
theorem RepG.set (r : RepG K S G0 H0 G σ H ρ μ as) {i : Nat} {v : V} {d : D} (h : Dat K G v d) : RepG K S G0 H0 G (σ.set i (some v)) H (ρ.set i (.dat d)) μ as :=
  ⟨r.st, r.sl.set h, r.alen, r.nd, fun k j e => by
    by_cases x : i = k
    · subst x
      by_cases y : i < ρ.length
      · rw [List.getElem?_set_self y] at e
        cases e
      · rw [List.getElem?_eq_none (by simpa using y)] at e
        cases e
    · rw [List.getElem?_set_ne x] at e ⊢
      exact r.own k j e, r.cell⟩
/-- all one's own frozen -/
theorem RepG.freeze (r : RepG K S G0 H0 G σ H ρ μ as) (w0 : S.ok H0) : ∃ G1, Le G G1 ∧ Stp S G0 H0 G1 H ∧ Slots K G1 σ (view ρ μ) ∧ ∀ a ∈ as, G1 a = H a := by
  have w := r.st.w
  have h0 : ∀ a ∈ as, H0 a = none := fun a h => by
    obtain ⟨j, hj, e⟩ := List.mem_iff_getElem.mp h
    have hm : j < μ.length := by rw [← r.alen]; exact hj
    exact (r.cell j a μ[j] (by rw [List.getElem?_eq_getElem hj, e]) (List.getElem?_eq_getElem hm)).1
  have le1 : Le G (fun x => if x ∈ as then H x else G x) := fun a o e => by
    by_cases x : a ∈ as
    · show (if a ∈ as then H a else G a) = some o
      rw [if_pos x]
      exact w.le a o e
    · show (if a ∈ as then H a else G a) = some o
      rw [if_neg x]
      exact e
  refine ⟨fun x => if x ∈ as then H x else G x, le1, ⟨r.st.gg.trans le1, r.st.hh, fun a o e => ?_, ⟨fun a o e => ?_, w.src, fun a f => ?_⟩⟩, ⟨by unfold view; rw [List.length_map]; exact r.sl.len, fun i d e => ?_⟩, fun a h => if_pos h⟩
  · by_cases x : a ∈ as
    · exact .inr (h0 a x)
    · rw [if_neg x] at e
      exact r.st.nw a o e
  · by_cases x : a ∈ as
    · rw [if_pos x] at e
      exact e
    · rw [if_neg x] at e
      exact w.le a o e
  · have x : a ∉ as := fun x => r.nfp w0 x f
    show (if a ∈ as then H a else G a) = none
    rw [if_neg x]
    exact w.sep a f
  · unfold view at e
    rw [List.getElem?_map] at e
    cases q : ρ[i]? with
    | none =>
      rw [q] at e
      cases e
    | some s =>
      rw [q] at e
      cases s with
      | no => cases e
      | dat d0 =>
        cases e
        obtain ⟨v, e1, e2⟩ := r.sl.get i _ q
        exact ⟨v, e1, e2.mono le1⟩
      | own j =>
        obtain ⟨a, ha, hs⟩ := r.own i j q
        have e' : viewD μ (.own j) = .dat d := Option.some.inj e
        unfold viewD at e'
        dsimp only at e'
        have ma : a ∈ as := List.mem_of_getElem? ha
        cases hm : μ[j]? with
        | none =>
          rw [hm] at e'
          cases e'
        | some m =>
          rw [hm] at e'
          obtain ⟨_, _, c⟩ := r.cell j a m ha hm
          cases m with
          | gone => cases e'
          | lst ds =>
            cases e'
            obtain ⟨_, xs, h2, h3⟩ := c
            exact ⟨_, hs, .list (by show (if a ∈ as then H a else G a) = _; rw [if_pos ma]; exact h2) (h3.mono le1)⟩
          | dict ds =>
            cases e'
            obtain ⟨_, xs, h2, h3⟩ := c
            exact ⟨_, hs, .dict (by show (if a ∈ as then H a else G a) = _; rw [if_pos ma]; exact h2) (h3.mono le1)⟩
          | kset P w S n =>
            cases e'
            obtain ⟨_, h2⟩ := c
            exact ⟨_, hs, .kset (by show (if a ∈ as then H a else G a) = _; rw [if_pos ma]; exact h2)⟩
          | obj x C fs =>
            cases e'
            obtain ⟨_, _, dx, vs, h2, h3⟩ := c
            exact ⟨_, hs, .obj (by show (if a ∈ as then H a else G a) = _; rw [if_pos ma]; exact h2) (h3.mono le1)⟩
/-- behind an expression that was read over the frozen world, and whose value holds no address -/
theorem RepG.unfreeze {G1 : Hp} (r : RepG K S G0 H0 G σ H ρ μ as) (w0 : S.ok H0) (le : Le G G1) (fr : ∀ a ∈ as, G1 a = H a) (s : Stp S G1 H G' H') : RepG K S G0 H0 G σ H' ρ μ as := by
  have s1 : Stp S G H G H' := ⟨Le.refl _, s.hh, fun _ _ h => .inl h, ⟨(le.trans s.gg).trans s.w.le, s.w.src, r.st.w.sep⟩⟩
  exact r.step w0 s1

variable {N : EndsD} {te : TE} {tt : TT} {t u : TS} {i : Nat}
theorem ws_imp {N' : EndsD} (h : WS K S t ρ μ N) (h1 : ∀ ρ μ, N.nx ρ μ → N'.nx ρ μ) (h2 : ∀ d, N.rt d → N'.rt d) (h3 : ∀ ρ μ, N.bk ρ μ → N'.bk ρ μ) (h4 : ∀ ρ μ, N.ct ρ μ → N'.ct ρ μ) : WS K S t ρ μ N' :=
  fun G0 H0 σ H E w0 r f => h G0 H0 σ H E w0 r ⟨fun σ H ρ μ a b => f.nx σ H ρ μ a (h1 ρ μ b), fun v d G H a b c => f.rt v d G H a b (h2 d c), fun σ H ρ μ a b => f.bk σ H ρ μ a (h3 ρ μ b), fun σ H ρ μ a b => f.ct σ H ρ μ a (h4 ρ μ b)⟩
theorem ws_next (q : N.nx ρ μ) : WS K S tNext ρ μ N := fun G0 H0 σ H E w0 r f => f.nx σ H ρ μ r q
theorem ws_brk (q : N.bk ρ μ) : WS K S tBreak ρ μ N := fun G0 H0 σ H E w0 r f => f.bk σ H ρ μ r q
theorem ws_ct (q : N.ct ρ μ) : WS K S tCont ρ μ N := fun G0 H0 σ H E w0 r f => f.ct σ H ρ μ r q
theorem ws_seq (h : WS K S t ρ μ { N with nx := fun ρ' μ' => WS K S u ρ' μ' N }) : WS K S (tSeq t u) ρ μ N := fun G0 H0 σ H E w0 r f =>
  h G0 H0 σ H { E with nx := u E } w0 r ⟨fun σ' H' ρ' μ' r' q => q G0 H0 σ' H' E w0 r' f, f.rt, f.bk, f.ct⟩
theorem ws_cut (h : WS K S t ρ μ { N with nx := fun ρ' μ' => WS K S u ρ' μ' N }) : WS K S (Evl.tCut t u) ρ μ N := fun G0 H0 σ H E w0 r f =>
  ⟨u E, h G0 H0 σ H { E with nx := u E } w0 r ⟨fun σ' H' ρ' μ' r' q => q G0 H0 σ' H' E w0 r' f, f.rt, f.bk, f.ct⟩, fun _ _ h => h⟩
theorem ws_asg (h : WE K S te ρ fun d => N.nx (ρ.set i (.dat d)) μ) : WS K S (tAsg te (gName i)) ρ μ N := fun G0 H0 σ H E w0 r f => by
  obtain ⟨G, as, r⟩ := r
  exact h σ G H _ r.st.w r.sl fun v d G' H' s dt q => f.nx _ _ _ _ ⟨G', as, (r.step w0 s).set dt⟩ q
theorem ws_asgv (h : WE K S te (view ρ μ) fun d => scalD d = true ∧ N.nx (ρ.set i (.dat d)) μ) : WS K S (tAsg te (gName i)) ρ μ N := fun G0 H0 σ H E w0 r f => by
  obtain ⟨G, as, r⟩ := r
  obtain ⟨G1, le, s1, sl, fr⟩ := r.freeze w0
  exact h σ G1 H _ s1.w sl fun v d G' H' s dt q => f.nx _ _ _ _ ⟨G, as, (r.unfreeze w0 le fr s).set (scal_any dt q.1)⟩ q.2
theorem ws_drop (h : WE K S te (view ρ μ) fun _ => N.nx ρ μ) : WS K S (tDrop te) ρ μ N := fun G0 H0 σ H E w0 r f => by
  obtain ⟨G, as, r⟩ := r
  obtain ⟨G1, le, s1, sl, fr⟩ := r.freeze w0
  exact h σ G1 H _ s1.w sl fun v d G' H' s dt q => f.nx _ _ _ _ ⟨G, as, r.unfreeze w0 le fr s⟩ q
theorem ws_if (h : WT K S tt (view ρ μ) fun b => if b = true then WS K S t ρ μ N else WS K S u ρ μ N) : WS K S (tIfS tt t u) ρ μ N := fun G0 H0 σ H E w0 r f => by
  obtain ⟨G, as, r⟩ := r
  obtain ⟨G1, le, s1, sl, fr⟩ := r.freeze w0
  refine h σ G1 H _ s1.w sl fun b G' H' s q => ?_
  have r' := r.unfreeze w0 le fr s
  cases b with
  | true => exact q G0 H0 σ H' E w0 ⟨G, as, r'⟩ f
  | false => exact q G0 H0 σ H' E w0 ⟨G, as, r'⟩ f
theorem ws_ret (h : WE K S te (view ρ μ) N.rt) : WS K S (tRet te) ρ μ N := fun G0 H0 σ H E w0 r f => by
  obtain ⟨G, as, r⟩ := r
  obtain ⟨G1, le, s1, sl, fr⟩ := r.freeze w0
  exact h σ G1 H _ s1.w sl fun v d G' H' s dt q => f.rt v d G' H' (s1.trans s) dt q
theorem ws_retN (q : N.rt .non) : WS K S tRetN ρ μ N := fun G0 H0 σ H E w0 r f => by
  obtain ⟨G, as, r⟩ := r
  exact f.rt _ _ G H r.st .non q
/-- all of one's own becomes data -/
theorem ws_freeze (h : WS K S t (view ρ μ) [] N) : WS K S t ρ μ N := fun G0 H0 σ H E w0 r f => by
  obtain ⟨G, as, r⟩ := r
  obtain ⟨G1, le, s1, sl, fr⟩ := r.freeze w0
  refine h G0 H0 σ H E w0 ⟨G1, [], s1, sl, rfl, List.nodup_nil, fun i j e => ?_, fun j a m e _ => by simp at e⟩ f
  unfold view at e
  rw [List.getElem?_map] at e
  cases q : ρ[i]? with
  | none =>
    rw [q] at e
    cases e
  | some s =>
    rw [q] at e
    have e' : viewD μ s = .own j := Option.some.inj e
    cases s with
    | no => cases e'
    | dat d0 => cases e'
    | own k =>
      unfold viewD at e'
      dsimp only at e'
      split at e' <;> cases e'
/-- x = [] -/
theorem ws_new (q : N.nx (ρ.set i (.own μ.length)) (μ ++ [.lst []])) (hi : i < ρ.length) : WS K S (tAsg (tLst tNil) (gName i)) ρ μ N := fun G0 H0 σ H E w0 r f => by
  obtain ⟨G, as, r⟩ := r
  refine ⟨Nat.zero_le _, fun p hp => ?_⟩
  have w := r.st.w
  have nf := w.nfp hp
  have s : Stp S G H G (upd H p (.lst [])) := .junk w (Le.new hp)
  have r1 := r.step w0 s
  have hp0 : H0 p = none := by
    cases e : H0 p with
    | none => rfl
    | some o =>
      rw [r.st.hh p o nf e] at hp
      cases hp
  have pas : p ∉ as := fun z => by
    obtain ⟨j, hj, e⟩ := List.mem_iff_getElem.mp z
    have hm : j < μ.length := by rw [← r.alen]; exact hj
    exact (r.cell j p μ[j] (by rw [List.getElem?_eq_getElem hj, e]) (List.getElem?_eq_getElem hm)).2.1 hp
  refine f.nx _ _ _ _ ⟨G, as ++ [p], r1.st, ⟨by rw [List.length_set, List.length_set]; exact r.sl.len, fun j d e => ?_⟩, by rw [List.length_append, List.length_append, r.alen] <;> rfl, ?_, fun k j e => ?_, fun j a m e1 e2 => ?_⟩ q
  · by_cases x : i = j
    · subst x
      rw [List.getElem?_set_self hi] at e
      cases e
    · rw [List.getElem?_set_ne x] at e ⊢
      exact r1.sl.get j d e
  · exact List.nodup_append.mpr ⟨r.nd, by simp, fun a ha b hb => by
      have : b = p := by simpa using hb
      subst this
      exact fun z => pas (z ▸ ha)⟩
  · by_cases x : i = k
    · subst x
      rw [List.getElem?_set_self hi] at e
      have e' : μ.length = j := SD.own.inj (Option.some.inj e)
      subst e'
      exact ⟨p, by rw [← r.alen]; simp, by rw [List.getElem?_set_self (by rw [r.sl.len]; exact hi)]⟩
    · rw [List.getElem?_set_ne x] at e ⊢
      obtain ⟨a, h1, h2⟩ := r.own k j e
      exact ⟨a, by rw [List.getElem?_append_left (List.getElem?_eq_some_iff.mp h1).1]; exact h1, h2⟩
  · by_cases x : j < μ.length
    · rw [List.getElem?_append_left (by rw [r.alen]; exact x)] at e1
      rw [List.getElem?_append_left x] at e2
      exact r1.cell j a m e1 e2
    · rw [List.getElem?_append_right (by rw [r.alen]; omega)] at e1
      rw [List.getElem?_append_right (by omega)] at e2
      rw [r.alen] at e1
      cases hk : j - μ.length with
      | zero =>
        rw [hk] at e1 e2
        have e1' : some p = some a := e1
        have e2' : some (M.lst []) = some m := e2
        cases e1'
        cases e2'
        have hs : upd H p (.lst []) p = some (.lst []) := upd_same
        exact ⟨hp0, by rw [hs]; exact Option.some_ne_none _, w.fresh hp, [], hs, DatL.nil⟩
      | succ n =>
        rw [hk] at e1
        cases e1
/-- the content of one's own changes -/
theorem RepG.put (r : RepG K S G0 H0 G σ H ρ μ as) (w0 : S.ok H0) {j : Nat} {a : Addr} {m0 m : M} {o : HO} (ha : as[j]? = some a) (hm : μ[j]? = some m0) (hg : G a = none) (ok : CellOk K G (upd H a o) a m) : RepG K S G0 H0 G σ (upd H a o) ρ (μ.set j m) as := by
  have w := r.st.w
  have nf := r.nfp w0 (List.mem_of_getElem? ha)
  obtain ⟨h0, h1, _⟩ := r.cell j a m0 ha hm
  have ne : ∀ {k b m'}, as[k]? = some b → μ[k]? = some m' → k ≠ j → b ≠ a := fun {k b m'} e1 _ hk z => by
    subst z
    obtain ⟨l1, e3⟩ := List.getElem?_eq_some_iff.mp e1
    obtain ⟨l2, e4⟩ := List.getElem?_eq_some_iff.mp ha
    exact hk ((List.getElem_inj r.nd).mp (e3.trans e4.symm))
  refine ⟨⟨r.st.gg, fun b u n e => ?_, r.st.nw, ⟨fun b u e => ?_, ?_, w.sep⟩⟩, r.sl, by rw [List.length_set]; exact r.alen, r.nd, r.own, fun k b m' e1 e2 => ?_⟩
  · by_cases x : b = a
    · subst x
      rw [h0] at e
      cases e
    · rw [upd_ne x]
      exact r.st.hh b u n e
  · by_cases x : b = a
    · subst x
      rw [hg] at e
      cases e
    · rw [upd_ne x]
      exact w.le b u e
  · exact S.loc H _ (fun b f => (upd_ne (fun z : b = a => nf (by rw [z] at f; exact f))).symm) w.src
  · by_cases x : k = j
    · subst x
      rw [ha] at e1
      cases e1
      rw [List.getElem?_set_self (List.getElem?_eq_some_iff.mp hm).1] at e2
      cases e2
      have hs : upd H a o a = some o := upd_same
      exact ⟨h0, by rw [hs]; exact Option.some_ne_none _, ok⟩
    · rw [List.getElem?_set_ne (Ne.symm x)] at e2
      have nb := ne e1 e2 x
      obtain ⟨c1, c2, c3⟩ := r.cell k b m' e1 e2
      refine ⟨c1, by rw [upd_ne nb]; exact c2, ?_⟩
      cases m' with
      | gone => trivial
      | lst ds =>
        obtain ⟨q1, xs, q2, q3⟩ := c3
        exact ⟨q1, xs, by rw [upd_ne nb]; exact q2, q3⟩
      | dict ds =>
        obtain ⟨q1, xs, q2, q3⟩ := c3
        exact ⟨q1, xs, by rw [upd_ne nb]; exact q2, q3⟩
      | kset P w S n =>
        obtain ⟨q1, q2⟩ := c3
        exact ⟨q1, by rw [upd_ne nb]; exact q2⟩
      | obj x C fs =>
        obtain ⟨q0, q1, dx, vs, q2, q3⟩ := c3
        exact ⟨q0, q1, dx, vs, by rw [upd_ne nb]; exact q2, q3⟩
/-- xs.append(e) -/
theorem ws_append {j : Nat} {ds : List D} (hi : ρ[i]? = some (.own j)) (hj : μ[j]? = some (.lst ds)) (hz : ds.length < 100000) (h : WE K S te ρ fun d => N.nx ρ (μ.set j (.lst (ds ++ [d])))) :
    WS K S (tDrop (tBM K "list" rAppend (tVar i) (tCons te tNil))) ρ μ N := fun G0 H0 σ H E w0 r f => by
  obtain ⟨G, as, r⟩ := r
  obtain ⟨a, ha, hs⟩ := r.own i j hi
  obtain ⟨_, _, _, xs, hx, _⟩ := r.cell j a _ ha hj
  refine ⟨_, hs, Or.inl ⟨rfl, _, SqL.of hx⟩, ?_⟩
  refine h σ G H _ r.st.w r.sl fun v d G' H' s dt q => ?_
  have r' := r.step w0 s
  obtain ⟨_, _, hg, ys, hy, hd⟩ := r'.cell j a _ ha hj
  refine ⟨a, ys, v, rfl, rfl, hy, by rw [hd.length]; exact Nat.lt_of_lt_of_le hz (by decide), ?_⟩
  exact f.nx _ _ _ _ ⟨G', as, r'.put (m := .lst (ds ++ [d])) w0 ha hj hg ⟨hg, _, upd_same, hd.append (.cons dt .nil)⟩⟩ q
/-- .. where e reads what is one's own, and holds no address -/
theorem ws_appendv {j : Nat} {ds : List D} (hi : ρ[i]? = some (.own j)) (hj : μ[j]? = some (.lst ds)) (hz : ds.length < 100000) (h : WE K S te (view ρ μ) fun d => scalD d = true ∧ N.nx ρ (μ.set j (.lst (ds ++ [d])))) :
    WS K S (tDrop (tBM K "list" rAppend (tVar i) (tCons te tNil))) ρ μ N := fun G0 H0 σ H E w0 r f => by
  obtain ⟨G, as, r⟩ := r
  obtain ⟨a, ha, hs⟩ := r.own i j hi
  obtain ⟨_, _, _, xs, hx, _⟩ := r.cell j a _ ha hj
  refine ⟨_, hs, Or.inl ⟨rfl, _, SqL.of hx⟩, ?_⟩
  obtain ⟨G1, le, s1, sl, fr⟩ := r.freeze w0
  refine h σ G1 H _ s1.w sl fun v d G' H' s dt q => ?_
  have r' := r.unfreeze w0 le fr s
  obtain ⟨_, _, hg, ys, hy, hd⟩ := r'.cell j a _ ha hj
  refine ⟨a, ys, v, rfl, rfl, hy, by rw [hd.length]; exact Nat.lt_of_lt_of_le hz (by decide), ?_⟩
  exact f.nx _ _ _ _ ⟨G, as, r'.put (m := .lst (ds ++ [d])) w0 ha hj hg ⟨hg, _, upd_same, hd.append (.cons (scal_any dt q.1) .nil)⟩⟩ q.2
end
end X3

set_option Elab.async false
set_option linter.all false
set_option maxRecDepth 100000
set_option maxHeartbeats 2000000
/-! # X3: targets, loops, comprehensions, calls -/
namespace X3
open PySem L2
/-- what a target leaves: the slots at is hold data, the others are as they were -/
structure Tgt (K : PySem.W.Frag) (G : Hp) (is : List Nat) (σ σ' : L2.St) (ρ ρ' : Rho) : Prop where
  sl : Slots K G σ' ρ'
  len : σ'.length = σ.length
  rlen : ρ'.length = ρ.length
  old : ∀ i, i ∉ is → σ'[i]? = σ[i]? ∧ ρ'[i]? = ρ[i]?
  new : ∀ (i j : Nat), i ∈ is → ρ'[i]? ≠ some (SD.own j)
def WG (K : PySem.W.Frag) (is : List Nat) (g : TG) (d : D) (ρ : Rho) (P : Rho → Prop) : Prop :=
  ∀ σ G H v (k : L2.St → Hp → Prop), Le G H → Slots K G σ ρ → Dat K G v d → (∀ σ' ρ', Tgt K G is σ σ' ρ ρ' → P ρ' → k σ' H) → g v σ H k
def WGs (K : PySem.W.Frag) (is : List Nat) (g : TGs) (ds : List D) (ρ : Rho) (P : Rho → Prop) : Prop :=
  ∀ σ G H vs (k : L2.St → Hp → Prop), Le G H → Slots K G σ ρ → DatL K G vs ds → (∀ σ' ρ', Tgt K G is σ σ' ρ ρ' → P ρ' → k σ' H) → g vs σ H k
section
variable {K : PySem.W.Frag} {S : Res} {ρ : Rho} {P : Rho → Prop} {d : D} {ds : List D}
theorem wg_name {i : Nat} (q : P (ρ.set i (.dat d))) : WG K [i] (gName i) d ρ P := fun σ G H v k le sl dt c =>
  c _ _ ⟨sl.set dt, by rw [List.length_set], by rw [List.length_set], fun j hj => by
    have ne : i ≠ j := fun z => hj (by simp [z])
    exact ⟨List.getElem?_set_ne ne, List.getElem?_set_ne ne⟩, fun j m hj e => by
    have z : j = i := by simpa using hj
    subst z
    by_cases y : j < ρ.length
    · rw [List.getElem?_set_self y] at e
      cases e
    · rw [List.getElem?_eq_none (by simpa using y)] at e
      cases e⟩ q
theorem wgs_nil (q : P ρ) : WGs K [] gNil [] ρ P := fun σ G H v k le sl dt c => by
  cases dt
  exact ⟨rfl, c σ ρ ⟨sl, rfl, rfl, fun _ _ => ⟨rfl, rfl⟩, fun _ _ h => by simp at h⟩ q⟩
theorem wgs_cons {is js : List Nat} {g : TG} {gs : TGs} (h : WG K is g d ρ fun ρ' => WGs K js gs ds ρ' P) : WGs K (is ++ js) (gCons g gs) (d :: ds) ρ P := fun σ G H v k le sl dt c => by
  cases dt with
  | cons a r =>
    refine ⟨_, _, rfl, h σ G H _ _ le sl a fun σ1 ρ1 t1 h1 => h1 σ1 G H _ _ le t1.sl r fun σ2 ρ2 t2 q => c σ2 ρ2 ⟨t2.sl, t2.len.trans t1.len, t2.rlen.trans t1.rlen, fun i hi => ?_, fun i j hi => ?_⟩ q⟩
    · have a1 := t1.old i fun z => hi (List.mem_append_left _ z)
      have a2 := t2.old i fun z => hi (List.mem_append_right _ z)
      exact ⟨a2.1.trans a1.1, a2.2.trans a1.2⟩
    · by_cases x : i ∈ js
      · exact t2.new i j x
      · rw [(t2.old i x).2]
        exact t1.new i j ((List.mem_append.mp hi).resolve_right x)
theorem wg_tup {is : List Nat} {g : TGs} {n : Nat} (hn : ds.length = n) (h : WGs K is g ds ρ P) : WG K is (gTup K n g) (.tup ds) ρ P := fun σ G H v k le sl dt c => by
  cases dt with
  | tup h1 r => exact ⟨_, _, rfl, le_t le h1, by rw [r.length]; exact hn, h σ G H _ k le sl r c⟩

theorem RepG.tgt {G0 H0 G H : Hp} {σ σ' : L2.St} {ρ' : Rho} {μ : Mu} {as : List Addr} {is : List Nat} (r : RepG K S G0 H0 G σ H ρ μ as) (t : Tgt K G is σ σ' ρ ρ') : RepG K S G0 H0 G σ' H ρ' μ as :=
  ⟨r.st, t.sl, r.alen, r.nd, fun i j e => by
    by_cases x : i ∈ is
    · exact absurd e (t.new i j x)
    · obtain ⟨a1, a2⟩ := t.old i x
      rw [a2] at e
      obtain ⟨a, h1, h2⟩ := r.own i j e
      exact ⟨a, h1, a1.trans h2⟩, r.cell⟩
/-- a target of any form -/
theorem ws_asgT {μ : Mu} {N : EndsD} {te : TE} {g : TG} {is : List Nat} (h : WE K S te ρ fun d => WG K is g d ρ fun ρ' => N.nx ρ' μ) : WS K S (tAsg te g) ρ μ N := fun G0 H0 σ H E w0 r f => by
  obtain ⟨G, as, r⟩ := r
  refine h σ G H _ r.st.w r.sl fun v d G' H' s dt q => ?_
  have r' := r.step w0 s
  exact q σ G' H' v _ s.w.le r'.sl dt fun σ' ρ' t q' => f.nx _ _ _ _ ⟨G', as, r'.tgt t⟩ q'
end

/-! ### what is walked -/
/-- J gives, one after another, the data ds, as long as G stands -/
structure IterOk (K : PySem.W.Frag) (S : Res) (J : It) (G : Hp) (ds : List D) : Prop where
  ex : ∃ (Gd : Hp → Prop) (Y : Nat → Hp → V → Hp → Prop), Walk J ds.length Gd Y ∧ (∀ H, Le G H → Gd H) ∧
    ∀ i H x H' G1, i < ds.length → Le G G1 → Wld S G1 H → Y i H x H' → ∃ d G2, ds[i]? = some d ∧ Stp S G1 H G2 H' ∧ Dat K G2 x d
def WI (K : PySem.W.Frag) (S : Res) (wi : TI) (ρ : Rho) (P : List D → Prop) : Prop :=
  ∀ σ G H (R : It → Hp → Prop), Wld S G H → Slots K G σ ρ → (∀ J ds G' H', Stp S G H G' H' → IterOk K S J G' ds → P ds → R J H') → wi σ H R
section
variable {K : PySem.W.Frag} {S : Res} {ρ : Rho} {te : TE} {tA : TA} {P : List D → Prop}
theorem iter_list {G : Hp} {a : Addr} {xs : List V} {ds : List D} (h : G a = some (.lst xs)) (r : DatL K G xs ds) : IterOk K S (Itl K a) G ds :=
  ⟨_, _, by rw [← r.length]; exact walk_list (xs := xs), fun H le => SqL.of (le _ _ h), fun i H x H' G1 hi le w y => by
    obtain ⟨rfl, e⟩ := y
    obtain ⟨d, e1, e2⟩ := r.getV e
    exact ⟨d, G1, e1, .refl w, e2.mono le⟩⟩
theorem iter_tup {G : Hp} {a : Addr} {xs : List V} {ds : List D} (h : SqT K G a xs) (r : DatL K G xs ds) : IterOk K S (Itt K a) G ds :=
  ⟨_, _, by rw [← r.length]; exact walk_tup (xs := xs), fun H le => le_t le h, fun i H x H' G1 hi le w y => by
    obtain ⟨rfl, e⟩ := y
    obtain ⟨d, e1, e2⟩ := r.getV e
    exact ⟨d, G1, e1, .refl w, e2.mono le⟩⟩
theorem wi_list (h : WE K S te ρ fun d => ∃ ds, d = .list ds ∧ P ds) : WI K S (iList K te) ρ P := fun σ G H R w s c =>
  h σ G H _ w s fun v d G' H' st dt q => by
    obtain ⟨ds, rfl, q⟩ := q
    cases dt with
    | list h1 r => exact ⟨_, rfl, ⟨_, SqL.of (st.w.le _ _ h1)⟩, c _ ds G' H' st (iter_list h1 r) q⟩
theorem wi_tup (h : WE K S te ρ fun d => ∃ ds, d = .tup ds ∧ P ds) : WI K S (iTup K te) ρ P := fun σ G H R w s c =>
  h σ G H _ w s fun v d G' H' st dt q => by
    obtain ⟨ds, rfl, q⟩ := q
    cases dt with
    | tup h1 r => exact ⟨_, rfl, ⟨_, le_t st.w.le h1⟩, c _ ds G' H' st (iter_tup h1 r) q⟩
/-- lo, lo + 1 .. -/
def rng (lo : Int) (n : Nat) : List D := (List.range n).map fun i => .int (lo + (i : Nat))
theorem rng_len (lo : Int) (n : Nat) : (rng lo n).length = n := by unfold rng; rw [List.length_map, List.length_range]
theorem rng_get {lo : Int} {n i : Nat} (h : i < n) : (rng lo n)[i]? = some (.int (lo + (i : Nat))) := by
  unfold rng
  rw [List.getElem?_map, List.getElem?_range h]
  rfl
theorem iter_rng {G : Hp} {lo : Int} {n : Nat} : IterOk K S (Itr lo n) G (rng lo n) :=
  ⟨_, _, by rw [rng_len]; exact walk_range, fun _ _ => trivial, fun i H x H' G1 hi le w y => by
    rw [rng_len] at hi
    obtain ⟨rfl, rfl⟩ := y
    exact ⟨_, G1, rng_get hi, .refl w, .int _⟩⟩
theorem wi_rng1 (h : WA K S tA ρ fun vs => ∃ n : Int, vs = [.int n] ∧ -1000000 ≤ n ∧ n ≤ 1000000 ∧ P (rng 0 n.toNat)) : WI K S (iRng1 tA) ρ P := fun σ G H R w s c =>
  h σ G H _ w s fun vs ds G' H' st dt q => by
    obtain ⟨n, rfl, h1, h2, q⟩ := q
    cases dt with
    | cons a r =>
      cases r
      cases a
      exact ⟨n, rfl, by omega, by omega, c _ _ G' H' st iter_rng q⟩
theorem wi_rng2 (h : WA K S tA ρ fun vs => ∃ m n : Int, vs = [.int m, .int n] ∧ (-1000000 ≤ m ∧ m ≤ 1000000 ∧ -1000000 ≤ n ∧ n ≤ 1000000) ∧ P (rng m (n - m).toNat)) : WI K S (iRng2 tA) ρ P := fun σ G H R w s c =>
  h σ G H _ w s fun vs ds G' H' st dt q => by
    obtain ⟨m, n, rfl, ⟨h1, h2, h3, h4⟩, q⟩ := q
    cases dt with
    | cons a r =>
      cases a
      cases r with
      | cons a r =>
        cases r
        cases a
        exact ⟨m, n, rfl, ⟨by omega, by omega, by omega, by omega⟩, c _ _ G' H' st iter_rng q⟩
theorem RepG.rebase {G0 H0 G1 H1 G H : Hp} {σ : L2.St} {ρ : Rho} {μ : Mu} {as : List Addr} (r : RepG K S G1 H0 G σ H ρ μ as) (s : Stp S G0 H0 G1 H1) : RepG K S G0 H0 G σ H ρ μ as :=
  ⟨⟨s.gg.trans r.st.gg, r.st.hh, fun a o e => (r.st.nw a o e).elim (fun z => s.nw a o z) .inr, r.st.w⟩, r.sl, r.alen, r.nd, r.own, r.cell⟩
theorem RepG.debase {G0 H0 G H : Hp} {σ : L2.St} {ρ : Rho} {μ : Mu} {as : List Addr} (r : RepG K S G0 H0 G σ H ρ μ as) : RepG K S G H0 G σ H ρ μ as :=
  ⟨⟨Le.refl _, r.st.hh, fun a o e => .inl e, r.st.w⟩, r.sl, r.alen, r.nd, r.own, r.cell⟩
/-- a for loop: I by what has been walked -/
theorem ws_for {wi : TI} {g : TG} {tb : TS} {μ : Mu} {N : EndsD} {is : List Nat} (I : List D → Rho → Mu → Prop)
    (h : WI K S wi ρ fun ds => I [] ρ μ ∧ (∀ pre d post ρ' μ', ds = pre ++ d :: post → I pre ρ' μ' → WG K is g d ρ' fun ρ2 => WS K S tb ρ2 μ' { N with nx := I (pre ++ [d]), ct := I (pre ++ [d]), bk := N.nx }) ∧ ∀ ρ' μ', I ds ρ' μ' → N.nx ρ' μ') :
    WS K S (tFor wi g tb) ρ μ N := fun G0 H0 σ H E w0 r f => by
  obtain ⟨G, as, r⟩ := r
  refine h σ G H _ r.st.w r.sl fun J ds G' H' s it q => ?_
  obtain ⟨i0, turn, fin⟩ := q
  obtain ⟨Gd, Y, wk, gd, yl⟩ := it.ex
  have r1 := r.step w0 s
  have sb := r1.st
  refine for_it wk (fun i σ H => ∃ ρ' μ' G2 as', RepG K S G' H0 G2 σ H ρ' μ' as' ∧ I (ds.take i) ρ' μ') ⟨ρ, μ, G', as, r1.debase, i0⟩ ?_ ?_ ?_
  · rintro i σ1 H1 _ ⟨ρ', μ', G2, as', r2, _⟩
    exact gd H1 (r2.st.gg.trans r2.st.w.le)
  · rintro i x σ1 H1 H2 hi ⟨ρ', μ', G2, as', r2, iv⟩ y
    obtain ⟨d, G3, e, st3, dt⟩ := yl i H1 x H2 G2 hi r2.st.gg r2.st.w y
    have r3 := r2.step w0 st3
    have ed : ds = ds.take i ++ d :: ds.drop (i + 1) := by
      have e2 := List.getElem?_eq_some_iff.mp e
      obtain ⟨hl, e2⟩ := e2
      rw [← e2, ← List.drop_eq_getElem_cons hl, List.take_append_drop]
    have et : ds.take i ++ [d] = ds.take (i + 1) := by
      rw [List.take_add_one, e]
      rfl
    refine turn (ds.take i) d (ds.drop (i + 1)) ρ' μ' ed iv σ1 G3 H2 x _ r3.st.w.le r3.sl dt fun σ4 ρ4 t4 body => ?_
    refine body G' H0 σ4 H2 { E with nx := _, ct := _, bk := E.nx } w0 ⟨G3, as', r3.tgt t4⟩ ⟨?_, ?_, ?_, ?_⟩
    · rintro σ5 H5 ρ5 μ5 ⟨G5, as5, r5⟩ q5
      exact ⟨ρ5, μ5, G5, as5, r5, by rw [← et]; exact q5⟩
    · intro v d5 G5 H5 s5 dt5 q5
      exact f.rt v d5 G5 H5 ⟨sb.gg.trans s5.gg, s5.hh, fun a o e => (s5.nw a o e).elim (fun z => sb.nw a o z) .inr, s5.w⟩ dt5 q5
    · rintro σ5 H5 ρ5 μ5 ⟨G5, as5, r5⟩ q5
      exact f.nx _ _ _ _ ⟨G5, as5, r5.rebase sb⟩ q5
    · rintro σ5 H5 ρ5 μ5 ⟨G5, as5, r5⟩ q5
      exact ⟨ρ5, μ5, G5, as5, r5, by rw [← et]; exact q5⟩
  · rintro σ1 H1 ⟨ρ', μ', G2, as', r2, iv⟩
    rw [List.take_length] at iv
    exact f.nx _ _ _ _ ⟨G2, as', r2.rebase sb⟩ (fin ρ' μ' iv)
end

/-! ### comprehensions -/
def wipeR (ρ : Rho) : List Nat → Rho
  | [] => ρ
  | v :: vs => (wipeR ρ vs).set v .no
section
variable {K : PySem.W.Frag} {S : Res} {ρ : Rho}
theorem wipeR_len (ρ : Rho) : ∀ vs : List Nat, (wipeR ρ vs).length = ρ.length
  | [] => rfl
  | v :: vs => by unfold wipeR; rw [List.length_set, wipeR_len ρ vs]
theorem slots_wipe {G : Hp} {σ : L2.St} (s : Slots K G σ ρ) : ∀ vs : List Nat, Slots K G (wipe σ vs) (wipeR ρ vs)
  | [] => s
  | v :: vs => ⟨by rw [wipe_length, wipeR_len, s.len], fun i d e => by
    unfold wipeR at e
    unfold wipe
    by_cases x : v = i
    · subst x
      by_cases y : v < (wipeR ρ vs).length
      · rw [List.getElem?_set_self y] at e
        cases e
      · rw [List.getElem?_eq_none (by simpa using y)] at e
        cases e
    · rw [List.getElem?_set_ne x] at e ⊢
      exact (slots_wipe s vs).get i d e⟩
theorem wipe_get {σ : L2.St} {i : Nat} : ∀ {vs : List Nat}, i ∉ vs → (wipe σ vs)[i]? = σ[i]?
  | [], _ => rfl
  | v :: vs, h => by
    have h' := not_or.mp (fun z => h (List.mem_cons.mpr z))
    unfold wipe
    rw [List.getElem?_set_ne (Ne.symm h'.1)]
    exact wipe_get h'.2
theorem wipe_in {σ : L2.St} {i : Nat} (hi : i < σ.length) : ∀ {vs : List Nat}, i ∈ vs → (wipe σ vs)[i]? = some none
  | v :: vs, h => by
    unfold wipe
    by_cases x : v = i
    · subst x
      rw [List.getElem?_set_self (by rw [wipe_length]; exact hi)]
    · rw [List.getElem?_set_ne x]
      exact wipe_in hi ((List.mem_cons.mp h).resolve_left (Ne.symm x))
theorem wipe_eq {σ σ' : L2.St} {vs : List Nat} (hl : σ'.length = σ.length) (h : ∀ i, i ∉ vs → σ'[i]? = (wipe σ vs)[i]?) : wipe σ' vs = wipe σ vs := by
  refine List.ext_getElem? fun i => ?_
  by_cases x : i ∈ vs
  · by_cases y : i < σ.length
    · rw [wipe_in (by rw [hl]; exact y) x, wipe_in y x]
    · rw [List.getElem?_eq_none (by rw [wipe_length]; omega), List.getElem?_eq_none (by rw [wipe_length]; omega)]
  · rw [wipe_get x, h i x]
/-- [te for g in wi if tt]: I by what has been walked and what has been made -/
theorem we_lc {wi : TI} {g : TG} {tt : TT} {te : TE} {vs is : List Nat} {Q : D → Prop} (I : List D → List D → Prop) (hv : ∀ i ∈ is, i ∈ vs)
    (h : WI K S wi ρ fun ds => I [] [] ∧ (∀ pre d post out, ds = pre ++ d :: post → I pre out → WG K is g d (wipeR ρ vs) fun ρ2 => WT K S tt ρ2 fun b =>
      if b = true then WE K S te ρ2 fun y => out.length < 100000 ∧ I (pre ++ [d]) (out ++ [y]) else I (pre ++ [d]) out) ∧ ∀ out, I ds out → Q (.list out)) :
    WE K S (tLc wi g tt te vs) ρ Q := fun σ G H k w sl c => by
  refine h σ G H _ w sl fun J ds G' H' s it q => ?_
  obtain ⟨i0, turn, fin⟩ := q
  obtain ⟨Gd, Y, wk, gd, yl⟩ := it.ex
  have w0 := s.w.src
  intro p hp
  have sl0 : Slots K G' (wipe σ vs) (wipeR ρ vs) := slots_wipe (sl.mono s.gg) vs
  have start : RepG K S G' H' G' [] (upd H' p (.lst [])) [] [.lst []] [p] := by
    refine ⟨.junk s.w (Le.new hp), ⟨rfl, fun i d e => by simp at e⟩, rfl, by simp, fun i j e => by simp at e, fun j a m e1 e2 => ?_⟩
    have hs : upd H' p (.lst []) p = some (.lst []) := upd_same
    cases j with
    | zero =>
      have e1' : some p = some a := e1
      have e2' : some (M.lst []) = some m := e2
      cases e1'
      cases e2'
      exact ⟨hp, by rw [hs]; exact Option.some_ne_none _, s.w.fresh hp, [], hs, DatL.nil⟩
    | succ n => simp at e1
  refine lc_it wk (fun i H => ∃ out G2, RepG K S G' H' G2 [] H [] [.lst out] [p] ∧ I (ds.take i) out) ⟨[], G', start, i0⟩ ?_ ?_ ?_
  · rintro i H1 _ ⟨out, G2, r2, _⟩
    exact gd H1 (r2.st.gg.trans r2.st.w.le)
  · rintro i x H1 H2 hi ⟨out, G2, r2, iv⟩ y
    obtain ⟨d, G3, e, st3, dt⟩ := yl i H1 x H2 G2 hi r2.st.gg r2.st.w y
    have r3 := r2.step w0 st3
    have ed : ds = ds.take i ++ d :: ds.drop (i + 1) := by
      have e2 := List.getElem?_eq_some_iff.mp e
      obtain ⟨hl, e2⟩ := e2
      rw [← e2, ← List.drop_eq_getElem_cons hl, List.take_append_drop]
    have et : ds.take i ++ [d] = ds.take (i + 1) := by
      rw [List.take_add_one, e]
      rfl
    refine turn (ds.take i) d (ds.drop (i + 1)) out ed iv _ G3 H2 x _ r3.st.w.le (sl0.mono r3.st.gg) dt fun σ4 ρ4 t4 body => ?_
    have hw : wipe σ4 vs = wipe σ vs := by
      refine wipe_eq (by rw [t4.len, wipe_length]) fun i hi => ?_
      exact (t4.old i fun z => hi (hv i z)).1
    refine ⟨hw, body σ4 G3 H2 _ r3.st.w t4.sl fun b G4 H4 s4 qb => ?_⟩
    have r4 := r3.step w0 s4
    cases b with
    | false => exact ⟨out, G4, r4, by rw [← et]; exact qb⟩
    | true =>
      refine qb σ4 G4 H4 _ r4.st.w (t4.sl.mono s4.gg) fun v d5 G5 H5 s5 dt5 q5 => ?_
      have r5 := r4.step w0 s5
      obtain ⟨_, _, hg, xs, hx, dx⟩ := r5.cell 0 p _ rfl rfl
      refine ⟨xs, hx, by rw [dx.length]; exact Nat.lt_of_lt_of_le q5.1 (by decide), out ++ [d5], G5, ?_, by rw [← et]; exact q5.2⟩
      exact r5.put (j := 0) (m := .lst (out ++ [d5])) w0 rfl rfl hg ⟨hg, _, upd_same, dx.append (.cons dt5 .nil)⟩
  · rintro H1 ⟨out, G2, r2, iv⟩
    rw [List.take_length] at iv
    obtain ⟨G3, le, s3, _, fr⟩ := r2.freeze w0
    obtain ⟨_, _, _, xs, hx, dx⟩ := r2.cell 0 p _ rfl rfl
    exact c _ _ G3 H1 (s.trans s3) (.list (by rw [fr p (by simp)]; exact hx) (dx.mono le)) (fin out iv)
/-- no test -/
theorem wt_yes {P : Bool → Prop} (q : P true) : WT K S tYes ρ P := fun σ G H k w s c => c true G H (.refl w) q

/-! ### while -/
theorem ws_while {tt : TT} {tb : TS} {μ : Mu} {N : EndsD} (I : Nat → Rho → Mu → Prop) (m0 : Nat) (h0 : I m0 ρ μ)
    (hs : ∀ m ρ' μ', I m ρ' μ' → WT K S tt (view ρ' μ') fun b => if b = true then WS K S tb ρ' μ' { N with nx := fun ρ2 μ2 => ∃ m', m' < m ∧ I m' ρ2 μ2, ct := fun ρ2 μ2 => ∃ m', m' < m ∧ I m' ρ2 μ2, bk := N.nx } else N.nx ρ' μ') :
    WS K S (tWhile tt tb) ρ μ N := fun G0 H0 σ H E w0 r f => by
  refine ⟨fun m σ H => ∃ ρ' μ', Rep K S G0 H0 σ H ρ' μ' ∧ I m ρ' μ', ⟨m0, ρ, μ, r, h0⟩, ?_⟩
  rintro m σ1 H1 ⟨ρ', μ', ⟨G, as, r⟩, iv⟩
  obtain ⟨G1, le, s1, sl, fr⟩ := r.freeze w0
  refine hs m ρ' μ' iv σ1 G1 H1 _ s1.w sl fun b G' H' s q => ?_
  have r' := r.unfreeze w0 le fr s
  cases b with
  | false => exact f.nx _ _ _ _ ⟨G, as, r'⟩ q
  | true =>
    refine ⟨fun σ H => ∃ m', m' < m ∧ ∃ ρ' μ', Rep K S G0 H0 σ H ρ' μ' ∧ I m' ρ' μ', fun σ2 H2 z => ?_, ?_⟩
    · obtain ⟨m', h1, h2⟩ := z
      exact ⟨m', h1, h2⟩
    · refine q G0 H0 σ1 H' { E with nx := _, ct := _, bk := E.nx } w0 ⟨G, as, r'⟩ ⟨?_, f.rt, f.nx, ?_⟩
      · rintro σ2 H2 ρ2 μ2 r2 ⟨m', h1, h2⟩
        exact ⟨m', h1, ρ2, μ2, r2, h2⟩
      · rintro σ2 H2 ρ2 μ2 r2 ⟨m', h1, h2⟩
        exact ⟨m', h1, ρ2, μ2, r2, h2⟩

/-! ### calls -/
/-- a def's promise over data: P says what is asked of the arguments so that what is handed back is in q -/
def spD (K : PySem.W.Frag) (P : Res → List D → (D → Prop) → Prop) : Sp := fun vs H Q _ => ∃ (S : Res) (G : Hp) (ds : List D) (q : D → Prop), Wld S G H ∧ DatL K G vs ds ∧ P S ds q ∧ ∀ v d G' H', Stp S G H G' H' → Dat K G' v d → q d → Q v H'
theorem we_call {P : Res → List D → (D → Prop) → Prop} {tA : TA} {E : XK} {Q : D → Prop} (h : WA K S tA ρ fun ds => P S ds Q) : WE K S (tCall (spD K P) [] E tA) ρ Q := fun σ G H k w sl c =>
  h σ G H _ w sl fun vs ds G' H' s dt q => ⟨S, G', ds, Q, s.w, by rw [List.append_nil]; exact dt, q, fun v d G2 H2 s2 dt2 q2 => c v d G2 H2 (s.trans s2) dt2 q2⟩
/-- a def's slots at its entry -/
def startR (N : List Str) (ds : List D) : Rho := ds.map .dat ++ List.replicate (N.length - ds.length) .no
theorem slots_start {G : Hp} {N : List Str} {vs : List V} {ds : List D} (r : DatL K G vs ds) : Slots K G (L2.start N vs) (startR N ds) := by
  have hl := r.length
  refine ⟨by unfold L2.start startR; simp [hl], fun i d e => ?_⟩
  unfold startR at e
  unfold L2.start
  by_cases x : i < ds.length
  · rw [List.getElem?_append_left (by simpa using x)] at e
    rw [List.getElem?_append_left (by rw [List.length_map, hl]; exact x)]
    rw [List.getElem?_map] at e ⊢
    cases q : ds[i]? with
    | none =>
      rw [q] at e
      cases e
    | some d' =>
      rw [q] at e
      cases e
      obtain ⟨v, h1, h2⟩ := r.get q
      exact ⟨v, by rw [h1]; rfl, h2⟩
  · rw [List.getElem?_append_right (by simpa using x)] at e
    have z := List.mem_of_getElem? e
    have z' := List.eq_of_mem_replicate z
    cases z'
/-- a def's body: the reading of its term, over data -/
theorem body_of {t : TS} {N : List Str} {vs : List V} {ds : List D} {G H : Hp} {Q : VK} {q : D → Prop} (w : Wld S G H) (r : DatL K G vs ds) (c : ∀ v d G' H', Stp S G H G' H' → Dat K G' v d → q d → Q v H')
    (h : WS K S t (startR N ds) [] { nx := fun _ _ => q .non, rt := q }) : t { nx := fun _ H' => Q .non H', rt := Q } (L2.start N vs) H := by
  refine h G H _ H _ w.src ⟨G, [], .refl w, slots_start r, rfl, List.nodup_nil, fun i j e => ?_, fun j a m e1 _ => by simp at e1⟩ ⟨?_, c, fun _ _ _ _ _ z => z, fun _ _ _ _ _ z => z⟩
  · unfold startR at e
    have z := List.mem_of_getElem? e
    rcases List.mem_append.mp z with z | z
    · obtain ⟨d, _, z⟩ := List.mem_map.mp z
      cases z
    · have z' := List.eq_of_mem_replicate z
      cases z'
  · rintro σ H1 ρ μ ⟨G1, as, r1⟩ z
    exact c _ _ G1 H1 r1.st .non z
end
end X3

set_option Elab.async false
set_option linter.all false
set_option maxRecDepth 100000
set_option maxHeartbeats 4000000
/-! # Exceptions of own classes as values: made, their fields read, isinstance -/
namespace X3
open PySem PySem.Calls PySem.Spec PyProof.Rows L2
namespace XEx
open PySem.Builtin PySem.Builtin.ObjectAttr
/-- what is asked of the built-in base at the end of the classes' order -/
structure Tail (B newId initId : String) (tl : List Value) : Prop where
  base : ExcBaseFacts B newId initId tl
  pass : ∀ z, refuseLoop z "__setattr__" tl = pure ()
theorem tailVE : Tail "ValueError" "ValueError.__new__" "ValueError.__init__" HandSPX.veTail :=
  { base := F.excBase_ValueError, pass := F.store_ValueError.passes }
theorem tailLE : Tail "LookupError" "LookupError.__new__" "LookupError.__init__" [.type "LookupError", .type "Exception", .type "BaseException", .type "object"] :=
  { base := F.excBase_LookupError, pass := F.store_LookupError.passes }
end XEx
section
open Builtin Builtin.ObjectAttr
variable {P : Program} {w : World} {K : PySem.W.Frag} {around : Around} {R : Result → Shared → Prop} {st : Shared} {nm : Str} {tok : Tok} {u : Value} {a C : Addr} {ob : Obj} {dc : Option Obj} {cd : ClassData}
/-- object.__setattr__, its classes letting it pass: the store in the own dict is left -/
theorem walk_set (KI : K.In st.heap) (J : PySem.W.InstAt st.heap a ob C dc) (cl : PySem.W.clsIn K C = some cd) (isO : PySem.W.mroIn K C (.type "object") = some true) (ps : ∀ z, refuseLoop z "__setattr__" cd.mro = pure ()) (free : PySem.W.findIn K (.ref C) nm = some none)
    (go : wpAny (model P w) around.in1 (storeInOwnDict (.ref a) (.ref C) (.str nm tok) nm u false) (fun f st' => match f with | .done r => R (.ok r) st' | .again c => c.quiet = true ∧ codeAny (model P w) around c R st') (fun e st' => R (.error e) st') st) :
    codeAny (model P w) around (.call (.builtin "object.__setattr__") { pos := [.ref a, .str nm tok, u] }) R st := by
  have slot := F.store_object
  have ord : PySem.W.Looks (model P w) st.heap (mroOf (.ref C)) cd.mro := PySem.W.Looks.andThen (PySem.W.looks_clsIn KI cl) .now
  have look := PySem.W.looks_findIn (M := model P w) KI free
  refine codeAny_call_builtin slot.slot.plain slot.entry (PySem.W.check_slot (i := "object.__setattr__") (owner := "object") (n := "__setattr__") (self := .ref a) (rest := [.str nm tok, u]) (kw := []) slot.kind slot.split (J.type.andThen (PySem.W.looks_mroIn KI isO)) (slot.args _ _ _) ?_)
  rw [PySem.W.osa_eq, refuse_eq]
  refine wpAny_bind (wpAny_bind ?_)
  refine J.type.at (wpAny_bind (ord.at ?_))
  rw [ps]
  refine wpAny_pure (wpAny_bind ?_)
  refine J.type.at (wpAny_bind (look.at (wpAny_bind ?_)))
  exact PySem.W.Looks.at (r := none) .now go
/-- .. no dict as yet: one is made -/
theorem set_first {vs : Array Value} (KI : K.In st.heap) (at_ : st.heap.get? a = some ⟨.ref C, none, .fields vs, #[]⟩) (cl : PySem.W.clsIn K C = some cd) (hasD : cd.hasDict = true) (isO : PySem.W.mroIn K C (.type "object") = some true) (ps : ∀ z, refuseLoop z "__setattr__" cd.mro = pure ()) (free : PySem.W.findIn K (.ref C) nm = some none)
    (go : ∀ hp tk b, st.heap.objs.size ≤ b → b ≠ a → (∀ y o, y ≠ a → st.heap.get? y = some o → hp.get? y = some o) → hp.get? a = some ⟨.ref C, some b, .fields vs, #[]⟩ → hp.Ns1 b (fun y => if y = nm then some u else none) → R (.ok (.ret .none)) { st with heap := hp, toks := tk }) :
    codeAny (model P w) around (.call (.builtin "object.__setattr__") { pos := [.ref a, .str nm tok, u] }) R st := by
  have J : PySem.W.InstAt st.heap a ⟨.ref C, none, .fields vs, #[]⟩ C none := ⟨at_, rfl, rfl, trivial⟩
  refine walk_set KI J cl isO ps free ?_
  have look := PySem.W.looks_clsIn (M := model P w) KI cl
  have new : a ≠ st.heap.objs.size := fun z => Nat.lt_irrefl _ (z ▸ Heap.lt_size at_)
  obtain ⟨hp, g, dw, t, os⟩ := st
  obtain ⟨c1, c2, c3, c4, c5, c6, c7, c8, c9, c10, c11⟩ := cd
  cases (show c6 = true from hasD)
  unfold storeInOwnDict
  unfold ownDictForStores
  repeat (first | with_reducible refine HandSPX.store_in_new ?_ ?_ | with_reducible refine look.at ?_ | with_reducible refine wpAny_loadPart_at at_ ?_ | wp_step)
  · have there := (Heap.get?_update_ne (hp.push { cls := .type "dict", data := .dict #[] }) _ _ (fun o => { o with dict := some hp.objs.size }) new.symm).trans (Heap.get?_push_at rfl rfl)
    exact ⟨_, _, _, there, rfl, fun _ z => absurd z (by simp), fun _ => rfl⟩
  · intro hp' t' ns sb
    refine go hp' t' _ (Nat.le_refl _) new.symm (fun y o hy ho => ?_) ?_ ns
    · rw [sb.2 y (Nat.ne_of_lt (Heap.lt_size ho)), Heap.get?_update_ne _ _ _ _ hy]
      exact Heap.get?_push_of_some _ ho
    · rw [sb.2 a new]
      exact Heap.get?_update_self _ (Heap.get?_push_of_some _ at_) rfl
/-- .. one more beside others -/
theorem set_next {vs : Array Value} {b : Addr} {m : Str → Option Value} {names : List Str} (KI : K.In st.heap) (at_ : st.heap.get? a = some ⟨.ref C, some b, .fields vs, #[]⟩) (old : st.heap.Ns1 b m) (wi : Within m names) (few : names.length ≤ 1000) (cl : PySem.W.clsIn K C = some cd) (hasD : cd.hasDict = true)
    (isO : PySem.W.mroIn K C (.type "object") = some true) (ps : ∀ z, refuseLoop z "__setattr__" cd.mro = pure ()) (free : PySem.W.findIn K (.ref C) nm = some none)
    (go : ∀ hp tk, (∀ y o, y ≠ b → st.heap.get? y = some o → hp.get? y = some o) → hp.Ns1 b (fun y => if y = nm then some u else m y) → R (.ok (.ret .none)) { st with heap := hp, toks := tk }) :
    codeAny (model P w) around (.call (.builtin "object.__setattr__") { pos := [.ref a, .str nm tok, u] }) R st := by
  obtain ⟨ob, _, _, atb, _, _⟩ := old.count wi
  have J : PySem.W.InstAt st.heap a ⟨.ref C, some b, .fields vs, #[]⟩ C (some ob) := ⟨at_, rfl, rfl, atb⟩
  refine walk_set KI J cl isO ps free ?_
  have look := PySem.W.looks_clsIn (M := model P w) KI cl
  obtain ⟨hp, g, dw, t, os⟩ := st
  obtain ⟨c1, c2, c3, c4, c5, c6, c7, c8, c9, c10, c11⟩ := cd
  cases (show c6 = true from hasD)
  unfold storeInOwnDict
  unfold ownDictForStores
  repeat (first | with_reducible refine OEX.store_in_old old wi few ?_ | with_reducible refine look.at ?_ | with_reducible refine wpAny_loadPart_at at_ ?_ | wp_step)
  exact fun hp' t' ns sb => go hp' t' (fun y o hy ho => by rw [sb.2 y hy]; exact ho) ns
end
/-- what the top has written of a class of exceptions -/
structure ExK (K : PySem.W.Frag) (C : Addr) (newId : String) (tl : List Value) : Prop where
  cls : ∃ nm q N bs bm sn sub ab col dd k0 k1 k2 k3 k5, K.lookup C = some (excClassObj nm q C N bs bm true sn sub ab col dd k0 k1 k2 k3 k5 newId) ∧ PySem.W.excTail tl bm = true
  sa : PySem.W.findIn K (.ref C) "__setattr__" = some (some (.builtin "object.__setattr__"))
  isO : PySem.W.mroIn K C (.type "object") = some true
  kC : PySem.W.keepIn K (.ref C) = true
section
open PySem.Builtin PySem.Builtin.ObjectAttr
variable {K : PySem.W.Frag} {C : Addr} {B newId initId : String} {tl : List Value}
/-- its class record, as object.__setattr__ asks it -/
theorem ExK.told (T : ExK K C newId tl) (TT : XEx.Tail B newId initId tl) : ∃ cd, PySem.W.clsIn K C = some cd ∧ cd.hasDict = true ∧ ∀ z, refuseLoop z "__setattr__" cd.mro = pure () := by
  obtain ⟨nm, q, N, bs, bm, sn, sub, ab, col, dd, k0, k1, k2, k3, k5, lk, tail⟩ := T.cls
  refine ⟨_, by unfold PySem.W.clsIn; rw [lk] <;> rfl, rfl, fun z => ?_⟩
  show refuseLoop z "__setattr__" (.ref C :: bm) = pure ()
  rw [refuseLoop_ref]
  exact PySem.W.excTail_pass z (TT.pass z) bm tail
end
section
variable {X : Cx} {pins : List (Addr × Obj)} {σ : L2.St} {H : Hp} {st : Shared} {a C b : Addr} {f : Str} {y : V} {u : Value} {fs : List (Str × V)} {Q : Unit → Shared → Prop} {E : Value → Shared → Prop} {A : Around} {B newId initId : String} {tl : List Value}
/-- self.f = y ahead of all others: the dict comes, then it is self's -/
theorem put_first (TT : XEx.Tail B newId initId tl) (T : ExK X.K C newId tl) (I : Inv X pins σ H st) (at_ : H a = some (exo a C none)) (free : PySem.W.findIn X.K (.ref C) f = some none) (ry : RelV y u)
    (go : ∀ b st', H b = none → b ≠ a → Inv X pins σ (upd (upd H b (exd b [(f, y)])) a (exo a C (some b))) st' → Q () st') : wpAny (model X.prog X.w) A (setAttr (.ref a) f u) Q E st := by
  obtain ⟨cd, cl, hd, ps⟩ := T.told TT
  obtain ⟨t1, ga⟩ := exo_at I.hok at_
  refine PySem.W.set_plain (od := none) I.kIn ⟨ga, rfl, rfl, trivial⟩ T.sa ?_
  refine set_first (st := { st with toks := st.toks + 1 }) I.kIn ga cl hd T.isO ps free fun hp tk b far ne keep here ns => ?_
  -- between the two: the dict is there, self is as it was
  have back : ∀ z o, st.heap.get? z = some o → (hp.update a fun _ => ⟨.ref C, none, .fields #[.ref t1, .none, .none, .none, .bool false, .none], #[]⟩).get? z = some o := fun z o e => by
    by_cases x : z = a
    · subst x
      rw [ga] at e
      rw [← e]
      exact Heap.get?_update_self _ here rfl
    · rw [Heap.get?_update_ne _ _ _ _ x]
      exact keep z o x e
  have rel : ∀ g, RelO (([(f, y)] : List (Str × V)).lookup g) (if g = f then some u else none) := relO_put (fs := []) (mA := fun _ => none) ry fun _ => True.intro
  have I1 := I.laid (t' := tk) (a := b) (o := exd b [(f, y)]) back far (exd_ok (ns.at fun o e => (Heap.get?_update_ne _ _ _ _ ne).trans e) rel)
  refine go b _ (I.hok.fresh far) ne (I1.write (t' := tk) (x := a) (e := a) (o := exo a C (some b)) ?_ (.inl rfl) (fun z o x e => ?_) ⟨_, here⟩ (exo_ok here))
  · rw [upd_ne ne.symm, at_]
    exact True.intro
  · rw [← e]
    exact (Heap.get?_update_ne _ _ _ _ x).symm
/-- .. beside others -/
theorem put_next (TT : XEx.Tail B newId initId tl) (T : ExK X.K C newId tl) (I : Inv X pins σ H st) (at_ : H a = some (exo a C (some b))) (atb : H b = some (exd b fs)) (few : fs.length ≤ 900) (free : PySem.W.findIn X.K (.ref C) f = some none) (ry : RelV y u)
    (go : ∀ st', Inv X pins σ (upd H b (exd b ((f, y) :: fs))) st' → Q () st') : wpAny (model X.prog X.w) A (setAttr (.ref a) f u) Q E st := by
  obtain ⟨cd, cl, hd, ps⟩ := T.told TT
  obtain ⟨t1, ga⟩ := exo_at I.hok at_
  obtain ⟨m, ns, rel⟩ := exd_at I.hok atb
  have wi := within_of rel
  obtain ⟨ob, _, _, gb, _, _⟩ := ns.count wi
  refine PySem.W.set_plain (od := some ob) I.kIn ⟨ga, rfl, rfl, gb⟩ T.sa ?_
  refine set_next (st := { st with toks := st.toks + 1 }) I.kIn ga ns wi (by rw [List.length_map]; omega) cl hd T.isO ps free fun hp tk keep ns' => go _ ?_
  have some_b : ∃ o, hp.get? b = some o := ns'.ns.elim fun o z => z.elim fun _ z => z.elim fun _ z => ⟨o, z.1⟩
  refine I.write (t' := tk) (x := b) (e := b) (o := exd b ((f, y) :: fs)) ?_ (.inl rfl) keep some_b (exd_ok ns' (relO_put ry rel))
  rw [atb]
  exact True.intro
end
/-- self.f = e, self an exception that is being made -/
def tXst (K : PySem.W.Frag) (newId : String) (tl : List Value) (f : Str) (to te : TE) : TS := fun D σ H => te σ H fun y H1 => to σ H1 fun x H2 => ∃ a C : Addr, x = .ref a ∧ ExK K C newId tl ∧ PySem.W.findIn K (.ref C) f = some none ∧
  ((H2 a = some (exo a C none) ∧ ∀ b, H2 b = none → b ≠ a → D.nx σ (upd (upd H2 b (exd b [(f, y)])) a (exo a C (some b)))) ∨
    ∃ (b : Addr) (fs : List (Str × V)), H2 a = some (exo a C (some b)) ∧ H2 b = some (exd b fs) ∧ fs.length ≤ 900 ∧ D.nx σ (upd H2 b (exd b ((f, y) :: fs))))
/-- C(e, ..) as a value, C's own __init__ keeping sp -/
def tXmk (C : Addr) (sp : Sp) (ta : TA) : TE := fun σ H Q => ta σ H fun vs H1 => vs.length ≤ 1000 ∧ ∀ a, H1 a = none → sp (.ref a :: vs) (upd H1 a (exo a C none)) (fun v H2 => v = .non ∧ Q (.ref a) H2) (fun _ _ _ => False)
section
variable {X : Cx} {o e : Expr} {es : List Expr} {to te : TE} {ta : TA} {f x : Str} {p p' p1 p2 pos : Pos} {B newId initId : String} {tl : List Value}
theorem ps_xst (TT : XEx.Tail B newId initId tl) (ho : PE X o to) (he : PE X e te) (hs : swapsWith e (some (.Attribute o f p')) pos.line X.env = pure false := by rfl) : PS X (.Assign [.Attribute o f p'] e pos) (tXst X.K newId tl f to te) where
  run pins s0 σ H D I h := by
    refine plainObj_wpAny_Assign_Attribute ?_ hs
    refine thn (he.run pins s0 σ H _ I h) fun u s1 ⟨y, H1, I1, ry, h1⟩ => ?_
    refine thn (ho.run pins s1 σ H1 _ I1 h1) fun ua s2 ⟨xa, H2, I2, rx, a, C, xe, T, free, q⟩ => ?_
    cases xe
    cases (show ua = Value.ref a from rx)
    cases q with
    | inl q => exact put_first TT T I2 q.1 free ry fun b st' n ne J => ⟨σ, _, J, q.2 b n ne⟩
    | inr q =>
      obtain ⟨b, fs, at_, atb, few, q⟩ := q
      exact put_next TT T I2 at_ atb few free ry fun st' J => ⟨σ, _, J, q⟩
theorem pe_xmk {C fI : Addr} {k : Nat} {fd : FuncData} {ps : List Str} {sp : Sp} (TT : XEx.Tail B newId initId tl) (T : ExK X.K C newId tl) (iC : PySem.W.findIn X.K (.ref C) "__init__" = some (some (.ref fI))) (tI : PySem.W.typeIn X.K (.ref fI) = some (.type "function"))
    (Fi : FnOk X.prog X.w X.K X.mg X.base CX0 k fI fd ps sp) (room : Room (k + 1) X.A) (bi : Binds X.K fd ps []) (gl : Gl X x) (gm : X.mg x = some (.ref C)) (ha : PA X (e :: es) ta)
    (d1 : (x == ("__debug__" : Str)) = false := by decide) (d2 : starEach (e :: es) X.env = (false, eval e X.env) :: starEach es X.env := by rfl) (d3 : (backTo pos (starEach es X.env)).any (·.1) = false := by rfl) :
    PE X (.Call (.Name x p) (e :: es) [] pos) (tXmk C sp ta) where
  run pins s0 σ H Q I h := by
    obtain ⟨nm, q, N, bs, bm, sn, sub, ab, col, dd, k0, k1, k2, k3, k5, lk, tail⟩ := T.cls
    refine wpAny_Call_Name_kw (ld_glob I gl gm (PySem.W.callWith_K (h₀ := X.base) I.ok.mod.kin T.kC ?_ d2 d3) d1)
    refine thn (ha.run pos pins s0 σ H _ I h) fun us s1 ⟨vs, H1, I1, rs, few, go⟩ => ⟨I1.kIn, ?_⟩
    -- the tuple of its arguments, then self
    have up : s1.heap.objs.size ≤ s1.heap.objs.size + 1 := Nat.le_succ _
    have q := go (s1.heap.objs.size + 1) (I1.hok.fresh up)
    have self : ((s1.heap.push (PySem.W.kdv_tup us)).push (HandSPX.excO C s1.heap.objs.size)).get? (s1.heap.objs.size + 1) = some (HandSPX.excO C s1.heap.objs.size) := by heap_get
    have I2 := I1.laid (t' := s1.toks) (a := s1.heap.objs.size + 1) (o := exo (s1.heap.objs.size + 1) C none) (h' := (s1.heap.push (PySem.W.kdv_tup us)).push (HandSPX.excO C s1.heap.objs.size)) (fun z o y => Heap.get?_push_of_some _ (Heap.get?_push_of_some _ y)) up (exo_ok self)
    have rs2 : Vals (V.ref (s1.heap.objs.size + 1) :: vs) (Value.ref (s1.heap.objs.size + 1) :: us) := .cons rfl rs
    have many : (Value.ref (s1.heap.objs.size + 1) :: us).length = ps.length := rs2.length.symm.trans (Fi.len _ _ _ _ q)
    have bd := bi { s1 with heap := (s1.heap.push (PySem.W.kdv_tup us)).push (HandSPX.excO C s1.heap.objs.size) } _ I2.kIn ((congrArg List.length (List.append_nil _)).trans many)
    rw [List.append_nil] at bd
    have few' : us.length ≤ sizeLine := by
      have := rs.length
      rw [sizeLine_eq]
      omega
    refine wpAny_call (HandSPX.call_own TT.base (fun Y => PySem.W.excTail_contains Y bm tail) (I1.kIn _ _ lk) (PySem.W.looks_findIn I1.kIn iC) (fun z => PySem.W.bind_fn I1.kIn z tI) few' ?_)
    refine codeAny_mono (Fi.run _ X.stack _ _ { pos := Value.ref (s1.heap.objs.size + 1) :: us } _ _ _ (fun _ _ _ => False) (room.make C us []) (I2.env0.make C us []) bd rs2 q) fun r s2 back => ?_
    match r, back with
    | .ok (.ret v), ⟨_, H2, os2, bare2, un2, hok2, rv, ve, q2⟩ =>
      cases ve
      exact ⟨rv, .ref _, H2, I2.call' (ch := []) os2 un2 hok2 bare2 (fun b z => absurd z (by simp)), rfl, q2⟩
    | .error _, back => exact back.elim
    | .ok .next, back => exact back.elim
    | .ok .brk, back => exact back.elim
    | .ok .cont, back => exact back.elim
/-- C() where C has no own __init__ -/
theorem pe_xmk0 {C : Addr} {bmB : List Value} (F : ExcBaseFacts B newId initId bmB) (q : PySem.W.excIn X.K C bmB newId = true) (gC : X.mg x = some (.ref C)) (kC : PySem.W.keepIn X.K (.ref C) = true) (hg : Gl X x)
    (hdb : (x == ("__debug__" : Str)) = false := by decide) : PE X (.Call (.Name x p) [] [] pos) (fun σ H Q => ∀ a, H a = none → Q (.ref a) (upd H a (ExO (.ref C) a))) where
  run pins s0 σ H Q I h := by
    refine wpAny_Call_Name_kw (ld_glob I hg gC (PySem.W.callWith_K0 I.kIn kC ?_) hdb)
    obtain ⟨bm, N, nm, qn, bs, hdct, sn, sub, ab, col, dd, k0, k1, k2, k3, k5, mN, lk, ns, ni, T⟩ := exc_obj I.kIn q
    refine wpAny_call_exc_subT F T lk ns ni (fun hp a made => ?_) (Nat.zero_le _)
    obtain ⟨t1, at_, _, _⟩ := made.there
    exact ⟨.ref a, upd H a (ExO (.ref C) a), I.laidN made.keeps made.new (I.hok.gone made.new) (exO_ok at_ ⟨rfl, rfl⟩ rfl rfl rfl (show 4 < 6 by decide)), rfl, h a (I.hok.gone made.new)⟩
end

/-! ### fields, isinstance -/
/-- e.f, e an exception that has a dict -/
def tXfl (K : PySem.W.Frag) (te : TE) (f : Str) : TE := fun σ H Q => te σ H fun x H1 => ∃ (a C d : Addr) (fs : List (Str × V)) (v : V), x = .ref a ∧ H1 a = some (exo a C (some d)) ∧ H1 d = some (exd d fs) ∧ XfC K C ∧ PySem.W.findIn K (.ref C) f = some none ∧ fs.lookup f = some v ∧ Q v H1
theorem pe_xfl {X : Cx} {e : Expr} {te : TE} {f : Str} {pos : Pos} (he : PE X e te) (hb : attributeBase e f X.env (eval e X.env) = eval e X.env := by rfl) : PE X (.Attribute e f pos) (tXfl X.K te f) where
  run pins s0 σ H Q I h := attr_of hb (thn (he.run pins s0 σ H _ I h) fun ua s1 ⟨x, H1, I1, rx, a, C, d, fs, v, ex, ea, ed, T, free, l, q⟩ => by
    cases ex
    cases (show ua = Value.ref a from rx)
    obtain ⟨m, ns, rel⟩ := exd_at I1.hok ed
    obtain ⟨t1, at_⟩ := exo_at I1.hok ea
    obtain ⟨od, atd, look⟩ := lookIn_ns ns
    have has := rel f
    rw [l] at has
    obtain ⟨z, hz, rz⟩ := RelO.some_of has
    exact HandSPX.exc_get I1.kIn (od := some od) ⟨at_, rfl, rfl, atd⟩ T.ga T.gg T.exC (PySem.W.findObj_own T.hdC free rfl ((look f).trans (congrArg some hz))) (handed_of rz) ⟨v, H1, I1.tok _, rz, q⟩)
end X3
namespace X3
open PySem PySem.Spec PyProof.Rows L2
/-- an exception of the class at D stands at a -/
def ExAt (H : Hp) (a D : Addr) : Prop := H a = some (ExO (.ref D) a) ∨ ∃ d, H a = some (exo a D (some d)) ∧ ∃ fs, H d = some (exd d fs)
theorem exAt_inst {X : Cx} {pins : List (Addr × Obj)} {σ : L2.St} {H : Hp} {s : Shared} {a D : Addr} (I : Inv X pins σ H s) (h : ExAt H a D) : ∃ ox od, PySem.W.InstAt s.heap a ox D od := by
  rcases h with h | ⟨d, h, fs, hd⟩
  · obtain ⟨⟨oe, vs, ho, hz, hd, _⟩, _, _⟩ := I.hok a _ h
    obtain ⟨oc, oda, odt, osl⟩ := oe
    obtain ⟨h1, h2⟩ := hz
    dsimp only at h1 h2 hd
    subst h1 h2 hd
    exact ⟨_, none, ho, rfl, rfl, trivial⟩
  · obtain ⟨t1, ho⟩ := exo_at I.hok h
    obtain ⟨mA, hns, hr⟩ := exd_at I.hok hd
    obtain ⟨od, hod, _⟩ := lookIn_ns hns
    exact ⟨_, some od, ho, rfl, rfl, hod⟩
theorem kit_ex {K : PySem.W.Frag} {a D : Addr} {ox : Obj} {od : Option Obj} (C : ExcC K D) : PySem.W.KitX K (.ref a) (.ref D) (fun h => PySem.W.InstAt h a ox D od) :=
  PySem.W.kitx_exc (by obtain ⟨cd, h, _⟩ := PySem.W.any_some C.hd; rw [h]; rfl) C.hg C.hk C.hs C.ha C.hn C.ht C.hm
/-- isinstance(e, c), isinstance(e, (c, ..)) of an exception -/
def rIsX (K : PySem.W.Frag) : List V → Hp → VK → Prop := fun xs H Q => ∃ (a D : Addr) (c : V) (u : Value) (b : Bool), xs = [.ref a, c] ∧ ExAt H a D ∧ ExcC K D ∧ ClsV c u ∧ PySem.W.kitOne K (.ref D) u = some b ∧ Q (.bl b) H
def rIsXT (K : PySem.W.Frag) : List V → Hp → VK → Prop := fun xs H Q => ∃ (a D tp : Addr) (cs : List V) (us : List Value) (b : Bool), xs = [.ref a, .ref tp] ∧ SqT K H tp cs ∧ Paired ClsV cs us ∧ ExAt H a D ∧ ExcC K D ∧ PySem.W.kitAny K (.ref D) us = some b ∧ Q (.bl b) H
theorem call_isX {X : Cx} : CallR X (.builtin "isinstance") (rIsX X.K) := by
  intro pins st σ H xs us Q I r h
  obtain ⟨a, D, c, u, b, rfl, ea, C, k, e, q⟩ := h
  obtain ⟨ua, uc, rfl, r1, r2⟩ := vals2 r
  have e2 := k.eq r2
  subst e2
  cases (show ua = Value.ref a from r1)
  obtain ⟨ox, od, J⟩ := exAt_inst I ea
  exact PySem.W.kia_one (kit_ex C) I.kIn J e (fun z => nomatch z) fun tk => ⟨.bl b, H, I.tok tk, rfl, q⟩
theorem call_isXT {X : Cx} : CallR X (.builtin "isinstance") (rIsXT X.K) := by
  intro pins st σ H xs us Q I r h
  obtain ⟨a, D, tp, cs, ws, b, rfl, hT, k, ea, C, e, q⟩ := h
  obtain ⟨ua, uc, rfl, r1, r2⟩ := vals2 r
  cases (show uc = Value.ref tp from r2)
  cases (show ua = Value.ref a from r1)
  obtain ⟨its, rv, ⟨o, h1, h2, n, h3⟩, _⟩ := I.tuple hT
  have e3 := ClsV.all k rv
  subst e3
  obtain ⟨oc, od, dt, sl⟩ := o
  simp only at h2 h3
  subst h2 h3
  obtain ⟨ox, od', J⟩ := exAt_inst I ea
  exact PySem.W.kia_tup (kit_ex C) I.kIn J h1 e (fun z => nomatch z) fun tk => ⟨.bl b, H, I.tok tk, rfl, q⟩
/-- .. over data -/
theorem exAt_of {K : PySem.W.Frag} {G H : Hp} {v : V} {D : Addr} {fs : Option (List (Str × X3.D))} (le : Le G H) (h : Dat K G v (.exc D fs)) : ∃ a, v = .ref a ∧ ExAt H a D := by
  cases h with
  | exc0 h => exact ⟨_, rfl, .inl (le _ _ h)⟩
  | exc1 h1 h2 _ => exact ⟨_, rfl, .inr ⟨_, le _ _ h1, _, le _ _ h2⟩⟩
theorem lookup_cons {α : Type} (f g : Str) (y : α) (fs : List (Str × α)) : ((f, y) :: fs).lookup g = if g = f then some y else fs.lookup g := by
  by_cases h : g = f
  · rw [if_pos h, h]
    simp [List.lookup]
  · rw [if_neg h]
    have e : (g == f) = false := by simpa using h
    simp [List.lookup, e]
theorem DatF.lookup {K : PySem.W.Frag} {G : Hp} {f : Str} {y : X3.D} : ∀ {vs : List (Str × V)} {ds : List (Str × X3.D)}, DatF K G vs ds → (ds.lookup f = some y → ∃ u, vs.lookup f = some u ∧ Dat K G u y)
  | _, _, .nil => fun l => by cases l
  | _, _, .cons (k := k) (v := v) h r => fun l => by
    rw [lookup_cons] at l
    by_cases e : f = k
    · rw [if_pos e] at l
      cases l
      exact ⟨v, by rw [lookup_cons, if_pos e], h⟩
    · rw [if_neg e] at l
      obtain ⟨u, h1, h2⟩ := DatF.lookup r l
      exact ⟨u, by rw [lookup_cons, if_neg e]; exact h1, h2⟩
section
variable {K : PySem.W.Frag} {S : Res} {ρ : Rho} {Q : X3.D → Prop}
theorem wc_isX {C : Addr} {fs : Option (List (Str × X3.D))} {c : V} {u : Value} {b : Bool} (hc : ExcC K C) (k : ClsV c u) (e : PySem.W.kitOne K (.ref C) u = some b) (q : Q (.bl b)) : WRC K S (rIsX K) [.exc C fs, .val c] Q := fun G H vs kk w dx cc => by
  cases dx with
  | cons a r =>
    cases r with
    | cons a2 r =>
      cases r
      cases a2
      obtain ⟨p, rfl, ea⟩ := exAt_of w.le a
      exact ⟨p, C, c, u, b, rfl, ea, hc, k, e, cc _ _ G H (.refl w) (.bl b) q⟩
/-- e.f -/
theorem we_xfl {te : TE} {f : Str} (h : WE K S te ρ fun d => ∃ C fs y, d = .exc C (some fs) ∧ XfC K C ∧ PySem.W.findIn K (.ref C) f = some none ∧ fs.lookup f = some y ∧ Q y) : WE K S (tXfl K te f) ρ Q := fun σ G H k w sl c =>
  h σ G H _ w sl fun v d G' H' s dt q => by
    obtain ⟨C, fs, y, rfl, T, hno, l, q⟩ := q
    cases dt with
    | exc1 h1 h2 r =>
      obtain ⟨u, hu, du⟩ := r.lookup l
      exact ⟨_, C, _, _, u, rfl, s.w.le _ _ h1, s.w.le _ _ h2, T, hno, hu, c u y G' H' s du q⟩
/-- C() -/
theorem we_xmk0 {C : Addr} (q : Q (.exc C none)) : WE K S (fun σ H Q => ∀ a, H a = none → Q (.ref a) (upd H a (ExO (.ref C) a))) ρ Q := fun σ G H k w sl c => by
  intro a ha
  exact c _ _ _ _ (.new w ha) (.exc0 upd_same) q
end
end X3

set_option Elab.async false
set_option linter.all false
set_option maxRecDepth 100000
set_option maxHeartbeats 4000000
/-! # The own __init__ of an exception, over data -/
namespace X3
open PySem PySem.Spec PyProof.Rows L2
section
variable {K : PySem.W.Frag} {S : Res} {G Hc G1 H1 : Hp} {a C dx : Addr} {newId : String} {tl : List Value} {Q : VK}
/-- the exception and its dict become data -/
theorem stp_exc {fs : List (Str × V)} (w : Wld S G Hc) (ha : Hc a = none) (s : Stp S G (upd Hc a (exo a C none)) G1 H1) (hd : H1 dx = none) (hne : dx ≠ a) :
    Stp S G Hc (upd (upd G1 dx (exd dx fs)) a (exo a C (some dx))) (upd (upd H1 dx (exd dx fs)) a (exo a C (some dx))) := by
  have na : ¬ S.fp a := w.nfp ha
  have nd : ¬ S.fp dx := s.w.nfp hd
  have ga : G1 a = none := by
    cases e : G1 a with
    | none => rfl
    | some o =>
      rcases s.nw a o e with z | z
      · rw [w.fresh ha] at z
        cases z
      · rw [upd_same] at z
        cases z
  have hdc : Hc dx = none := by
    cases e : Hc dx with
    | none => rfl
    | some o =>
      have z := s.hh dx o nd (by rw [upd_ne hne]; exact e)
      rw [hd] at z
      cases z
  refine ⟨fun b o e => ?_, fun b o nf e => ?_, fun b o e => ?_, ⟨fun b o e => ?_, ?_, fun b f => ?_⟩⟩
  · have e1 := s.gg b o e
    rw [upd_ne (ne_of_none e1 ga), upd_ne (ne_of_none e1 (s.w.fresh hd))]
    exact e1
  · have e1 := s.hh b o nf (by rw [upd_ne (ne_of_none e ha)]; exact e)
    rw [upd_ne (ne_of_none e ha), upd_ne (ne_of_none e1 hd)]
    exact e1
  · by_cases x : b = a
    · exact .inr (by rw [x]; exact ha)
    · rw [upd_ne x] at e
      by_cases y : b = dx
      · exact .inr (by rw [y]; exact hdc)
      · rw [upd_ne y] at e
        rcases s.nw b o e with z | z
        · exact .inl z
        · rw [upd_ne x] at z
          exact .inr z
  · by_cases x : b = a
    · subst x
      rw [upd_same] at e ⊢
      exact e
    · rw [upd_ne x] at e ⊢
      by_cases y : b = dx
      · subst y
        rw [upd_same] at e ⊢
        exact e
      · rw [upd_ne y] at e ⊢
        exact s.w.le b o e
  · refine S.loc H1 _ (fun b f => ?_) s.w.src
    rw [upd_ne (fun z : b = a => na (by rw [← z]; exact f)), upd_ne (fun z : b = dx => nd (by rw [← z]; exact f))]
  · rw [upd_ne (fun z : b = a => na (by rw [← z]; exact f)), upd_ne (fun z : b = dx => nd (by rw [← z]; exact f))]
    exact s.w.sep b f
theorem exo_there (w : Wld S G Hc) (ha : Hc a = none) (s : Stp S G (upd Hc a (exo a C none)) G1 H1) : H1 a = some (exo a C none) := s.hh a _ (w.nfp ha) upd_same
theorem wld_exo (w : Wld S G Hc) (ha : Hc a = none) : Wld S G (upd Hc a (exo a C none)) := (Stp.junk w (Le.new ha)).w
/-- self.f = te, and no more -/
def spX1 (K : PySem.W.Frag) (newId : String) (tl : List Value) (f : Str) (P : X3.D → (X3.D → Prop) → Prop) : Sp := fun vs H Q _ => ∃ (a C : Addr) (v : V) (S : Res) (G Hc : Hp) (d : X3.D) (q : X3.D → Prop),
  vs = [.ref a, v] ∧ Hc a = none ∧ H = upd Hc a (exo a C none) ∧ ExK K C newId tl ∧ PySem.W.findIn K (.ref C) f = some none ∧ Wld S G Hc ∧ Dat K G v d ∧ P d q ∧ ∀ dy G2 H2, Stp S G Hc G2 H2 → Dat K G2 (.ref a) (.exc C (some [(f, dy)])) → q dy → Q .non H2
theorem read_x1 {f : Str} {te : TE} {P : X3.D → (X3.D → Prop) → Prop} {vs : List V} {H : Hp} {E : XK} (h : spX1 K newId tl f P vs H Q E) (ht : ∀ S d q, P d q → WE K S te [.no, .dat d] q) (N : List Str) (hN : N.length = 2) :
    tXst K newId tl f (tVar 0) te { nx := fun _ H' => Q .non H', rt := Q } (L2.start N vs) H := by
  obtain ⟨a, C, v, S, G, Hc, d, q, rfl, ha, rfl, T, hno, w, dt, hp, k⟩ := h
  have hst : L2.start N [.ref a, v] = [some (.ref a), some v] := by
    unfold L2.start
    rw [hN]
    rfl
  rw [hst]
  have sl : Slots K G [some (.ref a), some v] [.no, .dat d] := ⟨rfl, fun i d' e => by
    match i, e with
    | 0, e => cases e
    | 1, e =>
      cases e
      exact ⟨v, rfl, dt⟩⟩
  refine ht S d q hp _ G _ _ (wld_exo w ha) sl fun y dy G1 H1 s dty qy => ?_
  refine ⟨_, rfl, a, C, rfl, T, hno, .inl ⟨exo_there w ha s, fun dx hd hne => ?_⟩⟩
  have le1 : Le G1 (upd (upd G1 dx (exd dx [(f, y)])) a (exo a C (some dx))) := by
    intro b o e
    have x : b ≠ a := fun z => by
      subst z
      rcases s.nw b o e with z | z
      · rw [w.fresh ha] at z
        cases z
      · rw [upd_same] at z
        cases z
    rw [upd_ne x, upd_ne (ne_of_none e (s.w.fresh hd))]
    exact e
  exact k dy _ _ (stp_exc w ha s hd hne) (.exc1 upd_same (by rw [upd_ne hne, upd_same]) (.cons (dty.mono le1) .nil)) qy
/-- C(e) -/
theorem we_x1 {tA : TA} {f : Str} {P : X3.D → (X3.D → Prop) → Prop} {ρ : Rho} {q : X3.D → Prop} (T : ExK K C newId tl) (hno : PySem.W.findIn K (.ref C) f = some none) (h : WA K S tA ρ fun ds => ∃ d, ds = [d] ∧ P d fun dy => q (.exc C (some [(f, dy)]))) :
    WE K S (tXmk C (spX1 K newId tl f P) tA) ρ q := fun σ G H k w sl c => by
  refine h σ G H _ w sl fun vs ds G' H' s dt q' => ?_
  obtain ⟨d, rfl, hp⟩ := q'
  cases dt with
  | cons dv r =>
    cases r
    refine ⟨(by show 1 ≤ 1000; decide), fun a ha => ⟨a, C, _, S, G', H', d, _, rfl, ha, rfl, T, hno, s.w, dv, hp, fun dy G2 H2 s2 d2 q2 => ⟨rfl, ?_⟩⟩⟩
    exact c _ _ G2 H2 (s.trans s2) d2 q2
/-- self.f = a; self.g = b -/
def spX2 (K : PySem.W.Frag) (newId : String) (tl : List Value) (f g : Str) : Sp := fun vs H Q _ => ∃ (a C : Addr) (v1 v2 : V) (S : Res) (G Hc : Hp) (d1 d2 : X3.D),
  vs = [.ref a, v1, v2] ∧ Hc a = none ∧ H = upd Hc a (exo a C none) ∧ ExK K C newId tl ∧ PySem.W.findIn K (.ref C) f = some none ∧ PySem.W.findIn K (.ref C) g = some none ∧ Wld S G Hc ∧ Dat K G v1 d1 ∧ Dat K G v2 d2 ∧ ∀ G2 H2, Stp S G Hc G2 H2 → Dat K G2 (.ref a) (.exc C (some [(g, d2), (f, d1)])) → Q .non H2
theorem read_x2 {f g : Str} {vs : List V} {H : Hp} {E : XK} (h : spX2 K newId tl f g vs H Q E) (N : List Str) (hN : N.length = 3) :
    tSeq (tXst K newId tl f (tVar 0) (tVar 1)) (tXst K newId tl g (tVar 0) (tVar 2)) { nx := fun _ H' => Q .non H', rt := Q } (L2.start N vs) H := by
  obtain ⟨a, C, v1, v2, S, G, Hc, d1, d2, rfl, ha, rfl, T, hf, hg, w, dt1, dt2, k⟩ := h
  have hst : L2.start N [.ref a, v1, v2] = [some (.ref a), some v1, some v2] := by
    unfold L2.start
    rw [hN]
    rfl
  rw [hst]
  have s : Stp S G (upd Hc a (exo a C none)) G (upd Hc a (exo a C none)) := .refl (wld_exo w ha)
  refine ⟨_, rfl, _, rfl, a, C, rfl, T, hf, .inl ⟨upd_same, fun dx hd hne => ?_⟩⟩
  refine ⟨_, rfl, _, rfl, a, C, rfl, T, hg, .inr ⟨dx, [(f, v1)], upd_same, by rw [upd_ne hne, upd_same], (by show 1 ≤ 900; decide), ?_⟩⟩
  have st := stp_exc (fs := [(g, v2), (f, v1)]) w ha s hd hne
  have eq : upd (upd (upd (upd Hc a (exo a C none)) dx (exd dx [(f, v1)])) a (exo a C (some dx))) dx (exd dx [(g, v2), (f, v1)]) = upd (upd (upd Hc a (exo a C none)) dx (exd dx [(g, v2), (f, v1)])) a (exo a C (some dx)) := by
    funext b
    by_cases x : b = dx
    · subst x
      rw [upd_same, upd_ne hne, upd_same]
    · rw [upd_ne x]
      by_cases y : b = a
      · subst y
        rw [upd_same, upd_same]
      · simp only [upd_ne y, upd_ne x]
  rw [eq]
  have le1 : Le G (upd (upd G dx (exd dx [(g, v2), (f, v1)])) a (exo a C (some dx))) := st.gg
  exact k _ _ st (.exc1 upd_same (by rw [upd_ne hne, upd_same]) (.cons (dt2.mono le1) (.cons (dt1.mono le1) .nil)))
theorem we_x2 {tA : TA} {f g : Str} {ρ : Rho} {q : X3.D → Prop} (T : ExK K C newId tl) (hf : PySem.W.findIn K (.ref C) f = some none) (hg : PySem.W.findIn K (.ref C) g = some none) (h : WA K S tA ρ fun ds => ∃ d1 d2, ds = [d1, d2] ∧ q (.exc C (some [(g, d2), (f, d1)]))) :
    WE K S (tXmk C (spX2 K newId tl f g) tA) ρ q := fun σ G H k w sl c => by
  refine h σ G H _ w sl fun vs ds G' H' s dt q' => ?_
  obtain ⟨d1, d2, rfl, hp⟩ := q'
  cases dt with
  | cons dv r =>
    cases r with
    | cons dv2 r =>
      cases r
      refine ⟨(by show 2 ≤ 1000; decide), fun a ha => ⟨a, C, _, _, S, G', H', d1, d2, rfl, ha, rfl, T, hf, hg, s.w, dv, dv2, fun G2 H2 s2 dd => ⟨rfl, ?_⟩⟩⟩
      exact c _ _ G2 H2 (s.trans s2) dd hp
end
end X3

set_option Elab.async false
set_option linter.all false
set_option maxRecDepth 100000
set_option maxHeartbeats 4000000
/-! # Defs that ask repr: promises where no repr runs around; the law's own end -/
namespace X3
open PySem PySem.Spec L2 PyProof.Rows
/-- a def's promise, kept where nothing is being shown (no guard is held) -/
structure FnG (P : Program) (w : World) (K : PySem.W.Frag) (mg : Str → Option Value) (base : Heap) (CX : CXT) (k : Nat) (f : Addr) (fd : FuncData) (ps : List Str) (sp : Sp) : Prop where
  many : ∀ {vs H Q E}, sp vs H Q E → vs.length = ps.length
  keeps : ∀ {A : Around} {out : List Env} {st : Shared} {H : Hp} {us : List Value} {vs : List V} {Q : VK} {E : XK}, A.guards = some [] → Room k A → Env0 P w K mg base A out st H → BindsTo st fd { pos := us } (ps.zip us) → Vals vs us → sp vs H Q E →
    codeAny (model P w) A (.call (.ref f) { pos := us }) (CR CX out P w H st Q E) st
section
variable {P : Program} {w : World} {K : PySem.W.Frag} {mg : Str → Option Value} {base : Heap} {x qual : Str} {dstm : Stmt} {f : Addr} {fd : FuncData} {N ps : List Str} {k : Nat} {sp : Sp}
theorem Fun.okG (F : Fun K x qual dstm f fd) (sc : FnScope N ps (defScope dstm)) (many : ∀ vs H Q E, sp vs H Q E → vs.length = ps.length)
    (body : ∀ (cv : Value) (A : Around) (out : List Env) (st : Shared) (H : Hp) (vs : List V) (Q : VK) (E : XK), A.guards = some [] → Room k (A.deeper (envOfC qual (defScope dstm) st.heap.objs.size f cv)) → sp vs H Q E →
      ∃ t, PSs (cxOf CX0 P w K mg base N qual (defScope dstm) f cv A out st H E).nox (defBody dstm) t ∧ t { nx := fun _ H' => Q .non H', rt := Q } (start N vs) H) : FnG P w K mg base CX0 (k + 1) f fd ps sp where
  many h := many _ _ _ _ h
  keeps {A out st H us vs Q E} guard room e0 bound rs want := by
    obtain ⟨c0, d0, v1, v2, v3, a0, cv, v4, sl, rfl, lk, code⟩ := F.ex
    have here : ∀ b o, base.get? b = some o → st.heap.get? b = some o := fun b o e => (e0.bs b o e).1
    have KH := e0.mod.kin.keeps here
    refine codeAny_call_function (room.depth) (KH _ _ lk) rfl sc.co sc.gen rfl (PySem.W.codeRec_of KH code) (bound _ _ _ _ ?_)
    refine wpAny_newFunctionEnv_cells sc.kind (fun y hy => ?_) fun env same st1 ne => ?_
    · cases sc.par y.1 (List.of_mem_zip (a := y.1) (b := y.2) hy).1 with
      | inl z => exact .inl z
      | inr z => exact .inr ⟨z, PySem.W.cellsFrom_some _ _ _ (.inl z)⟩
    · cases same
      obtain ⟨t, der, rd⟩ := body cv A out st H vs Q E guard (room.deeper _) want
      have lim := (e0.mod.nolimit.keeps here).keeps ne.toInCall.keep
      have at_start := inv_start (CX := CX0) (E := E) sc room.hd e0 (many _ _ _ _ want) rs ne
      refine ⟨lim, codeAny_func (wpAny_mono (der.nox.run [] st1 (start N vs) H _ at_start rd) (fun fl st2 z => ?_) fun _ _ z => z)⟩
      match fl, z with
      | .ret u, ⟨v, _, H2, J, rv, q⟩ => exact ⟨v, H2, J.os, J.bare, J.base, J.hok, rv, q⟩
      | .next, ⟨_, H2, J, q⟩ => exact ⟨.non, H2, J.os, J.bare, J.base, J.hok, rfl, q⟩
      | .brk, ⟨_, _, _, no⟩ => exact (show False from no).elim
      | .cont, ⟨_, _, _, no⟩ => exact (show False from no).elim
end
section
variable {X : Cx} {k : Nat} {f : Addr} {fd : FuncData} {ps : List Str} {sp : Sp} {E : XK} {x : Str} {p pos : Pos} {e : Expr} {es : List Expr} {t : TA}
theorem pe_callG (F : FnG X.prog X.w X.K X.mg X.base CX0 k f fd ps sp) (guard : X.A.guards = some []) (room : Room k X.A) (gl : Gl X x) (gm : X.mg x = some (.ref f)) (kp : PySem.W.keepIn X.K (.ref f) = true) (bi : Binds X.K fd ps []) (ha : PA X (e :: es) t)
    (d1 : (x == ("__debug__" : Str)) = false := by decide) (d2 : starEach (e :: es) X.env = (false, eval e X.env) :: starEach es X.env := by rfl) (d3 : (backTo pos (starEach es X.env)).any (·.1) = false := by rfl) :
    PE X (.Call (.Name x p) (e :: es) [] pos) (tCall sp [] E t) where
  run pins s0 σ H Q I h := by
    refine wpAny_Call_Name_kw (ld_glob I gl gm (PySem.W.callWith_K (h₀ := X.base) I.ok.mod.kin kp ?_ d2 d3) d1)
    refine thn (ha.run pos pins s0 σ H _ I h) fun us s1 ⟨vs, H1, I1, rs, want⟩ => ⟨I1.kIn, ?_⟩
    have want : sp vs H1 Q E := List.append_nil vs ▸ want
    have bd := bi s1 us I1.kIn ((congrArg List.length (List.append_nil us)).trans (rs.length.symm.trans (F.many want)))
    rw [List.append_nil] at bd
    refine wpAny_call (codeAny_mono (F.keeps (out := X.stack) guard room I1.env0 bd rs want) fun r s2 back => ?_)
    match r, back with
    | .ok (.ret _), back => exact I1.after back
    | .error _, no => exact no.elim
    | .ok .next, no => exact no.elim
    | .ok .brk, no => exact no.elim
    | .ok .cont, no => exact no.elim
end
/-- at the address of sys.modules stands a dict -/
def One (h : Heap) : Prop := ∃ o es ep, h.get? sysModules = some o ∧ o.data = .dict es ep
/-- the law's call: the script alone is tracked, and read only -/
theorem law_callG {P : Program} {w : World} {K : PySem.W.Frag} {mg mb : Str → Option Value} {k : Nat} {fa a : Addr} {fd : FuncData} {x : Str} {sp : Sp} {st : Shared} {us : List Value} {ns : List Int}
    (KI : K.In st.heap) (gns : st.heap.Ns mainGlobals mg) (bns : st.heap.Ns builtinsNs mb) (blt : ∀ y : Str, y ≠ "__name__" → mb y = bootBuiltins y) (lim : st.heap.NoLimit) (bare : st.gens = #[]) (at_ : st.heap.get? a = some { cls := .type "list", data := .seq us.toArray })
    (allI : IntsAre us ns) (few : ns.length ≤ sizeLine) (room : Room k callerA) (one : One st.heap) (F : ∀ base : Heap, K.In base → base.Ns mainGlobals mg → One base → FnG P w K mg base CX0 k fa fd [x] sp) (bi : ∀ (s : Shared) (u : Value), BindsTo s fd { pos := [u] } [(x, u)])
    (want : ∀ H : Hp, SqL K H a (ns.map V.int) → sp [.ref a] H (fun v _ => v = .bl true) fun _ _ _ => False) :
    codeAny (model P w) callerA (.call (.ref fa) { pos := [.ref a] }) (fun r s2 => r = .ok (.ret (.bool true)) ∧ OldK st.heap s2.heap ∧ s2.os = st.os ∧ AllBare s2.gens) st := by
  have rs := vals_ints allI
  let ob : Obj := { cls := .type "list", data := .seq us.toArray }
  -- what is told: the script, unless the written part holds it
  let H : Hp := fun b => if b = a ∧ K.lookup a = none then some (.frz ob (.lst (ns.map V.int))) else none
  have told : ∀ {b o}, H b = some o → b = a ∧ K.lookup a = none ∧ o = .frz ob (.lst (ns.map V.int)) := fun {b o} e => by
    have e' : (if b = a ∧ K.lookup a = none then some (HO.frz ob (.lst (ns.map V.int))) else none) = some o := e
    split at e'
    · rename_i c
      exact ⟨c.1, c.2, (Option.some.inj e').symm⟩
    · cases e'
  have sees : SqL K H a (ns.map V.int) := by
    cases lk : K.lookup a with
    | none => exact .inl (.inr ⟨ob, if_pos ⟨rfl, lk⟩⟩)
    | some o =>
      have e := KI a o lk
      have e : ob = o := Option.some.inj (at_.symm.trans e)
      have size : us.toArray.size ≤ sizeLine := by
        rw [List.size_toArray, allI.length]
        exact few
      exact .inr ⟨ob, us.toArray, _, e ▸ lk, rfl, rfl, rfl, size, by simpa using rs⟩
  have okH : HOk P w H st.heap := fun b o e => by
    obtain ⟨z, _, z2⟩ := told e
    rw [z, z2]
    exact ⟨at_, (List.length_map (V.int)).symm ▸ few, us, _, rs, at_⟩
  have untold : ∀ {b o}, st.heap.get? b = some o → o ≠ ob → H b = none := fun {b o} e ne => by
    cases q : H b with
    | none => rfl
    | some z =>
      rw [(told q).1, at_] at e
      exact absurd (Option.some.inj e).symm ne
  have nsH : ∀ {b m}, st.heap.Ns b m → (hidT st.heap H).Ns b m := fun {b m} ⟨o, es, ep, e, dt, r⟩ => ⟨o, es, ep, hidT_get e (untold e fun z => by rw [z] at dt; cases dt), dt, r⟩
  have KB : K.In (hidT st.heap H) := fun b o lk => by
    refine hidT_get (KI b o lk) ?_
    cases q : H b with
    | none => rfl
    | some z =>
      obtain ⟨y, no, _⟩ := told q
      rw [y, no] at lk
      cases lk
  have top : Mod K mg (hidT st.heap H) := ⟨KB, nsH gns, ⟨mb, nsH bns, blt⟩, lim.elim fun m z => ⟨m, nsH z.1, z.2⟩⟩
  have e0 : Env0 P w K mg (hidT st.heap H) callerA [] st H :=
    { frames := rfl, mod := top, bs := fun b o e => of_hidT e, bsz := Nat.le_of_eq (hidT_size _ _), funs := trivial, frf := fun b z => (by cases z), hok := okH, bare := .of_eq bare }
  have one' : One (hidT st.heap H) := by
    obtain ⟨o, es, ep, e, dt⟩ := one
    exact ⟨o, es, ep, hidT_get e (untold e fun z => by rw [z] at dt; cases dt), dt⟩
  refine codeAny_mono ((F _ KB (nsH gns) one').keeps (out := []) rfl room e0 (bi st (.ref a)) (vs := [.ref a]) (.cons rfl .nil) (want H sees)) fun r s2 back => ?_
  match r, back with
  | .error _, no => exact no.elim
  | .ok .next, no => exact no.elim
  | .ok .brk, no => exact no.elim
  | .ok .cont, no => exact no.elim
  | .ok (.ret u), ⟨v, H2, os, bare2, un, ok2, rv, q⟩ =>
    cases (show v = .bl true from q)
    cases (show u = Value.bool true from rv)
    refine ⟨rfl, .of_keep fun b o e => ?_, os, bare2⟩
    cases q2 : H b with
    | none => exact un.keep b o e q2 nofun nofun
    | some z =>
      obtain ⟨y, _, y2⟩ := told q2
      have still := (ok2 b _ (un.frzs b _ _ (y2 ▸ q2))).1
      rw [y] at e still ⊢
      rw [at_] at e
      cases e
      exact still
theorem walk_ofG {l : PySem.W.OpenLaw} {n k : Nat} {q : Program} {loose : List Str} {XP : (Str → Option Value) → Heap → Prop} {YP : World → Heap → Prop} {d : DefRec} {K : Params → PySem.W.Frag} {sp : World → Sp} {x : Str} (imp : importsNone q = true) (most : l.most = some n) (few : n ≤ sizeLine) (plain : d.params.defaults = []) (room : Room k callerA)
    (KI : ∀ (w : World) (h : Heap), YP w h → (K w.params).In h)
    (F : ∀ (w : World) (mg : Str → Option Value) (fa : Addr) (h : Heap), (K w.params).In h → h.Ns mainGlobals mg → mg d.name = some (.ref fa) → ∃ fd : FuncData, (∀ (s : Shared) (u : Value), BindsTo s fd { pos := [u] } [(x, u)]) ∧ ∀ base : Heap, (K w.params).In base → base.Ns mainGlobals mg → One base → FnG l.prog w (K w.params) mg base CX0 k fa fd [x] (sp w))
    (want : ∀ (w : World) (H : Hp) (a : Addr) (ns : List Int), ns.length ≤ n → SqL (K w.params) H a (ns.map V.int) → sp w [.ref a] H (fun v _ => v = .bl true) fun _ _ _ => False) : PySem.W.WalkO q loose XP YP l.row.toRowW d [] (fun f vs => PySem.call f vs) := by
  refine Att.attach_call most plain fun w s0 st mg mb fa o pm cd doc a us ns G Y _ _ _ gm at_ allI len bare => ?_
  have T := G.T
  obtain ⟨fd, bi, F'⟩ := F w mg fa _ (KI w _ Y) T.g gm
  refine law_callG (KI w _ Y) T.g T.b T.builtins T.nolimit bare at_ allI (Nat.le_trans len few) room ?_ F' bi fun H sees => want w H a ns len sees
  obtain ⟨_, ⟨o, es, ep, e, dt, _⟩, _⟩ := (T.seer imp).mods
  exact ⟨o, es, ep, e, dt⟩
end X3

set_option Elab.async false
set_option linter.all false
set_option maxRecDepth 100000
set_option maxHeartbeats 4000000
/-! # repr of data -/
namespace X3
open PySem PySem.Spec PyProof.Rows L2
mutual
/-- data as the library's own, with dicts that are empty or have one text for a key, and an int -/
inductive Rp (K : PySem.W.Frag) (H : Hp) : V → PyData → Prop
  | non : Rp K H .non .none
  | bl (b : Bool) : Rp K H (.bl b) (.bool b)
  | int (i : Int) : Rp K H (.int i) (.int i)
  | str (x : Str) : Rp K H (.str x) (.str x)
  | lst {a : Addr} {xs : List V} {ds : List PyData} : SqL K H a xs → RpL K H xs ds → Rp K H (.ref a) (.list ds)
  | tup {a : Addr} {xs : List V} {ds : List PyData} : SqT K H a xs → RpL K H xs ds → Rp K H (.ref a) (.tuple ds)
  | dict0 {a : Addr} : H a = some (.dK []) → Rp K H (.ref a) (.dict [])
  | dict1 {a : Addr} {k : Str} {i : Int} : H a = some (.dK [(.inr k, .int i)]) → Rp K H (.ref a) (.dict [(.str k, .int i)])
inductive RpL (K : PySem.W.Frag) (H : Hp) : List V → List PyData → Prop
  | nil : RpL K H [] []
  | cons {v : V} {vs : List V} {d : PyData} {ds : List PyData} : Rp K H v d → RpL K H vs ds → RpL K H (v :: vs) (d :: ds)
end
section
variable {X : Cx} {pins : List (Addr × Obj)} {σ : L2.St} {H : Hp} {s : Shared}
mutual
theorem Rp.reads (I : Inv X pins σ H s) (hn : One X.base) : ∀ {d : PyData} {v : V} {u : Value}, Rp X.K H v d → RelV v u → ∃ as, Reads s.heap u d as ∧ sysModules ∉ as
  | _, _, _, .non, r => by
    cases r
    exact ⟨_, Reads.none, by simp⟩
  | _, _, _, .bl b, r => by
    cases r
    exact ⟨_, Reads.bool b, by simp⟩
  | _, _, _, .int i, r => by
    obtain ⟨t, rfl⟩ := r
    exact ⟨_, Reads.int i t, by simp⟩
  | _, _, _, .str x, r => by
    obtain ⟨t, rfl⟩ := r
    exact ⟨_, Reads.str x t, by simp⟩
  | _, _, _, .lst (a := a) hs ha, r => by
    cases r
    obtain ⟨its, rv, ⟨o, n, ho, hc, _, hd⟩, -⟩ := I.list hs
    obtain ⟨as, hr, hm⟩ := RpL.reads I hn ha rv
    refine ⟨_, Reads.list ho hc hd hr, ?_⟩
    obtain ⟨o2, es, ep, h2, h3⟩ := hn
    have ne : a ≠ sysModules := fun z => by
      have e := I.bk _ _ h2
      rw [← z, ho] at e
      cases e
      rw [hd] at h3
      cases h3
    simp only [List.mem_cons, not_or]
    exact ⟨fun z => ne z.symm, hm⟩
  | _, _, _, .tup hs ha, r => by
    cases r
    obtain ⟨its, rv, ⟨o, ho, hc, n, hd⟩, -⟩ := I.tuple hs
    obtain ⟨as, hr, hm⟩ := RpL.reads I hn ha rv
    exact ⟨_, Reads.tuple ho hc hd hr, hm⟩
  | _, _, _, .dict0 (a := a) h, r => by
    cases r
    obtain ⟨_, hS, vs, rel, o, es, ep, e, ex, ed, kk, pr, _⟩ := dk_of I.hok h
    have ne : ¬ (a = sysModules) := by simpa using hS
    cases rel
    generalize hl : es.toList = l at pr
    cases pr
    refine ⟨_, Reads.dict (kvs := []) e ex.1 ed (by rw [hl]; exact ReadsAll.nil) (by rw [hl]; exact ReadsAll.nil), ?_⟩
    simp only [List.append_nil, List.mem_cons, List.not_mem_nil, or_false]
    exact fun z => ne z.symm
  | _, _, _, .dict1 (a := a) (k := k0) (i := i0) h, r => by
    cases r
    obtain ⟨_, hS, vs, rel, o, es, ep, e, ex, ed, kk, pr, _⟩ := dk_of I.hok h
    have ne : ¬ (a = sysModules) := by simpa using hS
    obtain ⟨kv, rfl, rk1, rk2⟩ : ∃ kv, vs = [kv] ∧ Sum.inr k0 = kv.1 ∧ L2.RelV (.int i0) kv.2 := by
      cases rel with
      | cons rk rr =>
        cases rr
        exact ⟨_, rfl, rk.1, rk.2⟩
    obtain ⟨kk0, vv0⟩ := kv
    dsimp only at rk1 rk2
    subst rk1
    obtain ⟨t, rfl⟩ := rk2
    generalize hl : es.toList = l at pr
    cases pr with
    | cons hk hv hp =>
        cases hp
        rename_i en
        dsimp only at hk hv
        obtain ⟨t2, ek⟩ : ∃ t2, en.key = .str k0 t2 := by
          rcases keyIs_shape (show keyIs (.inr k0) en.key = true from hk) with ⟨i, t, q, _⟩ | ⟨x, t, q, e2⟩
          · cases q
          · cases q
            exact ⟨t, e2⟩
        refine ⟨_, Reads.dict (kvs := [(.str k0, .int i0)]) e ex.1 ed (by rw [hl]; simp only [List.map]; rw [ek]; exact ReadsAll.cons (Reads.str k0 t2) ReadsAll.nil) (by rw [hl]; simp only [List.map]; rw [hv]; exact ReadsAll.cons (Reads.int i0 t) ReadsAll.nil), ?_⟩
        simp only [List.append_nil, List.mem_cons, List.not_mem_nil, or_false]
        exact fun z => ne z.symm
theorem RpL.reads (I : Inv X pins σ H s) (hn : One X.base) : ∀ {ds : List PyData} {vs : List V} {us : List Value}, RpL X.K H vs ds → Vals vs us → ∃ as, ReadsAll s.heap us ds as ∧ sysModules ∉ as
  | _, _, _, .nil, r => by
    cases r
    exact ⟨_, ReadsAll.nil, by simp⟩
  | _, _, _, .cons h1 h2, r => by
    cases r with
    | cons r1 r2 =>
      obtain ⟨as, q1, m1⟩ := Rp.reads I hn h1 r1
      obtain ⟨bs, q2, m2⟩ := RpL.reads I hn h2 r2
      exact ⟨_, ReadsAll.cons q1 q2, fun z => (List.mem_append.mp z).elim m1 m2⟩
end
end
/-- repr(x): x told as data -/
def rRepr (K : PySem.W.Frag) : List V → Hp → VK → Prop := fun xs H Q => ∃ (x : V) (d : PyData), xs = [x] ∧ (∃ a, x = .ref a) ∧ Rp K H x d ∧ d.showable = true ∧ d.depth ≤ 60 ∧ d.shown.length ≤ sizeLine ∧ Q (.str d.shown) H
theorem call_repr {X : Cx} (hg : X.A.guards = some []) (hu : X.A.units + 64 < cLine) (hn : One X.base) : CallR X (.builtin "repr") (rRepr X.K) := by
  intro pins st σ H xs us Q I r h
  obtain ⟨x, d, rfl, ⟨a, rfl⟩, rp, hs, hd, hz, q⟩ := h
  obtain ⟨u, rfl, ru⟩ := vals1 r
  cases (show u = Value.ref a from ru)
  obtain ⟨as, hr, hm⟩ := Rp.reads I hn rp rfl
  exact repr_of_reads' hr hs (fun _ => hm) hg (by omega) (fun _ _ e => e) (fun h' u tk hk => ⟨.str d.shown, H, I.kept hk, ⟨_, rfl⟩, q⟩) hz
mutual
/-- data as the library's own -/
def D.rp : X3.D → PyData
  | .non => .none
  | .bl b => .bool b
  | .int i => .int i
  | .str x => .str x
  | .list ds => .list (D.rps ds)
  | .tup ds => .tuple (D.rps ds)
  | .dict [(.inr k, .int i)] => .dict [(.str k, .int i)]
  | _ => .dict []
def D.rps : List X3.D → List PyData
  | [] => []
  | d :: ds => D.rp d :: D.rps ds
end
mutual
def D.shw : X3.D → Bool
  | .non => true
  | .bl _ => true
  | .int i => decide (i.natAbs.log2 < 1920)
  | .str _ => true
  | .list ds => D.shws ds
  | .tup ds => D.shws ds
  | .dict [] => true
  | .dict [(.inr _, .int i)] => decide (i.natAbs.log2 < 1920)
  | _ => false
def D.shws : List X3.D → Bool
  | [] => true
  | d :: ds => D.shw d && D.shws ds
end
section
variable {K : PySem.W.Frag} {G : Hp}
mutual
theorem Dat.rp : ∀ {v : V} {d : X3.D}, Dat K G v d → (D.shw d = true → Rp K G v (D.rp d))
  | _, _, .non => fun _ => .non
  | _, _, .bl b => fun _ => .bl b
  | _, _, .int i => fun _ => .int i
  | _, _, .str x => fun _ => .str x
  | _, _, .list h r => fun p => .lst (SqL.of h) (DatL.rp r p)
  | _, _, .tup h r => fun p => .tup h (DatL.rp r p)
  | _, _, .dict h r => fun p => by
    cases r with
    | nil => exact .dict0 h
    | cons hd r =>
      cases r with
      | nil =>
        rename_i k v d
        cases k with
        | inl k => cases p
        | inr k =>
          cases hd with
          | int i => exact .dict1 h
          | _ => cases p
      | cons hd2 r2 =>
        rename_i k v d k2 vs v2 d2 ds
        cases k <;> cases d <;> cases p
  | _, _, .obj _ _ => fun p => absurd p Bool.false_ne_true
  | _, _, .exc0 _ => fun p => absurd p Bool.false_ne_true
  | _, _, .exc1 _ _ _ => fun p => absurd p Bool.false_ne_true
  | _, _, .kset _ => fun p => absurd p Bool.false_ne_true
  | _, _, .val _ => fun p => absurd p Bool.false_ne_true
theorem DatL.rp : ∀ {v : List V} {d : List X3.D}, DatL K G v d → (D.shws d = true → RpL K G v (D.rps d))
  | _, _, .nil => fun _ => .nil
  | _, _, .cons h r => fun p => .cons (Dat.rp h (Bool.and_eq_true_iff.mp p).1) (DatL.rp r (Bool.and_eq_true_iff.mp p).2)
end
mutual
theorem Rp.le {H : Hp} (e : Le G H) : ∀ {v : V} {d : PyData}, Rp K G v d → Rp K H v d
  | _, _, .non => .non
  | _, _, .bl b => .bl b
  | _, _, .int i => .int i
  | _, _, .str x => .str x
  | _, _, .lst h r => .lst (le_l e h) (RpL.le e r)
  | _, _, .tup h r => .tup (le_t e h) (RpL.le e r)
  | _, _, .dict0 h => .dict0 (e _ _ h)
  | _, _, .dict1 h => .dict1 (e _ _ h)
theorem RpL.le {H : Hp} (e : Le G H) : ∀ {v : List V} {d : List PyData}, RpL K G v d → RpL K H v d
  | _, _, .nil => .nil
  | _, _, .cons h r => .cons (Rp.le e h) (RpL.le e r)
end
end
/-- what may be shown -/
structure ShwOk (d : X3.D) : Prop where
  shw : D.shw d = true
  able : (D.rp d).showable = true
  deep : (D.rp d).depth ≤ 60
  size : (D.rp d).shown.length ≤ sizeLine
theorem wc_repr {K : PySem.W.Frag} {S : Res} {Q : X3.D → Prop} {d : X3.D} (hr : (∃ ds, d = .list ds) ∨ ∃ ds, d = .tup ds) (ok : ShwOk d) (q : Q (.str (D.rp d).shown)) : WRC K S (rRepr K) [d] Q := fun G H vs k w dx c => by
  cases dx with
  | cons a r =>
    cases r
    refine ⟨_, _, rfl, ?_, Rp.le w.le (Dat.rp a ok.shw), ok.able, ok.deep, ok.size, c _ _ G H (.refl w) (.str _) q⟩
    rcases hr with ⟨ds, rfl⟩ | ⟨ds, rfl⟩
    · cases a
      exact ⟨_, rfl⟩
    · cases a
      exact ⟨_, rfl⟩
end X3

set_option Elab.async false
set_option linter.all false
set_option maxRecDepth 100000
set_option maxHeartbeats 4000000
/-! # X3: more operations -/
namespace X3
open PySem PySem.Spec PyProof.Rows L2
section
variable {K : PySem.W.Frag} {S : Res} {ρ : Rho} {Q : X3.D → Prop}
/-- == and != of texts, of ints -/
theorem wr_eqS {x y : Str} (q : Q (.bl (decide (x = y)))) : WR2 K S rEq (.str x) (.str y) Q := fun G H vx vy k w dx dy c => by
  cases dx
  cases dy
  refine ⟨rfl, ?_⟩
  rw [show decide (V.str x = V.str y) = decide (x = y) from decide_eq_decide.mpr ⟨V.str.inj, fun e => by rw [e]⟩]
  exact c _ _ G H (.refl w) (.bl _) q
theorem wr_neS {x y : Str} (q : Q (.bl (!decide (x = y)))) : WR2 K S rNe (.str x) (.str y) Q := fun G H vx vy k w dx dy c => by
  cases dx
  cases dy
  refine ⟨rfl, ?_⟩
  rw [show decide (V.str x = V.str y) = decide (x = y) from decide_eq_decide.mpr ⟨V.str.inj, fun e => by rw [e]⟩]
  exact c _ _ G H (.refl w) (.bl _) q
theorem wr_eqI {x y : Int} (q : Q (.bl (decide (x = y)))) : WR2 K S rEq (.int x) (.int y) Q := fun G H vx vy k w dx dy c => by
  cases dx
  cases dy
  refine ⟨rfl, ?_⟩
  rw [show decide (V.int x = V.int y) = decide (x = y) from decide_eq_decide.mpr ⟨V.int.inj, fun e => by rw [e]⟩]
  exact c _ _ G H (.refl w) (.bl _) q
theorem wr_neI {x y : Int} (q : Q (.bl (!decide (x = y)))) : WR2 K S rNe (.int x) (.int y) Q := fun G H vx vy k w dx dy c => by
  cases dx
  cases dy
  refine ⟨rfl, ?_⟩
  rw [show decide (V.int x = V.int y) = decide (x = y) from decide_eq_decide.mpr ⟨V.int.inj, fun e => by rw [e]⟩]
  exact c _ _ G H (.refl w) (.bl _) q
/-- {} -/
theorem we_dnew (q : Q (.dict [])) : WE K S tDNewK ρ Q := fun σ G H k w sl c => fun p hp => c _ _ _ _ (.new w hp) (.dict upd_same .nil) q
/-- {'a': e} -/
theorem we_disp1 {k : Str} {te : TE} (h : WE K S te ρ fun d => Q (.dict [(.inr k, d)])) : WE K S (tDisp [(tC (.str k), te)]) ρ Q := fun σ G H kk w sl c => by
  intro p hp
  have w1 : Wld S G (upd H p (.dK [])) := (Stp.junk w (Le.new hp)).w
  refine h σ G _ _ w1 sl fun v d G' H' s dt q => ?_
  have nf := w.nfp hp
  have hp' : H' p = some (.dK []) := s.hh p _ nf upd_same
  refine ⟨hp', [(.inr k, v)], rfl, (by show 1 ≤ 15; decide), ?_⟩
  have gp : G' p = none := by
    cases e : G' p with
    | none => rfl
    | some o =>
      rcases s.nw p o e with z | z
      · rw [w.fresh hp] at z
        cases z
      · rw [upd_same] at z
        cases z
  have em : mergeK [] [(.inr k, v)] = [((.inr k : Key), v)] := rfl
  rw [em]
  refine c _ _ (upd G' p (.dK [(.inr k, v)])) _ ⟨fun b o e => ?_, fun b o n e => ?_, fun b o e => ?_, ⟨fun b o e => ?_, ?_, fun b f => ?_⟩⟩ (.dict upd_same (.cons (dt.mono (Le.new gp)) .nil)) q
  · have e1 := s.gg b o e
    rw [upd_ne (ne_of_none e1 gp)]
    exact e1
  · have ne := ne_of_none e hp
    rw [upd_ne ne]
    exact s.hh b o n (by rw [upd_ne ne]; exact e)
  · by_cases x : b = p
    · exact .inr (by rw [x]; exact hp)
    · rw [upd_ne x] at e
      rcases s.nw b o e with z | z
      · exact .inl z
      · rw [upd_ne x] at z
        exact .inr z
  · by_cases x : b = p
    · subst x
      rw [upd_same] at e ⊢
      exact e
    · rw [upd_ne x] at e ⊢
      exact s.w.le b o e
  · exact S.loc H' _ (fun b f => (upd_ne (fun z : b = p => nf (by rw [← z]; exact f))).symm) s.w.src
  · rw [upd_ne (fun z : b = p => nf (by rw [← z]; exact f))]
    exact s.w.sep b f
/-- any item of a list -/
theorem wr_ixAny {ds : List X3.D} {i : Int} (h0 : 0 ≤ i) (h1 : i < ds.length) (q : ∀ d ∈ ds, Q d) : WR2 K S (rIx K) (.list ds) (.int i) Q := by
  have hi : i.toNat < ds.length := by omega
  have e : atI ds i = some ds[i.toNat] := by
    unfold atI ixN
    simp [h0, h1, hi]
  exact wr_ixL e (q _ (List.getElem_mem hi))
/-- isinstance of an exception: a tuple of built-in classes -/
theorem wc_isXT {C : Addr} {fs : Option (List (Str × X3.D))} {ts : List String} {b : Bool} (hc : ExcC K C) (e : PySem.W.kitAny K (.ref C) (ts.map Value.type) = some b) (q : Q (.bl b)) :
    WRC K S (rIsXT K) [.exc C fs, .tup (ts.map fun t => .val (.ty t))] Q := fun G H vs kk w dx cc => by
  cases dx with
  | cons a r =>
    cases r with
    | cons a2 r =>
      cases r
      obtain ⟨p, rfl, ea⟩ := exAt_of w.le a
      cases a2 with
      | tup h1 r2 =>
        have ev : ∀ {vs : List V} {us : List String}, DatL K G vs (us.map fun t => X3.D.val (.ty t)) → vs = us.map V.ty := fun {vs us} => by
          induction us generalizing vs with
          | nil =>
            intro h
            cases h
            rfl
          | cons u us ih =>
            intro h
            cases h with
            | cons a r =>
              cases a
              rw [ih r]
              rfl
        have pc : ∀ us : List String, Paired ClsV (us.map V.ty) (us.map Value.type) := fun us => by
          induction us with
          | nil => exact .nil
          | cons u us ih => exact .cons (.ty u) ih
        have e2 := ev r2
        exact ⟨p, C, _, _, _, b, rfl, le_t w.le h1, by rw [e2]; exact pc ts, ea, hc, e, cc _ _ G H (.refl w) (.bl b) q⟩
/-- int(text) -/
theorem wc_intS {x : Str} {n : Int} (h : PySem.intText? x = some n) (hl : x.length ≤ 640) (q : Q (.int n)) : WRC K S (fun xs H Q => ∃ a n, xs = [.str a] ∧ PySem.intText? a = some n ∧ a.length ≤ 640 ∧ Q (.int n) H) [.str x] Q := fun G H vs kk w dx cc => by
  cases dx with
  | cons a r =>
    cases r
    cases a
    exact ⟨x, n, rfl, h, hl, cc _ _ G H (.refl w) (.int n) q⟩
end
section
variable {X : Cx}
/-- a text times a written number -/
def strRep (z : Str) (n : Int) : Str := ⟨(List.replicate n.toNat z.cps).foldl (· ++ ·) #[]⟩
structure StrRepOk (z : Str) (n : Int) : Prop where
  low : 1 < n
  high : n < 1000000
  some : (z.length == 0) = false
  fit : (z.length : Int) * n ≤ 1000000
  long : Builtin.Str.tooLong (z.length * n.toNat) = false
  size : (strRep z n).length ≤ sizeLine
def rStrRep : R2 := fun x y H Q => ∃ z n, x = .str z ∧ y = .int n ∧ StrRepOk z n ∧ Q (.str (strRep z n)) H
theorem op_strRep : OpR X (binaryOp .Mult) rStrRep := by
  intro pins st σ H x y v u Q I rx ry h
  obtain ⟨z, n, rfl, rfl, ok, q⟩ := h
  obtain ⟨t, rfl⟩ := rx
  obtain ⟨t', rfl⟩ := ry
  have l := ok.low
  have hh := ok.high
  have e1 : (n == 1 || z.length == 0) = false := by
    rw [ok.some, Bool.or_false]
    simp
    omega
  refine PySem.P.mul_str (by
    have h1 : ¬ n < -2 ^ 63 := by omega
    have h2 : ¬ (2 : Int) ^ 63 ≤ n := by omega
    simp
    omega) (fun _ _ => ?_) (fun _ _ => ok.long) ?_
  · have hf := ok.fit
    have : (z.length : Int) ≤ (2 ^ 63 - 1) / n := (Int.le_ediv_iff_mul_le (by omega)).mpr (by omega)
    omega
  · rw [if_neg (by omega : ¬ n < 1), e1, if_neg Bool.false_ne_true]
    exact ⟨ok.size, ⟨.str (strRep z n), H, I.tok _, ⟨_, rfl⟩, q⟩⟩
end
theorem wr_strRep {K : PySem.W.Frag} {S : Res} {Q : X3.D → Prop} {z : Str} {n : Int} (ok : StrRepOk z n) (q : Q (.str (strRep z n))) : WR2 K S rStrRep (.str z) (.int n) Q := fun G H vx vy k w dx dy c => by
  cases dx
  cases dy
  exact ⟨z, n, rfl, rfl, ok, c _ _ G H (.refl w) (.str _) q⟩
end X3

set_option Elab.async false
set_option linter.all false
set_option maxRecDepth 100000
set_option maxHeartbeats 4000000
/-! # X3: operations that go by the data; steps in one word -/
namespace X3
open PySem PySem.Spec PyProof.Rows L2
def rOr (r r' : R2) : R2 := fun x y H Q => r x y H Q ∨ r' x y H Q
abbrev rAddI : R2 := rI0 fun i j => .int (i + j)
abbrev rAddS : R2 := fun x y H Q => ∃ i j, x = .str i ∧ y = .str j ∧ i.length + j.length ≤ sizeLine ∧ Q (.str (i ++ j)) H
def rPlus : R2 := rOr rAddI (rOr rCat rAddS)
def rTimes : R2 := rOr (rI CMul fun i j => .int (i * j)) (rOr rRep rStrRep)
def rEqA (K : PySem.W.Frag) : R2 := rOr rEq (rEqD K)
def rNeA (K : PySem.W.Frag) : R2 := rOr rNe (rNeD K)
def rTup (K : PySem.W.Frag) : List V → Hp → VK → Prop := fun xs H Q => ∃ p ys, xs = [.ref p] ∧ ((SqL K H p ys ∧ ∀ l, H l = none → Q (.ref l) (upd H l (.tup ys))) ∨ (SqT K H p ys ∧ Q (.ref p) H))
def rCount (K : PySem.W.Frag) : List V → Hp → VK → Prop := fun vs H Q => ∃ x m, vs = [x] ∧ LenV K x H m ∧ Q (.int m) H
def rIntS : List V → Hp → VK → Prop := fun xs H Q => ∃ a n, xs = [.str a] ∧ PySem.intText? a = some n ∧ a.length ≤ 640 ∧ Q (.int n) H
section
variable {K : PySem.W.Frag} {S : Res} {ρ : Rho} {Q : X3.D → Prop}
theorem wc_tupleR {d : X3.D} {ds : List X3.D} (h : d = .list ds ∨ d = .tup ds) (q : Q (.tup ds)) : WRC K S (rTup K) [d] Q := wc_tuple h q
theorem wc_lenR {d : X3.D} {n : Nat} (h : LenD d n) (q : Q (.int n)) : WRC K S (rCount K) [d] Q := wc_len h q
theorem wc_intR {x : Str} {n : Int} (h : PySem.intText? x = some n) (hl : x.length ≤ 640) (q : Q (.int n)) : WRC K S rIntS [.str x] Q := wc_intS h hl q
end
section
variable {X : Cx}
theorem op_plus : OpR X (binaryOp .Add) rPlus := op_add.or (op_cat.or op_add_str)
theorem op_times : OpR X (binaryOp .Mult) rTimes := op_mul.or (op_rep.or op_strRep)
theorem op_eqA (hu : X.A.units + 64 < cLine) : OpR X (compareOp .Eq) (rEqA X.K) := op_eq.or (op_eqD hu)
theorem op_neA (hu : X.A.units + 64 < cLine) : OpR X (compareOp .NotEq) (rNeA X.K) := op_ne.or (op_neD hu)
theorem hu64 {A : Around} {k : Nat} (hr : Room k A) : A.units + 64 < cLine := by
  have := hr.un
  omega
end
section
variable {K : PySem.W.Frag} {S : Res} {ρ : Rho} {Q : X3.D → Prop}
theorem wp_i {i j : Int} (q : Q (.int (i + j))) : WR2 K S rPlus (.int i) (.int j) Q := wr_or1 (wr_ii (g := fun i j => i + j) q)
theorem wp_l {xs ys : List X3.D} (hl : xs.length + ys.length ≤ 100000) (q : Q (.list (xs ++ ys))) : WR2 K S rPlus (.list xs) (.list ys) Q := wr_or2 (wr_or1 (wr_cat hl q))
theorem wp_s {x y : Str} (hl : x.length + y.length ≤ 100000) (q : Q (.str (x ++ y))) : WR2 K S rPlus (.str x) (.str y) Q := wr_or2 (wr_or2 (wr_adds hl q))
theorem wt_l {xs : List X3.D} {n : Int} (h1 : -1000000 ≤ n) (h2 : n ≤ 1000000) (hl : xs.length * n.toNat ≤ 100000) (q : Q (.list (List.replicate n.toNat xs).flatten)) : WR2 K S rTimes (.list xs) (.int n) Q := wr_or2 (wr_or1 (wr_rep h1 h2 hl q))
theorem wt_s {z : Str} {n : Int} (ok : StrRepOk z n) (q : Q (.str (strRep z n))) : WR2 K S rTimes (.str z) (.int n) Q := wr_or2 (wr_or2 (wr_strRep ok q))
theorem we_eqS {x y : Str} (q : Q (.bl (decide (x = y)))) : WR2 K S (rEqA K) (.str x) (.str y) Q := wr_or1 (wr_eqS q)
theorem we_neS {x y : Str} (q : Q (.bl (!decide (x = y)))) : WR2 K S (rNeA K) (.str x) (.str y) Q := wr_or1 (wr_neS q)
theorem we_eqI {x y : Int} (q : Q (.bl (decide (x = y)))) : WR2 K S (rEqA K) (.int x) (.int y) Q := wr_or1 (wr_eqI q)
theorem we_neI {x y : Int} (q : Q (.bl (!decide (x = y)))) : WR2 K S (rNeA K) (.int x) (.int y) Q := wr_or1 (wr_neI q)
theorem we_eqD {x y : X3.D} (h : EqOk x y) (q : Q (.bl (PyData.eqv x.pd y.pd))) : WR2 K S (rEqA K) x y Q := wr_or2 (wr_eqD h q)
theorem we_neD {x y : X3.D} (h : EqOk x y) (q : Q (.bl (!PyData.eqv x.pd y.pd))) : WR2 K S (rNeA K) x y Q := wr_or2 (wr_neD h q)
theorem rng_split {lo : Int} {n : Nat} {pre post : List X3.D} {d : X3.D} (h : rng lo n = pre ++ d :: post) : pre.length < n ∧ d = .int (lo + (pre.length : Nat)) ∧ pre = rng lo pre.length ∧ pre ++ [d] = rng lo (pre.length + 1) := by
  have hl : pre.length < n := by
    have := congrArg List.length h
    rw [rng_len] at this
    simp at this
    omega
  have e1 : (rng lo n)[pre.length]? = some d := by rw [h]; simp
  rw [rng_get hl] at e1
  have e1 := Option.some.inj e1
  have e2 : pre = rng lo pre.length := by
    have a := congrArg (List.take pre.length) h
    rw [List.take_left] at a
    rw [← a]
    refine List.ext_getElem? fun i => ?_
    rw [List.getElem?_take]
    by_cases x : i < pre.length
    · rw [if_pos x, rng_get (by omega), rng_get (by rw [List.length_take, rng_len]; omega)]
    · rw [if_neg x, List.getElem?_eq_none (by rw [rng_len, List.length_take, rng_len]; omega)]
  refine ⟨hl, e1.symm, e2, ?_⟩
  have e3 : rng lo (pre.length + 1) = rng lo pre.length ++ [.int (lo + (pre.length : Nat))] := by
    unfold rng
    rw [List.range_succ, List.map_append]
    rfl
  rw [e3, ← e2, e1]
end
/-- the frozen world ahead of which nothing is frozen -/
theorem ws_first {K : PySem.W.Frag} {S : Res} {t : TS} {σ : L2.St} {ρ : Rho} {H : Hp} {Q : VK} {q : X3.D → Prop} (ok : S.ok H) (hl : σ.length = ρ.length) (hs : ∀ (i : Nat) (d : X3.D), ρ[i]? = some (SD.dat d) → ∃ v, σ[i]? = some (some v) ∧ ∀ G, Dat K G v d)
    (no : ∀ (i j : Nat), ρ[i]? ≠ some (SD.own j)) (c : ∀ v d G H', Dat K G v d → q d → Q v H') (h : WS K S t ρ [] { nx := fun _ _ => q .non, rt := q }) : t { nx := fun _ H' => Q .non H', rt := Q } σ H := by
  have w : Wld S (fun _ => none) H := ⟨fun a o e => (by cases e), ok, fun _ _ => rfl⟩
  refine h (fun _ => none) H σ H _ ok ⟨fun _ => none, [], .refl w, ⟨hl, fun i d e => ?_⟩, rfl, List.nodup_nil, fun i j e => absurd e (no i j), fun j a m e1 _ => by simp at e1⟩ ⟨?_, fun v d G H' _ dt z => c v d G H' dt z, fun _ _ _ _ _ z => z.elim, fun _ _ _ _ _ z => z.elim⟩
  · obtain ⟨v, e1, e2⟩ := hs i d e
    exact ⟨v, e1, e2 _⟩
  · rintro σ H1 ρ μ ⟨G1, as, r1⟩ z
    exact c _ _ G1 H1 .non z
end X3

set_option Elab.async false
set_option linter.all false
set_option maxRecDepth 100000
set_option maxHeartbeats 4000000
/-! # X3: types, dicts, sets, slices, objects -/
namespace X3
open PySem PySem.Spec PyProof.Rows L2
/-! ### isinstance of data -/
/-- the built-in type of data -/
def tyD : X3.D → Option String
  | .non => some "NoneType"
  | .bl _ => some "bool"
  | .int _ => some "int"
  | .str _ => some "str"
  | .list _ => some "list"
  | .tup _ => some "tuple"
  | .dict _ => some "dict"
  | _ => none
theorem tyx_of {K : PySem.W.Frag} {G H : Hp} {v : V} {d : X3.D} {t : String} (le : Le G H) (dt : Dat K G v d) (h : tyD d = some t) : TyX K H v (.type t) := by
  cases dt with
  | non => cases h; exact .base .non
  | bl => cases h; exact .base (.bl _)
  | int => cases h; exact .base (.int _)
  | str => cases h; exact .base (.str _)
  | list a r => cases h; exact .base (.lst (le _ _ a))
  | dict a r => cases h; exact .base (.dK (le _ _ a))
  | tup a r =>
    cases h
    rcases le_t le a with (z | ⟨o, z⟩) | ⟨o, _, _, lk, c, _⟩
    · exact .base (.tup z)
    · exact .fTuple z
    · exact .kTuple lk c
  | _ => cases h
/-- isinstance(x, (c, ..)) of any data, the tuple wherever it lies -/
def rIsS (K : PySem.W.Frag) : List V → Hp → VK → Prop := fun xs H Q => ∃ (x : V) (tp : Addr) (cs : List V) (us : List Value) (t : Value) (b : Bool), xs = [x, .ref tp] ∧ SqT K H tp cs ∧ Paired ClsV cs us ∧ TyX K H x t ∧ PySem.W.kitAny K t us = some b ∧ Q (.bl b) H
theorem call_isS {X : Cx} : CallR X (.builtin "isinstance") (rIsS X.K) := by
  intro pins st σ H xs us Q I r h
  obtain ⟨x, tp, cs, ws, t, b, rfl, hT, k, ty, e, q⟩ := h
  obtain ⟨u1, uc, rfl, r1, r2⟩ := vals2 r
  cases (show uc = Value.ref tp from r2)
  obtain ⟨its, rv, ⟨o, h1, h2, n, h3⟩, _⟩ := I.tuple hT
  have e3 := ClsV.all k rv
  subst e3
  obtain ⟨oc, od, dt, sl⟩ := o
  simp only at h2 h3
  subst h2 h3
  obtain ⟨P, Z, p, hx⟩ := kit_of I r1 ty
  exact PySem.W.kia_tup Z I.kIn p h1 e hx fun tk => ⟨.bl b, H, I.tok tk, rfl, q⟩
section
variable {K : PySem.W.Frag} {S : Res} {ρ : Rho} {Q : X3.D → Prop}
theorem wc_isi {d : X3.D} {t : String} {c : V} {u : Value} {b : Bool} (h : tyD d = some t) (k : ClsV c u) (e : PySem.W.kitOne K (.type t) u = some b) (q : Q (.bl b)) : WRC K S (rIsi K) [d, .val c] Q := fun G H vs kk w dx cc => by
  cases dx with
  | cons a r =>
    cases r with
    | cons a2 r =>
      cases r
      cases a2
      exact ⟨_, c, _, u, b, rfl, k, tyx_of w.le a h, e, cc _ _ G H (.refl w) (.bl b) q⟩
theorem wc_isS {d : X3.D} {t : String} {ts : List String} {b : Bool} (h : tyD d = some t) (e : PySem.W.kitAny K (.type t) (ts.map Value.type) = some b) (q : Q (.bl b)) : WRC K S (rIsS K) [d, .tup (ts.map fun t => .val (.ty t))] Q := fun G H vs kk w dx cc => by
  cases dx with
  | cons a r =>
    cases r with
    | cons a2 r =>
      cases r
      cases a2 with
      | tup h1 r2 =>
        have ev : ∀ {vs : List V} {us : List String}, DatL K G vs (us.map fun t => X3.D.val (.ty t)) → Paired ClsV vs (us.map Value.type) := fun {vs us} => by
          induction us generalizing vs with
          | nil =>
            intro h
            cases h
            exact .nil
          | cons u us ih =>
            intro h
            cases h with
            | cons a r =>
              cases a
              exact .cons (.ty u) (ih r)
        exact ⟨_, _, _, _, _, b, rfl, le_t w.le h1, ev r2, tyx_of w.le a h, e, cc _ _ G H (.refl w) (.bl b) q⟩
/-! ### in -/
theorem inV_strs {x : Str} : ∀ ns : List Str, inV (.str x) (ns.map V.str) = decide (x ∈ ns)
  | [] => by simp [inV]
  | n :: ns => by
    have ih := inV_strs (x := x) ns
    unfold inV at ih ⊢
    rw [List.map_cons, List.any_cons, ih]
    have : eqV (.str n) (.str x) = decide (n = x) := by
      show (n == x) = decide (n = x)
      by_cases h : n = x <;> simp [h]
    rw [this]
    by_cases h : n = x
    · simp [h]
    · have h' : ¬ x = n := fun z => h z.symm
      simp [h, h']
theorem flat_strs : ∀ ns : List Str, (ns.map V.str).all flatV = true
  | [] => rfl
  | _ :: ns => by rw [List.map_cons, List.all_cons, flat_strs ns]; rfl
theorem wr_inS {neg : Bool} {x : Str} {ns : List Str} {d : X3.D} (hd : d = .list (ns.map .str) ∨ d = .tup (ns.map .str)) (q : Q (.bl (if neg then !decide (x ∈ ns) else decide (x ∈ ns)))) : WR2 K S (rIn K neg) (.str x) d Q := fun G H vx vy k w dx dy c => by
  cases dx
  have go : ∀ {p : Addr} {xs : List V}, (SqL K H p xs ∨ SqT K H p xs) → DatL K G xs (ns.map .str) → rIn K neg (.str x) (.ref p) H k := fun {p xs} hs r => by
    have e := r.strs
    subst e
    refine ⟨p, _, rfl, hs, rfl, flat_strs ns, ?_⟩
    rw [inV_strs]
    exact c _ _ G H (.refl w) (.bl _) q
  rcases hd with rfl | rfl
  · cases dy with
    | list h1 r => exact go (.inl (SqL.of (w.le _ _ h1))) r
  · cases dy with
    | tup h1 r => exact go (.inr (le_t w.le h1)) r
/-! ### dicts -/
def kD : Key → X3.D
  | .inl i => .int i
  | .inr x => .str x
theorem kD_v {G : Hp} {v : V} {k : Key} (h : Dat K G v (kD k)) : v = kV k := by
  cases k with
  | inl i => cases h; rfl
  | inr x => cases h; rfl
theorem kD_dat {G : Hp} (k : Key) : Dat K G (kV k) (kD k) := by
  cases k with
  | inl i => exact .int i
  | inr x => exact .str x
def getK (kvs : List (Key × X3.D)) (k : Key) : Option X3.D := (kvs.find? fun kv => decide (kv.1 = k)).map (·.2)
theorem getK_cons (p : Key × X3.D) (kvs : List (Key × X3.D)) (k : Key) : getK (p :: kvs) k = if p.1 = k then some p.2 else getK kvs k := by
  by_cases h : p.1 = k <;> simp [getK, List.find?_cons, h]
inductive OptD (K : PySem.W.Frag) (G : Hp) : Option V → Option X3.D → Prop
  | none : OptD K G none none
  | some {v : V} {d : X3.D} : Dat K G v d → OptD K G (some v) (some d)
theorem DatK.get {G : Hp} (k : Key) : ∀ {vs : List (Key × V)} {ds : List (Key × X3.D)}, DatK K G vs ds → OptD K G (valV vs k) (getK ds k)
  | _, _, .nil => .none
  | _, _, .cons (k := j) h r => by
    rw [getK_cons]
    by_cases e : j = k
    · rw [valV_pos e, if_pos e]
      exact .some h
    · rw [valV_neg e, if_neg e]
      exact DatK.get k r
def putD (kvs : List (Key × X3.D)) (k : Key) (v : X3.D) : List (Key × X3.D) := if (getK kvs k).isSome then kvs.map fun kv => if kv.1 = k then (kv.1, v) else kv else kvs ++ [(k, v)]
theorem DatK.append {G : Hp} : ∀ {xs ys : List (Key × V)} {ds es : List (Key × X3.D)}, DatK K G xs ds → DatK K G ys es → DatK K G (xs ++ ys) (ds ++ es)
  | _, _, _, _, .nil, s => s
  | _, _, _, _, .cons h r, s => .cons h (DatK.append r s)
theorem DatK.upd {G : Hp} {k : Key} {v : V} {d : X3.D} (hd : Dat K G v d) : ∀ {xs : List (Key × V)} {ds : List (Key × X3.D)}, DatK K G xs ds → DatK K G (xs.map fun kv => if kv.1 = k then (kv.1, v) else kv) (ds.map fun kv => if kv.1 = k then (kv.1, d) else kv)
  | _, _, .nil => .nil
  | _, _, .cons (k := j) h r => by
    rw [List.map_cons, List.map_cons]
    by_cases e : j = k
    · rw [if_pos e, if_pos e]
      exact .cons hd (DatK.upd hd r)
    · rw [if_neg e, if_neg e]
      exact .cons h (DatK.upd hd r)
theorem OptD.isSome {G : Hp} {o : Option V} {p : Option X3.D} (h : OptD K G o p) : o.isSome = p.isSome := by cases h <;> rfl
theorem DatK.put {G : Hp} {k : Key} {v : V} {d : X3.D} {xs : List (Key × V)} {ds : List (Key × X3.D)} (hd : Dat K G v d) (r : DatK K G xs ds) : DatK K G (putK xs k v) (putD ds k d) := by
  have e := (r.get k).isSome
  unfold putK putD
  rw [valV_any, e]
  split
  · exact DatK.upd hd r
  · exact r.append (.cons hd .nil)
theorem DatK.length {G : Hp} : ∀ {xs : List (Key × V)} {ds : List (Key × X3.D)}, DatK K G xs ds → xs.length = ds.length
  | _, _, .nil => rfl
  | _, _, .cons _ r => congrArg (· + 1) (DatK.length r)
/-- d[k] -/
theorem we_dget {td ty : TE} (h : WE K S td ρ fun x => WE K S ty ρ fun y => ∃ kvs k d, x = .dict kvs ∧ y = kD k ∧ getK kvs k = some d ∧ Q d) : WE K S (tDGet td ty) ρ Q := fun σ G H k w s c =>
  h σ G H _ w s fun vx x G1 H1 s1 d1 h1 => h1 σ G1 H1 _ s1.w (s.mono s1.gg) fun vy y G2 H2 s2 d2 q => by
    obtain ⟨kvs, kk, d, rfl, rfl, l, q⟩ := q
    have d1' := d1.mono s2.gg
    cases d1' with
    | dict a r =>
      have o := r.get kk
      rw [l] at o
      cases e : valV _ kk with
      | none =>
        rw [e] at o
        cases o
      | some v =>
        rw [e] at o
        cases o with
        | some dv => exact ⟨_, v, rfl, .inl ⟨_, kk, .inl (s2.w.le _ _ a), kD_v d2, e.symm⟩, c v d G2 H2 (s1.trans s2) dv q⟩
theorem we_din {td ty : TE} (h : WE K S ty ρ fun y => WE K S td ρ fun x => ∃ kvs k, x = .dict kvs ∧ y = kD k ∧ Q (.bl (getK kvs k).isSome)) : WE K S (tDIn ty td) ρ Q := fun σ G H k w s c =>
  h σ G H _ w s fun vy y G1 H1 s1 d1 h1 => h1 σ G1 H1 _ s1.w (s.mono s1.gg) fun vx x G2 H2 s2 d2 q => by
    obtain ⟨kvs, kk, rfl, rfl, q⟩ := q
    have d1' := d1.mono s2.gg
    cases d2 with
    | dict a r =>
      refine ⟨_, valV _ kk, rfl, .inl ⟨_, kk, .inl (s2.w.le _ _ a), kD_v d1', rfl⟩, ?_⟩
      rw [(r.get kk).isSome]
      exact c _ _ G2 H2 (s1.trans s2) (.bl _) q
theorem we_dnotin {td ty : TE} (h : WE K S ty ρ fun y => WE K S td ρ fun x => ∃ kvs k, x = .dict kvs ∧ y = kD k ∧ Q (.bl (!(getK kvs k).isSome))) : WE K S (tDNotIn ty td) ρ Q := fun σ G H k w s c =>
  h σ G H _ w s fun vy y G1 H1 s1 d1 h1 => h1 σ G1 H1 _ s1.w (s.mono s1.gg) fun vx x G2 H2 s2 d2 q => by
    obtain ⟨kvs, kk, rfl, rfl, q⟩ := q
    have d1' := d1.mono s2.gg
    cases d2 with
    | dict a r =>
      refine ⟨_, valV _ kk, rfl, .inl ⟨_, kk, .inl (s2.w.le _ _ a), kD_v d1', rfl⟩, ?_⟩
      rw [(r.get kk).isSome]
      exact c _ _ G2 H2 (s1.trans s2) (.bl _) q
/-- list(d) -/
theorem wc_listD {kvs : List (Key × X3.D)} (q : Q (.list (kvs.map fun kv => kD kv.1))) : WRC K S rListD [.dict kvs] Q := fun G H vs k w dx c => by
  have keys : ∀ {G : Hp} {xs : List (Key × V)} {ds : List (Key × X3.D)}, DatK K G xs ds → DatL K G (xs.map fun kv => kV kv.1) (ds.map fun kv => kD kv.1) := fun {G xs ds} => by
    induction xs generalizing ds with
    | nil =>
      intro h
      cases h
      exact .nil
    | cons x xs ih =>
      intro h
      cases h with
      | cons _ r => exact .cons (kD_dat _) (ih r)
  cases dx with
  | cons a r =>
    cases r
    cases a with
    | dict h r => exact ⟨_, _, rfl, w.le _ _ h, fun p hp => c _ _ _ _ (.new w hp) (.list upd_same ((keys r).mono (Le.new (w.fresh hp)))) q⟩
/-! ### all -/
theorem DatL.bls {G : Hp} : ∀ {vs : List V} {ns : List Bool}, DatL K G vs (ns.map D.bl) → vs = ns.map V.bl
  | _, [], h => by cases h; rfl
  | _, n :: ns, h => by
    have h' : DatL K G _ (D.bl n :: ns.map D.bl) := h
    cases h' with
    | cons a r =>
      cases a
      rw [DatL.bls r]
      rfl
theorem wc_all {bs : List Bool} (q : Q (.bl (bs.all id))) : WRC K S (rAll K) [.list (bs.map .bl)] Q := fun G H vs k w dx c => by
  cases dx with
  | cons a r =>
    cases r
    cases a with
    | list h r =>
      have e := r.bls
      subst e
      exact ⟨_, bs, rfl, SqL.of (w.le _ _ h), c _ _ G H (.refl w) (.bl _) q⟩
/-! ### slices, index -/
def WO (K : PySem.W.Frag) (S : Res) (to : TO) (ρ : Rho) (Q : Option Int → Prop) : Prop :=
  ∀ σ G H (k : Option Int → Hp → Prop), Wld S G H → Slots K G σ ρ → (∀ o G' H', Stp S G H G' H' → Q o → k o H') → to σ H k
theorem wo_none {Q : Option Int → Prop} (q : Q none) : WO K S tNoPart ρ Q := fun σ G H k w s c => c none G H (.refl w) q
theorem wo_some {te : TE} {Q : Option Int → Prop} (h : WE K S te ρ fun d => ∃ i, d = .int i ∧ Q (some i)) : WO K S (tPart te) ρ Q := fun σ G H k w s c =>
  h σ G H _ w s fun v d G' H' st dt q => by
    obtain ⟨i, rfl, q⟩ := q
    cases dt
    exact ⟨i, rfl, c _ G' H' st q⟩
/-- the items of xs[lo:hi] -/
def cutD (xs : List X3.D) (lo hi : Option Int) : List X3.D := (xs.drop (HT.sIx xs.length 0 lo)).take (HT.sIx xs.length xs.length hi - HT.sIx xs.length 0 lo)
theorem we_slL {te : TE} {tl th : TO} (h : WE K S te ρ fun x => WO K S tl ρ fun lo => WO K S th ρ fun hi => ∃ xs, x = .list xs ∧ Q (.list (cutD xs lo hi))) : WE K S (tSl (rSlL K) te tl th) ρ Q := fun σ G H k w s c =>
  h σ G H _ w s fun vx x G1 H1 s1 d1 h1 => h1 σ G1 H1 _ s1.w (s.mono s1.gg) fun lo G2 H2 s2 h2 => h2 σ G2 H2 _ s2.w (s.mono (s1.gg.trans s2.gg)) fun hi G3 H3 s3 q => by
    obtain ⟨xs, rfl, q⟩ := q
    have d3 := d1.mono (s2.gg.trans s3.gg)
    cases d3 with
    | list a r =>
      rename_i ys
      refine ⟨_, ys, rfl, SqL.of (s3.w.le _ _ a), fun p hp => ?_⟩
      have e : DatL K G3 (cutV ys lo hi) (cutD xs lo hi) := by
        unfold cutV cutD
        rw [r.length]
        exact (r.drop _).take _
      exact c _ _ _ _ ((s1.trans s2).trans (s3.trans (.new s3.w hp))) (.list upd_same (e.mono (Le.new (s3.w.fresh hp)))) q
/-- xs.index(y) of texts -/
theorem we_index {to te : TE} (h : WE K S to ρ fun x => ∃ ns : List Str, x = .list (ns.map .str) ∧ WE K S te ρ fun y => ∃ (n : Str) (j : Nat), y = .str n ∧ ns[j]? = some n ∧ (∀ m < j, ns[m]? ≠ some n) ∧ Q (.int (j : Nat))) :
    WE K S (tBM K "list" (rIndex K) to (tCons te tNil)) ρ Q := fun σ G H k w s c =>
  h σ G H _ w s fun vx x G1 H1 s1 d1 h1 => by
    obtain ⟨ns, rfl, h1⟩ := h1
    cases d1 with
    | list a r =>
      have e := r.strs
      subst e
      refine ⟨.inl ⟨rfl, _, SqL.of (s1.w.le _ _ a)⟩, ?_⟩
      refine h1 σ G1 H1 _ s1.w (s.mono s1.gg) fun vy y G2 H2 s2 d2 q => ?_
      obtain ⟨n, j, rfl, hj, first, q⟩ := q
      cases d2
      refine ⟨_, _, .str n, j, .str n, rfl, rfl, SqL.of (s2.w.le _ _ (s2.gg _ _ a)), rfl, flat_strs ns, by rw [List.getElem?_map, hj]; rfl, by show (n == n) = true; simp, fun m z hm hz => ?_, c _ _ G2 H2 (s1.trans s2) (.int _) q⟩
      rw [List.getElem?_map] at hz
      cases e : ns[m]? with
      | none =>
        rw [e] at hz
        cases hz
      | some z' =>
        rw [e] at hz
        cases hz
        have ne : z' ≠ n := fun x => first m hm (x ▸ e)
        show (z' == n) = false
        simpa using ne
/-! ### objects -/
/-- e.f, e an own object -/
theorem we_fld {te : TE} {f : Str} (h : WE K S te ρ fun x => ∃ C fs d, x = .obj C fs ∧ Cls K C ∧ NoAttr K C f ∧ fs.lookup f = some d ∧ Q d) : WE K S (tFld K te f) ρ Q := fun σ G H k w s c =>
  h σ G H _ w s fun vx x G1 H1 s1 d1 q => by
    obtain ⟨C, fs, d, rfl, cl, no, l, q⟩ := q
    cases d1 with
    | obj a r =>
      obtain ⟨u, hu, du⟩ := r.lookup l
      exact ⟨_, C, _, _, u, rfl, s1.w.le _ _ a, cl, no, hu, c u d G1 H1 s1 du q⟩
theorem DatF.miss {G : Hp} {f : Str} : ∀ {vs : List (Str × V)} {ds : List (Str × X3.D)}, DatF K G vs ds → (ds.lookup f = none → vs.lookup f = none)
  | _, _, .nil => fun _ => rfl
  | _, _, .cons (k := j) h r => fun l => by
    rw [lookup_cons] at l ⊢
    by_cases e : f = j
    · rw [if_pos e] at l
      cases l
    · rw [if_neg e] at l ⊢
      exact DatF.miss r l
/-- e.m(e, ..), e.m(): a method's promise over data -/
theorem we_meth {te : TE} {tA : TA} {C : Addr} {m : Str} {P : Res → List X3.D → (X3.D → Prop) → Prop} {E : XK} (h : WE K S te ρ fun x => ∃ fs, x = .obj C fs ∧ fs.lookup m = none ∧ WA K S tA ρ fun ds => P S (.obj C fs :: ds) Q) : WE K S (tMeth C m (spD K P) [] E te tA) ρ Q := fun σ G H k w s c =>
  h σ G H _ w s fun vx x G1 H1 s1 d1 q => by
    obtain ⟨fs, rfl, no, q⟩ := q
    have d1' := d1
    cases d1 with
    | obj a r =>
      refine ⟨_, _, _, rfl, s1.w.le _ _ a, r.miss no, ?_⟩
      refine q σ G1 H1 _ s1.w (s.mono s1.gg) fun vs ds G2 H2 s2 dt q2 => ?_
      refine ⟨S, G2, _, Q, s2.w, by rw [List.append_nil]; exact .cons (d1'.mono s2.gg) dt, q2, fun v d G3 H3 s3 d3 q3 => c v d G3 H3 ((s1.trans s2).trans s3) d3 q3⟩
end
end X3

set_option Elab.async false
set_option linter.all false
set_option maxRecDepth 100000
set_option maxHeartbeats 4000000
/-! # X3: dicts by comprehension, own dicts and sets, objects in the making, min and max -/
namespace X3
open PySem PySem.Spec PyProof.Rows L2
/-! ### {k: v for ..} -/
theorem dc_it {J : It} {n : Nat} {G : Hp → Prop} {Y : Nat → Hp → V → Hp → Prop} (w : Walk J n G Y) {g : TG} {tt : TT} {tk tv : TE} {vs : List Nat} {σ : L2.St} {H1 : Hp} {D : Addr} {Qd : Hp → Prop} (Pv : Nat → Hp → Prop) (h0 : Pv 0 (upd H1 D (.dK []))) (good : ∀ i H, i ≤ n → Pv i H → G H)
    (turn : ∀ i x H H', i < n → Pv i H → Y i H x H' → g x (wipe σ vs) H' fun σ2 H2 => wipe σ2 vs = wipe σ vs ∧ tt σ2 H2 fun b H3 =>
      if b = true then tk σ2 H3 fun y H4 => tv σ2 H4 fun z H5 => ∃ kvs k, y = kV k ∧ H5 D = some (.dK kvs) ∧ kvs.length < sizeLine ∧ Pv (i + 1) (upd H5 D (.dK (putK kvs k z))) else Pv (i + 1) H3) (fin : ∀ H, Pv n H → Qd H) :
    ∃ W : Nat → Nat → Hp → Prop, (∃ m, W 0 m (upd H1 D (.dK []))) ∧ ∀ i m H, W i m H →
      (J.stop i H ∧ Qd H) ∨ (J.go i H ∧ ∃ Nx : Hp → Prop, (∀ H', Nx H' → ∃ m', m' < m ∧ W (i + 1) m' H') ∧ ∀ x H', J.yld i H x H' → g x (wipe σ vs) H' fun σ2 H2 => wipe σ2 vs = wipe σ vs ∧ tt σ2 H2 fun b H3 =>
        if b = true then tk σ2 H3 fun y H4 => tv σ2 H4 fun z H5 => ∃ kvs k, y = kV k ∧ H5 D = some (.dK kvs) ∧ kvs.length < sizeLine ∧ Nx (upd H5 D (.dK (putK kvs k z))) else Nx H3) := by
  refine ⟨fun i m H => i ≤ n ∧ m + i = n ∧ Pv i H, ⟨n, Nat.zero_le _, rfl, h0⟩, fun i m H z => ?_⟩
  obtain ⟨hi, hm, p⟩ := z
  have gd := good i H hi p
  rcases Nat.lt_or_ge i n with lt | ge
  · exact .inr ⟨w.goes i H lt gd, Pv (i + 1), fun H' p' => ⟨m - 1, by omega, lt, by omega, p'⟩, fun x H' y => turn i x H H' lt p (w.yields i H x H' lt gd y)⟩
  · have e : i = n := by omega
    cases e
    exact .inl ⟨w.stops H gd, fin H p⟩
section
variable {K : PySem.W.Frag} {S : Res} {ρ : Rho}
theorem we_dc {wi : TI} {g : TG} {tt : TT} {tk tv : TE} {vs is : List Nat} {Q : X3.D → Prop} (I : List X3.D → List (Key × X3.D) → Prop) (hv : ∀ i ∈ is, i ∈ vs)
    (h : WI K S wi ρ fun ds => I [] [] ∧ (∀ pre d post out, ds = pre ++ d :: post → I pre out → WG K is g d (wipeR ρ vs) fun ρ2 => WT K S tt ρ2 fun b =>
      if b = true then WE K S tk ρ2 fun y => WE K S tv ρ2 fun z => ∃ k, y = kD k ∧ out.length < 100000 ∧ I (pre ++ [d]) (putD out k z) else I (pre ++ [d]) out) ∧ ∀ out, I ds out → Q (.dict out)) :
    WE K S (tDc wi g tt tk tv vs) ρ Q := fun σ G H k w sl c => by
  refine h σ G H _ w sl fun J ds G' H' s it q => ?_
  obtain ⟨i0, turn, fin⟩ := q
  obtain ⟨Gd, Y, wk, gd, yl⟩ := it.ex
  have w0 := s.w.src
  intro p hp
  have sl0 : Slots K G' (wipe σ vs) (wipeR ρ vs) := slots_wipe (sl.mono s.gg) vs
  have start : RepG K S G' H' G' [] (upd H' p (.dK [])) [] [.dict []] [p] := by
    refine ⟨.junk s.w (Le.new hp), ⟨rfl, fun i d e => by simp at e⟩, rfl, by simp, fun i j e => by simp at e, fun j a m e1 e2 => ?_⟩
    have hs : upd H' p (.dK []) p = some (.dK []) := upd_same
    cases j with
    | zero =>
      have e1' : some p = some a := e1
      have e2' : some (M.dict []) = some m := e2
      cases e1'
      cases e2'
      exact ⟨hp, by rw [hs]; exact Option.some_ne_none _, s.w.fresh hp, [], hs, DatK.nil⟩
    | succ n => simp at e1
  refine dc_it wk (fun i H => ∃ out G2, RepG K S G' H' G2 [] H [] [.dict out] [p] ∧ I (ds.take i) out) ⟨[], G', start, i0⟩ ?_ ?_ ?_
  · rintro i H1 _ ⟨out, G2, r2, _⟩
    exact gd H1 (r2.st.gg.trans r2.st.w.le)
  · rintro i x H1 H2 hi ⟨out, G2, r2, iv⟩ y
    obtain ⟨d, G3, e, st3, dt⟩ := yl i H1 x H2 G2 hi r2.st.gg r2.st.w y
    have r3 := r2.step w0 st3
    have ed : ds = ds.take i ++ d :: ds.drop (i + 1) := by
      obtain ⟨hl, e2⟩ := List.getElem?_eq_some_iff.mp e
      rw [← e2, ← List.drop_eq_getElem_cons hl, List.take_append_drop]
    have et : ds.take i ++ [d] = ds.take (i + 1) := by
      rw [List.take_add_one, e]
      rfl
    refine turn (ds.take i) d (ds.drop (i + 1)) out ed iv _ G3 H2 x _ r3.st.w.le (sl0.mono r3.st.gg) dt fun σ4 ρ4 t4 body => ?_
    have hw : wipe σ4 vs = wipe σ vs := by
      refine wipe_eq (by rw [t4.len, wipe_length]) fun i hi => ?_
      exact (t4.old i fun z => hi (hv i z)).1
    refine ⟨hw, body σ4 G3 H2 _ r3.st.w t4.sl fun b G4 H4 s4 qb => ?_⟩
    have r4 := r3.step w0 s4
    cases b with
    | false => exact ⟨out, G4, r4, by rw [← et]; exact qb⟩
    | true =>
      refine qb σ4 G4 H4 _ r4.st.w (t4.sl.mono s4.gg) fun vy dy G5 H5 s5 dty q5 => ?_
      have r5 := r4.step w0 s5
      refine q5 σ4 G5 H5 _ r5.st.w (t4.sl.mono (s4.gg.trans s5.gg)) fun vz dz G6 H6 s6 dtz q6 => ?_
      have r6 := r5.step w0 s6
      obtain ⟨kk, ek, hl, iv6⟩ := q6
      obtain ⟨_, _, hg, xs, hx, dx⟩ := r6.cell 0 p _ rfl rfl
      rw [ek] at dty
      refine ⟨xs, kk, kD_v dty, hx, by rw [dx.length]; exact Nat.lt_of_lt_of_le hl (by decide), putD out kk dz, G6, ?_, by rw [← et]; exact iv6⟩
      exact r6.put (j := 0) (m := .dict (putD out kk dz)) w0 rfl rfl hg ⟨hg, _, upd_same, dx.put dtz⟩
  · rintro H1 ⟨out, G2, r2, iv⟩
    rw [List.take_length] at iv
    obtain ⟨G3, le, s3, _, fr⟩ := r2.freeze w0
    obtain ⟨_, _, _, xs, hx, dx⟩ := r2.cell 0 p _ rfl rfl
    exact c _ _ G3 H1 (s.trans s3) (.dict (by rw [fr p (by simp)]; exact hx) (dx.mono le)) (fin out iv)
end
/-! ### own cells of any kind: laid, written -/
section
variable {K : PySem.W.Frag} {S : Res} {G0 H0 G H G' H' : Hp} {σ : L2.St} {ρ : Rho} {μ : Mu} {as : List Addr} {N : EndsD} {te : TE} {i : Nat}
theorem CellOk.ne {a p : Addr} {o : HO} {m : M} (ne : a ≠ p) (h : CellOk K G H a m) : CellOk K G (upd H p o) a m := by
  cases m with
  | gone => trivial
  | lst ds =>
    obtain ⟨h1, xs, h2, h3⟩ := h
    exact ⟨h1, xs, by rw [upd_ne ne]; exact h2, h3⟩
  | dict ds =>
    obtain ⟨h1, xs, h2, h3⟩ := h
    exact ⟨h1, xs, by rw [upd_ne ne]; exact h2, h3⟩
  | kset P w S n =>
    obtain ⟨h1, h2⟩ := h
    exact ⟨h1, by rw [upd_ne ne]; exact h2⟩
  | obj x C fs =>
    obtain ⟨h0, h1, dx, vs, h2, h3⟩ := h
    exact ⟨h0, h1, dx, vs, by rw [upd_ne ne]; exact h2, h3⟩
/-- an object that nobody names becomes one's own, as it is written -/
theorem RepG.adopt (r : RepG K S G0 H0 G σ H ρ μ as) {p : Addr} {o : HO} {m : M} (hi : i < ρ.length) (h0 : H0 p = none) (pas : p ∉ as) (nf : ¬ S.fp p) (gp : G p = none) (ok : CellOk K G (upd H p o) p m) : RepG K S G0 H0 G (σ.set i (some (.ref p))) (upd H p o) (ρ.set i (.own μ.length)) (μ ++ [m]) (as ++ [p]) := by
  have w := r.st.w
  have w' : Wld S G (upd H p o) := ⟨fun b u e => by
    have ne : b ≠ p := fun z => by
      rw [z, gp] at e
      cases e
    rw [upd_ne ne]
    exact w.le b u e, S.loc H _ (fun b f => (upd_ne (fun z : b = p => nf (by rw [← z]; exact f))).symm) w.src, w.sep⟩
  refine ⟨⟨r.st.gg, fun b u n e => by rw [upd_ne (ne_of_none e h0)]; exact r.st.hh b u n e, r.st.nw, w'⟩, ⟨by rw [List.length_set, List.length_set]; exact r.sl.len, fun j d e => ?_⟩, by rw [List.length_append, List.length_append, r.alen] <;> rfl, ?_, fun k j e => ?_, fun j a m' e1 e2 => ?_⟩
  · by_cases x : i = j
    · subst x
      rw [List.getElem?_set_self hi] at e
      cases e
    · rw [List.getElem?_set_ne x] at e ⊢
      exact r.sl.get j d e
  · exact List.nodup_append.mpr ⟨r.nd, by simp, fun a ha b hb => by
      have : b = p := by simpa using hb
      subst this
      exact fun z => pas (z ▸ ha)⟩
  · by_cases x : i = k
    · subst x
      rw [List.getElem?_set_self hi] at e
      have e' : μ.length = j := SD.own.inj (Option.some.inj e)
      subst e'
      exact ⟨p, by rw [← r.alen]; simp, by rw [List.getElem?_set_self (by rw [r.sl.len]; exact hi)]⟩
    · rw [List.getElem?_set_ne x] at e ⊢
      obtain ⟨a, h1, h2⟩ := r.own k j e
      exact ⟨a, by rw [List.getElem?_append_left (List.getElem?_eq_some_iff.mp h1).1]; exact h1, h2⟩
  · by_cases x : j < μ.length
    · rw [List.getElem?_append_left (by rw [r.alen]; exact x)] at e1
      rw [List.getElem?_append_left x] at e2
      obtain ⟨c1, c2, c3⟩ := r.cell j a m' e1 e2
      have ne : a ≠ p := fun z => pas (z ▸ List.mem_of_getElem? e1)
      exact ⟨c1, by rw [upd_ne ne]; exact c2, c3.ne ne⟩
    · rw [List.getElem?_append_right (by rw [r.alen]; omega)] at e1
      rw [List.getElem?_append_right (by omega)] at e2
      rw [r.alen] at e1
      cases hk : j - μ.length with
      | zero =>
        rw [hk] at e1 e2
        have e1' : some p = some a := e1
        have e2' : some m = some m' := e2
        cases e1'
        cases e2'
        have hs : upd H p o p = some o := upd_same
        exact ⟨h0, by rw [hs]; exact Option.some_ne_none _, ok⟩
      | succ n =>
        rw [hk] at e1
        cases e1
/-- what is not there in H was not there ahead, and is nobody's -/
theorem RepG.newp (r : RepG K S G0 H0 G σ H ρ μ as) {p : Addr} (hp : H p = none) : H0 p = none ∧ p ∉ as ∧ ¬ S.fp p ∧ G p = none := by
  have nf := r.st.w.nfp hp
  refine ⟨?_, fun z => ?_, nf, r.st.w.fresh hp⟩
  · cases e : H0 p with
    | none => rfl
    | some o =>
      rw [r.st.hh p o nf e] at hp
      cases hp
  · obtain ⟨j, hj, e⟩ := List.mem_iff_getElem.mp z
    have hm : j < μ.length := by rw [← r.alen]; exact hj
    exact (r.cell j p μ[j] (by rw [List.getElem?_eq_getElem hj, e]) (List.getElem?_eq_getElem hm)).2.1 hp
theorem Stp.keepNone (s : Stp S G H G' H') {p : Addr} (gp : G p = none) (hp : H p ≠ none) : G' p = none := by
  cases e : G' p with
  | none => rfl
  | some o =>
    rcases s.nw p o e with z | z
    · rw [gp] at z
      cases z
    · exact absurd z hp
/-- x = {k: v} -/
theorem ws_newD1 {tk tv : TE} (hi : i < ρ.length) (h : WE K S tk ρ fun y => WE K S tv ρ fun z => ∃ k, y = kD k ∧ N.nx (ρ.set i (.own μ.length)) (μ ++ [.dict [(k, z)]])) : WS K S (tAsg (tDisp [(tk, tv)]) (gName i)) ρ μ N := fun G0 H0 σ H E w0 r f => by
  obtain ⟨G, as, r⟩ := r
  intro p hp
  have s0 : Stp S G H G (upd H p (.dK [])) := .junk r.st.w (Le.new hp)
  have r0 := r.step w0 s0
  refine h σ G _ _ s0.w r0.sl fun vy y G1 H1 s1 d1 h1 => h1 σ G1 H1 _ s1.w (r0.sl.mono s1.gg) fun vz z G2 H2 s2 d2 q => ?_
  obtain ⟨k, rfl, q⟩ := q
  have nf := r.st.w.nfp hp
  have at2 : H2 p = some (.dK []) := s2.hh p _ nf (s1.hh p _ nf upd_same)
  refine ⟨at2, [(k, vz)], by rw [List.map_cons, List.map_nil, kD_v d1], (by show 1 ≤ 15; decide), ?_⟩
  have em : mergeK [] [(k, vz)] = [(k, vz)] := rfl
  rw [em]
  obtain ⟨n1, n2, n3, n4⟩ := r.newp hp
  have ne1 : upd H p (.dK []) p ≠ none := by rw [upd_same]; exact Option.some_ne_none _
  have g1 := s1.keepNone n4 ne1
  have g2 := s2.keepNone g1 (by rw [s1.hh p _ nf upd_same]; exact Option.some_ne_none _)
  have r2 := (r0.step w0 s1).step w0 s2
  exact f.nx _ _ _ _ ⟨G2, _, r2.adopt (m := .dict [(k, z)]) hi n1 n2 n3 g2 ⟨g2, _, upd_same, .cons d2 .nil⟩⟩ q
/-- x = set() -/
theorem ws_newset {P : Program} {w : World} (hi : i < ρ.length) (q : N.nx (ρ.set i (.own μ.length)) (μ ++ [.kset P w (fun _ => false) 0])) : WS K S (tAsg (tCB (rSet0K P w) tNil) (gName i)) ρ μ N := fun G0 H0 σ H E w0 r f => by
  obtain ⟨G, as, r⟩ := r
  refine ⟨rfl, fun p hp => ?_⟩
  obtain ⟨n1, n2, n3, n4⟩ := r.newp hp
  exact f.nx _ _ _ _ ⟨G, _, r.adopt (m := .kset P w (fun _ => false) 0) hi n1 n2 n3 n4 ⟨n4, upd_same⟩⟩ q
/-- found.add(e) -/
theorem ws_setadd {P : Program} {w : World} {j n : Nat} {M : Key → Bool} (hi : ρ[i]? = some (.own j)) (hj : μ[j]? = some (.kset P w M n)) (hz : n < 1000) (h : WE K S te ρ fun d => ∃ k, d = kD k ∧ N.nx ρ (μ.set j (.kset P w (fun z => M z || decide (z = k)) (if M k = true then n else n + 1)))) :
    WS K S (tDrop (tSAddK P w (tVar i) (tCons te tNil))) ρ μ N := fun G0 H0 σ H E w0 r f => by
  obtain ⟨G, as, r⟩ := r
  obtain ⟨a, ha, hs⟩ := r.own i j hi
  obtain ⟨_, _, _, hx⟩ := r.cell j a _ ha hj
  refine ⟨_, hs, ⟨a, M, n, rfl, hx⟩, ?_⟩
  refine h σ G H _ r.st.w r.sl fun v d G' H' s dt q => ?_
  obtain ⟨k, rfl, q⟩ := q
  have r' := r.step w0 s
  obtain ⟨_, _, hg, hy⟩ := r'.cell j a _ ha hj
  refine ⟨a, k, M, n, rfl, by rw [kD_v dt], hy, Nat.lt_of_lt_of_le (Nat.add_lt_add_right hz 1) (by decide), ?_⟩
  exact f.nx _ _ _ _ ⟨G', as, r'.put (m := .kset P w (fun z => M z || decide (z = k)) (if M k = true then n else n + 1)) w0 ha hj hg ⟨hg, upd_same⟩⟩ q
/-- x in found -/
theorem wr_inSet {P : Program} {w : World} {neg : Bool} {k : Key} {M : Key → Bool} {n : Nat} {Q : X3.D → Prop} (q : Q (.bl (if neg then !M k else M k))) : WR2 K S (fun x y H Q => rSInK P w neg x y H Q) (kD k) (.kset P w M n) Q := fun G H vx vy kk w' dx dy c => by
  cases dy with
  | kset a => exact ⟨k, _, M, n, kD_v dx, rfl, w'.le _ _ a, c _ _ G H (.refl w') (.bl _) q⟩
/-- names[k] = v -/
theorem ws_dput {j : Nat} {kvs : List (Key × X3.D)} {ty tv : TE} (hi : ρ[i]? = some (.own j)) (hj : μ[j]? = some (.dict kvs)) (hz : kvs.length < 100000) (h : WE K S tv ρ fun z => WE K S ty ρ fun y => ∃ k, y = kD k ∧ N.nx ρ (μ.set j (.dict (putD kvs k z)))) :
    WS K S (sDPut (tVar i) ty tv) ρ μ N := fun G0 H0 σ H E w0 r f => by
  obtain ⟨G, as, r⟩ := r
  obtain ⟨a, ha, hs⟩ := r.own i j hi
  refine h σ G H _ r.st.w r.sl fun vz z G1 H1 s1 d1 h1 => ⟨_, hs, ?_⟩
  have r1 := r.step w0 s1
  refine h1 σ G1 H1 _ s1.w r1.sl fun vy y G2 H2 s2 d2 q => ?_
  obtain ⟨k, rfl, q⟩ := q
  have r2 := r1.step w0 s2
  obtain ⟨_, _, hg, xs, hx, dx⟩ := r2.cell j a _ ha hj
  refine ⟨a, _, rfl, .inl ⟨xs, k, hx, kD_v d2, by rw [dx.length]; exact Nat.lt_of_lt_of_le hz (by decide), rfl⟩, ?_⟩
  exact f.nx _ _ _ _ ⟨G2, as, r2.put (m := .dict (putD kvs k z)) w0 ha hj hg ⟨hg, _, upd_same, dx.put (d1.mono s2.gg)⟩⟩ q
end
end X3

set_option Elab.async false
set_option linter.all false
set_option maxRecDepth 100000
set_option maxHeartbeats 4000000
/-! # X3: own objects made; min and max of lists; texts -/
namespace X3
open PySem PySem.Spec PyProof.Rows L2
def putFD (f : Str) (v : X3.D) : List (Str × X3.D) → List (Str × X3.D)
  | [] => [(f, v)]
  | (g, x) :: r => if g = f then (g, v) :: r else (g, x) :: putFD f v r
section
variable {K : PySem.W.Frag} {S : Res} {G0 H0 G H G' H' : Hp} {σ : L2.St} {ρ : Rho} {μ : Mu} {as : List Addr} {N : EndsD} {te : TE} {i : Nat}
theorem DatF.put {f : Str} {v : V} {d : X3.D} (dv : Dat K G v d) : ∀ {vs : List (Str × V)} {ds : List (Str × X3.D)}, DatF K G vs ds → DatF K G (putF f v vs) (putFD f d ds)
  | _, _, .nil => .cons dv .nil
  | _, _, .cons (k := g) h r => by
    unfold putF putFD
    by_cases e : g = f
    · rw [if_pos e, if_pos e]
      exact .cons dv r
    · rw [if_neg e, if_neg e]
      exact .cons h (DatF.put dv r)
theorem DatF.length : ∀ {vs : List (Str × V)} {ds : List (Str × X3.D)}, DatF K G vs ds → vs.length = ds.length
  | _, _, .nil => rfl
  | _, _, .cons _ r => congrArg (· + 1) (DatF.length r)
/-- self.f = e, self one's own -/
theorem ws_fld {j : Nat} {x C : Addr} {f : Str} {fs : List (Str × X3.D)} (hi : ρ[i]? = some (.own j)) (hj : μ[j]? = some (.obj x C fs)) (cl : Cls K C) (no : NoAttr K C f) (few : fs.length < 1000) (h : WE K S te ρ fun d => N.nx ρ (μ.set j (.obj x C (putFD f d fs)))) :
    WS K S (sFld K (tVar i) te f) ρ μ N := fun G0 H0 σ H E w0 r fit => by
  obtain ⟨G, as, r⟩ := r
  obtain ⟨a, ha, hs⟩ := r.own i j hi
  refine h σ G H _ r.st.w r.sl fun v d G' H' s dt q => ⟨_, hs, ?_⟩
  have r' := r.step w0 s
  obtain ⟨_, _, ea, hg, dx, vs, hx, df⟩ := r'.cell j a _ ha hj
  refine ⟨a, C, dx, vs, rfl, hx, cl, no, by rw [df.length]; exact few, ?_⟩
  exact fit.nx _ _ _ _ ⟨G', as, r'.put (m := .obj x C (putFD f d fs)) w0 ha hj hg ⟨ea, hg, dx, _, upd_same, df.put dt⟩⟩ q
/-- an __init__'s promise over data -/
def spNew (K : PySem.W.Frag) (P : Res → List X3.D → (X3.D → Prop) → Prop) : Sp := fun vs H Q _ => ∃ (x dx C : Addr) (us : List V) (S : Res) (G Hc : Hp) (ds : List X3.D) (q : X3.D → Prop), vs = .ref x :: us ∧ Hc x = none ∧ Hc dx = none ∧ dx ≠ x ∧ H = upd (upd Hc dx (.own x)) x (.ins C dx []) ∧
  Wld S G Hc ∧ DatL K G us ds ∧ P S (.val (.ref C) :: ds) q ∧ ∀ G2 H2 fs, Stp S G Hc G2 H2 → Dat K G2 (.ref x) (.obj C fs) → q (.obj C fs) → Q .non H2
theorem we_make {C : Addr} {P : Res → List X3.D → (X3.D → Prop) → Prop} {tA : TA} {E : XK} {Q : X3.D → Prop} (h : WA K S tA ρ fun ds => P S (.val (.ref C) :: ds) Q) : WE K S (tMake C (spNew K P) [] E tA) ρ Q := fun σ G H k w sl c =>
  h σ G H _ w sl fun vs ds G' H' s dt q => fun x dx hx hd ne => ⟨x, dx, C, vs, S, G', H', ds, Q, by rw [List.append_nil], hx, hd, ne, rfl, s.w, dt, q, fun G2 H2 fs s2 d2 q2 => ⟨rfl, c _ _ G2 H2 (s.trans s2) d2 q2⟩⟩
/-- an __init__'s body: the reading of its term -/
theorem read_new {t : TS} {NN : List Str} {vs : List V} {P : Res → List X3.D → (X3.D → Prop) → Prop} {Q : VK} {E : XK} (h : spNew K P vs H Q E) (rd : ∀ S x C ds q, P S (.val (.ref C) :: ds) q → ds.length + 1 = vs.length → WS K S t (.own 0 :: ds.map .dat ++ List.replicate (NN.length - (ds.length + 1)) .no) [.obj x C []] { nx := fun _ μ => ∃ fs, μ[0]? = some (.obj x C fs) ∧ q (.obj C fs), rt := fun _ => False }) :
    t { nx := fun _ H' => Q .non H', rt := Q } (L2.start NN vs) H := by
  obtain ⟨x, dx, C, us, S, G, Hc, ds, q, rfl, hx, hd, ne, rfl, w, dt, hp, k⟩ := h
  have hl := dt.length
  have hx2 : (upd Hc dx (.own x)) x = none := by rw [upd_ne ne.symm]; exact hx
  have s : Stp S G Hc G (upd (upd Hc dx (.own x)) x (.ins C dx [])) := .junk w ((Le.new hd).trans (Le.new hx2))
  refine rd S x C ds q hp (by simp [hl]) G Hc _ _ _ w.src ⟨G, [x], s, ⟨by unfold L2.start; simp [hl], fun i d e => ?_⟩, rfl, by simp, fun i j e => ?_, fun j a m e1 e2 => ?_⟩ ⟨?_, fun v d G2 H2 _ _ z => z.elim, fun _ _ _ _ _ z => z.elim, fun _ _ _ _ _ z => z.elim⟩
  · cases i with
    | zero => cases e
    | succ i =>
      have e' : (ds.map SD.dat ++ List.replicate (NN.length - (ds.length + 1)) SD.no)[i]? = some (SD.dat d) := by simpa using e
      by_cases c : i < ds.length
      · rw [List.getElem?_append_left (by simpa using c), List.getElem?_map] at e'
        cases z : ds[i]? with
        | none =>
          rw [z] at e'
          cases e'
        | some d' =>
          rw [z] at e'
          cases e'
          obtain ⟨v, h1, h2⟩ := dt.get z
          refine ⟨v, ?_, h2⟩
          unfold L2.start
          rw [List.getElem?_append_left (by simp [hl]; omega)]
          simp [h1]
      · rw [List.getElem?_append_right (by simpa using c)] at e'
        have z := List.eq_of_mem_replicate (List.mem_of_getElem? e')
        cases z
  · cases i with
    | zero =>
      have e' : SD.own 0 = SD.own j := by simpa using e
      cases e'
      exact ⟨x, rfl, rfl⟩
    | succ i =>
      have e' : (ds.map SD.dat ++ List.replicate (NN.length - (ds.length + 1)) SD.no)[i]? = some (SD.own j) := by simpa using e
      have z := List.mem_of_getElem? e'
      rcases List.mem_append.mp z with z | z
      · obtain ⟨_, _, z⟩ := List.mem_map.mp z
        cases z
      · have z' := List.eq_of_mem_replicate z
        cases z'
  · cases j with
    | zero =>
      have e1' : some x = some a := e1
      have e2' : some (M.obj x C []) = some m := e2
      cases e1'
      cases e2'
      exact ⟨hx, by rw [upd_same]; exact Option.some_ne_none _, rfl, w.fresh hx, dx, [], upd_same, .nil⟩
    | succ n => simp at e1
  · rintro σ2 H2 ρ2 μ2 ⟨G2, as2, r2⟩ ⟨fs, hm, hq⟩
    obtain ⟨G3, le, s3, _, fr⟩ := r2.freeze w.src
    have h0 : 0 < as2.length := by
      rw [r2.alen]
      exact (List.getElem?_eq_some_iff.mp hm).1
    obtain ⟨_, _, ea, _, dx2, vs2, at2, df⟩ := r2.cell 0 as2[0] _ (List.getElem?_eq_getElem h0) hm
    have ma : x ∈ as2 := ea ▸ List.getElem_mem h0
    exact k G3 H2 fs s3 (.obj (dx := dx2) (by rw [fr x ma, ← ea]; exact at2) (df.mono le)) hq
end
end X3

set_option Elab.async false
set_option linter.all false
set_option maxRecDepth 100000
set_option maxHeartbeats 4000000
/-! # enumerate of a tuple; min, max of a list of ints -/
namespace PySem
open Sem (wp)
open AutoSeq1 (wpAny_loadPart')
theorem enum_new_tup (t : Addr) (us : Array Value) (n : Nat) (dc : Option Addr) (sl : Array (Option Value)) :
    Meets (Builtin.«enumerate.__new__» { pos := [.type "enumerate", .ref t] }) (fun _ R st => st.heap.get? t = some { cls := .type "tuple", dict := dc, data := .seq us n, slots := sl } ∧
      R (.ok (.ret (.ref (st.heap.push { cls := .type "tuple_iterator", data := .fields #[.ref t, .int 0 0] }).objs.size)))
        { st with heap := (st.heap.push { cls := .type "tuple_iterator", data := .fields #[.ref t, .int 0 0] }).push { cls := .type "enumerate", data := .fields #[.none, .bool false, .ref st.heap.objs.size, rawInt 0, .none, .none] } }) :=
  Meets.of_wp fun prog w A R st h => by
    obtain ⟨hp, g, d, tk, os⟩ := st
    obtain ⟨at_, h⟩ := h
    have sub := sub_enumerate
    have whole : Heap.IsTuple (Shared.heap ⟨hp, g, d, tk, os⟩) t us := ⟨_, at_, rfl, n, rfl⟩
    wp_walk using wpAny_loadPart' at_
    refine wpAny_stack_any fun stk => wpAny_pure ?_
    split
    · rename_i c _ _ _ _ _
      cases (c == Value.type "enumerate") <;> (wp_walk using wpAny_loadPart' at_, wpAny_pyIter_tuple whole; exact ⟨_, rfl, h⟩)
    · wp_walk using wpAny_loadPart' at_, wpAny_pyIter_tuple whole
      exact ⟨_, rfl, h⟩
theorem call_enum_tup {prog : Program} {w : World} {A : Around} {E : Value → Shared → Prop} {st : Shared} {t : Addr} {us : Array Value} {Q : Value → Shared → Prop} (whole : st.heap.IsTuple t us)
    (go : ∀ hp, IsEnum hp (st.heap.objs.size + 1) st.heap.objs.size 0 .none → hp.IsTupleIter st.heap.objs.size t 0 → (∀ b o, st.heap.get? b = some o → hp.get? b = some o) → Q (.ref (st.heap.objs.size + 1)) { st with heap := hp }) :
    wpAny (model prog w) A (call (.type "enumerate") [.ref t]) Q E st := by
  obtain ⟨⟨oc, dc, dt, sl⟩, at_, cls, n, dat⟩ := whole
  cases (show oc = .type "tuple" from cls)
  cases (show dt = .seq us n from dat)
  refine callType_new F.called_enumerate (by decide) (F.typeCall_enumerate_1 _) (F.newCall_enumerate_1 _) (fun obj => F.args_object_init_2 obj _) F.entry_enumerate_new (enum_new_tup t us n dc sl) ⟨at_, ?_⟩
  have sz : (st.heap.push { cls := .type "tuple_iterator", data := .fields #[.ref t, .int 0 0] }).objs.size = st.heap.objs.size + 1 := Heap.size_push ..
  have new : IsEnum ((st.heap.push { cls := .type "tuple_iterator", data := .fields #[.ref t, .int 0 0] }).push { cls := .type "enumerate", data := .fields #[.none, .bool false, .ref st.heap.objs.size, rawInt 0, .none, .none] }) (st.heap.objs.size + 1) st.heap.objs.size 0 .none := by
    have z := Heap.get?_push_size (st.heap.push { cls := .type "tuple_iterator", data := .fields #[.ref t, .int 0 0] }) (o := { cls := .type "enumerate", data := .fields #[.none, .bool false, .ref st.heap.objs.size, rawInt 0, .none, .none] }) rfl
    rw [sz] at z
    exact z
  show _ ∧ _
  rw [sz]
  exact ⟨⟨_, new, rfl⟩, go _ new ⟨_, Heap.get?_push_of_some _ (Heap.get?_push_size _ rfl), rfl, rfl⟩ fun b o x => Heap.get?_push_of_some _ (Heap.get?_push_of_some _ x)⟩
end PySem
namespace X3
open PySem PySem.Spec PyProof.Rows L2
/-- the tuple at a, each item in a new pair -/
def Itet (K : PySem.W.Frag) (a : Addr) : It :=
  ⟨fun i H => ∃ (xs : List V) (x : V), SqT K H a xs ∧ xs[i]? = some x, fun i H v H' => ∃ T x, v = .ref T ∧ H T = none ∧ H' = upd H T (.tup [.int (i : Nat), x]) ∧ ∀ xs, SqT K H a xs → xs[i]? = some x, fun i H => ∃ xs : List V, SqT K H a xs ∧ xs.length ≤ i⟩
theorem turn_enumT {P : Program} {w : World} {K : PySem.W.Frag} {elts : List Expr} {kk : Nat} {tpos : Pos} (a e it : Addr) :
    Turn P w K (.Tuple elts kk tpos) (Itet K a) [e, it] e (fun i h => (∃ old, IsEnum h e it ((i : Nat) : Int) old) ∧ h.IsTupleIter it a i ∧ e ≠ it) where
  mem := by simp
  obj := fun i h st b hb => by
    obtain ⟨⟨old, he⟩, ⟨o, ho, hc, hd⟩, _⟩ := st
    have e' : b = e ∨ b = it := by simpa using hb
    rcases e' with z | z
    · rw [z]
      exact ⟨_, he, fun v q => nomatch q⟩
    · rw [z]
      exact ⟨o, ho, fun v q => by
        rw [hd] at q
        cases q⟩
  keep := fun i h h' st k => by
    obtain ⟨⟨old, he⟩, ⟨o, ho, r⟩, ne⟩ := st
    exact ⟨⟨old, k e (by simp) _ he⟩, ⟨o, k it (by simp) o ho, r⟩, ne⟩
  item := by
    intro X hP hw hK hc i pins st σ H E I hf tn hg
    cases hP
    cases hw
    cases hK
    obtain ⟨⟨old, he⟩, hit, hne⟩ := tn
    obtain ⟨xs, x, hq, hx⟩ := hg
    obtain ⟨its, rv, p, hz⟩ := I.tuple hq
    obtain ⟨u, hu, ru⟩ := rv.get hx
    have whole : st.heap.IsTuple a its.toArray := p
    have hel : e < st.heap.objs.size := Heap.lt_size he
    have hil : it < st.heap.objs.size := by
      obtain ⟨_, q, _⟩ := hit
      exact Heap.lt_size q
    have tne : a ≠ it := fun z => by
      obtain ⟨o1, h1, c1, _⟩ := hit
      obtain ⟨o2, h2, c2, _⟩ := whole
      rw [z, h1] at h2
      cases h2
      rw [c1] at c2
      exact absurd (Value.type.inj c2) (by decide)
    have tne2 : a ≠ e := fun z => by
      obtain ⟨o2, h2, c2, _⟩ := whole
      rw [z, he] at h2
      cases h2
      exact absurd (Value.type.inj c2) (by decide)
    have D := Draws.tuple (prog := X.prog) (w := X.w) (A := X.A.in1) (I.ok.hd hc) it a tne its.toArray
    have hi : i < its.toArray.size := by
      have z := List.getElem?_eq_some_iff.mp hu
      simpa using z.1
    refine wpAny_pyNext_enum_itemD D he ⟨hit, whole⟩ hi hne (by simp [hne, tne2.symm]) fun x' h' tk px ho hst' hT hsz hk => ?_
    have ex : x' = u := by
      have px' : its[i]? = some x' := by simpa using px
      rw [hu] at px'
      exact (Option.some.inj px').symm
    subst ex
    refine ⟨_, rfl, wpAny_letOwnedTupleGo_enum (s := { st with heap := h', toks := tk + 1 }) ho fun h'' he' sb => ?_⟩
    have hT2 : h''.get? st.heap.objs.size = some { cls := .type "tuple", data := .seq #[.int i tk, x'] } := (sb.2 _ (Nat.ne_of_gt hel)).trans hT
    have new : ObjOk X.prog X.w (upd H st.heap.objs.size (.tup [.int (i : Nat), x])) h'' st.heap.objs.size (.tup [.int (i : Nat), x]) :=
      ⟨by show 2 ≤ sizeLine; decide, [.int i tk, x'], .cons ⟨_, rfl⟩ (.cons ru .nil), ⟨_, hT2, rfl, _, rfl⟩⟩
    have I1 : Inv X pins σ (upd H st.heap.objs.size (.tup [.int (i : Nat), x])) { st with heap := h'', toks := tk + 1 } :=
      I.turnedNew (ch := [e, it]) (fun b ob hb q => (sb.2 b (fun z => hb (by simp [z]))).trans (hk b ob (fun z => hb (by simp [z])) (fun z => hb (by simp [z])) q)) hf (Nat.le_refl _) new
    refine ⟨.ref st.heap.objs.size, _, I1, rfl, ⟨_, x, rfl, I.hok.fresh (Nat.le_refl _), rfl, fun ys hy => ?_⟩, ⟨⟨x', ?_⟩, ?_, hne⟩, fun b hb => ?_⟩
    · rw [I.tuple_inj hy hq]
      exact hx
    · have e1 : ((i + 1 : Nat) : Int) = (i : Int) + 1 := by omega
      rw [e1]
      exact he'
    · obtain ⟨o, h1, r⟩ := hst'.1
      exact ⟨o, (sb.2 it (Ne.symm hne)).trans h1, r⟩
    · have hb' : b < st.heap.objs.size := by
        have e' : b = e ∨ b = it := by simpa using hb
        rcases e' with z | z
        · rw [z]
          exact hel
        · rw [z]
          exact hil
      rw [upd_ne (Nat.ne_of_lt hb')]
      exact (hf b hb).1
  done := by
    intro X hP hw hK hc i pins st σ H E I hf tn hg
    cases hP
    cases hw
    cases hK
    obtain ⟨⟨old, he⟩, hit, hne⟩ := tn
    obtain ⟨xs, hq, hx⟩ := hg
    obtain ⟨its, rv, p, hz⟩ := I.tuple hq
    have whole : st.heap.IsTuple a its.toArray := p
    have hl := rv.length
    obtain ⟨f0, f1, f2, f3, f4, f5⟩ := hf it (by simp)
    have T : st.TypeIs (.ref e) "enumerate" := ⟨_, he, rfl⟩
    unfold pyNext
    refine wpAny_bind (wpAny_attempt (wpAny_callSpecial?_slot (name := Str.ofString "__next__") T F.slot_enumerate_next (wpAny_call_entry F.slot_enumerate_next T F.entry_enumerate_next ?_ (F.args_enumerate_next_1 _))))
    show wpAny _ _ (field (.ref e) 2 >>= _) _ _ _
    refine wpAny_bind (wpAny_field he rfl (x := .ref it) rfl (wpAny_bind (RZ.nextOf_tuple_end (I.ok.hd hc) hit whole (by simp; omega) fun h' x eb z => ?_)))
    obtain ⟨o, ho, cls⟩ := z
    refine wpAny_bind (wpAny_isInstance (T := "StopIteration") (b := true) ⟨o, ho, cls⟩ isSubtype_stop (wpAny_pure ?_))
    exact ⟨rfl, I.turned (t' := st.toks) (fun b o hb q => eb b o hb q) f0 f1 f3 f4 f5⟩
  self := fun A i s Q E st h => let ⟨⟨_, he⟩, _⟩ := st; wpAny_pyIter_enum he h
def iEnumT (K : PySem.W.Frag) (ta : TA) : TI := fun σ H R => ta σ H fun vs H1 => ∃ a xs, vs = [.ref a] ∧ SqT K H1 a xs ∧ R (Itet K a) H1
theorem pi_enumT {X : Cx} {e : Expr} {ta : TA} {p pos tpos : Pos} {elts : List Expr} {kk : Nat} (hg : Gl X "enumerate") (hm : X.mg "enumerate" = none) (ha : PA X [e] ta) (hs : starEach [e] X.env = [(false, eval e X.env)] := by rfl) :
    PI X (.Tuple elts kk tpos) (.Call (.Name "enumerate" p) [e] [] pos) (iEnumT X.K ta) where
  run pins s0 σ H R I h := by
    refine Call_ (ld_blt I hg hm PyProof.Rows.boot_enumerate (PyProof.Rows.callWith_type1 (thn (ha.run pos pins s0 σ H _ I h) fun us st ⟨vs, H1, I1, rs, a, xs, ex, hq, q⟩ => ?_) hs rfl))
    subst ex
    rw [Vals.ref1 rs]
    obtain ⟨its, rv, p', hz⟩ := I1.tuple hq
    refine call_enum_tup (show st.heap.IsTuple a its.toArray from p') fun h' he hit hk => wpAny_pyIter_enum he ?_
    have I2 : Inv X pins σ H1 { st with heap := h' } := I1.kept (t' := st.toks) hk
    refine ⟨st.heap.objs.size + 1, [st.heap.objs.size + 1, st.heap.objs.size], _, _, H1, rfl, I2, turn_enumT a (st.heap.objs.size + 1) st.heap.objs.size, ⟨⟨.none, he⟩, hit, Nat.succ_ne_self _⟩, fun b hb => ?_, q⟩
    have e' : b = st.heap.objs.size + 1 ∨ b = st.heap.objs.size := by simpa using hb
    have far : st.heap.objs.size ≤ b := by
      rcases e' with z | z
      · rw [z]
        exact Nat.le_succ _
      · rw [z]
        exact Nat.le_refl _
    exact I1.fpOk far (I1.hok.fresh far)
/-- enumerated data -/
def enumD (ds : List X3.D) : List X3.D := (List.range ds.length).zipWith (fun i d => .tup [.int (i : Nat), d]) ds
theorem enumD_len (ds : List X3.D) : (enumD ds).length = ds.length := by simp [enumD]
theorem enumD_get {ds : List X3.D} {i : Nat} {d : X3.D} (h : ds[i]? = some d) : (enumD ds)[i]? = some (.tup [.int (i : Nat), d]) := by
  have hl := (List.getElem?_eq_some_iff.mp h).1
  unfold enumD
  rw [List.getElem?_zipWith, List.getElem?_range hl, h]
section
variable {K : PySem.W.Frag} {S : Res} {ρ : Rho} {tA : TA} {P : List X3.D → Prop}
theorem iter_enumT {G : Hp} {a : Addr} {xs : List V} {ds : List X3.D} (h : SqT K G a xs) (r : DatL K G xs ds) : IterOk K S (Itet K a) G (enumD ds) :=
  ⟨fun H => SqT K H a xs, fun i H v H' => ∃ T x, v = .ref T ∧ H T = none ∧ H' = upd H T (.tup [.int (i : Nat), x]) ∧ xs[i]? = some x,
    ⟨fun i H hi q => ⟨xs, xs[i]'(by rw [enumD_len, ← r.length] at hi; exact hi), q, by rw [enumD_len, ← r.length] at hi; simp [hi]⟩, fun H q => ⟨xs, q, by rw [enumD_len, r.length]; exact Nat.le_refl _⟩,
      fun i H x H' hi q y => by
        obtain ⟨T, x', e1, e2, e3, e4⟩ := y
        exact ⟨T, x', e1, e2, e3, e4 xs q⟩⟩,
    fun H le => le_t le h, fun i H v H' G1 hi le w y => by
      obtain ⟨T, x, rfl, hT, rfl, hx⟩ := y
      obtain ⟨d, e1, e2⟩ := r.getV hx
      exact ⟨_, _, enumD_get e1, .new w hT, .tup (SqT.of upd_same) (.cons (.int _) (.cons ((e2.mono le).mono (Le.new (w.fresh hT))) .nil))⟩⟩
theorem wi_enumT (h : WA K S tA ρ fun vs => ∃ ds, vs = [.tup ds] ∧ P (enumD ds)) : WI K S (iEnumT K tA) ρ P := fun σ G H R w s c =>
  h σ G H _ w s fun vs ds G' H' st dt q => by
    obtain ⟨ds, rfl, q⟩ := q
    cases dt with
    | cons a r =>
      cases r
      cases a with
      | tup h1 r => exact ⟨_, _, rfl, le_t st.w.le h1, c _ _ G' H' st (iter_enumT h1 r) q⟩
theorem iter_enumL {G : Hp} {a : Addr} {xs : List V} {ds : List X3.D} (h : G a = some (.lst xs)) (r : DatL K G xs ds) : IterOk K S (Ite K a) G (enumD ds) :=
  ⟨fun H => SqL K H a xs, fun i H v H' => ∃ T x, v = .ref T ∧ H T = none ∧ H' = upd H T (.tup [.int (i : Nat), x]) ∧ xs[i]? = some x,
    ⟨fun i H hi q => ⟨xs, xs[i]'(by rw [enumD_len, ← r.length] at hi; exact hi), q, by rw [enumD_len, ← r.length] at hi; simp [hi]⟩, fun H q => ⟨xs, q, by rw [enumD_len, r.length]; exact Nat.le_refl _⟩,
      fun i H x H' hi q y => by
        obtain ⟨T, x', e1, e2, e3, e4⟩ := y
        exact ⟨T, x', e1, e2, e3, e4 xs q⟩⟩,
    fun H le => SqL.of (le _ _ h), fun i H v H' G1 hi le w y => by
      obtain ⟨T, x, rfl, hT, rfl, hx⟩ := y
      obtain ⟨d, e1, e2⟩ := r.getV hx
      exact ⟨_, _, enumD_get e1, .new w hT, .tup (SqT.of upd_same) (.cons (.int _) (.cons ((e2.mono le).mono (Le.new (w.fresh hT))) .nil))⟩⟩
theorem wi_enumL (h : WA K S tA ρ fun vs => ∃ ds, vs = [.list ds] ∧ P (enumD ds)) : WI K S (iEnum K tA) ρ P := fun σ G H R w s c =>
  h σ G H _ w s fun vs ds G' H' st dt q => by
    obtain ⟨ds, rfl, q⟩ := q
    cases dt with
    | cons a r =>
      cases r
      cases a with
      | list h1 r => exact ⟨_, _, rfl, SqL.of (st.w.le _ _ h1), c _ _ G' H' st (iter_enumL h1 r) q⟩
end
end X3

set_option Elab.async false
set_option linter.all false
set_option maxRecDepth 100000
set_option maxHeartbeats 4000000
/-! # X3: min and max of ints, dict of pairs, texts -/
namespace X3
theorem iteNT {A B : Prop} (h : B) : if (!true) = true then A else B := by
  rw [if_neg (by decide)]
  exact h
theorem iteNF {A B : Prop} (h : A) : if (!false) = true then A else B := by
  rw [if_pos (by decide)]
  exact h
theorem iteD {p A B : Prop} [Decidable p] (h : p) (a : A) : if decide p = true then A else B := by
  rw [if_pos (decide_eq_true h)]
  exact a
theorem iteDN {p A B : Prop} [Decidable p] (h : ¬ p) (b : B) : if decide p = true then A else B := by
  rw [if_neg (by rw [decide_eq_false h]; exact Bool.false_ne_true)]
  exact b
open PySem PySem.Spec PyProof.Rows L2
def rMinI (K : PySem.W.Frag) : List V → Hp → VK → Prop := fun vs H Q => ∃ (a : Addr) (ns : List Int), vs = [.ref a] ∧ SqL K H a (ns.map V.int) ∧ ns ≠ [] ∧ ∀ m ∈ ns, (∀ x ∈ ns, m ≤ x) → Q (.int m) H
def rMaxI (K : PySem.W.Frag) : List V → Hp → VK → Prop := fun vs H Q => ∃ (a : Addr) (ns : List Int), vs = [.ref a] ∧ SqL K H a (ns.map V.int) ∧ ns ≠ [] ∧ ∀ m ∈ ns, (∀ x ∈ ns, x ≤ m) → Q (.int m) H
/-- a list of ints as the library's -/
theorem ints_lib {its : List Value} {ns : List Int} (rv : Vals (ns.map V.int) its) : ∃ xs : Array (Int × Tok), its.toArray = intItems xs ∧ xs.size = ns.length ∧ ∀ j n, ns[j]? = some n → numAt xs j = n := by
  have all : AllInts its.toArray := fun v hv => by
    obtain ⟨j, hj, e⟩ := List.mem_iff_getElem.mp (show v ∈ its by simpa using hv)
    have hl := rv.length
    rw [List.length_map] at hl
    have hn : j < ns.length := by omega
    obtain ⟨u, hu, ru⟩ := rv.get (i := j) (x := .int ns[j]) (by simp [hn])
    rw [List.getElem?_eq_getElem hj, e] at hu
    cases hu
    obtain ⟨t, rfl⟩ := ru
    exact ⟨_, t, rfl⟩
  obtain ⟨xs, e⟩ := all.items
  have sz : xs.size = its.length := by
    have := congrArg Array.size e
    simpa [intItems] using this.symm
  have hl := rv.length
  rw [List.length_map] at hl
  refine ⟨xs, e, by omega, fun j n hj => ?_⟩
  obtain ⟨u, hu, ru⟩ := rv.get (i := j) (x := .int n) (by rw [List.getElem?_map, hj]; rfl)
  have hu' : (intItems xs)[j]? = some u := by rw [← e]; simpa using hu
  obtain ⟨t, rfl⟩ := intItems_at hu'
  obtain ⟨t', e'⟩ := ru
  cases e'
  rfl
theorem call_minI {X : Cx} (hc : X.calm = true) : CallR X (.builtin "min") (rMinI X.K) := by
  intro pins st σ H vs us Q I r h
  obtain ⟨a, ns, rfl, hs, ne, q⟩ := h
  obtain ⟨its, rv, hl, _⟩ := I.list hs
  rw [Vals.ref1 r]
  obtain ⟨xs, e, sz, at_⟩ := ints_lib rv
  have hl' : st.heap.IsList a (intItems xs) := e ▸ hl.isList
  have pos : 0 < ns.length := List.length_pos_iff.mpr ne
  refine min_intList (I.ok.hd hc) hl' (by omega) fun v h' tk hv hk => ?_
  obtain ⟨t, rfl⟩ := intItems_at hv
  obtain ⟨h1, h2⟩ := argBest_lt (numAt xs) (xs.size - 1)
  refine ⟨.int _, H, I.kept hk, ⟨t, rfl⟩, q _ ?_ fun x hx => ?_⟩
  · have hj : argBest (fun i j => decide (numAt xs i < numAt xs j)) (xs.size - 1) < ns.length := by omega
    rw [at_ _ _ (List.getElem?_eq_getElem hj)]
    exact List.getElem_mem hj
  · obtain ⟨j, hj, ej⟩ := List.mem_iff_getElem.mp hx
    have := h2 j (by omega)
    rw [at_ j x (by rw [List.getElem?_eq_getElem hj, ej])] at this
    exact this
theorem call_maxI {X : Cx} (hc : X.calm = true) : CallR X (.builtin "max") (rMaxI X.K) := by
  intro pins st σ H vs us Q I r h
  obtain ⟨a, ns, rfl, hs, ne, q⟩ := h
  obtain ⟨its, rv, hl, _⟩ := I.list hs
  rw [Vals.ref1 r]
  obtain ⟨xs, e, sz, at_⟩ := ints_lib rv
  have hl' : st.heap.IsList a (intItems xs) := e ▸ hl.isList
  have pos : 0 < ns.length := List.length_pos_iff.mpr ne
  refine max_intList (I.ok.hd hc) hl' (by omega) fun v h' tk hv hk => ?_
  obtain ⟨t, rfl⟩ := intItems_at hv
  obtain ⟨h1, h2⟩ := argBest_gt (numAt xs) (xs.size - 1)
  refine ⟨.int _, H, I.kept hk, ⟨t, rfl⟩, q _ ?_ fun x hx => ?_⟩
  · have hj : argBest (fun i j => decide (numAt xs i > numAt xs j)) (xs.size - 1) < ns.length := by omega
    rw [at_ _ _ (List.getElem?_eq_getElem hj)]
    exact List.getElem_mem hj
  · obtain ⟨j, hj, ej⟩ := List.mem_iff_getElem.mp hx
    have := h2 j (by omega)
    rw [at_ j x (by rw [List.getElem?_eq_getElem hj, ej])] at this
    exact this
def rDictP (K : PySem.W.Frag) : List V → Hp → VK → Prop := fun xs H Q => ∃ (a : Addr) (ps : List Addr) (kvs : List (Key × V)), xs = [.ref a] ∧ SqL K H a (ps.map V.ref) ∧ Paired (fun p kv => SqT K H p [kV kv.1, kv.2]) ps kvs ∧ ∀ p, H p = none → Q (.ref p) (upd H p (.dK (mergeK [] kvs)))
def mergeD (kvs more : List (Key × X3.D)) : List (Key × X3.D) := more.foldl (fun acc kv => putD acc kv.1 kv.2) kvs
section
variable {K : PySem.W.Frag} {S : Res} {ρ : Rho} {Q : X3.D → Prop}
theorem DatK.merge {G : Hp} : ∀ {more : List (Key × V)} {mored : List (Key × X3.D)} {xs : List (Key × V)} {ds : List (Key × X3.D)}, DatK K G more mored → DatK K G xs ds → DatK K G (mergeK xs more) (mergeD ds mored)
  | _, _, _, _, .nil => fun r => r
  | _, _, xs, ds, .cons (k := k) (v := v) (vs := vs) (d := d) (ds := es) h m => fun r => by
    have z : DatK K G (mergeK (putK xs k v) vs) (mergeD (putD ds k d) es) := DatK.merge m (r.put h)
    exact z
theorem wc_dictP {kvs : List (Key × X3.D)} (q : Q (.dict (mergeD [] kvs))) : WRC K S (rDictP K) [.list (kvs.map fun kv => .tup [kD kv.1, kv.2])] Q := fun G H vs k w dx c => by
  have un : ∀ {kvs : List (Key × X3.D)} {vs : List V}, DatL K G vs (kvs.map fun kv => .tup [kD kv.1, kv.2]) → ∃ (ps : List Addr) (ks : List (Key × V)), vs = ps.map V.ref ∧ Paired (fun p kv => SqT K H p [kV kv.1, kv.2]) ps ks ∧ DatK K G ks kvs := fun {kvs} => by
    induction kvs with
    | nil =>
      intro vs h
      cases h
      exact ⟨[], [], rfl, .nil, .nil⟩
    | cons kv kvs ih =>
      intro vs h
      cases h with
      | cons a r =>
        obtain ⟨ps, ks, e, p, dk⟩ := ih r
        cases a with
        | tup h1 r2 =>
          cases r2 with
          | cons a1 r3 =>
            cases r3 with
            | cons a2 r4 =>
              cases r4
              rename_i ad _ v2
              refine ⟨ad :: ps, (kv.1, v2) :: ks, by rw [e]; rfl, .cons ?_ p, .cons a2 dk⟩
              rw [← kD_v a1]
              exact le_t w.le h1
  cases dx with
  | cons a r =>
    cases r
    cases a with
    | list h r =>
      obtain ⟨ps, ks, e, p, dk⟩ := un r
      subst e
      refine ⟨_, ps, ks, rfl, SqL.of (w.le _ _ h), p, fun pp hp => ?_⟩
      exact c _ _ _ _ (.new w hp) (.dict upd_same (((DatK.merge dk .nil)).mono (Le.new (w.fresh hp)))) q
theorem wc_minI {ns : List Int} (ne : ns ≠ []) (q : ∀ m ∈ ns, (∀ x ∈ ns, m ≤ x) → Q (.int m)) : WRC K S (rMinI K) [.list (ns.map .int)] Q := fun G H vs k w dx c => by
  cases dx with
  | cons a r =>
    cases r
    cases a with
    | list h r =>
      have e := r.ints
      subst e
      exact ⟨_, ns, rfl, SqL.of (w.le _ _ h), ne, fun m hm hx => c _ _ G H (.refl w) (.int m) (q m hm hx)⟩
theorem wc_maxI {ns : List Int} (ne : ns ≠ []) (q : ∀ m ∈ ns, (∀ x ∈ ns, x ≤ m) → Q (.int m)) : WRC K S (rMaxI K) [.list (ns.map .int)] Q := fun G H vs k w dx c => by
  cases dx with
  | cons a r =>
    cases r
    cases a with
    | list h r =>
      have e := r.ints
      subst e
      exact ⟨_, ns, rfl, SqL.of (w.le _ _ h), ne, fun m hm hx => c _ _ G H (.refl w) (.int m) (q m hm hx)⟩
/-- a text's part -/
theorem we_slS {te : TE} {tl th : TO} (h : WE K S te ρ fun x => WO K S tl ρ fun lo => WO K S th ρ fun hi => ∃ z, x = .str z ∧ z.length ≤ 100000 ∧ Q (.str (cutS z lo hi))) : WE K S (tSl rSlS te tl th) ρ Q := fun σ G H k w s c =>
  h σ G H _ w s fun vx x G1 H1 s1 d1 h1 => h1 σ G1 H1 _ s1.w (s.mono s1.gg) fun lo G2 H2 s2 h2 => h2 σ G2 H2 _ s2.w (s.mono (s1.gg.trans s2.gg)) fun hi G3 H3 s3 q => by
    obtain ⟨z, rfl, hl, q⟩ := q
    cases d1
    exact ⟨z, rfl, Nat.le_trans hl (by decide), c _ _ G3 H3 ((s1.trans s2).trans s3) (.str _) q⟩
end
end X3

set_option Elab.async false
set_option linter.all false
set_option maxRecDepth 100000
set_option maxHeartbeats 4000000
/-! # X3: what a dict over data has -/
namespace X3
open PySem PySem.Spec PyProof.Rows L2
theorem getK_map (k j : Key) (y : X3.D) : ∀ kvs : List (Key × X3.D), getK (kvs.map fun kv => if kv.1 = k then (kv.1, y) else kv) j = (getK kvs j).map fun x => if j = k then y else x
  | [] => rfl
  | p :: kvs => by
    rw [List.map_cons, getK_cons, getK_cons, getK_map k j y kvs]
    by_cases e : p.1 = k
    · rw [if_pos e]
      by_cases e2 : p.1 = j
      · rw [if_pos e2, if_pos e2]
        simp [← e2, e]
      · rw [if_neg e2, if_neg e2]
    · rw [if_neg e]
      by_cases e2 : p.1 = j
      · rw [if_pos e2, if_pos e2]
        have : ¬ j = k := fun z => e (e2.trans z)
        simp [this]
      · rw [if_neg e2, if_neg e2]
theorem getK_snoc (k j : Key) (y : X3.D) : ∀ kvs : List (Key × X3.D), getK kvs k = none → getK (kvs ++ [(k, y)]) j = if j = k then some y else getK kvs j
  | [], _ => by
    rw [List.nil_append, getK_cons]
    by_cases e : k = j
    · rw [if_pos e, if_pos e.symm]
    · rw [if_neg e, if_neg (Ne.symm e)]
  | p :: kvs, h => by
    rw [getK_cons] at h
    by_cases e : p.1 = k
    · rw [if_pos e] at h
      cases h
    · rw [if_neg e] at h
      rw [List.cons_append, getK_cons, getK_cons, getK_snoc k j y kvs h]
      by_cases e2 : p.1 = j
      · rw [if_pos e2, if_pos e2]
        have : ¬ j = k := fun z => e (e2.trans z)
        rw [if_neg this]
      · rw [if_neg e2, if_neg e2]
theorem getK_put (kvs : List (Key × X3.D)) (k j : Key) (y : X3.D) : getK (putD kvs k y) j = if j = k then some y else getK kvs j := by
  unfold putD
  cases e : getK kvs k with
  | none =>
    rw [if_neg (by simp)]
    exact getK_snoc k j y kvs e
  | some z =>
    rw [if_pos (by simp), getK_map]
    by_cases x : j = k
    · rw [if_pos x, x, e]
      simp
    · simp [x]
theorem putD_len (kvs : List (Key × X3.D)) (k : Key) (y : X3.D) : (putD kvs k y).length ≤ kvs.length + 1 := by
  unfold putD
  split <;> simp
theorem putD_new {kvs : List (Key × X3.D)} {k : Key} (y : X3.D) (h : getK kvs k = none) : putD kvs k y = kvs ++ [(k, y)] := by
  unfold putD
  rw [h]
  rfl
/-- a dict by texts: the last pair of a key counts, the first one gives its place -/
theorem getK_pairs {kvs : List (Key × X3.D)} {k : Key} : (getK kvs k).isSome = true ↔ k ∈ kvs.map (·.1) := by
  induction kvs with
  | nil => simp [getK]
  | cons p kvs ih =>
    rw [getK_cons]
    by_cases e : p.1 = k
    · simp [e]
    · rw [if_neg e, ih]
      have e' : ¬ k = p.1 := fun z => e z.symm
      simp [e']
theorem getK_of_nodup : ∀ {kvs : List (Key × X3.D)} {k : Key} {v : X3.D}, (kvs.map (·.1)).Nodup → (k, v) ∈ kvs → getK kvs k = some v
  | [], _, _, _, h => by cases h
  | p :: kvs, k, v, nd, h => by
    rw [getK_cons]
    rw [List.map_cons, List.nodup_cons] at nd
    rcases List.mem_cons.mp h with rfl | h
    · rw [if_pos rfl]
    · have ne : ¬ p.1 = k := fun z => nd.1 (z ▸ List.mem_map_of_mem (f := (·.1)) h)
      rw [if_neg ne]
      exact getK_of_nodup nd.2 h
theorem mergeD_nodup : ∀ {more acc : List (Key × X3.D)}, ((acc ++ more).map (·.1)).Nodup → mergeD acc more = acc ++ more
  | [], acc, _ => by simp [mergeD]
  | p :: more, acc, nd => by
    have no : getK acc p.1 = none := by
      cases e : getK acc p.1 with
      | none => rfl
      | some v =>
        have h1 : p.1 ∈ acc.map (·.1) := getK_pairs.mp (by rw [e]; rfl)
        rw [List.map_append, List.map_cons] at nd
        exact absurd h1 (fun z => (List.nodup_append.mp nd).2.2 _ z _ (List.mem_cons_self ..) rfl)
    have e : mergeD acc (p :: more) = mergeD (putD acc p.1 p.2) more := rfl
    rw [e, putD_new _ no, mergeD_nodup (by rw [List.append_assoc]; exact nd), List.append_assoc]
    rfl
/-- the truth of a value as a test -/
def tTru (K : PySem.W.Frag) (te : TE) : TT := fun σ H Q => te σ H fun x H' => ∃ k, TruV K x H' k ∧ Q k H'
theorem wt_tru {K : PySem.W.Frag} {S : Res} {ρ : Rho} {te : TE} {P : Bool → Prop} (h : WE K S te ρ fun d => ∃ b, TruD d b ∧ P b) : WT K S (tTru K te) ρ P := wt_truth h
/-- a prefix of what is enumerated -/
theorem enum_split {ds pre post : List X3.D} {d : X3.D} (h : enumD ds = pre ++ d :: post) : ∃ y, ds[pre.length]? = some y ∧ d = .tup [.int (pre.length : Nat), y] := by
  have hl : pre.length < ds.length := by
    have := congrArg List.length h
    rw [enumD_len] at this
    simp at this
    omega
  have e1 : (enumD ds)[pre.length]? = some d := by rw [h]; simp
  have e2 := List.getElem?_eq_getElem hl
  rw [enumD_get e2] at e1
  exact ⟨_, e2, (Option.some.inj e1).symm⟩
/-- name = {k: v for ..} on one line, the name a local -/
theorem ps_setDc {X : Cx} {i : Nat} {y : Str} {py : Pos} {kx vx tg iter : Expr} {ifs : List Expr} {scope : Scope} {own : List (Str × Nat)} {pos spos : Pos} {wi : TI} {g : TG} {tt : TT} {tk tv : TE} (hc : X.calm = true) (nd : X.N.Nodup) (hy : X.N[i]? = some y) (loc : X.env.scope.names.lookup y = some .local)
    (sw : swapsWith (.DictComp kx vx [⟨tg, iter, ifs, 0⟩] scope pos) (some (.Name y py)) spos.line X.env = pure true) (hi : PI X tg iter wi) (ok : BlkOk X.N X.env.scope scope own)
    (hg : ∀ (s : Shared) (H : Hp) (C : Addr) (cl : List (Str × Addr)) (fp : List Addr), PG (X.blk s H scope (compEnvC scope cl C X.env) fp) tg g) (ht : ∀ (s : Shared) (H : Hp) (C : Addr) (cl : List (Str × Addr)) (fp : List Addr), PTs (X.blk s H scope (compEnvC scope cl C X.env) fp) ifs tt)
    (hk : ∀ (s : Shared) (H : Hp) (C : Addr) (cl : List (Str × Addr)) (fp : List Addr), PE (X.blk s H scope (compEnvC scope cl C X.env) fp) kx tk) (hv : ∀ (s : Shared) (H : Hp) (C : Addr) (cl : List (Str × Addr)) (fp : List Addr), PE (X.blk s H scope (compEnvC scope cl C X.env) fp) vx tv)
    (fold : ∀ x, foldedSetIterable iter X.env x = pure x := by intro _; rfl) : PS X (.Assign [.Name y py] (.DictComp kx vx [⟨tg, iter, ifs, 0⟩] scope pos) spos) (tAsg (tDc wi g tt tk tv (own.map (·.2))) (gName i)) where
  run pins s σ H D I h := by
    rw [exec_Assign_Name_used _ _ _ _ sw]
    refine wpAny_bind (wpAny_standAt (wpAny_bind ?_))
    show wpAny _ X.A (do let _ ← comprehension (.DictComp kx vx [⟨tg, iter, ifs, 0⟩] scope pos) scope X.env (firstIterPos [⟨tg, iter, ifs, 0⟩] pos) newDict false (eval iter X.env) (some (assign (.Name y py) X.env))) _ _ s
    have want : tDc wi g tt tk tv (own.map (·.2)) σ H (fun x H1 => gName i x σ H1 D.nx) := h
    refine wpAny_bind (thn (dc_core (Qf := fun _ s' => SP X pins D .next s') hc nd I hi ok hg ht hk hv fold want fun L C s1 m H1 I1 q ns far => ?_) fun _ _ z => wpAny_pure (wpAny_pure z))
    obtain ⟨g0, g1, g2, g3, g4, g5⟩ := far
    show wpAny _ _ (assign (.Name y py) X.env (.ref L)) _ _ _
    refine wpAny_assign_Name (store_ok2 (v := V.ref L) I1 nd hy (.inl loc) rfl (fun s2 I2 ⟨a, sb, ha⟩ => ?_) (.inr loc))
    have apart : C ≠ a := by
      cases ha with
      | inl z => exact z ▸ g1
      | inr z => exact fun e => g4 y a z e.symm
    exact ⟨m, ns.sameBut sb apart, fun h3 sb3 => ⟨_, H1, I2.turned (t' := s2.toks) (fun b o hb e => (sb3.2 b hb).trans e) g0 g1 g3 g4 g5, q⟩⟩
end X3

set_option Elab.async false
set_option linter.all false
set_option maxRecDepth 100000
set_option maxHeartbeats 4000000
namespace X3
open PySem L2
/-! ### either of two readings of a walk -/
def iOr (a b : TI) : TI := fun σ H R => a σ H R ∨ b σ H R
theorem pi_or {X : Cx} {tg e : Expr} {a b : TI} (ha : PI X tg e a) (hb : PI X tg e b) : PI X tg e (iOr a b) := ⟨fun pins s σ H R I h => h.elim (ha.run pins s σ H R I) (hb.run pins s σ H R I)⟩
theorem split_map {α β : Type} {xs : List α} {e : α → β} {pre post : List β} {d : β} (h : xs.map e = pre ++ d :: post) : ∃ ys x zs, xs = ys ++ x :: zs ∧ pre = ys.map e ∧ d = e x := by
  obtain ⟨ys, zs, h1, h2, h3⟩ := List.map_eq_append_iff.mp h
  obtain ⟨x, zs', h4, h5, h6⟩ := List.map_eq_cons_iff.mp h3
  exact ⟨ys, x, zs', by rw [h1, h4], h2.symm, h5.symm⟩
section
variable {K : PySem.W.Frag} {S : Res} {ρ : Rho} {P : List X3.D → Prop} {Q : X3.D → Prop} {N : EndsD} {μ : Mu}
theorem wi_or1 {a b : TI} (h : WI K S a ρ P) : WI K S (iOr a b) ρ P := fun σ G H R w s c => .inl (h σ G H R w s c)
theorem wi_or2 {a b : TI} (h : WI K S b ρ P) : WI K S (iOr a b) ρ P := fun σ G H R w s c => .inr (h σ G H R w s c)
theorem wi_imp {wi : TI} {P' : List X3.D → Prop} (h : WI K S wi ρ P') (i : ∀ ds, P' ds → P ds) : WI K S wi ρ P := fun σ G H R w s c => h σ G H R w s fun J ds G' H' st it q => c J ds G' H' st it (i ds q)
theorem WG.imp {is : List Nat} {g : TG} {d : X3.D} {P P' : Rho → Prop} (h : WG K is g d ρ P) (i : ∀ ρ', P ρ' → P' ρ') : WG K is g d ρ P' := fun σ G H v k le sl dt c => h σ G H v k le sl dt fun σ' ρ' t q => c σ' ρ' t (i ρ' q)
theorem take_snoc {α β : Type} {e : α → β} {ys zs : List α} {x : α} : (ys ++ x :: zs).take (ys.map e ++ [e x]).length = ys ++ [x] := by
  have h : (ys.map e ++ [e x]).length = (ys ++ [x]).length := by simp
  rw [h, show ys ++ x :: zs = (ys ++ [x]) ++ zs by simp, List.take_left]
/-- [te for g in wi if tt] over things of one kind -/
theorem we_map {α : Type} {wi : TI} {g : TG} {tt : TT} {te : TE} {vs is : List Nat} (xs : List α) (e f : α → X3.D) (p : α → Bool) (hv : ∀ i ∈ is, i ∈ vs)
    (h : WI K S wi ρ fun ds => ds = xs.map e ∧ xs.length ≤ 100000 ∧ (∀ x ∈ xs, WG K is g (e x) (wipeR ρ vs) fun ρ2 => WT K S tt ρ2 fun b => b = p x ∧ (p x = true → WE K S te ρ2 fun y => y = f x)) ∧ Q (.list ((xs.filter p).map f))) :
    WE K S (tLc wi g tt te vs) ρ Q := by
  refine we_lc (is := is) (fun pre out => out = ((xs.take pre.length).filter p).map f) hv (wi_imp h ?_)
  rintro ds ⟨rfl, hl, ht, hq⟩
  refine ⟨rfl, ?_, ?_⟩
  · rintro pre d post out hd rfl
    obtain ⟨ys, x, zs, rfl, rfl, rfl⟩ := split_map hd
    refine (ht x (by simp)).imp fun ρ2 h2 => h2.imp fun b hb => ?_
    have e1 : (ys ++ x :: zs).take (ys.map e).length = ys := by simp
    have e2 := take_snoc (e := e) (ys := ys) (zs := zs) (x := x)
    obtain ⟨rfl, hb⟩ := hb
    rw [e1, e2, List.filter_append, List.map_append]
    cases hp : p x with
    | true =>
      rw [if_pos rfl]
      refine (hb hp).imp fun y hy => ⟨?_, ?_⟩
      · rw [List.length_map]
        refine Nat.lt_of_le_of_lt (List.length_filter_le _ _) ?_
        simp at hl
        omega
      · subst hy
        simp [hp]
    | false =>
      rw [if_neg Bool.false_ne_true]
      simp [hp]
  · rintro out rfl
    rw [List.length_map, List.take_length]
    exact hq
/-- .. with no test -/
theorem we_mapY {α : Type} {wi : TI} {g : TG} {te : TE} {vs is : List Nat} (xs : List α) (e f : α → X3.D) (hv : ∀ i ∈ is, i ∈ vs)
    (h : WI K S wi ρ fun ds => ds = xs.map e ∧ xs.length ≤ 100000 ∧ (∀ x ∈ xs, WG K is g (e x) (wipeR ρ vs) fun ρ2 => WE K S te ρ2 fun y => y = f x) ∧ Q (.list (xs.map f))) :
    WE K S (tLc wi g tYes te vs) ρ Q := by
  refine we_map xs e f (fun _ => true) hv (wi_imp h ?_)
  rintro ds ⟨rfl, hl, ht, hq⟩
  refine ⟨rfl, hl, fun x hx => ?_, ?_⟩
  · exact (ht x hx).imp fun ρ2 h2 => wt_yes ⟨rfl, fun _ => h2⟩
  · rw [List.filter_eq_self.mpr fun _ _ => rfl]
    exact hq
/-- .. of things that are drawn -/
theorem we_draw {α : Type} {wi : TI} {g : TG} {te : TE} {vs is : List Nat} (xs : List α) (e : α → X3.D) (R : List X3.D → Prop) (hv : ∀ i ∈ is, i ∈ vs)
    (h : WI K S wi ρ fun ds => ds = xs.map e ∧ xs.length ≤ 100000 ∧ R [] ∧ (∀ x ∈ xs, ∀ out, R out → WG K is g (e x) (wipeR ρ vs) fun ρ2 => WE K S te ρ2 fun y => R (out ++ [y])) ∧ ∀ out, out.length = xs.length → R out → Q (.list out)) :
    WE K S (tLc wi g tYes te vs) ρ Q := by
  refine we_lc (is := is) (fun pre out => out.length = pre.length ∧ R out) hv (wi_imp h ?_)
  rintro ds ⟨rfl, hl, h0, ht, hq⟩
  refine ⟨⟨rfl, h0⟩, ?_, ?_⟩
  · rintro pre d post out hd ⟨hlen, hr⟩
    obtain ⟨ys, x, zs, rfl, rfl, rfl⟩ := split_map hd
    refine (ht x (by simp) out hr).imp fun ρ2 h2 => wt_yes ?_
    rw [if_pos rfl]
    refine h2.imp fun y hy => ⟨?_, ?_, hy⟩
    · simp at hl hlen
      omega
    · simp at hlen ⊢
      omega
  · rintro out ⟨hlen, hr⟩
    exact hq out (by simpa using hlen) hr
/-- a for over things of one kind, told by what has been walked -/
theorem ws_forT {α : Type} {wi : TI} {g : TG} {tb : TS} {is : List Nat} (xs : List α) (e : α → X3.D) (I : List α → Rho → Mu → Prop)
    (h : WI K S wi ρ fun ds => ds = xs.map e ∧ I [] ρ μ ∧ (∀ ys x zs ρ' μ', xs = ys ++ x :: zs → I ys ρ' μ' → WG K is g (e x) ρ' fun ρ2 => WS K S tb ρ2 μ' { N with nx := I (ys ++ [x]), ct := I (ys ++ [x]), bk := N.nx }) ∧ ∀ ρ' μ', I xs ρ' μ' → N.nx ρ' μ') :
    WS K S (tFor wi g tb) ρ μ N := by
  refine ws_for (is := is) (fun pre ρ' μ' => I (xs.take pre.length) ρ' μ') (wi_imp h ?_)
  rintro ds ⟨rfl, h0, ht, hq⟩
  refine ⟨h0, ?_, ?_⟩
  · rintro pre d post ρ' μ' hd iv
    obtain ⟨ys, x, zs, rfl, rfl, rfl⟩ := split_map hd
    have e1 : (ys ++ x :: zs).take (ys.map e).length = ys := by simp
    have e2 := take_snoc (e := e) (ys := ys) (zs := zs) (x := x)
    rw [e1] at iv
    rw [e2]
    exact ht ys x zs ρ' μ' rfl iv
  · intro ρ' μ' iv
    rw [List.length_map, List.take_length] at iv
    exact hq ρ' μ' iv
/-! ### a, b = x, y -/
theorem ws_par {i j : Nat} {ta : TA} (h : WA K S ta ρ fun ds => ∃ x y, ds = [x, y] ∧ N.nx ((ρ.set i (.dat x)).set j (.dat y)) μ) : WS K S (tPar i j ta) ρ μ N := fun G0 H0 σ H E w0 r f => by
  obtain ⟨G, as, r⟩ := r
  refine h σ G H _ r.st.w r.sl fun vs ds G' H' s dt q => ?_
  obtain ⟨x, y, rfl, q⟩ := q
  cases dt with
  | cons d1 dt =>
    cases dt with
    | cons d2 dt =>
      cases dt
      exact ⟨_, _, rfl, f.nx _ _ _ _ ⟨G', as, ((r.step w0 s).set d1).set d2⟩ q⟩
theorem ws_par3 {i j l : Nat} {ta : TA} (h : WA K S ta ρ fun ds => ∃ x y z, ds = [x, y, z] ∧ N.nx (((ρ.set i (.dat x)).set j (.dat y)).set l (.dat z)) μ) : WS K S (tPar3 i j l ta) ρ μ N := fun G0 H0 σ H E w0 r f => by
  obtain ⟨G, as, r⟩ := r
  refine h σ G H _ r.st.w r.sl fun vs ds G' H' s dt q => ?_
  obtain ⟨x, y, z, rfl, q⟩ := q
  cases dt with
  | cons d1 dt =>
    cases dt with
    | cons d2 dt =>
      cases dt with
      | cons d3 dt =>
        cases dt
        exact ⟨_, _, _, rfl, f.nx _ _ _ _ ⟨G', as, (((r.step w0 s).set d1).set d2).set d3⟩ q⟩
/-- a, b = [], y -/
theorem ws_parN {i j : Nat} {te : TE} (hi : i < ρ.length) (h : WE K S te ρ fun d => N.nx ((ρ.set i (.own μ.length)).set j (.dat d)) (μ ++ [.lst []])) : WS K S (tPar i j (tCons (tLst tNil) (tCons te tNil))) ρ μ N := fun G0 H0 σ H E w0 r f => by
  obtain ⟨G, as, r⟩ := r
  refine ⟨Nat.zero_le _, fun p hp => ?_⟩
  have s0 : Stp S G H G (upd H p (.lst [])) := .junk r.st.w (Le.new hp)
  have r0 := r.step w0 s0
  refine h σ G _ _ s0.w r0.sl fun vy y G1 H1 s1 d1 q => ⟨_, _, rfl, ?_⟩
  obtain ⟨n1, n2, n3, n4⟩ := r.newp hp
  have g1 := s1.keepNone n4 (by rw [upd_same]; exact Option.some_ne_none _)
  have h1 : H1 p = some (.lst []) := s1.hh p _ n3 upd_same
  have r1 := r0.step w0 s1
  have e1 : upd H1 p (.lst []) = H1 := by
    funext a
    by_cases z : a = p
    · rw [z, upd_same, h1]
    · rw [upd_ne z]
  have r2 := r1.adopt (m := .lst []) hi n1 n2 n3 g1 ⟨g1, _, upd_same, .nil⟩
  rw [e1] at r2
  exact f.nx _ _ _ _ ⟨G1, _, r2.set d1⟩ q
/-- a, b, c = x, [], z -/
theorem ws_par3N {i j l : Nat} {ta te : TE} (hij : i ≠ j) (hj : j < ρ.length) (h : WE K S ta ρ fun x => WE K S te ρ fun d => N.nx (((ρ.set j (.own μ.length)).set i (.dat x)).set l (.dat d)) (μ ++ [.lst []])) : WS K S (tPar3 i j l (tCons ta (tCons (tLst tNil) (tCons te tNil)))) ρ μ N := fun G0 H0 σ H E w0 r f => by
  obtain ⟨G, as, r⟩ := r
  refine h σ G H _ r.st.w r.sl fun vx x G' H' s dx h2 => ⟨Nat.zero_le _, fun p hp => ?_⟩
  have ra := r.step w0 s
  have s0 : Stp S G' H' G' (upd H' p (.lst [])) := .junk ra.st.w (Le.new hp)
  have r0 := ra.step w0 s0
  refine h2 σ G' _ _ s0.w r0.sl fun vy y G1 H1 s1 d1 q => ⟨_, _, _, rfl, ?_⟩
  obtain ⟨n1, n2, n3, n4⟩ := ra.newp hp
  have g1 := s1.keepNone n4 (by rw [upd_same]; exact Option.some_ne_none _)
  have h1 : H1 p = some (.lst []) := s1.hh p _ n3 upd_same
  have r1 := r0.step w0 s1
  have e1 : upd H1 p (.lst []) = H1 := by
    funext a
    by_cases z : a = p
    · rw [z, upd_same, h1]
    · rw [upd_ne z]
  have r2 := r1.adopt (m := .lst []) hj n1 n2 n3 g1 ⟨g1, _, upd_same, .nil⟩
  rw [e1] at r2
  have r3 := (r2.set (i := i) (dx.mono s1.gg)).set (i := l) d1
  rw [List.set_comm _ _ hij]
  exact f.nx _ _ _ _ ⟨G1, _, r3⟩ q
/-! ### d[k], d[l] = x, y of one's own dict -/
abbrev gKey (i : Nat) (k : Str) : TG := gSub (tVar i) (tC (.str k)) rSetD
theorem ws_put2 {i j : Nat} {k l : Str} {te : TE} {kvs : List (Key × X3.D)} (hi : ρ[i]? = some (.own j)) (hj : μ[j]? = some (.dict kvs)) (hz : kvs.length + 1 < 100000) (h : WE K S te ρ fun d => ∃ x y, d = .tup [x, y] ∧ N.nx ρ (μ.set j (.dict (putD (putD kvs (.inr k) x) (.inr l) y)))) :
    WS K S (tAsg te (gTup K 2 (gCons (gKey i k) (gCons (gKey i l) gNil)))) ρ μ N := fun G0 H0 σ H E w0 r f => by
  obtain ⟨G, as, r⟩ := r
  obtain ⟨a, ha, hs⟩ := r.own i j hi
  refine h σ G H _ r.st.w r.sl fun v d G1 H1 s1 d1 q => ?_
  obtain ⟨x, y, rfl, q⟩ := q
  have r1 := r.step w0 s1
  obtain ⟨_, _, hg, xs, hx, dx⟩ := r1.cell j a _ ha hj
  cases d1 with
  | tup hq dl =>
    cases dl with
    | cons dx1 dl =>
      cases dl with
      | cons dy1 dl =>
        cases dl
        refine ⟨_, _, rfl, le_t s1.w.le hq, rfl, ?_⟩
        refine ⟨_, _, rfl, _, hs, a, _, rfl, .inl ⟨xs, .inr k, hx, rfl, by rw [dx.length]; exact Nat.lt_of_lt_of_le (Nat.lt_of_succ_lt hz) (by decide), rfl⟩, ?_⟩
        have r2 := r1.put (m := .dict (putD kvs (.inr k) x)) w0 ha hj hg ⟨hg, _, upd_same, dx.put dx1⟩
        have hl : ∀ vv, Dat K G1 vv x → (putK xs (.inr k) vv).length ≤ kvs.length + 1 := fun vv dv => by
          rw [(DatK.put (k := .inr k) dv dx).length]
          exact putD_len _ _ _
        refine ⟨_, _, rfl, _, hs, a, _, rfl, .inl ⟨_, .inr l, upd_same, rfl, Nat.lt_of_le_of_lt (hl _ dx1) (Nat.lt_of_lt_of_le hz (by decide)), rfl⟩, ?_⟩
        have hj2 : (μ.set j (.dict (putD kvs (.inr k) x)))[j]? = some (.dict (putD kvs (.inr k) x)) := List.getElem?_set_self (List.getElem?_eq_some_iff.mp hj).1
        have r3 := r2.put (m := .dict (putD (putD kvs (.inr k) x) (.inr l) y)) w0 ha hj2 hg ⟨hg, _, upd_same, (dx.put dx1).put dy1⟩
        rw [List.set_set] at r3
        exact ⟨rfl, f.nx _ _ _ _ ⟨G1, as, r3⟩ q⟩
/-! ### a new list handed back -/
def spF (K : PySem.W.Frag) (P : Res → List X3.D → (List X3.D → Prop) → Prop) : Sp := fun vs H Q _ => ∃ (S : Res) (G : Hp) (ds : List X3.D) (q : List X3.D → Prop), Wld S G H ∧ DatL K G vs ds ∧ P S ds q ∧
  ∀ a xs es G' H', Stp S G H G' H' → G' a = none → H a = none → H' a = some (.lst xs) → DatL K G' xs es → q es → Q (.ref a) H'
/-- one new object frozen -/
theorem Stp.gel {S : Res} {G H G' H' : Hp} {a : Addr} {o : HO} (s : Stp S G H G' H') (ga : G' a = none) (ha : H a = none) (h : H' a = Option.some o) (nf : ¬ S.fp a) : Stp S G H (upd G' a o) H' := by
  refine ⟨s.gg.trans (Le.new ga), s.hh, fun b u e => ?_, ⟨fun b u e => ?_, s.w.src, fun b fb => ?_⟩⟩
  · by_cases z : b = a
    · exact .inr (by rw [z]; exact ha)
    · rw [upd_ne z] at e
      exact s.nw b u e
  · by_cases z : b = a
    · subst z
      rw [upd_same] at e
      rw [h, ← e]
    · rw [upd_ne z] at e
      exact s.w.le b u e
  · rw [upd_ne (fun z : b = a => nf (by rw [← z]; exact fb))]
    exact s.w.sep b fb
theorem we_callF {P : Res → List X3.D → (List X3.D → Prop) → Prop} {tA : TA} {E : XK} (h : WA K S tA ρ fun ds => P S ds fun es => Q (.list es)) : WE K S (tCall (spF K P) [] E tA) ρ Q := fun σ G H k w sl c =>
  h σ G H _ w sl fun vs ds G' H' s dt q => ⟨S, G', ds, _, s.w, by rw [List.append_nil]; exact dt, q, fun a xs es G2 H2 s2 ga ha hx dx q2 =>
    c _ _ (upd G2 a (.lst xs)) H2 (s.trans (s2.gel ga ha hx (s.w.nfp ha))) (.list upd_same (dx.mono (Le.new ga))) q2⟩
theorem upd_id {H : Hp} {a : Addr} {o : HO} (h : H a = some o) : upd H a o = H := by
  funext b
  by_cases z : b = a
  · rw [z, upd_same, h]
  · rw [upd_ne z]
theorem ws_asgF {P : Res → List X3.D → (List X3.D → Prop) → Prop} {tA : TA} {E : XK} {i : Nat} (hi : i < ρ.length) (h : WA K S tA ρ fun ds => P S ds fun es => N.nx (ρ.set i (.own μ.length)) (μ ++ [.lst es])) : WS K S (tAsg (tCall (spF K P) [] E tA) (gName i)) ρ μ N := fun G0 H0 σ H EE w0 r f => by
  obtain ⟨G, as, r⟩ := r
  refine h σ G H _ r.st.w r.sl fun vs ds G' H' s dt q => ⟨S, G', ds, _, s.w, by rw [List.append_nil]; exact dt, q, fun a xs es G2 H2 s2 ga ha hx dx q2 => ?_⟩
  have r1 := r.step w0 s
  obtain ⟨n1, n2, n3, n4⟩ := r1.newp ha
  have r2 := (r1.step w0 s2).adopt (m := .lst es) (o := .lst xs) hi n1 n2 n3 ga ⟨ga, _, upd_same, dx⟩
  rw [upd_id hx] at r2
  exact f.nx _ _ _ _ ⟨G2, _, r2⟩ q2
/-- the body of a def that hands back a list of its own -/
theorem body_ofF {t u : TS} {NN : List Str} {vs : List V} {ds : List X3.D} {G H : Hp} {Qv : VK} {q : List X3.D → Prop} {i : Nat} (w : Wld S G H) (r : DatL K G vs ds)
    (c : ∀ a xs es G' H', Stp S G H G' H' → G' a = none → H a = none → H' a = some (.lst xs) → DatL K G' xs es → q es → Qv (.ref a) H')
    (h : WS K S (tSeq t u) (startR NN ds) [] { nx := fun ρ μ => ∃ j es, ρ[i]? = some (.own j) ∧ μ[j]? = some (.lst es) ∧ q es, rt := fun _ => False, bk := fun _ _ => False, ct := fun _ _ => False }) :
    tSeq t (tSeq u (tRet (tVar i))) { nx := fun _ H' => Qv .non H', rt := Qv } (L2.start NN vs) H := by
  show tSeq t u { nx := fun σ H => tRet (tVar i) { nx := fun _ H' => Qv .non H', rt := Qv } σ H, rt := Qv } (L2.start NN vs) H
  refine h G H _ H _ w.src ⟨G, [], .refl w, slots_start r, rfl, List.nodup_nil, fun i j e => ?_, fun j a m e1 _ => by simp at e1⟩ ⟨?_, fun _ _ _ _ _ _ z => z.elim, fun _ _ _ _ _ z => z.elim, fun _ _ _ _ _ z => z.elim⟩
  · unfold startR at e
    have z := List.mem_of_getElem? e
    rcases List.mem_append.mp z with z | z
    · obtain ⟨d, _, z⟩ := List.mem_map.mp z
      cases z
    · have z' := List.eq_of_mem_replicate z
      cases z'
  · rintro σ1 H1 ρ1 μ1 ⟨G1, as, r1⟩ ⟨j, es, hi, hj, hq⟩
    obtain ⟨a, ha, hs⟩ := r1.own i j hi
    obtain ⟨h0, _, hg, xs, hx, dx⟩ := r1.cell j a _ ha hj
    exact ⟨_, hs, c a xs es G1 H1 r1.st hg h0 hx dx hq⟩
end
end X3

set_option Elab.async false
set_option linter.all false
set_option maxRecDepth 100000
set_option maxHeartbeats 4000000
namespace X3
open PySem L2
section
variable {K : PySem.W.Frag} {S : Res} {ρ : Rho} {P : List X3.D → Prop} {Q : X3.D → Prop} {N : EndsD} {μ : Mu}
theorem range_split {n : Nat} {ys zs : List Nat} {x : Nat} (h : List.range n = ys ++ x :: zs) : x = ys.length ∧ ys.length < n := by
  have hl := congrArg List.length h
  simp at hl
  have h1 : (List.range n)[ys.length]? = some x := by rw [h]; simp
  rw [List.getElem?_range (by omega)] at h1
  exact ⟨(Option.some.inj h1).symm, by omega⟩
/-- for i in range(n) -/
theorem ws_rng {wi : TI} {g : TG} {tb : TS} {is : List Nat} (n : Nat) (I : Nat → Rho → Mu → Prop)
    (h : WI K S wi ρ fun ds => ds = rng 0 n ∧ I 0 ρ μ ∧ (∀ i ρ' μ', i < n → I i ρ' μ' → WG K is g (.int (i : Nat)) ρ' fun ρ2 => WS K S tb ρ2 μ' { N with nx := I (i + 1), ct := I (i + 1), bk := N.nx }) ∧ ∀ ρ' μ', I n ρ' μ' → N.nx ρ' μ') :
    WS K S (tFor wi g tb) ρ μ N := by
  refine ws_forT (is := is) (List.range n) (fun i => .int (0 + (i : Nat))) (fun ys => I ys.length) (wi_imp h ?_)
  rintro ds ⟨rfl, h0, ht, hq⟩
  refine ⟨rfl, h0, ?_, ?_⟩
  · rintro ys x zs ρ' μ' hs iv
    obtain ⟨rfl, hlt⟩ := range_split hs
    rw [Int.zero_add, List.length_append, List.length_singleton]
    exact ht _ ρ' μ' hlt iv
  · intro ρ' μ' iv
    rw [List.length_range] at iv
    exact hq ρ' μ' iv
/-- a for over things of one kind, known when the walk begins -/
theorem ws_forM {α : Type} {wi : TI} {g : TG} {tb : TS} {is : List Nat} (e : α → X3.D) (I : Nat → Rho → Mu → Prop)
    (h : WI K S wi ρ fun ds => ∃ xs : List α, ds = xs.map e ∧ I 0 ρ μ ∧ (∀ (i : Nat) x ρ' μ', xs[i]? = some x → I i ρ' μ' → WG K is g (e x) ρ' fun ρ2 => WS K S tb ρ2 μ' { N with nx := I (i + 1), ct := I (i + 1), bk := N.nx }) ∧ ∀ ρ' μ', I xs.length ρ' μ' → N.nx ρ' μ') :
    WS K S (tFor wi g tb) ρ μ N := by
  refine ws_for (is := is) (fun pre => I pre.length) (wi_imp h ?_)
  rintro ds ⟨xs, rfl, h0, ht, hq⟩
  refine ⟨h0, ?_, ?_⟩
  · rintro pre d post ρ' μ' hd iv
    obtain ⟨ys, x, zs, rfl, rfl, rfl⟩ := split_map hd
    rw [List.length_map] at iv
    rw [List.length_append, List.length_map, List.length_singleton]
    exact ht ys.length x ρ' μ' (by simp) iv
  · intro ρ' μ' iv
    rw [List.length_map] at iv
    exact hq ρ' μ' iv
/-- [te for i in range(n)] of things that are drawn -/
theorem we_rngD {wi : TI} {g : TG} {te : TE} {vs is : List Nat} (n : Nat) (R : Nat → List X3.D → Prop) (hv : ∀ i ∈ is, i ∈ vs)
    (h : WI K S wi ρ fun ds => ds = rng 0 n ∧ n ≤ 100000 ∧ R 0 [] ∧ (∀ i out, i < n → out.length = i → R i out → WG K is g (.int (i : Nat)) (wipeR ρ vs) fun ρ2 => WE K S te ρ2 fun y => R (i + 1) (out ++ [y])) ∧ ∀ out, out.length = n → R n out → Q (.list out)) :
    WE K S (tLc wi g tYes te vs) ρ Q := by
  refine we_lc (is := is) (fun pre out => out.length = pre.length ∧ R pre.length out) hv (wi_imp h ?_)
  rintro ds ⟨rfl, hl, h0, ht, hq⟩
  refine ⟨⟨rfl, h0⟩, ?_, ?_⟩
  · rintro pre d post out hd ⟨hlen, hr⟩
    obtain ⟨hlt, rfl, _, _⟩ := rng_split hd
    rw [Int.zero_add]
    refine (ht pre.length out hlt hlen hr).imp fun ρ2 h2 => wt_yes ?_
    rw [if_pos rfl]
    refine h2.imp fun y hy => ⟨by omega, by simp [hlen], ?_⟩
    rw [List.length_append, List.length_singleton]
    exact hy
  · rintro out ⟨hlen, hr⟩
    rw [rng_len] at hlen hr
    exact hq out hlen hr
/-- [te for g in wi] of things that are drawn, told by what has been walked -/
theorem we_drawL {α : Type} {wi : TI} {g : TG} {te : TE} {vs is : List Nat} (xs : List α) (e : α → X3.D) (R : List α → List X3.D → Prop) (hv : ∀ i ∈ is, i ∈ vs)
    (h : WI K S wi ρ fun ds => ds = xs.map e ∧ xs.length ≤ 100000 ∧ R [] [] ∧ (∀ ys x zs out, xs = ys ++ x :: zs → out.length = ys.length → R ys out → WG K is g (e x) (wipeR ρ vs) fun ρ2 => WE K S te ρ2 fun y => R (ys ++ [x]) (out ++ [y])) ∧ ∀ out, out.length = xs.length → R xs out → Q (.list out)) :
    WE K S (tLc wi g tYes te vs) ρ Q := by
  refine we_lc (is := is) (fun pre out => out.length = pre.length ∧ R (xs.take pre.length) out) hv (wi_imp h ?_)
  rintro ds ⟨rfl, hl, h0, ht, hq⟩
  refine ⟨⟨rfl, h0⟩, ?_, ?_⟩
  · rintro pre d post out hd ⟨hlen, hr⟩
    obtain ⟨ys, x, zs, rfl, rfl, rfl⟩ := split_map hd
    have e1 : (ys ++ x :: zs).take (ys.map e).length = ys := by simp
    have e2 := take_snoc (e := e) (ys := ys) (zs := zs) (x := x)
    rw [e1] at hr
    rw [List.length_map] at hlen
    refine (ht ys x zs out rfl hlen hr).imp fun ρ2 h2 => wt_yes ?_
    rw [if_pos rfl]
    refine h2.imp fun y hy => ⟨?_, ?_, ?_⟩
    · simp at hl
      omega
    · simp [hlen]
    · rw [e2]
      exact hy
  · rintro out ⟨hlen, hr⟩
    rw [List.length_map] at hlen hr
    rw [List.take_length] at hr
    exact hq out hlen hr
theorem map_same {α β γ : Type} {e : α → β} {f : α → γ} (inj : ∀ a b, e a = e b → f a = f b) : ∀ {xs ys : List α}, xs.map e = ys.map e → xs.map f = ys.map f
  | [], [], _ => rfl
  | x :: xs, y :: ys, h => by
    injection h with h1 h2
    rw [List.map_cons, List.map_cons, inj _ _ h1, map_same inj h2]
/-- [te for g in wi] over things of one kind, known when the walk begins -/
theorem we_mapE {α : Type} {wi : TI} {g : TG} {te : TE} {vs is : List Nat} (e f : α → X3.D) (inj : ∀ a b, e a = e b → f a = f b) (hv : ∀ i ∈ is, i ∈ vs)
    (h : WI K S wi ρ fun ds => ∃ xs : List α, ds = xs.map e ∧ xs.length ≤ 100000 ∧ (∀ x ∈ xs, WG K is g (e x) (wipeR ρ vs) fun ρ2 => WE K S te ρ2 fun y => y = f x) ∧ Q (.list (xs.map f))) :
    WE K S (tLc wi g tYes te vs) ρ Q := by
  refine we_lc (is := is) (fun pre out => ∃ zs : List α, pre = zs.map e ∧ out = zs.map f) hv (wi_imp h ?_)
  rintro ds ⟨xs, rfl, hl, ht, hq⟩
  refine ⟨⟨[], rfl, rfl⟩, ?_, ?_⟩
  · rintro pre d post out hd ⟨us, rfl, rfl⟩
    obtain ⟨ys, x, zs, rfl, hys, rfl⟩ := split_map hd
    have hlen := congrArg List.length hys
    simp at hlen hl
    refine (ht x (by simp)).imp fun ρ2 h2 => wt_yes ?_
    rw [if_pos rfl]
    refine h2.imp fun y hy => ⟨by rw [List.length_map]; omega, us ++ [x], by simp, by rw [hy]; simp⟩
  · rintro out ⟨us, h1, rfl⟩
    rw [← map_same inj h1]
    exact hq
def rStrI : List V → Hp → VK → Prop := fun xs H Q => ∃ i, xs = [.int i] ∧ i.natAbs.log2 < 1920 ∧ Q (.str (toString i)) H
theorem wc_strI {i : Int} (h : i.natAbs.log2 < 1920) (q : Q (.str (toString i))) : WRC K S rStrI [.int i] Q := fun G H vs k w dx c => by
  cases dx with
  | cons a r =>
    cases r
    cases a
    exact ⟨i, rfl, h, c _ _ G H (.refl w) (.str _) q⟩
theorem call_strI {X : Cx} : CallR X (.type "str") rStrI := call_str_int
theorem call_reprI {X : Cx} : CallR X (.builtin "repr") rStrI := SkE.call_repr_int
theorem log_small {i : Int} (h0 : 0 ≤ i) (h1 : i < 1000000) : i.natAbs.log2 < 1920 := by
  have h : i.natAbs < 1000000 := by omega
  by_cases z : i.natAbs = 0
  · rw [z]
    decide
  · exact (Nat.log2_lt z).mpr (Nat.lt_of_lt_of_le h (by decide +kernel))
/-- list(range(a, b)) -/
theorem we_listRg {ta tb : TE} (h : WE K S ta ρ fun x => WE K S tb ρ fun y => ∃ a b : Int, x = .int a ∧ y = .int b ∧ (0 ≤ a ∧ a ≤ 100000 ∧ 0 ≤ b ∧ b ≤ 100000) ∧ Q (.list (rng a (b - a).toNat))) : WE K S (tLstRg (tRg2 ta tb)) ρ Q := fun σ G H k w sl c => by
  refine h σ G H _ w sl fun vx x G1 H1 s1 d1 h1 => h1 σ G1 H1 _ s1.w (sl.mono s1.gg) fun vy y G2 H2 s2 d2 q => ?_
  obtain ⟨a, b, rfl, rfl, ⟨h1, h2, h3, h4⟩, q⟩ := q
  cases d1
  cases d2
  refine ⟨a, b, rfl, rfl, .of_le h1 (by omega) (by omega) h3, fun p hp => ?_⟩
  have e : DatL K (upd G2 p (.lst (rgV a b))) (rgV a b) (rng a (b - a).toNat) := by
    have h := datL_ints (K := K) (G := upd G2 p (.lst (rgV a b))) ((List.range (b - a).toNat).map fun i => a + (i : Nat))
    rw [List.map_map, List.map_map] at h
    exact h
  exact c _ _ (upd G2 p (.lst (rgV a b))) (upd H2 p (.lst (rgV a b))) ((s1.trans s2).trans (.new s2.w hp)) (.list upd_same e) q
theorem WS_next {ρ' : Rho} {μ' : Mu} (q : N.nx ρ' μ') : WS K S tNext ρ' μ' N := ws_next q
/-- a test that comes out false -/
theorem ws_ifF {tt : TT} {t u : TS} (h : WT K S tt (view ρ μ) fun b => b = false) (h2 : WS K S u ρ μ N) : WS K S (tIfS tt t u) ρ μ N := ws_if (h.imp fun b e => by
  subst e
  exact h2)
/-- a test, and what follows where it comes out true -/
theorem ws_ifR {tt : TT} {t u : TS} (h : WT K S tt (view ρ μ) fun b => b = true → WS K S t ρ μ N) (h2 : WS K S u ρ μ N) : WS K S (tIfS tt t u) ρ μ N := ws_if (h.imp fun b e => by
  cases b with
  | true => exact e rfl
  | false => exact h2)
theorem ws_ifT {tt : TT} {t u : TS} (h : WT K S tt (view ρ μ) fun b => b = true) (h2 : WS K S t ρ μ N) : WS K S (tIfS tt t u) ρ μ N := ws_if (h.imp fun b e => by
  subst e
  exact h2)
end
section
variable {K : PySem.W.Frag} {S : Res} {ρ : Rho} {Q : X3.D → Prop} {N : EndsD} {μ : Mu}
/-- x[::-1] -/
theorem we_revL {te : TE} (h : WE K S te ρ fun x => ∃ xs, x = .list xs ∧ Q (.list xs.reverse)) : WE K S (tRevL K te) ρ Q := fun σ G H k w sl c => by
  refine h σ G H _ w sl fun v x G1 H1 s1 d1 q => ?_
  obtain ⟨xs, rfl, q⟩ := q
  cases d1 with
  | list h1 r => exact ⟨_, _, rfl, SqL.of (s1.w.le _ _ h1), fun p hp => c _ _ _ _ (s1.trans (.new s1.w hp)) (.list upd_same (r.reverse.mono (Le.new (s1.w.fresh hp)))) q⟩
/-- {k: v, ..} -/
def WPs (K : PySem.W.Frag) (S : Res) : List (TE × TE) → Rho → (List (Key × X3.D) → Prop) → Prop
  | [], _, P => P []
  | (tk, tv) :: r, ρ, P => WE K S tk ρ fun y => WE K S tv ρ fun z => ∃ k, y = kD k ∧ WPs K S r ρ fun l => P ((k, z) :: l)
theorem wps_nil {P : List (Key × X3.D) → Prop} (q : P []) : WPs K S [] ρ P := q
theorem wps_cons {k : Str} {tv : TE} {r : List (TE × TE)} {P : List (Key × X3.D) → Prop} (h : WE K S tv ρ fun z => WPs K S r ρ fun l => P ((.inr k, z) :: l)) : WPs K S ((tC (.str k), tv) :: r) ρ P :=
  we_str (h.imp fun z q => ⟨.inr k, rfl, q⟩)
theorem wps_run : ∀ {trs : List (TE × TE)} {P : List (Key × X3.D) → Prop}, WPs K S trs ρ P → ∀ (σ : L2.St) (G H : Hp) (c : List (V × V) → Hp → Prop), Wld S G H → Slots K G σ ρ →
    (∀ (kv : List (Key × V)) (kd : List (Key × X3.D)) (G' H' : Hp), Stp S G H G' H' → DatK K G' kv kd → P kd → c (kv.map fun p => (kV p.1, p.2)) H') → tPairs trs σ H c
  | [], _, h => fun σ G H c w sl k => k [] [] G H (.refl w) .nil h
  | (tk, tv) :: r, P, h => fun σ G H c w sl k => h σ G H _ w sl fun vy y G1 H1 s1 d1 h1 => h1 σ G1 H1 _ s1.w (sl.mono s1.gg) fun vz z G2 H2 s2 d2 q => by
    obtain ⟨ky, rfl, q⟩ := q
    refine wps_run q σ G2 H2 _ s2.w (sl.mono (s1.gg.trans s2.gg)) fun kv kd G3 H3 s3 d3 q3 => ?_
    have e := kD_v d1
    subst e
    exact k ((ky, vz) :: kv) ((ky, z) :: kd) G3 H3 ((s1.trans s2).trans s3) (.cons (d2.mono s3.gg) d3) q3
/-- x = {k: v, ..}, one's own -/
theorem ws_newDisp {trs : List (TE × TE)} {i : Nat} (hi : i < ρ.length) (h : WPs K S trs ρ fun kd => kd.length ≤ 15 ∧ N.nx (ρ.set i (.own μ.length)) (μ ++ [.dict (mergeD [] kd)])) : WS K S (tAsg (tDisp trs) (gName i)) ρ μ N := fun G0 H0 σ H E w0 r f => by
  obtain ⟨G, as, r⟩ := r
  intro p hp
  have s0 : Stp S G H G (upd H p (.dK [])) := .junk r.st.w (Le.new hp)
  have r0 := r.step w0 s0
  refine wps_run h σ G _ _ s0.w r0.sl fun kv kd G2 H2 s2 d2 q => ?_
  have nf := r.st.w.nfp hp
  have at2 : H2 p = some (.dK []) := s2.hh p _ nf upd_same
  refine ⟨at2, kv, rfl, by rw [d2.length]; exact q.1, ?_⟩
  obtain ⟨n1, n2, n3, n4⟩ := r.newp hp
  have g2 := s2.keepNone n4 (by rw [upd_same]; exact Option.some_ne_none _)
  have r2 := r0.step w0 s2
  exact f.nx _ _ _ _ ⟨G2, _, r2.adopt (m := .dict (mergeD [] kd)) hi n1 n2 n3 g2 ⟨g2, _, upd_same, d2.merge .nil⟩⟩ q.2
/-- an object that nobody names is written -/
theorem Stp.poke {G H G' H' : Hp} {p : Addr} {o : HO} (s : Stp S G H G' H') (hp : H p = none) (gp : G' p = none) (nf : ¬ S.fp p) : Stp S G H G' (upd H' p o) :=
  ⟨s.gg, fun b u n e => by rw [upd_ne (ne_of_none e hp)]; exact s.hh b u n e, s.nw, ⟨fun b u e => by rw [upd_ne (ne_of_none e gp)]; exact s.w.le b u e, S.loc H' _ (fun b f => (upd_ne (fun z : b = p => nf (by rw [← z]; exact f))).symm) s.w.src, s.w.sep⟩⟩
theorem we_disp {trs : List (TE × TE)} (h : WPs K S trs ρ fun kd => kd.length ≤ 15 ∧ Q (.dict (mergeD [] kd))) : WE K S (tDisp trs) ρ Q := fun σ G H k w sl c => by
  intro p hp
  have s0 : Stp S G H G (upd H p (.dK [])) := .junk w (Le.new hp)
  have nf := w.nfp hp
  refine wps_run h σ G _ _ s0.w sl fun kv kd G2 H2 s2 d2 q => ?_
  have at2 : H2 p = some (.dK []) := s2.hh p _ nf upd_same
  refine ⟨at2, kv, rfl, by rw [d2.length]; exact q.1, ?_⟩
  have g2 := s2.keepNone (w.fresh hp) (by rw [upd_same]; exact Option.some_ne_none _)
  have st := ((s0.trans s2).poke (o := .dK (mergeK [] kv)) hp g2 nf).gel g2 hp upd_same nf
  exact c _ _ _ _ st (.dict upd_same ((d2.merge .nil).mono (Le.new g2))) q.2
end
/-! ### texts, sign by sign -/
theorem cps_app (x y : Str) : (x ++ y).cps.toList = x.cps.toList ++ y.cps.toList := by
  show (x.cps ++ y.cps).toList = _
  simp
theorem str_ext {x y : Str} (h : x.cps.toList = y.cps.toList) : x = y := by
  cases x
  cases y
  congr
  exact Array.toList_inj.mp h
theorem cps_len (x : Str) : x.length = x.cps.toList.length := by
  rw [Array.length_toList]
  rfl
end X3

set_option Elab.async false
set_option linter.all false
set_option maxRecDepth 100000
set_option maxHeartbeats 4000000
namespace X3
open PySem L2
/-! ### data that may be compared -/
structure Lay (k : Nat) (d : X3.D) : Prop where
  pure : D.pure d = true
  lay : (D.pd d).canLay0 = true
  dep : (D.pd d).depth ≤ k
structure Lays (k : Nat) (ds : List X3.D) : Prop where
  pure : D.pures ds = true
  lay : PyData.canLayAll0 (D.pds ds) = true
  dep : PyData.depthAll (D.pds ds) ≤ k
theorem Lays.of {k : Nat} : ∀ {ds : List X3.D}, (∀ d ∈ ds, Lay k d) → Lays k ds
  | [], _ => ⟨rfl, rfl, Nat.zero_le _⟩
  | d :: ds, h => by
    have h1 := h d (by simp)
    have h2 := Lays.of (ds := ds) fun x hx => h x (by simp [hx])
    refine ⟨?_, ?_, ?_⟩
    · show (D.pure d && D.pures ds) = true
      rw [h1.pure, h2.pure]
      rfl
    · show (PyData.canLay0 (D.pd d) && PyData.canLayAll0 (D.pds ds)) = true
      rw [h1.lay, h2.lay]
      rfl
    · show max (D.pd d).depth (PyData.depthAll (D.pds ds)) ≤ k
      exact Nat.max_le.mpr ⟨h1.dep, h2.dep⟩
theorem Lay.list {k : Nat} {ds : List X3.D} (h : ∀ d ∈ ds, Lay k d) : Lay (k + 1) (.list ds) :=
  have r := Lays.of h
  ⟨r.pure, r.lay, Nat.succ_le_succ r.dep⟩
theorem Lay.tup {k : Nat} {ds : List X3.D} (h : ∀ d ∈ ds, Lay k d) : Lay (k + 1) (.tup ds) :=
  have r := Lays.of h
  ⟨r.pure, r.lay, Nat.succ_le_succ r.dep⟩
theorem Lay.non {k : Nat} : Lay k .non := ⟨rfl, rfl, Nat.zero_le _⟩
theorem Lay.int {k : Nat} {i : Int} : Lay k (.int i) := ⟨rfl, rfl, Nat.zero_le _⟩
theorem Lay.bl {k : Nat} {i : Bool} : Lay k (.bl i) := ⟨rfl, rfl, Nat.zero_le _⟩
theorem Lay.str {k : Nat} {x : Str} (h : ∀ c ∈ x.cps.toList, c < 1114112) : Lay k (.str x) := by
  refine ⟨rfl, ?_, Nat.zero_le _⟩
  show PyData.strOk x = true
  unfold PyData.strOk
  rw [← Array.all_toList, List.all_eq_true]
  intro c hc
  exact decide_eq_true (h c hc)
theorem Lay.eq {k l : Nat} {x y : X3.D} (h : Lay k x) (g : Lay l y) (hk : k ≤ 64) (hl : l ≤ 64) : EqOk x y :=
  ⟨h.pure, g.pure, Bool.and_eq_true_iff.mpr ⟨h.lay, decide_eq_true (Nat.le_trans h.dep hk)⟩, Bool.and_eq_true_iff.mpr ⟨g.lay, decide_eq_true (Nat.le_trans g.dep hl)⟩⟩
theorem Lay.refl {k : Nat} {x : X3.D} (h : Lay k x) : PyData.eqv x.pd x.pd = true := SeqAt.eqv_refl _ h.lay
/-! ### data that may be shown -/
structure Shw (k b : Nat) (d : X3.D) : Prop where
  shw : D.shw d = true
  able : (D.rp d).showable = true
  deep : (D.rp d).depth ≤ k
  leaf : (D.rp d).leavesShort 8 = true
  bulk : (D.rp d).bulk ≤ b
structure Shws (k b : Nat) (ds : List X3.D) : Prop where
  shw : D.shws ds = true
  able : PyData.showableAll (D.rps ds) = true
  deep : PyData.depthAll (D.rps ds) ≤ k
  leaf : PyData.leavesShortAll 8 (D.rps ds) = true
  bulk : PyData.bulkAll (D.rps ds) ≤ ds.length * (b + 1)
theorem Shws.of {k b : Nat} : ∀ {ds : List X3.D}, (∀ d ∈ ds, Shw k b d) → Shws k b ds
  | [], _ => ⟨rfl, rfl, Nat.zero_le _, rfl, Nat.zero_le _⟩
  | d :: ds, h => by
    have h1 := h d (by simp)
    have h2 := Shws.of (ds := ds) fun x hx => h x (by simp [hx])
    refine ⟨?_, ?_, ?_, ?_, ?_⟩
    · show (D.shw d && D.shws ds) = true
      rw [h1.shw, h2.shw]
      rfl
    · show (PyData.showable (D.rp d) && PyData.showableAll (D.rps ds)) = true
      rw [h1.able, h2.able]
      rfl
    · show max (D.rp d).depth (PyData.depthAll (D.rps ds)) ≤ k
      exact Nat.max_le.mpr ⟨h1.deep, h2.deep⟩
    · show (PyData.leavesShort 8 (D.rp d) && PyData.leavesShortAll 8 (D.rps ds)) = true
      rw [h1.leaf, h2.leaf]
      rfl
    · show (D.rp d).bulk + 1 + PyData.bulkAll (D.rps ds) ≤ (ds.length + 1) * (b + 1)
      rw [Nat.succ_mul]
      have := h1.bulk
      have := h2.bulk
      omega
theorem Shw.list {k b : Nat} {ds : List X3.D} (h : ∀ d ∈ ds, Shw k b d) : Shw (k + 1) (ds.length * (b + 1)) (.list ds) :=
  have r := Shws.of h
  ⟨r.shw, r.able, Nat.succ_le_succ r.deep, r.leaf, r.bulk⟩
theorem Shw.tup {k b : Nat} {ds : List X3.D} (h : ∀ d ∈ ds, Shw k b d) : Shw (k + 1) (ds.length * (b + 1)) (.tup ds) :=
  have r := Shws.of h
  ⟨r.shw, r.able, Nat.succ_le_succ r.deep, r.leaf, r.bulk⟩
theorem Shw.non {k b : Nat} : Shw k b .non := ⟨rfl, rfl, Nat.zero_le _, rfl, Nat.zero_le _⟩
theorem Shw.str {k b : Nat} {x : Str} (h : ∀ c ∈ x.cps.toList, c < 1114112) (hb : x.length ≤ b) : Shw k b (.str x) := by
  refine ⟨rfl, rfl, Nat.zero_le _, ?_, hb⟩
  show (x.cps.toList.all fun c => decide (c < 16 ^ 8)) = true
  rw [List.all_eq_true]
  intro c hc
  exact decide_eq_true (Nat.lt_trans (h c hc) (by decide))
theorem Shw.up {k b b' : Nat} {d : X3.D} (h : Shw k b d) (hb : b ≤ b') : Shw k b' d := ⟨h.shw, h.able, h.deep, h.leaf, Nat.le_trans h.bulk hb⟩
theorem Shw.ok {k b : Nat} {d : X3.D} (h : Shw k b d) (hk : k ≤ 60) (hb : b ≤ 1000000) : ShwOk d :=
  ⟨h.shw, h.able, Nat.le_trans h.deep hk, PyData.shown_fits_bulk (B := 8) (by decide) (by decide) h.leaf (Nat.le_trans h.bulk (Nat.le_trans hb (by decide)))⟩
end X3

set_option Elab.async false
set_option linter.all false
set_option maxRecDepth 100000
set_option maxHeartbeats 4000000
namespace Tk
open PySem L2 X3
def topS (i : Nat) : Stmt := PySem.Challenge.pw_takenout_k13_all_deeds.main.body.getD i (.Pass ⟨0, 0, 0, 0⟩)
abbrev sis_listed : Stmt := topS 8
theorem scis_listed : FnScope ["value"] ["value"] (defScope sis_listed) := ⟨rfl, rfl, rfl, by decide +kernel, rfl, by decide +kernel, by decide +kernel⟩
abbrev sis_pair : Stmt := topS 9
theorem scis_pair : FnScope ["value"] ["value"] (defScope sis_pair) := ⟨rfl, rfl, rfl, by decide +kernel, rfl, by decide +kernel, by decide +kernel⟩
abbrev sis_word : Stmt := topS 14
theorem scis_word : FnScope ["value", "sign"] ["value"] (defScope sis_word) := ⟨rfl, rfl, rfl, by decide +kernel, rfl, by decide +kernel, by decide +kernel⟩
abbrev sis_integer : Stmt := topS 15
theorem scis_integer : FnScope ["value"] ["value"] (defScope sis_integer) := ⟨rfl, rfl, rfl, by decide +kernel, rfl, by decide +kernel, by decide +kernel⟩
abbrev sis_number : Stmt := topS 16
theorem scis_number : FnScope ["value"] ["value"] (defScope sis_number) := ⟨rfl, rfl, rfl, by decide +kernel, rfl, by decide +kernel, by decide +kernel⟩

def cLETTERS : Str := "abcdefghijklmnopqrstuvwxyz"
def cDIGITS : Str := "0123456789"
def cBEHIND : Str := "behind"
def cAHEAD : Str := "ahead"
def cLONGEST : Int := 12
/-- what the top has written of names that are read -/
structure Txt (K : PySem.W.Frag) (mg : Str → Option Value) (tk : Nat → Tok) : Prop where
  nisinstance : mg "isinstance" = none
  nlist : mg "list" = none
  ntuple : mg "tuple" = none
  nstr : mg "str" = none
  nint : mg "int" = none
  nbool : mg "bool" = none
  nlen : mg "len" = none
  nall : mg "all" = none
  nset : mg "set" = none
  nenumerate : mg "enumerate" = none
  nrange : mg "range" = none
  nmin : mg "min" = none
  nmax : mg "max" = none
  ndict : mg "dict" = none
  nrepr : mg "repr" = none
  nabs : mg "abs" = none

  gLETTERS : mg "LETTERS" = some (.str cLETTERS (tk 0))
  gDIGITS : mg "DIGITS" = some (.str cDIGITS (tk 1))
  gBEHIND : mg "BEHIND" = some (.str cBEHIND (tk 2))
  gAHEAD : mg "AHEAD" = some (.str cAHEAD (tk 3))
  gLONGEST : mg "LONGEST" = some (.int cLONGEST (tk 4))

section
variable {P : Program} {w : World} {K : PySem.W.Frag} {mg : Str → Option Value} {tk : Nat → Tok} {base : Heap}
def pListed : Res → List X3.D → (X3.D → Prop) → Prop := fun _ ds q => ∃ xs, ds = [.list xs] ∧ q (.bl true)
theorem ok_is_listed {f : Addr} {fd : FuncData} (F : Fun K "is_listed" "is_listed" sis_listed f fd) (T : Txt K mg tk) : FnOk P w K mg base CX0 1 f fd ["value"] (spD K (pListed)) := by
  refine F.ok scis_listed (fun vs H Q E h => ?_) (fun cdv A outer s H vs Q E hr h => ?_)
  · obtain ⟨S, G, ds, q, _, r, ⟨xs, rfl, _⟩, _⟩ := h
    exact r.length
  · obtain ⟨S, G, ds, q, w0, r, ⟨xs, rfl, hq⟩, k⟩ := h
    refine ⟨_, (pss_one (ps_ret (pe_callB (r := rIsS K) call_isS (by rfl) T.nisinstance PyProof.Rows.boot_isinstance (pa_cons (pv 0) (pa_cons (pe_tup (pa_cons (pe_bltn (v := .ty "list") (u := .type "list") (by rfl) T.nlist (by decide +kernel) rfl) (pa_cons (pe_bltn (v := .ty "tuple") (u := .type "tuple") (by rfl) T.ntuple (by decide +kernel) rfl) pa_nil))) pa_nil))))), ?_⟩
    refine body_of w0 r k ?_
    repeat (first | refine wc_isS (ts := ["list", "tuple"]) (b := true) rfl (kitAny_cons (b := true) (kit_ty (by decide +kernel)) (fun z => by cases z) fun _ => rfl) ?_ | (first | with_reducible refine we_op ?_ | with_reducible refine we_lst ?_ | with_reducible refine wa_cons ?_ | with_reducible refine wa_nil ?_ | with_reducible refine we_cb ?_ | with_reducible refine we_tup ?_ | with_reducible refine we_un ?_ | with_reducible refine we_int ?_ | with_reducible refine we_str ?_ | with_reducible refine we_bl ?_ | with_reducible refine we_non ?_ | with_reducible refine we_val ?_ | with_reducible refine we_chain ?_ | with_reducible refine we_andV ?_ | with_reducible refine we_orV ?_ | with_reducible refine we_notV ?_ | with_reducible refine we_if ?_ | with_reducible refine we_fld ?_ | with_reducible refine we_dget ?_ | with_reducible refine we_din ?_ | with_reducible refine we_dnotin ?_ | with_reducible refine wt_or ?_ | with_reducible refine wt_and ?_ | with_reducible refine wt_not ?_ | with_reducible refine wt_b ?_ | with_reducible refine wt_test ?_ | with_reducible refine ws_seq ?_ | with_reducible refine ws_ret ?_ | with_reducible refine ws_if ?_ | with_reducible refine ws_asg ?_ | with_reducible refine ws_next ?_ | with_reducible refine wp_i ?_ | with_reducible refine wr_ib ?_ | with_reducible refine we_eqS ?_ | with_reducible refine we_neS ?_ | with_reducible refine we_eqI ?_ | with_reducible refine we_neI ?_ | with_reducible refine wp_l (Nat.le_of_ble_eq_true rfl) ?_ | with_reducible refine ⟨_, rfl, ?_⟩ | with_reducible refine iteT ?_ | with_reducible refine iteF ?_ | with_reducible refine iteNT ?_ | with_reducible refine iteNF ?_ | refine (And.intro (a := _ ≤ _) (Nat.le_of_ble_eq_true rfl) ?_) | refine we_var (by rfl) ?_))
    exact hq
def pPair : Res → List X3.D → (X3.D → Prop) → Prop := fun _ ds q => ∃ a b, ds = [.tup [a, b]] ∧ q (.bl true)
theorem ok_is_pair {f : Addr} {fd : FuncData} (F : Fun K "is_pair" "is_pair" sis_pair f fd) (T : Txt K mg tk) : FnOk P w K mg base CX0 1 f fd ["value"] (spD K (pPair)) := by
  refine F.ok scis_pair (fun vs H Q E h => ?_) (fun cdv A outer s H vs Q E hr h => ?_)
  · obtain ⟨S, G, ds, q, _, r, ⟨a, b, rfl, _⟩, _⟩ := h
    exact r.length
  · obtain ⟨S, G, ds, q, w0, r, ⟨a, b, rfl, hq⟩, k⟩ := h
    have hu := hu64 hr
    refine ⟨_, (pss_one (ps_ret (pe_and (pe_callB (r := rIsi K) call_isi (by rfl) T.nisinstance PyProof.Rows.boot_isinstance (pa_cons (pv 0) (pa_cons (pe_bltn (v := .ty "tuple") (u := .type "tuple") (by rfl) T.ntuple (by decide +kernel) rfl) pa_nil))) (pe_one (pe_cmpR (r := rEqA K) (op_eqA hu) (pe_callB (r := rCount K) call_len (by rfl) T.nlen PySem.boot_len (pa_cons (pv 0) pa_nil)) pe_int (nomark _)))))), ?_⟩
    refine body_of w0 r k ?_
    repeat (first | with_reducible refine wc_isi (t := "tuple") (b := true) rfl (.ty _) (kit_ty (by decide +kernel)) ?_ | refine wc_lenR (n := 2) rfl ?_ | (first | with_reducible refine we_op ?_ | with_reducible refine we_lst ?_ | with_reducible refine wa_cons ?_ | with_reducible refine wa_nil ?_ | with_reducible refine we_cb ?_ | with_reducible refine we_tup ?_ | with_reducible refine we_un ?_ | with_reducible refine we_int ?_ | with_reducible refine we_str ?_ | with_reducible refine we_bl ?_ | with_reducible refine we_non ?_ | with_reducible refine we_val ?_ | with_reducible refine we_chain ?_ | with_reducible refine we_andV ?_ | with_reducible refine we_orV ?_ | with_reducible refine we_notV ?_ | with_reducible refine we_if ?_ | with_reducible refine we_fld ?_ | with_reducible refine we_dget ?_ | with_reducible refine we_din ?_ | with_reducible refine we_dnotin ?_ | with_reducible refine wt_or ?_ | with_reducible refine wt_and ?_ | with_reducible refine wt_not ?_ | with_reducible refine wt_b ?_ | with_reducible refine wt_test ?_ | with_reducible refine ws_seq ?_ | with_reducible refine ws_ret ?_ | with_reducible refine ws_if ?_ | with_reducible refine ws_asg ?_ | with_reducible refine ws_next ?_ | with_reducible refine wp_i ?_ | with_reducible refine wr_ib ?_ | with_reducible refine we_eqS ?_ | with_reducible refine we_neS ?_ | with_reducible refine we_eqI ?_ | with_reducible refine we_neI ?_ | with_reducible refine wp_l (Nat.le_of_ble_eq_true rfl) ?_ | with_reducible refine ⟨_, rfl, ?_⟩ | with_reducible refine iteT ?_ | with_reducible refine iteF ?_ | with_reducible refine iteNT ?_ | with_reducible refine iteNF ?_ | refine (And.intro (a := _ ≤ _) (Nat.le_of_ble_eq_true rfl) ?_) | refine we_var (by rfl) ?_))
    exact hq
def pInt : Res → List X3.D → (X3.D → Prop) → Prop := fun _ ds q => ∃ i, ds = [.int i] ∧ q (.bl true)
theorem ok_is_integer {f : Addr} {fd : FuncData} (F : Fun K "is_integer" "is_integer" sis_integer f fd) (T : Txt K mg tk) : FnOk P w K mg base CX0 1 f fd ["value"] (spD K (pInt)) := by
  refine F.ok scis_integer (fun vs H Q E h => ?_) (fun cdv A outer s H vs Q E hr h => ?_)
  · obtain ⟨S, G, ds, q, _, r, ⟨i, rfl, _⟩, _⟩ := h
    exact r.length
  · obtain ⟨S, G, ds, q, w0, r, ⟨i, rfl, hq⟩, k⟩ := h
    refine ⟨_, (pss_one (ps_ret (pe_and (pe_callB (r := rIsi K) call_isi (by rfl) T.nisinstance PyProof.Rows.boot_isinstance (pa_cons (pv 0) (pa_cons (pe_bltn (v := .ty "int") (u := .type "int") (by rfl) T.nint (by decide +kernel) rfl) pa_nil))) (pe_one (pe_not (pe_callB (r := rIsi K) call_isi (by rfl) T.nisinstance PyProof.Rows.boot_isinstance (pa_cons (pv 0) (pa_cons (pe_bltn (v := .ty "bool") (u := .type "bool") (by rfl) T.nbool (by decide +kernel) rfl) pa_nil)))))))), ?_⟩
    refine body_of w0 r k ?_
    repeat (first | with_reducible refine wc_isi (t := "int") (u := .type "int") (b := true) rfl (.ty _) (kit_ty (by decide +kernel)) ?_ | with_reducible refine wc_isi (t := "int") (u := .type "bool") (b := false) rfl (.ty _) (kit_ty (by decide +kernel)) ?_ | (first | with_reducible refine we_op ?_ | with_reducible refine we_lst ?_ | with_reducible refine wa_cons ?_ | with_reducible refine wa_nil ?_ | with_reducible refine we_cb ?_ | with_reducible refine we_tup ?_ | with_reducible refine we_un ?_ | with_reducible refine we_int ?_ | with_reducible refine we_str ?_ | with_reducible refine we_bl ?_ | with_reducible refine we_non ?_ | with_reducible refine we_val ?_ | with_reducible refine we_chain ?_ | with_reducible refine we_andV ?_ | with_reducible refine we_orV ?_ | with_reducible refine we_notV ?_ | with_reducible refine we_if ?_ | with_reducible refine we_fld ?_ | with_reducible refine we_dget ?_ | with_reducible refine we_din ?_ | with_reducible refine we_dnotin ?_ | with_reducible refine wt_or ?_ | with_reducible refine wt_and ?_ | with_reducible refine wt_not ?_ | with_reducible refine wt_b ?_ | with_reducible refine wt_test ?_ | with_reducible refine ws_seq ?_ | with_reducible refine ws_ret ?_ | with_reducible refine ws_if ?_ | with_reducible refine ws_asg ?_ | with_reducible refine ws_next ?_ | with_reducible refine wp_i ?_ | with_reducible refine wr_ib ?_ | with_reducible refine we_eqS ?_ | with_reducible refine we_neS ?_ | with_reducible refine we_eqI ?_ | with_reducible refine we_neI ?_ | with_reducible refine wp_l (Nat.le_of_ble_eq_true rfl) ?_ | with_reducible refine ⟨_, rfl, ?_⟩ | with_reducible refine iteT ?_ | with_reducible refine iteF ?_ | with_reducible refine iteNT ?_ | with_reducible refine iteNF ?_ | refine (And.intro (a := _ ≤ _) (Nat.le_of_ble_eq_true rfl) ?_) | refine we_var (by rfl) ?_))
    exact hq
/-- the defs that are called: where they stand, what they promise -/
structure Prom (P : Program) (w : World) (K : PySem.W.Frag) (mg : Str → Option Value) (base : Heap) (x : Str) (f : Addr) (fd : FuncData) (ps : List Str) (k : Nat) (sp : Sp) : Prop where
  g : mg x = some (.ref f)
  kp : PySem.W.keepIn K (.ref f) = true
  b : Binds K fd ps []
  F : FnOk P w K mg base CX0 k f fd ps sp
def pNum : Res → List X3.D → (X3.D → Prop) → Prop := fun _ ds q => ∃ i : Int, ds = [.int i] ∧ 0 ≤ i ∧ q (.bl true)
theorem ok_is_number {f : Addr} {fd : FuncData} (F : Fun K "is_number" "is_number" sis_number f fd) (T : Txt K mg tk) {f1 : Addr} {d1 : FuncData} (D1 : Prom P w K mg base "is_integer" f1 d1 ["value"] 1 (spD K pInt)) : FnOk P w K mg base CX0 2 f fd ["value"] (spD K (pNum)) := by
  refine F.ok scis_number (fun vs H Q E h => ?_) (fun cdv A outer s H vs Q E hr h => ?_)
  · obtain ⟨S, G, ds, q, _, r, ⟨i, rfl, _⟩, _⟩ := h
    exact r.length
  · obtain ⟨S, G, ds, q, w0, r, ⟨i, rfl, hi, hq⟩, k⟩ := h
    refine ⟨_, (pss_one (ps_ret (pe_and (pe_call D1.F (hr.mono (by decide)) (by rfl) D1.g D1.kp D1.b .nil pass0 (pa_cons (pv 0) pa_nil)) (pe_one (pe_cmpR op_ge (pv 0) pe_int (nomark _)))))), ?_⟩
    refine body_of w0 r k ?_
    refine ws_ret (we_andV (we_call (wa_cons (we_var rfl (wa_nil ⟨i, rfl, true, rfl, ?_⟩)))))
    refine iteT (we_op (we_var (by rfl) (we_int (wr_ib ?_))))
    rw [show (decide ((0 : Int) ≤ i)) = true from decide_eq_true hi]
    exact hq
/-! ### words -/
abbrev letter (c : Nat) : Prop := c ∈ cLETTERS.cps.toList
abbrev digit (c : Nat) : Prop := c ∈ cDIGITS.cps.toList
structure WordOk (x : Str) : Prop where
  lo : 1 ≤ x.length
  hi : x.length ≤ 12
  first : ∃ c, x.cps.toList[0]? = some c ∧ letter c
  all : ∀ c ∈ x.cps.toList, letter c ∨ digit c
def pWord : Res → List X3.D → (X3.D → Prop) → Prop := fun _ ds q => ∃ x, ds = [.str x] ∧ WordOk x ∧ q (.bl true)
theorem wi_str {K : PySem.W.Frag} {S : Res} {ρ : Rho} {te : TE} {P : List X3.D → Prop} (h : WE K S te ρ fun d => ∃ x, d = .str x ∧ P (x.cps.toList.map fun c => .str ⟨#[c]⟩)) : WI K S (iStr te) ρ P := fun σ G H R w s c =>
  h σ G H _ w s fun v d G' H' st dt q => by
    obtain ⟨x, rfl, q⟩ := q
    cases dt
    refine ⟨x, rfl, c _ _ G' H' st ⟨_, _, by rw [List.length_map, Array.length_toList]; exact walk_str, fun _ _ => trivial, fun i H v H' G1 hi le w y => ?_⟩ q⟩
    obtain ⟨rfl, ch, hc, rfl⟩ := y
    exact ⟨_, G1, by rw [List.getElem?_map, Array.getElem?_toList, hc]; rfl, .refl w, .str _⟩
theorem wr_sign {K : PySem.W.Frag} {S : Res} {Q : X3.D → Prop} {c : Nat} {z : Str} (q : Q (.bl (decide (c ∈ z.cps.toList)))) : WR2 K S (fun x y H Q => ∃ (c : Nat) (z : Str), x = .str ⟨#[c]⟩ ∧ y = .str z ∧ Q (.bl (decide (c ∈ z.cps.toList))) H) (.str ⟨#[c]⟩) (.str z) Q := fun G H vx vy k w dx dy cc => by
  cases dx
  cases dy
  exact ⟨c, z, rfl, rfl, cc _ _ G H (.refl w) (.bl _) q⟩
theorem ok_is_word {f : Addr} {fd : FuncData} (F : Fun K "is_word" "is_word" sis_word f fd) (T : Txt K mg tk) : FnOk P w K mg base CX0 1 f fd ["value"] (spD K (pWord)) := by
  refine F.ok scis_word (fun vs H Q E h => ?_) (fun cdv A outer s H vs Q E hr h => ?_)
  · obtain ⟨S, G, ds, q, _, r, ⟨x, rfl, _⟩, _⟩ := h
    exact r.length
  · obtain ⟨S, G, ds, q, w0, r, ⟨x, rfl, ok, hq⟩, k⟩ := h
    have hu := hu64 hr
    refine ⟨_, (pss_cons (ps_if (PW.pt (pw_or (pt_not (pt_val (pe_callB (r := rIsi K) call_isi (by rfl) T.nisinstance PyProof.Rows.boot_isinstance (pa_cons (pv 0) (pa_cons (pe_bltn (v := .ty "str") (u := .type "str") (by rfl) T.nstr (by decide +kernel) rfl) pa_nil))))) (pw_or1 (pt_not (pt_chain op_le op_le pe_int (pe_callB (r := rCount K) call_len (by rfl) T.nlen PySem.boot_len (pa_cons (pv 0) pa_nil)) (pe_glob (v := .int cLONGEST) (by rfl) T.gLONGEST ⟨_, rfl⟩)))))) (pss_one (ps_ret pe_bl)) pss_nil)
      (pss_one (ps_ret (pe_and (pe_cmpR op_in_sign (pe_ix (r := rIx K) ix_seq (pv 0) pe_int (fun _ _ => rfl)) (pe_glob (v := .str cLETTERS) (by rfl) T.gLETTERS ⟨_, rfl⟩) (by with_unfolding_all rfl)) (pe_one (pe_callB (r := rAll K) (cr_all rfl) (by rfl) T.nall (by decide +kernel) (pa_cons (pe_lc (own := [("sign", 1)]) (g := gName 1)  (tt := tYes) rfl scis_word.nd (pi_str (pv 0)) (blkOk_by (N := ["value", "sign"]) (sc := defScope sis_word) (by decide +kernel)) (fun _ _ _ _ _ => (pg_name (i := 1) scis_word.nd rfl (Or.inl rfl))) (fun _ _ _ _ _ => pts_nil) (fun _ _ _ _ _ => (pe_or (pe_cmpR op_in_sign (pv 1) (pe_glob (v := .str cLETTERS) (by rfl) T.gLETTERS ⟨_, rfl⟩) (by with_unfolding_all rfl)) (pe_one (pe_cmpR op_in_sign (pv 1) (pe_glob (v := .str cDIGITS) (by rfl) T.gDIGITS ⟨_, rfl⟩) (by with_unfolding_all rfl)))))) pa_nil))))))), ?_⟩
    refine body_of w0 r k ?_
    obtain ⟨c0, hc0, hc⟩ := ok.first
    have hl100 : x.length ≤ 100000 := Nat.le_trans ok.hi (by decide)
    have hat : atI x.cps.toList (0 : Int) = some c0 := atI_nat hc0
    have h1 : decide ((1 : Int) ≤ (x.length : Nat)) = true := decide_eq_true (by have := ok.lo; omega)
    have h2 : decide (((x.length : Nat) : Int) ≤ cLONGEST) = true := decide_eq_true (by have := ok.hi; show ((x.length : Nat) : Int) ≤ 12; omega)
    repeat (first | with_reducible refine wc_isi (t := "str") (u := .type "str") (b := true) rfl (.ty _) (kit_ty (by decide +kernel)) ?_ | refine wc_lenR (n := x.length) (d := .str x) ⟨Nat.le_trans ok.hi (by decide), rfl⟩ ?_ | (rw [h1]; refine ⟨_, rfl, ?_⟩) | (rw [h2]; refine ⟨_, rfl, ?_⟩) | with_reducible refine wr_ixS hl100 hat ?_ | with_reducible refine wr_sign ?_ | with_reducible refine iteD hc ?_ | (first | with_reducible refine we_op ?_ | with_reducible refine we_lst ?_ | with_reducible refine wa_cons ?_ | with_reducible refine wa_nil ?_ | with_reducible refine we_cb ?_ | with_reducible refine we_tup ?_ | with_reducible refine we_un ?_ | with_reducible refine we_int ?_ | with_reducible refine we_str ?_ | with_reducible refine we_bl ?_ | with_reducible refine we_non ?_ | with_reducible refine we_val ?_ | with_reducible refine we_chain ?_ | with_reducible refine we_andV ?_ | with_reducible refine we_orV ?_ | with_reducible refine we_notV ?_ | with_reducible refine we_if ?_ | with_reducible refine we_fld ?_ | with_reducible refine we_dget ?_ | with_reducible refine we_din ?_ | with_reducible refine we_dnotin ?_ | with_reducible refine wt_or ?_ | with_reducible refine wt_and ?_ | with_reducible refine wt_not ?_ | with_reducible refine wt_b ?_ | with_reducible refine wt_test ?_ | with_reducible refine ws_seq ?_ | with_reducible refine ws_ret ?_ | with_reducible refine ws_if ?_ | with_reducible refine ws_asg ?_ | with_reducible refine ws_next ?_ | with_reducible refine wp_i ?_ | with_reducible refine wr_ib ?_ | with_reducible refine we_eqS ?_ | with_reducible refine we_neS ?_ | with_reducible refine we_eqI ?_ | with_reducible refine we_neI ?_ | with_reducible refine wp_l (Nat.le_of_ble_eq_true rfl) ?_ | with_reducible refine ⟨_, rfl, ?_⟩ | with_reducible refine iteT ?_ | with_reducible refine iteF ?_ | with_reducible refine iteNT ?_ | with_reducible refine iteNF ?_ | refine (And.intro (a := _ ≤ _) (Nat.le_of_ble_eq_true rfl) ?_) | refine we_var (by rfl) ?_))
    refine we_lc (is := [1]) (fun pre out => ∃ bs : List Bool, out = bs.map .bl ∧ out.length = pre.length ∧ bs.all id = true) (fun i hi => by simpa using hi) (wi_str ?_)
    refine we_var (by rfl) ⟨x, rfl, ⟨[], rfl, rfl, rfl⟩, ?_, ?_⟩
    · rintro pre d post out hd ⟨bs, rfl, hn, hall⟩
      have hl : pre.length < 100000 := by
        have := congrArg List.length hd
        have h3 := ok.hi
        simp at this
        have h4 : x.length = x.cps.size := rfl
        omega
      obtain ⟨c, hcm, rfl⟩ : ∃ c ∈ x.cps.toList, d = .str ⟨#[c]⟩ := by
        have : d ∈ x.cps.toList.map fun c => X3.D.str ⟨#[c]⟩ := by rw [hd]; simp
        obtain ⟨c, h1, h2⟩ := List.mem_map.mp this
        exact ⟨c, h1, h2.symm⟩
      refine wg_name (wt_yes ?_)
      rw [if_pos rfl]
      by_cases hL : letter c
      · repeat (first | with_reducible refine wr_sign ?_ | with_reducible refine iteD hL ?_ | (first | with_reducible refine we_op ?_ | with_reducible refine we_lst ?_ | with_reducible refine wa_cons ?_ | with_reducible refine wa_nil ?_ | with_reducible refine we_cb ?_ | with_reducible refine we_tup ?_ | with_reducible refine we_un ?_ | with_reducible refine we_int ?_ | with_reducible refine we_str ?_ | with_reducible refine we_bl ?_ | with_reducible refine we_non ?_ | with_reducible refine we_val ?_ | with_reducible refine we_chain ?_ | with_reducible refine we_andV ?_ | with_reducible refine we_orV ?_ | with_reducible refine we_notV ?_ | with_reducible refine we_if ?_ | with_reducible refine we_fld ?_ | with_reducible refine we_dget ?_ | with_reducible refine we_din ?_ | with_reducible refine we_dnotin ?_ | with_reducible refine wt_or ?_ | with_reducible refine wt_and ?_ | with_reducible refine wt_not ?_ | with_reducible refine wt_b ?_ | with_reducible refine wt_test ?_ | with_reducible refine ws_seq ?_ | with_reducible refine ws_ret ?_ | with_reducible refine ws_if ?_ | with_reducible refine ws_asg ?_ | with_reducible refine ws_next ?_ | with_reducible refine wp_i ?_ | with_reducible refine wr_ib ?_ | with_reducible refine we_eqS ?_ | with_reducible refine we_neS ?_ | with_reducible refine we_eqI ?_ | with_reducible refine we_neI ?_ | with_reducible refine wp_l (Nat.le_of_ble_eq_true rfl) ?_ | with_reducible refine ⟨_, rfl, ?_⟩ | with_reducible refine iteT ?_ | with_reducible refine iteF ?_ | with_reducible refine iteNT ?_ | with_reducible refine iteNF ?_ | refine (And.intro (a := _ ≤ _) (Nat.le_of_ble_eq_true rfl) ?_) | refine we_var (by rfl) ?_))
        exact ⟨by rw [hn]; exact hl, bs ++ [true], by simp, by simp [hn], by simp [hall]⟩
      · have hD := (ok.all c hcm).resolve_left hL
        repeat (first | with_reducible refine wr_sign ?_ | with_reducible refine iteDN hL ?_ | (first | with_reducible refine we_op ?_ | with_reducible refine we_lst ?_ | with_reducible refine wa_cons ?_ | with_reducible refine wa_nil ?_ | with_reducible refine we_cb ?_ | with_reducible refine we_tup ?_ | with_reducible refine we_un ?_ | with_reducible refine we_int ?_ | with_reducible refine we_str ?_ | with_reducible refine we_bl ?_ | with_reducible refine we_non ?_ | with_reducible refine we_val ?_ | with_reducible refine we_chain ?_ | with_reducible refine we_andV ?_ | with_reducible refine we_orV ?_ | with_reducible refine we_notV ?_ | with_reducible refine we_if ?_ | with_reducible refine we_fld ?_ | with_reducible refine we_dget ?_ | with_reducible refine we_din ?_ | with_reducible refine we_dnotin ?_ | with_reducible refine wt_or ?_ | with_reducible refine wt_and ?_ | with_reducible refine wt_not ?_ | with_reducible refine wt_b ?_ | with_reducible refine wt_test ?_ | with_reducible refine ws_seq ?_ | with_reducible refine ws_ret ?_ | with_reducible refine ws_if ?_ | with_reducible refine ws_asg ?_ | with_reducible refine ws_next ?_ | with_reducible refine wp_i ?_ | with_reducible refine wr_ib ?_ | with_reducible refine we_eqS ?_ | with_reducible refine we_neS ?_ | with_reducible refine we_eqI ?_ | with_reducible refine we_neI ?_ | with_reducible refine wp_l (Nat.le_of_ble_eq_true rfl) ?_ | with_reducible refine ⟨_, rfl, ?_⟩ | with_reducible refine iteT ?_ | with_reducible refine iteF ?_ | with_reducible refine iteNT ?_ | with_reducible refine iteNF ?_ | refine (And.intro (a := _ ≤ _) (Nat.le_of_ble_eq_true rfl) ?_) | refine we_var (by rfl) ?_))
        exact ⟨by rw [hn]; exact hl, bs ++ [decide (digit c)], by rw [List.map_append]; rfl, by simp [hn], by simp [hall, hD]⟩
    · rintro out ⟨bs, rfl, _, hall⟩
      refine wa_nil (wc_all ?_)
      rw [hall]
      exact hq
end
end Tk

set_option Elab.async false
set_option linter.all false
set_option maxRecDepth 100000
set_option maxHeartbeats 4000000
namespace Tk
open PySem L2 X3
abbrev swrong_other : Stmt := topS 24
theorem scwrong_other : FnScope ["names", "name", "some", "earlier", "place", "other"] ["names", "name", "some"] (defScope swrong_other) := ⟨rfl, rfl, rfl, by decide +kernel, rfl, by decide +kernel, by decide +kernel⟩
abbrev swrong_saying : Stmt := topS 23
theorem scwrong_saying : FnScope ["items", "sayings", "names", "k", "saying", "name", "some", "place", "item"] ["items", "sayings"] (defScope swrong_saying) := ⟨rfl, rfl, rfl, by decide +kernel, rfl, by decide +kernel, by decide +kernel⟩
abbrev swrong_item : Stmt := topS 22
theorem scwrong_item : FnScope ["items", "earlier", "k", "item", "name", "price"] ["items"] (defScope swrong_item) := ⟨rfl, rfl, rfl, by decide +kernel, rfl, by decide +kernel, by decide +kernel⟩
abbrev swrong_part : Stmt := topS 21
theorem scwrong_part : FnScope ["side", "items", "sayings", "path"] ["side", "items", "sayings"] (defScope swrong_part) := ⟨rfl, rfl, rfl, by decide +kernel, rfl, by decide +kernel, by decide +kernel⟩

section
variable {P : Program} {w : World} {K : PySem.W.Frag} {mg : Str → Option Value} {tk : Nat → Tok} {base : Heap}
/-- the names that follow a saying's own one are right -/
structure OthersOk (ns : List Str) (n : Str) (ss : List Str) : Prop where
  sub : ∀ s ∈ ss, s ∈ ns
  own : n ∉ ss
  nd : ss.Nodup
  few : ss.length ≤ 1000
def pOther : Res → List X3.D → (X3.D → Prop) → Prop := fun _ ds q => ∃ kvs n ss ns, ds = [.dict kvs, .str n, .tup (ss.map .str)] ∧ OthersOk ns n ss ∧ (∀ s ∈ ns, (getK kvs (.inr s)).isSome = true) ∧ q .non
theorem ok_wrong_other {f : Addr} {fd : FuncData} (F : Fun K "_wrong_other" "_wrong_other" swrong_other f fd) (T : Txt K mg tk) : FnOk P w K mg base CX0 1 f fd ["names", "name", "some"] (spD K (pOther)) := by
  refine F.ok scwrong_other (fun vs H Q E h => ?_) (fun cdv A outer s H vs Q E hr h => ?_)
  · obtain ⟨S, G, ds, q, _, r, ⟨kvs, n, ss, ns, rfl, _⟩, _⟩ := h
    exact r.length
  · obtain ⟨S, G, ds, q, w0, r, ⟨kvs, n, ss, ns, rfl, ok, hk, hq⟩, k⟩ := h
    have hu := hu64 hr
    have hu1 := hu_of hr
    refine ⟨_, (pss_cons (ps_set (i := 3) scwrong_other.nd rfl (Or.inl rfl) (pe_disp (pps_cons (pv 1) pe_bl pps_nil) (by decide +kernel) rfl (by simp) (by decide)))
      (pss_cons (ps_for PassesOwn.never rfl (pi_enumT (by rfl) T.nenumerate (pa_cons (pv 2) pa_nil)) (pg_tup rfl (pgs_cons (pg_name (i := 4) scwrong_other.nd rfl (Or.inl rfl)) (pgs_cons (pg_name (i := 5) scwrong_other.nd rfl (Or.inl rfl)) pgs_nil))) (pss_cons (ps_if (PW.pt (pw_or (pt_not (pt_val (pe_callB (r := rIsi K) call_isi (by rfl) T.nisinstance PyProof.Rows.boot_isinstance (pa_cons (pv 5) (pa_cons (pe_bltn (v := .ty "str") (u := .type "str") (by rfl) T.nstr (by decide +kernel) rfl) pa_nil))))) (pw_or (pt_cmp (pc_dnotin hu1 (pv 5) (pv 0)) (by with_unfolding_all rfl)) (pw_or1 (pt_cmp (pc_din hu1 (pv 5) (pv 3)) (by with_unfolding_all rfl)))))) (pss_one (ps_ret (pv 4))) pss_nil)
      (pss_one (ps_dput hu1 (pv 3) (pv 5) pe_bl rfl))))
      (pss_one (ps_ret pe_non)))), ?_⟩
    refine body_of w0 r k ?_
    refine ws_seq (ws_newD1 (Nat.le_of_ble_eq_true rfl) (we_var (by rfl) (we_bl ⟨.inr n, rfl, ?_⟩)))
    refine ws_seq (ws_for (is := [4, 5]) (fun pre ρ' μ' => ∃ x4 x5 kv, ρ' = [.dat (.dict kvs), .dat (.str n), .dat (.tup (ss.map .str)), .own 0, x4, x5] ∧ μ' = [.dict kv] ∧ (∀ s, (getK kv (.inr s)).isSome = true → s = n ∨ s ∈ ss.take pre.length) ∧ kv.length ≤ pre.length + 1) (wi_enumT ?_))
    refine wa_cons (we_var (by rfl) (wa_nil ⟨_, rfl, ?_⟩))
    refine ⟨⟨_, _, _, rfl, rfl, fun s hs => ?_, Nat.le_refl _⟩, ?_, ?_⟩
    · rw [getK_cons] at hs
      by_cases e : (Sum.inr n : Key) = .inr s
      · exact .inl (Sum.inr.inj e).symm
      · rw [if_neg e] at hs
        cases hs
    · rintro pre d post ρ' μ' hd ⟨x4, x5, kv, rfl, rfl, hkv, hlen⟩
      obtain ⟨y, hy, rfl⟩ := enum_split hd
      rw [List.getElem?_map] at hy
      obtain ⟨s, hs, rfl⟩ := Option.map_eq_some_iff.mp hy
      have hsm : s ∈ ss := List.mem_of_getElem? hs
      have hn : (getK kvs (.inr s)).isSome = true := hk s (ok.sub s hsm)
      have he : (getK kv (.inr s)).isSome = false := by
        cases e : (getK kv (.inr s)).isSome with
        | false => rfl
        | true =>
          rcases hkv s e with z | z
          · exact absurd (z ▸ hsm) ok.own
          · obtain ⟨j, hj, ej⟩ := List.mem_iff_getElem.mp z
            rw [List.getElem_take] at ej
            have hl := (List.getElem?_eq_some_iff.mp hs).1
            have h2 := (List.getElem?_eq_some_iff.mp hs).2
            have hj' : j < pre.length := by rw [List.length_take] at hj; omega
            have := (List.getElem_inj ok.nd).mp (ej.trans h2.symm)
            omega
      refine wg_tup rfl (wgs_cons (wg_name (wgs_cons (wg_name (wgs_nil ?_)))))
      refine ws_seq (ws_if ?_)
      repeat (first | with_reducible refine wc_isi (t := "str") (u := .type "str") (b := true) rfl (.ty _) (kit_ty (by decide +kernel)) ?_ | with_reducible refine ⟨kvs, .inr s, rfl, rfl, ?_⟩ | with_reducible refine ⟨kv, .inr s, rfl, rfl, ?_⟩ | rw [hn] | rw [he] | (first | with_reducible refine we_op ?_ | with_reducible refine we_lst ?_ | with_reducible refine wa_cons ?_ | with_reducible refine wa_nil ?_ | with_reducible refine we_cb ?_ | with_reducible refine we_tup ?_ | with_reducible refine we_un ?_ | with_reducible refine we_int ?_ | with_reducible refine we_str ?_ | with_reducible refine we_bl ?_ | with_reducible refine we_non ?_ | with_reducible refine we_val ?_ | with_reducible refine we_chain ?_ | with_reducible refine we_andV ?_ | with_reducible refine we_orV ?_ | with_reducible refine we_notV ?_ | with_reducible refine we_if ?_ | with_reducible refine we_fld ?_ | with_reducible refine we_dget ?_ | with_reducible refine we_din ?_ | with_reducible refine we_dnotin ?_ | with_reducible refine wt_or ?_ | with_reducible refine wt_and ?_ | with_reducible refine wt_not ?_ | with_reducible refine wt_b ?_ | with_reducible refine wt_test ?_ | with_reducible refine ws_seq ?_ | with_reducible refine ws_ret ?_ | with_reducible refine ws_if ?_ | with_reducible refine ws_asg ?_ | with_reducible refine ws_next ?_ | with_reducible refine wp_i ?_ | with_reducible refine wr_ib ?_ | with_reducible refine we_eqS ?_ | with_reducible refine we_neS ?_ | with_reducible refine we_eqI ?_ | with_reducible refine we_neI ?_ | with_reducible refine wp_l (Nat.le_of_ble_eq_true rfl) ?_ | with_reducible refine ⟨_, rfl, ?_⟩ | with_reducible refine iteT ?_ | with_reducible refine iteF ?_ | with_reducible refine iteNT ?_ | with_reducible refine iteNF ?_ | with_reducible refine wr_notN (fun u z => nomatch z) ?_ | with_reducible refine wr_isN (fun u z => nomatch z) ?_ | refine (And.intro (a := _ ≤ _) (Nat.le_of_ble_eq_true rfl) ?_) | refine we_var (by rfl) ?_))
      refine ws_dput (j := 0) (by rfl) (by rfl) (by have := ok.few; have := (List.getElem?_eq_some_iff.mp hs).1; omega) (we_bl (we_var (by rfl) ⟨.inr s, rfl, ?_⟩))
      refine ⟨_, _, putD kv (.inr s) (.bl true), rfl, rfl, fun s' hs' => ?_, Nat.le_trans (putD_len _ _ _) (by simp; omega)⟩
      rw [getK_put] at hs'
      by_cases e : (Sum.inr s' : Key) = .inr s
      · have e' := Sum.inr.inj e
        refine .inr ?_
        rw [List.length_append, List.length_singleton, List.take_add_one, hs, e']
        simp
      · rw [if_neg e] at hs'
        rcases hkv s' hs' with z | z
        · exact .inl z
        · refine .inr ?_
          rw [List.length_append, List.length_singleton, List.take_add_one]
          exact List.mem_append_left _ z
    · rintro ρ' μ' ⟨x4, x5, kv, rfl, rfl, _, _⟩
      exact ws_ret (we_non hq)
def itemD (p : Str × Int) : X3.D := .tup [.str p.1, .int p.2]
def sayD (p : Str × List Str) : X3.D := .tup [.str p.1, .tup (p.2.map .str)]
structure SayOk (its : List (Str × Int)) (y : Str × List Str) : Prop where
  at_ : y.1 ∈ its.map (·.1)
  oth : OthersOk (its.map (·.1)) y.1 y.2
  ne : y.2 ≠ []
def pSaying : Res → List X3.D → (X3.D → Prop) → Prop := fun _ ds q => ∃ (its : List (Str × Int)) (says : List (Str × List Str)), ds = [.list (its.map itemD), .list (says.map sayD)] ∧ its.length ≤ 900 ∧ (∀ y ∈ says, SayOk its y) ∧ q .non
theorem ok_wrong_saying {f : Addr} {fd : FuncData} (F : Fun K "_wrong_saying" "_wrong_saying" swrong_saying f fd) (T : Txt K mg tk) {f1 f2 f3 : Addr} {d1 d2 d3 : FuncData} (D1 : Prom P w K mg base "is_listed" f1 d1 ["value"] 1 (spD K pListed)) (D2 : Prom P w K mg base "is_pair" f2 d2 ["value"] 1 (spD K pPair)) (D3 : Prom P w K mg base "_wrong_other" f3 d3 ["names", "name", "some"] 1 (spD K pOther)) : FnOk P w K mg base CX0 2 f fd ["items", "sayings"] (spD K (pSaying)) := by
  refine F.ok scwrong_saying (fun vs H Q E h => ?_) (fun cdv A outer s H vs Q E hr h => ?_)
  · obtain ⟨S, G, ds, q, _, r, ⟨its, says, rfl, _⟩, _⟩ := h
    exact r.length
  · obtain ⟨S, G, ds, q, w0, r, ⟨its, says, rfl, hfew, hsay, hq⟩, k⟩ := h
    have hu := hu64 hr
    have hu1 := hu_of hr
    refine ⟨_, (pss_cons (ps_if (pt_not (pt_val (pe_call D1.F (hr.mono (by decide)) (by rfl) D1.g D1.kp D1.b .nil pass0 (pa_cons (pv 1) pa_nil)))) (pss_one (ps_ret (pe_tup (pa_cons pe_int pa_nil)))) pss_nil)
      (pss_cons (ps_setDc (i := 2) (own := [("item", 8)]) (g := gName 8) (tt := tYes) rfl scwrong_saying.nd rfl rfl (by with_unfolding_all rfl) (pi_list (pv 0)) (blkOk_by (N := ["items", "sayings", "names", "k", "saying", "name", "some", "place", "item"]) (sc := defScope swrong_saying) (by decide +kernel)) (fun _ _ _ _ _ => (pg_name (i := 8) scwrong_saying.nd rfl (Or.inl rfl))) (fun _ _ _ _ _ => pts_nil) (fun _ _ _ _ _ => (pe_ix (r := rIx K) ix_seq (pv 8) pe_int (fun _ _ => rfl))) (fun _ _ _ _ _ => pe_bl))
      (pss_cons (ps_for PassesOwn.never rfl (pi_enum (by rfl) T.nenumerate (pa_cons (pv 1) pa_nil)) (pg_tup rfl (pgs_cons (pg_name (i := 3) scwrong_saying.nd rfl (Or.inl rfl)) (pgs_cons (pg_name (i := 4) scwrong_saying.nd rfl (Or.inl rfl)) pgs_nil))) (pss_cons (ps_if (pt_not (pt_val (pe_call D2.F (hr.mono (by decide)) (by rfl) D2.g D2.kp D2.b .nil pass0 (pa_cons (pv 4) pa_nil)))) (pss_one (ps_ret (pe_tup (pa_cons pe_int (pa_cons (pv 3) pa_nil))))) pss_nil)
      (pss_cons (ps_asg (pv 4) (pg_tup rfl (pgs_cons (pg_name (i := 5) scwrong_saying.nd rfl (Or.inl rfl)) (pgs_cons (pg_name (i := 6) scwrong_saying.nd rfl (Or.inl rfl)) pgs_nil))))
      (pss_cons (ps_if (PW.pt (pw_or (pt_not (pt_val (pe_callB (r := rIsi K) call_isi (by rfl) T.nisinstance PyProof.Rows.boot_isinstance (pa_cons (pv 5) (pa_cons (pe_bltn (v := .ty "str") (u := .type "str") (by rfl) T.nstr (by decide +kernel) rfl) pa_nil))))) (pw_or1 (pt_cmp (pc_dnotin hu1 (pv 5) (pv 2)) (by with_unfolding_all rfl))))) (pss_one (ps_ret (pe_tup (pa_cons pe_int (pa_cons (pv 3) (pa_cons pe_int pa_nil)))))) pss_nil)
      (pss_cons (ps_if (PW.pt (pw_or (pt_not (pt_val (pe_callB (r := rIsi K) call_isi (by rfl) T.nisinstance PyProof.Rows.boot_isinstance (pa_cons (pv 6) (pa_cons (pe_bltn (v := .ty "tuple") (u := .type "tuple") (by rfl) T.ntuple (by decide +kernel) rfl) pa_nil))))) (pw_or1 (pt_not (show PT _ _ (tTru K _) from pt_truth (pv 6) (fun _ => rfl)))))) (pss_one (ps_ret (pe_tup (pa_cons pe_int (pa_cons (pv 3) (pa_cons pe_int pa_nil)))))) pss_nil)
      (pss_cons (ps_set (i := 7) scwrong_saying.nd rfl (Or.inl rfl) (pe_call D3.F (hr.mono (by decide)) (by rfl) D3.g D3.kp D3.b .nil pass0 (pa_cons (pv 2) (pa_cons (pv 5) (pa_cons (pv 6) pa_nil)))))
      (pss_one (ps_if (pt_cmpR op_notN (pv 7) pe_non (nomark _)) (pss_one (ps_ret (pe_tup (pa_cons pe_int (pa_cons (pv 3) (pa_cons pe_int (pa_cons (pv 7) pa_nil))))))) pss_nil))))))))
      (pss_one (ps_ret pe_non))))), ?_⟩
    refine body_of w0 r k ?_
    refine ws_seq (ws_if (wt_not (wt_b (we_call (wa_cons (we_var (by rfl) (wa_nil ⟨_, rfl, true, rfl, iteNT (ws_next ?_)⟩)))))))
    refine ws_seq (ws_asg (we_dc (is := [8]) (fun pre out => (∀ p ∈ its, itemD p ∈ pre → (getK out (.inr p.1)).isSome = true) ∧ out.length ≤ pre.length) (fun i hi => by simpa using hi) (wi_list (we_var (by rfl) ⟨_, rfl, ⟨fun p _ h => (by cases h), Nat.le_refl _⟩, ?_, ?_⟩))))
    · rintro pre d post out hd ⟨hin, hlen⟩
      have hl : pre.length < 900 := by
        have := congrArg List.length hd
        simp at this
        omega
      obtain ⟨p, hp, rfl⟩ : ∃ p ∈ its, itemD p = d := List.mem_map.mp (by rw [hd]; simp)
      refine wg_name (wt_yes ?_)
      rw [if_pos rfl]
      refine we_op (we_var (by rfl) (we_int (wr_ixT (d := .str p.1) rfl (we_bl ⟨.inr p.1, rfl, by omega, fun p' hp' hm => ?_, Nat.le_trans (putD_len _ _ _) (by simp; omega)⟩))))
      rw [getK_put]
      split
      · rfl
      · rename_i ne
        refine hin p' hp' ?_
        rcases List.mem_append.mp hm with z | z
        · exact z
        · have z' : itemD p' = itemD p := by simpa using z
          unfold itemD at z'
          injection z' with z1
          injection z1 with z2 _
          injection z2 with z3
          exact absurd (congrArg Sum.inr z3) ne
    · rintro names ⟨hin, hlen⟩
      have hk : ∀ s ∈ its.map (·.1), (getK names (.inr s)).isSome = true := fun s hs => by
        obtain ⟨p, hp, rfl⟩ := List.mem_map.mp hs
        exact hin p hp (List.mem_map_of_mem hp)
      refine ws_seq (ws_for (is := [3, 4]) (fun pre ρ' μ' => ∃ x3 x4 x5 x6 x7 x8, ρ' = [.dat (.list (its.map itemD)), .dat (.list (says.map sayD)), .dat (.dict names), x3, x4, x5, x6, x7, x8] ∧ μ' = []) (wi_enumL ?_))
      refine wa_cons (we_var (by rfl) (wa_nil ⟨_, rfl, ⟨_, _, _, _, _, _, rfl, rfl⟩, ?_, ?_⟩))
      · rintro pre d post ρ' μ' hd ⟨x3, x4, x5, x6, x7, x8, rfl, rfl⟩
        obtain ⟨y, hy, rfl⟩ := enum_split hd
        rw [List.getElem?_map] at hy
        obtain ⟨s, hs, rfl⟩ := Option.map_eq_some_iff.mp hy
        have ok := hsay s (List.mem_of_getElem? hs)
        have hn := hk s.1 ok.at_
        refine wg_tup rfl (wgs_cons (wg_name (wgs_cons (wg_name (wgs_nil ?_)))))
        refine ws_seq (ws_if (wt_not (wt_b (we_call (wa_cons (we_var (by rfl) (wa_nil ⟨_, _, rfl, true, rfl, iteNT (ws_next ?_)⟩)))))))
        refine ws_seq (ws_asgT (is := [5, 6]) (we_var (by rfl) (wg_tup rfl (wgs_cons (wg_name (wgs_cons (wg_name (wgs_nil ?_))))))))
        refine ws_seq (ws_if ?_)
        repeat (first | with_reducible refine wc_isi (t := "str") (u := .type "str") (b := true) rfl (.ty _) (kit_ty (by decide +kernel)) ?_ | with_reducible refine ⟨names, .inr s.1, rfl, rfl, ?_⟩ | rw [hn] | (first | with_reducible refine we_op ?_ | with_reducible refine we_lst ?_ | with_reducible refine wa_cons ?_ | with_reducible refine wa_nil ?_ | with_reducible refine we_cb ?_ | with_reducible refine we_tup ?_ | with_reducible refine we_un ?_ | with_reducible refine we_int ?_ | with_reducible refine we_str ?_ | with_reducible refine we_bl ?_ | with_reducible refine we_non ?_ | with_reducible refine we_val ?_ | with_reducible refine we_chain ?_ | with_reducible refine we_andV ?_ | with_reducible refine we_orV ?_ | with_reducible refine we_notV ?_ | with_reducible refine we_if ?_ | with_reducible refine we_fld ?_ | with_reducible refine we_dget ?_ | with_reducible refine we_din ?_ | with_reducible refine we_dnotin ?_ | with_reducible refine wt_or ?_ | with_reducible refine wt_and ?_ | with_reducible refine wt_not ?_ | with_reducible refine wt_b ?_ | with_reducible refine wt_test ?_ | with_reducible refine ws_seq ?_ | with_reducible refine ws_ret ?_ | with_reducible refine ws_if ?_ | with_reducible refine ws_asg ?_ | with_reducible refine ws_next ?_ | with_reducible refine wp_i ?_ | with_reducible refine wr_ib ?_ | with_reducible refine we_eqS ?_ | with_reducible refine we_neS ?_ | with_reducible refine we_eqI ?_ | with_reducible refine we_neI ?_ | with_reducible refine wp_l (Nat.le_of_ble_eq_true rfl) ?_ | with_reducible refine ⟨_, rfl, ?_⟩ | with_reducible refine iteT ?_ | with_reducible refine iteF ?_ | with_reducible refine iteNT ?_ | with_reducible refine iteNF ?_ | with_reducible refine wr_notN (fun u z => nomatch z) ?_ | with_reducible refine wr_isN (fun u z => nomatch z) ?_ | refine (And.intro (a := _ ≤ _) (Nat.le_of_ble_eq_true rfl) ?_) | refine we_var (by rfl) ?_))
        have ht : TruD (.tup (s.2.map X3.D.str)) true := by
          show true = !(s.2.map X3.D.str).isEmpty
          cases e : s.2 with
          | nil => exact absurd e ok.ne
          | cons => rfl
        repeat (first | with_reducible refine wc_isi (t := "tuple") (u := .type "tuple") (b := true) rfl (.ty _) (kit_ty (by decide +kernel)) ?_ | with_reducible refine wt_tru ?_ | with_reducible refine ⟨true, ht, ?_⟩ | (first | with_reducible refine we_op ?_ | with_reducible refine we_lst ?_ | with_reducible refine wa_cons ?_ | with_reducible refine wa_nil ?_ | with_reducible refine we_cb ?_ | with_reducible refine we_tup ?_ | with_reducible refine we_un ?_ | with_reducible refine we_int ?_ | with_reducible refine we_str ?_ | with_reducible refine we_bl ?_ | with_reducible refine we_non ?_ | with_reducible refine we_val ?_ | with_reducible refine we_chain ?_ | with_reducible refine we_andV ?_ | with_reducible refine we_orV ?_ | with_reducible refine we_notV ?_ | with_reducible refine we_if ?_ | with_reducible refine we_fld ?_ | with_reducible refine we_dget ?_ | with_reducible refine we_din ?_ | with_reducible refine we_dnotin ?_ | with_reducible refine wt_or ?_ | with_reducible refine wt_and ?_ | with_reducible refine wt_not ?_ | with_reducible refine wt_b ?_ | with_reducible refine wt_test ?_ | with_reducible refine ws_seq ?_ | with_reducible refine ws_ret ?_ | with_reducible refine ws_if ?_ | with_reducible refine ws_asg ?_ | with_reducible refine ws_next ?_ | with_reducible refine wp_i ?_ | with_reducible refine wr_ib ?_ | with_reducible refine we_eqS ?_ | with_reducible refine we_neS ?_ | with_reducible refine we_eqI ?_ | with_reducible refine we_neI ?_ | with_reducible refine wp_l (Nat.le_of_ble_eq_true rfl) ?_ | with_reducible refine ⟨_, rfl, ?_⟩ | with_reducible refine iteT ?_ | with_reducible refine iteF ?_ | with_reducible refine iteNT ?_ | with_reducible refine iteNF ?_ | with_reducible refine wr_notN (fun u z => nomatch z) ?_ | with_reducible refine wr_isN (fun u z => nomatch z) ?_ | refine (And.intro (a := _ ≤ _) (Nat.le_of_ble_eq_true rfl) ?_) | refine we_var (by rfl) ?_))
        refine we_call (wa_cons (we_var (by rfl) (wa_cons (we_var (by rfl) (wa_cons (we_var (by rfl) (wa_nil ⟨names, s.1, s.2, _, rfl, ok.oth, hk, ?_⟩)))))))
        repeat (first | (first | with_reducible refine we_op ?_ | with_reducible refine we_lst ?_ | with_reducible refine wa_cons ?_ | with_reducible refine wa_nil ?_ | with_reducible refine we_cb ?_ | with_reducible refine we_tup ?_ | with_reducible refine we_un ?_ | with_reducible refine we_int ?_ | with_reducible refine we_str ?_ | with_reducible refine we_bl ?_ | with_reducible refine we_non ?_ | with_reducible refine we_val ?_ | with_reducible refine we_chain ?_ | with_reducible refine we_andV ?_ | with_reducible refine we_orV ?_ | with_reducible refine we_notV ?_ | with_reducible refine we_if ?_ | with_reducible refine we_fld ?_ | with_reducible refine we_dget ?_ | with_reducible refine we_din ?_ | with_reducible refine we_dnotin ?_ | with_reducible refine wt_or ?_ | with_reducible refine wt_and ?_ | with_reducible refine wt_not ?_ | with_reducible refine wt_b ?_ | with_reducible refine wt_test ?_ | with_reducible refine ws_seq ?_ | with_reducible refine ws_ret ?_ | with_reducible refine ws_if ?_ | with_reducible refine ws_asg ?_ | with_reducible refine ws_next ?_ | with_reducible refine wp_i ?_ | with_reducible refine wr_ib ?_ | with_reducible refine we_eqS ?_ | with_reducible refine we_neS ?_ | with_reducible refine we_eqI ?_ | with_reducible refine we_neI ?_ | with_reducible refine wp_l (Nat.le_of_ble_eq_true rfl) ?_ | with_reducible refine ⟨_, rfl, ?_⟩ | with_reducible refine iteT ?_ | with_reducible refine iteF ?_ | with_reducible refine iteNT ?_ | with_reducible refine iteNF ?_ | with_reducible refine wr_notN (fun u z => nomatch z) ?_ | with_reducible refine wr_isN (fun u z => nomatch z) ?_ | refine (And.intro (a := _ ≤ _) (Nat.le_of_ble_eq_true rfl) ?_) | refine we_var (by rfl) ?_))
        refine iteNT (ws_next ⟨_, _, _, _, _, _, rfl, rfl⟩)
      · rintro ρ' μ' ⟨x3, x4, x5, x6, x7, x8, rfl, rfl⟩
        exact ws_ret (we_non hq)
structure ItemsOk (its : List (Str × Int)) : Prop where
  word : ∀ p ∈ its, WordOk p.1
  num : ∀ p ∈ its, 0 ≤ p.2
  nd : (its.map (·.1)).Nodup
  few : its.length ≤ 900
def pItem : Res → List X3.D → (X3.D → Prop) → Prop := fun _ ds q => ∃ its : List (Str × Int), ds = [.list (its.map itemD)] ∧ ItemsOk its ∧ q .non
theorem ok_wrong_item {f : Addr} {fd : FuncData} (F : Fun K "_wrong_item" "_wrong_item" swrong_item f fd) (T : Txt K mg tk) {f1 f2 f3 f4 : Addr} {d1 d2 d3 d4 : FuncData} (D1 : Prom P w K mg base "is_listed" f1 d1 ["value"] 1 (spD K pListed)) (D2 : Prom P w K mg base "is_pair" f2 d2 ["value"] 1 (spD K pPair)) (D3 : Prom P w K mg base "is_word" f3 d3 ["value"] 1 (spD K pWord)) (D4 : Prom P w K mg base "is_number" f4 d4 ["value"] 2 (spD K pNum)) : FnOk P w K mg base CX0 3 f fd ["items"] (spD K (pItem)) := by
  refine F.ok scwrong_item (fun vs H Q E h => ?_) (fun cdv A outer s H vs Q E hr h => ?_)
  · obtain ⟨S, G, ds, q, _, r, ⟨its, rfl, _⟩, _⟩ := h
    exact r.length
  · obtain ⟨S, G, ds, q, w0, r, ⟨its, rfl, ok, hq⟩, k⟩ := h
    have hu := hu64 hr
    have hu1 := hu_of hr
    refine ⟨_, (pss_cons (ps_if (pt_not (pt_val (pe_call D1.F (hr.mono (by decide)) (by rfl) D1.g D1.kp D1.b .nil pass0 (pa_cons (pv 0) pa_nil)))) (pss_one (ps_ret (pe_tup (pa_cons pe_int pa_nil)))) pss_nil)
      (pss_cons (ps_set (i := 1) scwrong_item.nd rfl (Or.inl rfl) (pe_callTy0 (r := rSet0K P w) cr_set0K (by rfl) T.nset (by decide +kernel)))
      (pss_cons (ps_for PassesOwn.never rfl (pi_enum (by rfl) T.nenumerate (pa_cons (pv 0) pa_nil)) (pg_tup rfl (pgs_cons (pg_name (i := 2) scwrong_item.nd rfl (Or.inl rfl)) (pgs_cons (pg_name (i := 3) scwrong_item.nd rfl (Or.inl rfl)) pgs_nil))) (pss_cons (ps_if (pt_not (pt_val (pe_call D2.F (hr.mono (by decide)) (by rfl) D2.g D2.kp D2.b .nil pass0 (pa_cons (pv 3) pa_nil)))) (pss_one (ps_ret (pe_tup (pa_cons pe_int (pa_cons (pv 2) pa_nil))))) pss_nil)
      (pss_cons (ps_asg (pv 3) (pg_tup rfl (pgs_cons (pg_name (i := 4) scwrong_item.nd rfl (Or.inl rfl)) (pgs_cons (pg_name (i := 5) scwrong_item.nd rfl (Or.inl rfl)) pgs_nil))))
      (pss_cons (ps_if (PW.pt (pw_or (pt_not (pt_val (pe_call D3.F (hr.mono (by decide)) (by rfl) D3.g D3.kp D3.b .nil pass0 (pa_cons (pv 4) pa_nil)))) (pw_or1 (pt_cmpR (r := fun x y H Q => rSInK P w false x y H Q) or_sinK (pv 4) (pv 1) (by with_unfolding_all rfl))))) (pss_one (ps_ret (pe_tup (pa_cons pe_int (pa_cons (pv 2) (pa_cons pe_int pa_nil)))))) pss_nil)
      (pss_cons (ps_if (pt_not (pt_val (pe_call D4.F (hr.mono (by decide)) (by rfl) D4.g D4.kp D4.b .nil pass0 (pa_cons (pv 5) pa_nil)))) (pss_one (ps_ret (pe_tup (pa_cons pe_int (pa_cons (pv 2) (pa_cons pe_int pa_nil)))))) pss_nil)
      (pss_one (ps_expr (show PE _ _ (tSAddK P w _ _) from pe_saddK (pv 1) (pa_cons (pv 4) pa_nil)))))))))
      (pss_one (ps_ret pe_non))))), ?_⟩
    refine body_of w0 r k ?_
    refine ws_seq (ws_if (wt_not (wt_b (we_call (wa_cons (we_var (by rfl) (wa_nil ⟨_, rfl, true, rfl, iteNT (ws_next ?_)⟩)))))))
    refine ws_seq (ws_newset (Nat.le_of_ble_eq_true rfl) ?_)
    refine ws_seq (ws_for (is := [2, 3]) (fun pre ρ' μ' => ∃ x2 x3 x4 x5 M n, ρ' = [.dat (.list (its.map itemD)), .own 0, x2, x3, x4, x5] ∧ μ' = [.kset P w M n] ∧ n ≤ pre.length ∧ ∀ s, M (.inr s) = true → s ∈ (its.map (·.1)).take pre.length) (wi_enumL ?_))
    refine wa_cons (we_var (by rfl) (wa_nil ⟨_, rfl, ⟨_, _, _, _, _, _, rfl, rfl, Nat.le_refl _, fun s h => by cases h⟩, ?_, ?_⟩))
    · rintro pre d post ρ' μ' hd ⟨x2, x3, x4, x5, M, n, rfl, rfl, hn, hM⟩
      obtain ⟨y, hy, rfl⟩ := enum_split hd
      rw [List.getElem?_map] at hy
      obtain ⟨p, hp, rfl⟩ := Option.map_eq_some_iff.mp hy
      have hpm := List.mem_of_getElem? hp
      have hl := (List.getElem?_eq_some_iff.mp hp).1
      have hf := ok.few
      have no : M (.inr p.1) = false := by
        cases e : M (.inr p.1) with
        | false => rfl
        | true =>
          obtain ⟨j, hj, ej⟩ := List.mem_iff_getElem.mp (hM _ e)
          rw [List.getElem_take] at ej
          have hj' : j < pre.length := by rw [List.length_take] at hj; omega
          have e2 : (its.map (·.1))[pre.length]'(by simpa using hl) = p.1 := by
            have := (List.getElem?_eq_some_iff.mp hp).2
            simp [this]
          have := (List.getElem_inj ok.nd).mp (ej.trans e2.symm)
          omega
      refine wg_tup rfl (wgs_cons (wg_name (wgs_cons (wg_name (wgs_nil ?_)))))
      refine ws_seq (ws_if (wt_not (wt_b (we_call (wa_cons (we_var (by rfl) (wa_nil ⟨_, _, rfl, true, rfl, iteNT (ws_next ?_)⟩)))))))
      refine ws_seq (ws_asgT (is := [4, 5]) (we_var (by rfl) (wg_tup rfl (wgs_cons (wg_name (wgs_cons (wg_name (wgs_nil ?_))))))))
      refine ws_seq (ws_if (wt_or (wt_not (wt_b (we_call (wa_cons (we_var (by rfl) (wa_nil ⟨_, rfl, ok.word p hpm, true, rfl, iteNT ?_⟩))))))))
      refine wt_test (we_op (we_var (by rfl) (we_var (by rfl) (wr_inSet (k := .inr p.1) ⟨_, rfl, ?_⟩))))
      rw [if_neg Bool.false_ne_true, no]
      refine iteF (ws_next ?_)
      refine ws_seq (ws_if (wt_not (wt_b (we_call (wa_cons (we_var (by rfl) (wa_nil ⟨_, rfl, ok.num p hpm, true, rfl, iteNT (ws_next ?_)⟩)))))))
      refine ws_setadd (j := 0) (by rfl) (by rfl) (by omega) (we_var (by rfl) ⟨.inr p.1, rfl, ?_⟩)
      refine ⟨_, _, _, _, _, _, rfl, rfl, ?_, fun s hs => ?_⟩
      · rw [if_neg (by rw [no]; exact Bool.false_ne_true), List.length_append, List.length_singleton]
        omega
      · rw [List.length_append, List.length_singleton, List.take_add_one]
        rcases Bool.or_eq_true_iff.mp hs with z | z
        · exact List.mem_append_left _ (hM s z)
        · have z' := Sum.inr.inj (of_decide_eq_true z)
          refine List.mem_append_right _ ?_
          rw [List.getElem?_map, hp, z']
          simp
    · rintro ρ' μ' ⟨x2, x3, x4, x5, M, n, rfl, rfl, _, _⟩
      exact ws_ret (we_non hq)
structure BkOk (side : Str) (its : List (Str × Int)) (says : List (Str × List Str)) : Prop where
  side : side = cBEHIND ∨ side = cAHEAD
  items : ItemsOk its
  says : ∀ y ∈ says, SayOk its y
def pPart : Res → List X3.D → (X3.D → Prop) → Prop := fun _ ds q => ∃ (side : Str) (its : List (Str × Int)) (says : List (Str × List Str)), ds = [.str side, .list (its.map itemD), .list (says.map sayD)] ∧ BkOk side its says ∧ q .non
theorem ok_wrong_part {f : Addr} {fd : FuncData} (F : Fun K "_wrong_part" "_wrong_part" swrong_part f fd) (T : Txt K mg tk) {f1 f2 : Addr} {d1 d2 : FuncData} (D1 : Prom P w K mg base "_wrong_item" f1 d1 ["items"] 3 (spD K pItem)) (D2 : Prom P w K mg base "_wrong_saying" f2 d2 ["items", "sayings"] 2 (spD K pSaying)) : FnOk P w K mg base CX0 4 f fd ["side", "items", "sayings"] (spD K (pPart)) := by
  refine F.ok scwrong_part (fun vs H Q E h => ?_) (fun cdv A outer s H vs Q E hr h => ?_)
  · obtain ⟨S, G, ds, q, _, r, ⟨side, its, says, rfl, _⟩, _⟩ := h
    exact r.length
  · obtain ⟨S, G, ds, q, w0, r, ⟨side, its, says, rfl, ok, hq⟩, k⟩ := h
    have hu := hu64 hr
    refine ⟨_, (pss_cons (ps_if (pt_cmpR (r := rIn K true) op_notIn_seq (pv 0) (pe_tup (pa_cons (pe_glob (v := .str cBEHIND) (by rfl) T.gBEHIND ⟨_, rfl⟩) (pa_cons (pe_glob (v := .str cAHEAD) (by rfl) T.gAHEAD ⟨_, rfl⟩) pa_nil))) (by with_unfolding_all rfl)) (pss_one (ps_ret (pe_tup (pa_cons pe_int pa_nil)))) pss_nil)
      (pss_cons (ps_set (i := 3) scwrong_part.nd rfl (Or.inl rfl) (pe_call D1.F (hr.mono (by decide)) (by rfl) D1.g D1.kp D1.b .nil pass0 (pa_cons (pv 1) pa_nil)))
      (pss_cons (ps_if (pt_cmpR op_isN (pv 3) pe_non (nomark _)) (pss_one (ps_set (i := 3) scwrong_part.nd rfl (Or.inl rfl) (pe_call D2.F (hr.mono (by decide)) (by rfl) D2.g D2.kp D2.b .nil pass0 (pa_cons (pv 1) (pa_cons (pv 2) pa_nil))))) pss_nil)
      (pss_one (ps_ret (pv 3)))))), ?_⟩
    refine body_of w0 r k ?_
    refine ws_seq (ws_if ?_)
    repeat (first | with_reducible refine wr_inS (ns := [cBEHIND, cAHEAD]) (.inr rfl) ?_ | (first | with_reducible refine we_op ?_ | with_reducible refine we_lst ?_ | with_reducible refine wa_cons ?_ | with_reducible refine wa_nil ?_ | with_reducible refine we_cb ?_ | with_reducible refine we_tup ?_ | with_reducible refine we_un ?_ | with_reducible refine we_int ?_ | with_reducible refine we_str ?_ | with_reducible refine we_bl ?_ | with_reducible refine we_non ?_ | with_reducible refine we_val ?_ | with_reducible refine we_chain ?_ | with_reducible refine we_andV ?_ | with_reducible refine we_orV ?_ | with_reducible refine we_notV ?_ | with_reducible refine we_if ?_ | with_reducible refine we_fld ?_ | with_reducible refine we_dget ?_ | with_reducible refine we_din ?_ | with_reducible refine we_dnotin ?_ | with_reducible refine wt_or ?_ | with_reducible refine wt_and ?_ | with_reducible refine wt_not ?_ | with_reducible refine wt_b ?_ | with_reducible refine wt_test ?_ | with_reducible refine ws_seq ?_ | with_reducible refine ws_ret ?_ | with_reducible refine ws_if ?_ | with_reducible refine ws_asg ?_ | with_reducible refine ws_next ?_ | with_reducible refine wp_i ?_ | with_reducible refine wr_ib ?_ | with_reducible refine we_eqS ?_ | with_reducible refine we_neS ?_ | with_reducible refine we_eqI ?_ | with_reducible refine we_neI ?_ | with_reducible refine wp_l (Nat.le_of_ble_eq_true rfl) ?_ | with_reducible refine ⟨_, rfl, ?_⟩ | with_reducible refine iteT ?_ | with_reducible refine iteF ?_ | with_reducible refine iteNT ?_ | with_reducible refine iteNF ?_ | with_reducible refine wr_notN (fun u z => nomatch z) ?_ | with_reducible refine wr_isN (fun u z => nomatch z) ?_ | refine (And.intro (a := _ ≤ _) (Nat.le_of_ble_eq_true rfl) ?_) | refine we_var (by rfl) ?_))
    rw [if_pos rfl, decide_eq_true (by rcases ok.side with z | z <;> simp [z] : side ∈ [cBEHIND, cAHEAD])]
    refine iteNT (ws_next ?_)
    refine ws_seq (ws_asg (we_call (wa_cons (we_var (by rfl) (wa_nil ⟨its, rfl, ok.items, ?_⟩)))))
    refine ws_seq (ws_if ?_)
    repeat (first | (first | with_reducible refine we_op ?_ | with_reducible refine we_lst ?_ | with_reducible refine wa_cons ?_ | with_reducible refine wa_nil ?_ | with_reducible refine we_cb ?_ | with_reducible refine we_tup ?_ | with_reducible refine we_un ?_ | with_reducible refine we_int ?_ | with_reducible refine we_str ?_ | with_reducible refine we_bl ?_ | with_reducible refine we_non ?_ | with_reducible refine we_val ?_ | with_reducible refine we_chain ?_ | with_reducible refine we_andV ?_ | with_reducible refine we_orV ?_ | with_reducible refine we_notV ?_ | with_reducible refine we_if ?_ | with_reducible refine we_fld ?_ | with_reducible refine we_dget ?_ | with_reducible refine we_din ?_ | with_reducible refine we_dnotin ?_ | with_reducible refine wt_or ?_ | with_reducible refine wt_and ?_ | with_reducible refine wt_not ?_ | with_reducible refine wt_b ?_ | with_reducible refine wt_test ?_ | with_reducible refine ws_seq ?_ | with_reducible refine ws_ret ?_ | with_reducible refine ws_if ?_ | with_reducible refine ws_asg ?_ | with_reducible refine ws_next ?_ | with_reducible refine wp_i ?_ | with_reducible refine wr_ib ?_ | with_reducible refine we_eqS ?_ | with_reducible refine we_neS ?_ | with_reducible refine we_eqI ?_ | with_reducible refine we_neI ?_ | with_reducible refine wp_l (Nat.le_of_ble_eq_true rfl) ?_ | with_reducible refine ⟨_, rfl, ?_⟩ | with_reducible refine iteT ?_ | with_reducible refine iteF ?_ | with_reducible refine iteNT ?_ | with_reducible refine iteNF ?_ | with_reducible refine wr_notN (fun u z => nomatch z) ?_ | with_reducible refine wr_isN (fun u z => nomatch z) ?_ | refine (And.intro (a := _ ≤ _) (Nat.le_of_ble_eq_true rfl) ?_) | refine we_var (by rfl) ?_))
    refine iteT (ws_asg (we_call (wa_cons (we_var (by rfl) (wa_cons (we_var (by rfl) (wa_nil ⟨its, says, rfl, ok.items.few, ok.says, ?_⟩)))))))
    exact ws_ret (we_var (by rfl) hq)
end
end Tk

set_option Elab.async false
set_option linter.all false
set_option maxRecDepth 100000
set_option maxHeartbeats 4000000
namespace Tk
open PySem L2 X3
abbrev sBooku_initu : Stmt := inClass (topS 20) 0
theorem scBooku_initu : FnScope ["self", "side", "items", "sayings", "path", "name", "price"] ["self", "side", "items", "sayings"] (defScope sBooku_initu) := ⟨rfl, rfl, rfl, by decide +kernel, rfl, by decide +kernel, by decide +kernel⟩
abbrev sBook_side : Stmt := inClass (topS 20) 1
theorem scBook_side : FnScope ["self"] ["self"] (defScope sBook_side) := ⟨rfl, rfl, rfl, by decide +kernel, rfl, by decide +kernel, by decide +kernel⟩
abbrev sBook_sayings : Stmt := inClass (topS 20) 3
theorem scBook_sayings : FnScope ["self"] ["self"] (defScope sBook_sayings) := ⟨rfl, rfl, rfl, by decide +kernel, rfl, by decide +kernel, by decide +kernel⟩
abbrev sBook_names : Stmt := inClass (topS 20) 4
theorem scBook_names : FnScope ["self"] ["self"] (defScope sBook_names) := ⟨rfl, rfl, rfl, by decide +kernel, rfl, by decide +kernel, by decide +kernel⟩
abbrev sBook_has_name : Stmt := inClass (topS 20) 5
theorem scBook_has_name : FnScope ["self", "value"] ["self", "value"] (defScope sBook_has_name) := ⟨rfl, rfl, rfl, by decide +kernel, rfl, by decide +kernel, by decide +kernel⟩

/-! ### books -/
abbrev bkD (C : Addr) (side : Str) (its : List (Str × Int)) (says : List (Str × List Str)) : X3.D :=
  .obj C [("_side", .str side), ("_items", .tup (its.map itemD)), ("_sayings", .tup (says.map sayD)), ("_prices", .dict (its.map fun p => (.inr p.1, .int p.2)))]
structure ClsB (K : PySem.W.Frag) (C : Addr) : Prop where
  cl : Cls K C
  nS : NoAttr K C "_side"
  nI : NoAttr K C "_items"
  nY : NoAttr K C "_sayings"
  nP : NoAttr K C "_prices"
theorem lkS {a b c d : X3.D} : List.lookup ("_side" : Str) [("_side", a), ("_items", b), ("_sayings", c), ("_prices", d)] = some a := by rw [lookup_cons, if_pos rfl]
theorem lkI {a b c d : X3.D} : List.lookup ("_items" : Str) [("_side", a), ("_items", b), ("_sayings", c), ("_prices", d)] = some b := by
  rw [lookup_cons, if_neg (by decide +kernel), lookup_cons, if_pos rfl]
theorem lkY {a b c d : X3.D} : List.lookup ("_sayings" : Str) [("_side", a), ("_items", b), ("_sayings", c), ("_prices", d)] = some c := by
  rw [lookup_cons, if_neg (by decide +kernel), lookup_cons, if_neg (by decide +kernel), lookup_cons, if_pos rfl]
theorem lkP {a b c d : X3.D} : List.lookup ("_prices" : Str) [("_side", a), ("_items", b), ("_sayings", c), ("_prices", d)] = some d := by
  rw [lookup_cons, if_neg (by decide +kernel), lookup_cons, if_neg (by decide +kernel), lookup_cons, if_neg (by decide +kernel), lookup_cons, if_pos rfl]
theorem put4 {a b c d : X3.D} : putFD "_prices" d (putFD "_sayings" c (putFD "_items" b (putFD "_side" a []))) = [(("_side" : Str), a), ("_items", b), ("_sayings", c), ("_prices", d)] := by
  simp [putFD, show ¬ (("_side" : Str) = "_items") by decide +kernel, show ¬ (("_side" : Str) = "_sayings") by decide +kernel, show ¬ (("_side" : Str) = "_prices") by decide +kernel, show ¬ (("_items" : Str) = "_sayings") by decide +kernel, show ¬ (("_items" : Str) = "_prices") by decide +kernel, show ¬ (("_sayings" : Str) = "_prices") by decide +kernel]
section
variable {P : Program} {w : World} {K : PySem.W.Frag} {mg : Str → Option Value} {tk : Nat → Tok} {base : Heap}
def pNew : Res → List X3.D → (X3.D → Prop) → Prop := fun _ ds q => ∃ (C : Addr) (side : Str) (its : List (Str × Int)) (says : List (Str × List Str)), ds = [.val (.ref C), .str side, .list (its.map itemD), .list (says.map sayD)] ∧ ClsB K C ∧ BkOk side its says ∧ q (bkD C side its says)
theorem ok_Booku_initu {f : Addr} {fd : FuncData} (F : Fun K "__init__" "Book.__init__" sBooku_initu f fd) (T : Txt K mg tk) {f1 : Addr} {d1 : FuncData} (D1 : Prom P w K mg base "_wrong_part" f1 d1 ["side", "items", "sayings"] 4 (spD K pPart)) : FnOk P w K mg base CX0 5 f fd ["self", "side", "items", "sayings"] (spNew K (pNew (K := K))) := by
  refine F.ok scBooku_initu (fun vs H Q E h => ?_) (fun cdv A outer s H vs Q E hr h => ?_)
  · obtain ⟨x, dx, C, us, S, G, Hc, ds, q, rfl, _, _, _, _, _, dt, ⟨C', side, its, says, e, _⟩, _⟩ := h
    have hl := dt.length
    injection e with _ e
    rw [e] at hl
    simp at hl
    simp [hl]
  · have hu := hu64 hr
    refine ⟨_, (pss_cons (ps_set (i := 4) scBooku_initu.nd rfl (Or.inl rfl) (pe_call D1.F (hr.mono (by decide)) (by rfl) D1.g D1.kp D1.b .nil pass0 (pa_cons (pv 1) (pa_cons (pv 2) (pa_cons (pv 3) pa_nil)))))
      (pss_cons (ps_if (pt_cmpR op_notN (pv 4) pe_non (nomark _)) pss_never pss_nil)
      (pss_cons (ps_fld (pv 0) (pv 1) rfl)
      (pss_cons (ps_fld (pv 0) (pe_callTy (r := rTup K) call_tuple_of (by rfl) T.ntuple PyProof.Rows.boot_tuple (pa_cons (pv 2) pa_nil)) rfl)
      (pss_cons (ps_fld (pv 0) (pe_callTy (r := rTup K) call_tuple_of (by rfl) T.ntuple PyProof.Rows.boot_tuple (pa_cons (pv 3) pa_nil)) rfl)
      (pss_one (ps_fld (pv 0) (pe_dc (own := [("name", 5), ("price", 6)]) (g := gTup K 2 (gCons (gName 5) (gCons (gName 6) gNil))) (tt := tYes) rfl scBooku_initu.nd (pi_list (pv 2)) (blkOk_by (N := ["self", "side", "items", "sayings", "path", "name", "price"]) (sc := defScope sBooku_initu) (by decide +kernel)) (fun _ _ _ _ _ => (pg_tup rfl (pgs_cons (pg_name (i := 5) scBooku_initu.nd rfl (Or.inl rfl)) (pgs_cons (pg_name (i := 6) scBooku_initu.nd rfl (Or.inl rfl)) pgs_nil)))) (fun _ _ _ _ _ => pts_nil) (fun _ _ _ _ _ => (pv 5)) (fun _ _ _ _ _ => (pv 6))) rfl))))))), ?_⟩
    refine read_new h fun S x C ds q hp _ => ?_
    obtain ⟨C', side, its, says, e, cB, ok, hq⟩ := hp
    injection e with e1 e2
    injection e1 with e1
    injection e1 with e1
    subst e1 e2
    refine ws_seq (ws_asg (we_call (wa_cons (we_var (by rfl) (wa_cons (we_var (by rfl) (wa_cons (we_var (by rfl) (wa_nil ⟨side, its, says, rfl, ok, ?_⟩)))))))))
    refine ws_seq (ws_if ?_)
    repeat (first | (first | with_reducible refine we_op ?_ | with_reducible refine we_lst ?_ | with_reducible refine wa_cons ?_ | with_reducible refine wa_nil ?_ | with_reducible refine we_cb ?_ | with_reducible refine we_tup ?_ | with_reducible refine we_un ?_ | with_reducible refine we_int ?_ | with_reducible refine we_str ?_ | with_reducible refine we_bl ?_ | with_reducible refine we_non ?_ | with_reducible refine we_val ?_ | with_reducible refine we_chain ?_ | with_reducible refine we_andV ?_ | with_reducible refine we_orV ?_ | with_reducible refine we_notV ?_ | with_reducible refine we_if ?_ | with_reducible refine we_fld ?_ | with_reducible refine we_dget ?_ | with_reducible refine we_din ?_ | with_reducible refine we_dnotin ?_ | with_reducible refine wt_or ?_ | with_reducible refine wt_and ?_ | with_reducible refine wt_not ?_ | with_reducible refine wt_b ?_ | with_reducible refine wt_test ?_ | with_reducible refine ws_seq ?_ | with_reducible refine ws_ret ?_ | with_reducible refine ws_if ?_ | with_reducible refine ws_asg ?_ | with_reducible refine ws_next ?_ | with_reducible refine wp_i ?_ | with_reducible refine wr_ib ?_ | with_reducible refine we_eqS ?_ | with_reducible refine we_neS ?_ | with_reducible refine we_eqI ?_ | with_reducible refine we_neI ?_ | with_reducible refine wp_l (Nat.le_of_ble_eq_true rfl) ?_ | with_reducible refine ⟨_, rfl, ?_⟩ | with_reducible refine iteT ?_ | with_reducible refine iteF ?_ | with_reducible refine iteNT ?_ | with_reducible refine iteNF ?_ | with_reducible refine wr_notN (fun u z => nomatch z) ?_ | with_reducible refine wr_isN (fun u z => nomatch z) ?_ | refine (And.intro (a := _ ≤ _) (Nat.le_of_ble_eq_true rfl) ?_) | refine we_var (by rfl) ?_))
    refine iteNT (ws_next ?_)
    refine ws_seq (ws_fld (by rfl) (by rfl) cB.cl cB.nS (Nat.le_of_ble_eq_true rfl) (we_var (by rfl) ?_))
    refine ws_seq (ws_fld (by rfl) (by rfl) cB.cl cB.nI (Nat.le_of_ble_eq_true rfl) (we_cb (wa_cons (we_var (by rfl) (wa_nil (wc_tupleR (.inl rfl) ?_))))))
    refine ws_seq (ws_fld (by rfl) (by rfl) cB.cl cB.nY (Nat.le_of_ble_eq_true rfl) (we_cb (wa_cons (we_var (by rfl) (wa_nil (wc_tupleR (.inl rfl) ?_))))))
    refine ws_fld (by rfl) (by rfl) cB.cl cB.nP (Nat.le_of_ble_eq_true rfl) ?_
    refine we_dc (is := [5, 6]) (fun pre out => ∃ m, m ≤ its.length ∧ pre = (its.take m).map itemD ∧ out = (its.take m).map fun p => (.inr p.1, .int p.2)) (fun i hi => by simpa using hi) (wi_list (we_var (by rfl) ⟨_, rfl, ⟨0, Nat.zero_le _, rfl, rfl⟩, ?_, ?_⟩))
    · rintro pre d post out hd ⟨m, hm, rfl, rfl⟩
      have hlt : m < its.length := by
        have := congrArg List.length hd
        simp at this
        omega
      have hd' : d = itemD its[m] := by
        have h1 : (its.map itemD)[m]? = some d := by
          rw [hd]
          have : ((its.take m).map itemD).length = m := by simp; omega
          rw [List.getElem?_append_right (by omega), this]
          simp
        rw [List.getElem?_map, List.getElem?_eq_getElem hlt] at h1
        exact (Option.some.inj h1).symm
      subst hd'
      have hf := ok.items.few
      refine wg_tup rfl (wgs_cons (wg_name (wgs_cons (wg_name (wgs_nil (wt_yes ?_))))))
      rw [if_pos rfl]
      refine we_var (by rfl) (we_var (by rfl) ⟨.inr its[m].1, rfl, by simp; omega, m + 1, hlt, ?_, ?_⟩)
      · rw [List.take_add_one, List.getElem?_eq_getElem hlt, List.map_append]
        rfl
      · rw [List.take_add_one, List.getElem?_eq_getElem hlt, List.map_append]
        refine putD_new _ ?_
        cases e : getK ((its.take m).map fun p => ((Sum.inr p.1 : Key), X3.D.int p.2)) (.inr its[m].1) with
        | none => rfl
        | some v =>
          have h1 := getK_pairs.mp (show (getK ((its.take m).map fun p => ((Sum.inr p.1 : Key), X3.D.int p.2)) (.inr its[m].1)).isSome = true by rw [e]; rfl)
          rw [List.map_map] at h1
          obtain ⟨p, hp, ep⟩ := List.mem_map.mp h1
          have ep' : p.1 = its[m].1 := Sum.inr.inj ep
          obtain ⟨j, hj, ej⟩ := List.mem_iff_getElem.mp hp
          rw [List.getElem_take] at ej
          have hj' : j < m := by rw [List.length_take] at hj; omega
          have e3 : (its.map (·.1))[j]'(by simp; omega) = (its.map (·.1))[m]'(by simpa using hlt) := by simp [ej, ep']
          have := (List.getElem_inj ok.items.nd).mp e3
          omega
    · rintro out ⟨m, hm, hpre, rfl⟩
      have : m = its.length := by
        have := congrArg List.length hpre
        simp at this
        omega
      subst this
      rw [List.take_length]
      refine ⟨_, rfl, ?_⟩
      rw [put4]
      exact hq
/-! ### its methods -/
structure PromM (P : Program) (w : World) (K : PySem.W.Frag) (mg : Str → Option Value) (base : Heap) (C : Addr) (m : Str) (f : Addr) (fd : FuncData) (ps : List Str) (k : Nat) (sp : Sp) : Prop where
  hm : Meth K C m f
  b : Binds K fd ps []
  F : FnOk P w K mg base CX0 k f fd ps sp
def rLists (K : PySem.W.Frag) : List V → Hp → VK → Prop := fun xs H Q => ∃ p ys, xs = [.ref p] ∧ (SqL K H p ys ∨ SqT K H p ys) ∧ ∀ l, H l = none → Q (.ref l) (upd H l (.lst ys))
theorem wc_lists {S : Res} {Q : X3.D → Prop} {d : X3.D} {ds : List X3.D} (h : d = .list ds ∨ d = .tup ds) (q : Q (.list ds)) : WRC K S (rLists K) [d] Q := wc_list h q
def pSide : Res → List X3.D → (X3.D → Prop) → Prop := fun _ ds q => ∃ (C : Addr) (side : Str) (its : List (Str × Int)) (says : List (Str × List Str)), ds = [bkD C side its says] ∧ ClsB K C ∧ q (.str side)
theorem ok_Book_side {f : Addr} {fd : FuncData} (F : Fun K "side" "Book.side" sBook_side f fd) (T : Txt K mg tk) : FnOk P w K mg base CX0 1 f fd ["self"] (spD K (pSide (K := K))) := by
  refine F.ok scBook_side (fun vs H Q E h => ?_) (fun cdv A outer s H vs Q E hr h => ?_)
  · obtain ⟨S, G, ds, q, _, r, ⟨C, side, its, says, rfl, _⟩, _⟩ := h
    exact r.length
  · obtain ⟨S, G, ds, q, w0, r, ⟨C, side, its, says, rfl, cB, hq⟩, k⟩ := h
    refine ⟨_, (pss_one (ps_ret (show PE _ _ (tFld K _ _) from pe_fld (pv 0) rfl))), ?_⟩
    refine body_of w0 r k ?_
    exact ws_ret (we_fld (we_var (by rfl) ⟨C, _, _, rfl, cB.cl, cB.nS, lkS, hq⟩))
def pSays : Res → List X3.D → (X3.D → Prop) → Prop := fun _ ds q => ∃ (C : Addr) (side : Str) (its : List (Str × Int)) (says : List (Str × List Str)), ds = [bkD C side its says] ∧ ClsB K C ∧ q (.list (says.map sayD))
theorem ok_Book_sayings {f : Addr} {fd : FuncData} (F : Fun K "sayings" "Book.sayings" sBook_sayings f fd) (T : Txt K mg tk) : FnOk P w K mg base CX0 1 f fd ["self"] (spD K (pSays (K := K))) := by
  refine F.ok scBook_sayings (fun vs H Q E h => ?_) (fun cdv A outer s H vs Q E hr h => ?_)
  · obtain ⟨S, G, ds, q, _, r, ⟨C, side, its, says, rfl, _⟩, _⟩ := h
    exact r.length
  · obtain ⟨S, G, ds, q, w0, r, ⟨C, side, its, says, rfl, cB, hq⟩, k⟩ := h
    refine ⟨_, (pss_one (ps_ret (pe_callTy (r := rLists K) call_list_of (by rfl) T.nlist (by decide +kernel) (pa_cons (show PE _ _ (tFld K _ _) from pe_fld (pv 0) rfl) pa_nil)))), ?_⟩
    refine body_of w0 r k ?_
    exact ws_ret (we_cb (wa_cons (we_fld (we_var (by rfl) ⟨C, _, _, rfl, cB.cl, cB.nY, lkY, wa_nil (wc_lists (.inr rfl) hq)⟩))))
def pNames : Res → List X3.D → (X3.D → Prop) → Prop := fun _ ds q => ∃ (C : Addr) (side : Str) (its : List (Str × Int)) (says : List (Str × List Str)), ds = [bkD C side its says] ∧ ClsB K C ∧ q (.list ((its.map (·.1)).map .str))
theorem ok_Book_names {f : Addr} {fd : FuncData} (F : Fun K "names" "Book.names" sBook_names f fd) (T : Txt K mg tk) : FnOk P w K mg base CX0 1 f fd ["self"] (spD K (pNames (K := K))) := by
  refine F.ok scBook_names (fun vs H Q E h => ?_) (fun cdv A outer s H vs Q E hr h => ?_)
  · obtain ⟨S, G, ds, q, _, r, ⟨C, side, its, says, rfl, _⟩, _⟩ := h
    exact r.length
  · obtain ⟨S, G, ds, q, w0, r, ⟨C, side, its, says, rfl, cB, hq⟩, k⟩ := h
    refine ⟨_, (pss_one (ps_ret (pe_callTy (r := rListD) (call_list_dK rfl) (by rfl) T.nlist (by decide +kernel) (pa_cons (show PE _ _ (tFld K _ _) from pe_fld (pv 0) rfl) pa_nil)))), ?_⟩
    refine body_of w0 r k ?_
    refine ws_ret (we_cb (wa_cons (we_fld (we_var (by rfl) ⟨C, _, _, rfl, cB.cl, cB.nP, lkP, wa_nil (wc_listD ?_)⟩))))
    rw [List.map_map]
    rw [List.map_map] at hq
    exact hq
def pHas : Res → List X3.D → (X3.D → Prop) → Prop := fun _ ds q => ∃ (C : Addr) (side : Str) (its : List (Str × Int)) (says : List (Str × List Str)) (s : Str), ds = [bkD C side its says, .str s] ∧ ClsB K C ∧ q (.bl (decide (s ∈ its.map (·.1))))
theorem ok_Book_has_name {f : Addr} {fd : FuncData} (F : Fun K "has_name" "Book.has_name" sBook_has_name f fd) (T : Txt K mg tk) : FnOk P w K mg base CX0 1 f fd ["self", "value"] (spD K (pHas (K := K))) := by
  refine F.ok scBook_has_name (fun vs H Q E h => ?_) (fun cdv A outer s H vs Q E hr h => ?_)
  · obtain ⟨S, G, ds, q, _, r, ⟨C, side, its, says, s, rfl, _⟩, _⟩ := h
    exact r.length
  · obtain ⟨S, G, ds, q, w0, r, ⟨C, side, its, says, sn, rfl, cB, hq⟩, k⟩ := h
    have hu1 := hu_of hr
    refine ⟨_, (pss_one (ps_ret (pe_and (pe_callB (r := rIsi K) call_isi (by rfl) T.nisinstance PyProof.Rows.boot_isinstance (pa_cons (pv 1) (pa_cons (pe_bltn (v := .ty "str") (u := .type "str") (by rfl) T.nstr (by decide +kernel) rfl) pa_nil))) (pe_one (pe_cmp (pc_din hu1 (pv 1) (show PE _ _ (tFld K _ _) from pe_fld (pv 0) rfl)) (by with_unfolding_all rfl)))))), ?_⟩
    refine body_of w0 r k ?_
    refine ws_ret ?_
    repeat (first | with_reducible refine wc_isi (t := "str") (u := .type "str") (b := true) rfl (.ty _) (kit_ty (by decide +kernel)) ?_ | with_reducible refine ⟨C, _, _, rfl, cB.cl, cB.nP, lkP, ?_⟩ | (first | with_reducible refine we_op ?_ | with_reducible refine we_lst ?_ | with_reducible refine wa_cons ?_ | with_reducible refine wa_nil ?_ | with_reducible refine we_cb ?_ | with_reducible refine we_tup ?_ | with_reducible refine we_un ?_ | with_reducible refine we_int ?_ | with_reducible refine we_str ?_ | with_reducible refine we_bl ?_ | with_reducible refine we_non ?_ | with_reducible refine we_val ?_ | with_reducible refine we_chain ?_ | with_reducible refine we_andV ?_ | with_reducible refine we_orV ?_ | with_reducible refine we_notV ?_ | with_reducible refine we_if ?_ | with_reducible refine we_fld ?_ | with_reducible refine we_dget ?_ | with_reducible refine we_din ?_ | with_reducible refine we_dnotin ?_ | with_reducible refine wt_or ?_ | with_reducible refine wt_and ?_ | with_reducible refine wt_not ?_ | with_reducible refine wt_b ?_ | with_reducible refine wt_test ?_ | with_reducible refine ws_seq ?_ | with_reducible refine ws_ret ?_ | with_reducible refine ws_if ?_ | with_reducible refine ws_asg ?_ | with_reducible refine ws_next ?_ | with_reducible refine wp_i ?_ | with_reducible refine wr_ib ?_ | with_reducible refine we_eqS ?_ | with_reducible refine we_neS ?_ | with_reducible refine we_eqI ?_ | with_reducible refine we_neI ?_ | with_reducible refine wp_l (Nat.le_of_ble_eq_true rfl) ?_ | with_reducible refine ⟨_, rfl, ?_⟩ | with_reducible refine iteT ?_ | with_reducible refine iteF ?_ | with_reducible refine iteNT ?_ | with_reducible refine iteNF ?_ | with_reducible refine wr_notN (fun u z => nomatch z) ?_ | with_reducible refine wr_isN (fun u z => nomatch z) ?_ | refine (And.intro (a := _ ≤ _) (Nat.le_of_ble_eq_true rfl) ?_) | refine we_var (by rfl) ?_))
    refine ⟨_, .inr sn, rfl, rfl, ?_⟩
    have e : (getK (its.map fun p => ((Sum.inr p.1 : Key), X3.D.int p.2)) (.inr sn)).isSome = decide (sn ∈ its.map (·.1)) := by
      rw [Bool.eq_iff_iff, getK_pairs, List.map_map, decide_eq_true_iff]
      constructor
      · intro h
        obtain ⟨p, hp, e⟩ := List.mem_map.mp h
        exact List.mem_map.mpr ⟨p, hp, Sum.inr.inj e⟩
      · intro h
        obtain ⟨p, hp, e⟩ := List.mem_map.mp h
        exact List.mem_map.mpr ⟨p, hp, congrArg Sum.inr e⟩
    rw [e]
    exact hq
end
end Tk

set_option Elab.async false
set_option linter.all false
set_option maxRecDepth 100000
set_option maxHeartbeats 4000000
namespace Tk
open PySem L2 X3
/-! ### the source of what is drawn -/
def sd (c : Addr) (l m t : Int) : List (Key × V) := [(.inr "cells", .ref c), (.inr "left", .int l), (.inr "mixed", .int m), (.inr "turn", .int t)]
theorem k_cl : ¬ (Sum.inr ("cells" : Str) : Key) = Sum.inr ("left" : Str) := by decide +kernel
theorem k_cm : ¬ (Sum.inr ("cells" : Str) : Key) = Sum.inr ("mixed" : Str) := by decide +kernel
theorem k_ct : ¬ (Sum.inr ("cells" : Str) : Key) = Sum.inr ("turn" : Str) := by decide +kernel
theorem k_lm : ¬ (Sum.inr ("left" : Str) : Key) = Sum.inr ("mixed" : Str) := by decide +kernel
theorem k_lt : ¬ (Sum.inr ("left" : Str) : Key) = Sum.inr ("turn" : Str) := by decide +kernel
theorem k_mt : ¬ (Sum.inr ("mixed" : Str) : Key) = Sum.inr ("turn" : Str) := by decide +kernel
theorem sd_c {c : Addr} {l m t : Int} : valV (sd c l m t) (.inr "cells") = some (.ref c) := valV_pos rfl
theorem sd_l {c : Addr} {l m t : Int} : valV (sd c l m t) (.inr "left") = some (.int l) := (valV_neg k_cl).trans (valV_pos rfl)
theorem sd_m {c : Addr} {l m t : Int} : valV (sd c l m t) (.inr "mixed") = some (.int m) := (valV_neg k_cm).trans ((valV_neg k_lm).trans (valV_pos rfl))
theorem sd_t {c : Addr} {l m t : Int} : valV (sd c l m t) (.inr "turn") = some (.int t) := (valV_neg k_ct).trans ((valV_neg k_lt).trans ((valV_neg k_mt).trans (valV_pos rfl)))
theorem put_l {c : Addr} {l m t x : Int} : putK (sd c l m t) (.inr "left") (.int x) = sd c x m t := by
  unfold putK sd
  simp [show ¬ (("cells" : Str) = "left") by decide +kernel, show ¬ (("mixed" : Str) = "left") by decide +kernel, show ¬ (("turn" : Str) = "left") by decide +kernel]
theorem put_m {c : Addr} {l m t x : Int} : putK (sd c l m t) (.inr "mixed") (.int x) = sd c l x t := by
  unfold putK sd
  simp [show ¬ (("cells" : Str) = "mixed") by decide +kernel, show ¬ (("left" : Str) = "mixed") by decide +kernel, show ¬ (("turn" : Str) = "mixed") by decide +kernel]
theorem put_t {c : Addr} {l m t x : Int} : putK (sd c l m t) (.inr "turn") (.int x) = sd c l m x := by
  unfold putK sd
  simp [show ¬ (("cells" : Str) = "turn") by decide +kernel, show ¬ (("left" : Str) = "turn") by decide +kernel, show ¬ (("mixed" : Str) = "turn") by decide +kernel]
theorem merge_sd {c : Addr} {l m t : Int} : mergeK [] (sd c l m t) = sd c l m t := by
  unfold mergeK sd
  simp only [List.foldl]
  unfold putK
  simp [show ¬ (("cells" : Str) = "left") by decide +kernel, show ¬ (("cells" : Str) = "mixed") by decide +kernel, show ¬ (("cells" : Str) = "turn") by decide +kernel, show ¬ (("left" : Str) = "mixed") by decide +kernel, show ¬ (("left" : Str) = "turn") by decide +kernel, show ¬ (("mixed" : Str) = "turn") by decide +kernel]
def absI (z : Int) : Int := if z < 0 then -z else z
structure SrcAt (s c : Addr) (H : Hp) : Prop where
  ne : s ≠ c
  ex : ∃ (cells : List Int) (l m t : Int), H s = some (.dK (sd c l m t)) ∧ H c = some (.lst (cells.map V.int)) ∧ cells.length ≤ 63
def srcR (s c : Addr) : Res where
  fp := fun a => a = s ∨ a = c
  ok := SrcAt s c
  loc := fun H H' h ⟨ne, cells, l, m, t, h1, h2, h3⟩ => ⟨ne, cells, l, m, t, (h s (.inl rfl)).symm.trans h1, (h c (.inr rfl)).symm.trans h2, h3⟩
  live := fun H ⟨ne, cells, l, m, t, h1, h2, h3⟩ a h => by
    rcases h with h | h
    · rw [h, h1]
      exact Option.some_ne_none _
    · rw [h, h2]
      exact Option.some_ne_none _
/-- what is asked of a draw -/
def pPick : Res → List X3.D → (X3.D → Prop) → Prop := fun S ds q => ∃ (s c : Addr) (n : Int), S = srcR s c ∧ ds = [.val (.ref s), .int n] ∧ 1 ≤ n ∧ n < 1000000 ∧ ∀ i : Int, 0 ≤ i → i < n → q (.int i)
/-- between two turns of a draw's while -/
def pickW (s c : Addr) (n : Int) (H : Hp) (mm : Nat) (σ : L2.St) (H2 : Hp) : Prop := ∃ (cells : List Int) (l m t : Int), mm = cells.length ∧ σ = [some (.ref s), some (.int n), none, none] ∧ H2 s = some (.dK (sd c l m t)) ∧ H2 c = some (.lst (cells.map V.int)) ∧ cells.length ≤ 63 ∧ ∀ b o, ¬ (b = s ∨ b = c) → H b = some o → H2 b = some o
theorem max_n {n : Int} (h : 1 ≤ n) : (if n > 1 then n else 1) = n := by
  split
  · rfl
  · omega
def spSource (K : PySem.W.Frag) : Sp := fun vs H Q _ => ∃ (a : Addr) (ns : List Int), vs = [.ref a] ∧ SqL K H a (ns.map V.int) ∧ ns.length ≤ 63 ∧
  ∀ s c H', H s = none → H c = none → Le H H' → SrcAt s c H' → Q (.ref s) H'
abbrev sSource : Stmt := topS 35
abbrev sPick : Stmt := topS 36
theorem scSource : FnScope ["script", "mixed", "cell"] ["script"] (defScope sSource) := ⟨rfl, rfl, rfl, by decide +kernel, rfl, by decide +kernel, by decide +kernel⟩
theorem scPick : FnScope ["source", "many", "left", "mixed"] ["source", "many"] (defScope sPick) := ⟨rfl, rfl, rfl, by decide +kernel, rfl, by decide +kernel, by decide +kernel⟩
section
variable {P : Program} {w : World} {K : PySem.W.Frag} {mg : Str → Option Value} {base : Heap}
theorem ok_source {f : Addr} {fd : FuncData} (F : Fun K "_law_source" "_law_source" sSource f fd) (nAbs : mg "abs" = none) (nInt : mg "int" = none) : FnOk P w K mg base CX0 1 f fd ["script"] (spSource K) := by
  refine F.ok scSource (fun vs H Q E h => ?_) (fun cdv A outer s H vs Q E hr h => ?_)
  · obtain ⟨a, ns, rfl, _⟩ := h
    rfl
  · obtain ⟨a, ns, rfl, hs, hl, k⟩ := h
    refine ⟨_, pss_cons (ps_set (i := 1) scSource.nd rfl (Or.inl rfl) pe_int)
      (pss_cons (ps_for PassesOwn.never rfl (pi_list (pv 0)) (pg_name (i := 2) scSource.nd rfl (Or.inl rfl))
        (pss_one (ps_set (i := 1) scSource.nd rfl (Or.inl rfl) (pe_op op_mod (pe_callTy call_int1 (by rfl) nInt PyProof.Rows.boot_int (pa_cons (pe_op op_add (pe_op op_add (pe_op op_mul (pv 1) pe_int) (pe_op op_mul (pv 2) pe_int)) pe_int) pa_nil)) pe_int))))
      (pss_one (ps_ret (pe_disp (pps_cons pe_str (pe_revL (pe_lc (own := [("cell", 2)]) (g := gName 2) (tt := tYes) rfl scSource.nd (pi_list (pv 0)) (blkOk_by (N := ["script", "mixed", "cell"]) (sc := defScope sSource) (by decide +kernel)) (fun _ _ _ _ _ => pg_name (i := 2) scSource.nd rfl (Or.inl rfl)) (fun _ _ _ _ _ => pts_nil) (fun _ _ _ _ _ => (pe_callB call_abs (by rfl) nAbs PyProof.Rows.boot_abs (pa_cons (pv 2) pa_nil)))))
        (pps_cons pe_str pe_int (pps_cons pe_str (pv 1) (pps_cons pe_str pe_int pps_nil)))) (by decide +kernel) rfl (by simp) (by decide))))), ?_⟩
    refine ⟨_, rfl, a, rfl, ⟨_, hs⟩, for_list (K := K) (a := a) (xs := ns.map V.int) (fun i σ H2 => ∃ (m : Int) (v : Option V), σ = [some (.ref a), some (.int m), v] ∧ H2 = H) ⟨11, none, rfl, rfl⟩ (fun i σ H2 _ ⟨_, _, _, e⟩ => by rw [e]; exact hs) ?_ ?_⟩
    · rintro i y σ H2 hi ⟨m, v, rfl, rfl⟩
      obtain ⟨z, rfl⟩ : ∃ z, y = V.int z := by
        rw [List.getElem?_map] at hi
        cases e : ns[i]? with
        | none =>
          rw [e] at hi
          cases hi
        | some z =>
          rw [e] at hi
          exact ⟨z, (Option.some.inj hi).symm⟩
      refine ⟨_, rfl, _, _, rfl, rfl, .inr ⟨by decide, by decide⟩, _, rfl, _, _, rfl, rfl, .inr ⟨by decide, by decide⟩, _, _, rfl, rfl, _, _, rfl, rfl, .inl ⟨_, rfl, _, _, rfl, rfl, (by show (0 : Int) < 2147483629; decide), ?_⟩⟩
      exact ⟨_, _, rfl, rfl⟩
    · rintro σ H2 ⟨m, v, rfl, rfl⟩
      intro p hp
      have hs1 : SqL K (upd H2 p (.dK [])) a (ns.map V.int) := le_l (Le.new hp) hs
      refine ⟨_, rfl, a, rfl, ⟨_, hs1⟩, fun q hq => lc_list (xs := ns.map V.int) (fun i H3 => H3 = upd (upd H2 p (.dK [])) q (.lst (((ns.take i).map absI).map V.int))) rfl (fun i H3 _ e => by rw [e]; exact le_l (Le.new hq) hs1) ?_ ?_⟩
      · rintro i x H3 hi rfl
        have hi' := hi
        rw [List.getElem?_map] at hi
        cases e : ns[i]? with
        | none =>
          rw [e] at hi
          cases hi
        | some z =>
          rw [e] at hi
          have ex : x = V.int z := (Option.some.inj hi).symm
          subst ex
          refine ⟨rfl, ?_⟩
          unfold tYes
          dsimp only
          rw [if_pos rfl]
          refine ⟨_, rfl, _, rfl, _, upd_same, ?_, ?_⟩
          · simp only [List.length_map, List.length_take]
            exact Nat.lt_of_le_of_lt (Nat.le_trans (Nat.min_le_right _ _) hl) (by decide)
          · rw [upd_upd, List.take_add_one, e]
            simp [absI]
      · rintro H3 rfl
        have npq : p ≠ q := fun z => by
          rw [← z, upd_same] at hq
          cases hq
        refine ⟨q, _, rfl, SqL.of upd_same, fun c hc => ?_⟩
        have nqc : q ≠ c := ne_of_none upd_same hc
        have npc : p ≠ c := ne_of_none (o := .dK []) (by rw [upd_ne npq, upd_same]) hc
        refine ⟨_, rfl, by rw [upd_ne npc, upd_ne npq, upd_same], sd c 1 m 0, rfl, (by decide : 4 ≤ 15), ?_⟩
        rw [merge_sd]
        have le1 : Le H2 (upd H2 p (.dK [])) := Le.new hp
        have le2 : Le H2 (upd (upd H2 p (.dK [])) q (.lst (((ns.take (ns.map V.int).length).map absI).map V.int))) := le1.trans (Le.new hq)
        have hc2 : H2 c = none := (le2.trans (Le.refl _)).none hc
        refine k p c _ hp hc2 (fun b o e => ?_) ⟨npc, ((ns.map absI).reverse), 1, m, 0, upd_same, ?_, ?_⟩
        · rw [upd_ne (ne_of_none e hp), upd_ne (ne_of_none e hc2)]
          exact le2 b o e
        · rw [upd_ne npc.symm, upd_same, List.take_of_length_le (by simp)]
          simp
        · simp only [List.length_reverse, List.length_map]
          exact hl
theorem ok_pick {f : Addr} {fd : FuncData} (F : Fun K "_law_pick" "_law_pick" sPick f fd) (nLen : mg "len" = none) (nMax : mg "max" = none) (nInt : mg "int" = none) : FnOk P w K mg base CX0 1 f fd ["source", "many"] (spD K pPick) := by
  refine F.ok scPick (fun vs H Q E h => ?_) (fun cdv A outer s H vs Q E hr h => ?_)
  · obtain ⟨S, G, ds, q, _, r, ⟨s, c, n, _, rfl, _⟩, _⟩ := h
    exact r.length
  · obtain ⟨S, G, ds, q, w0, r, ⟨s, c, n, rfl, rfl, h1, h2, hq⟩, k⟩ := h
    have hu := hu_of hr
    refine ⟨_, Evl.pss_cut (ps_while PassesOwn.never (PW.pt (pw_and (pt_cmpR op_gt (pv 1) pe_int (nomark _)) (pw_and (pt_cmpR op_lt (pe_dget hu (pv 0) pe_str (fun _ _ => rfl)) pe_int (nomark _))
        (pw_and1 (pt_cmpR op_gt (pe_callB call_len (by rfl) nLen PySem.boot_len (pa_cons (pe_dget hu (pv 0) pe_str (fun _ _ => rfl)) pa_nil)) pe_int (nomark _))))))
        (pss_one (ps_dput hu (pv 0) pe_str (pe_bm0 PySem.F.plainAttrs_list PySem.F.slot_list_pop PySem.F.type_list_pop mt_pop (pe_dget hu (pv 0) pe_str (fun _ _ => rfl))) rfl)))
      (pss_cons (ps_set (i := 2) scPick.nd rfl (Or.inl rfl) (pe_dget hu (pv 0) pe_str (fun _ _ => rfl)))
      (pss_cons (ps_if (PW.pt (pw_or (pt_cmpR op_lt (pv 1) pe_int (nomark _)) (pw_or1 (pt_cmpR op_gt (pv 2) pe_int (nomark _)))))
        (pss_cons (ps_dput hu (pv 0) pe_str (pe_op op_fdiv (pv 2) (pe_callB (call_max2 rfl) (by rfl) nMax PyProof.Rows.boot_max (pa_cons pe_int (pa_cons (pv 1) pa_nil)))) rfl)
          (pss_one (ps_ret (pe_op op_mod (pe_callTy call_int1 (by rfl) nInt PyProof.Rows.boot_int (pa_cons (pv 2) pa_nil)) (pe_callB (call_max2 rfl) (by rfl) nMax PyProof.Rows.boot_max (pa_cons pe_int (pa_cons (pv 1) pa_nil))))))) pss_nil)
      (pss_cons (ps_dput hu (pv 0) pe_str (pe_op op_add (pe_dget hu (pv 0) pe_str (fun _ _ => rfl)) pe_int) rfl)
      (pss_cons (ps_set (i := 3) scPick.nd rfl (Or.inl rfl) (pe_op op_mod (pe_callTy call_int1 (by rfl) nInt PyProof.Rows.boot_int (pa_cons (pe_op op_add (pe_dget hu (pv 0) pe_str (fun _ _ => rfl)) (pe_op op_mul (pe_dget hu (pv 0) pe_str (fun _ _ => rfl)) pe_int)) pa_nil)) pe_int))
      (pss_cons (ps_set (i := 3) scPick.nd rfl (Or.inl rfl) (pe_op op_mod (pe_callTy call_int1 (by rfl) nInt PyProof.Rows.boot_int (pa_cons (pe_op op_add (pe_op op_mul (pv 3) (pv 3)) (pe_op op_mul (pe_dget hu (pv 0) pe_str (fun _ _ => rfl)) pe_int)) pa_nil)) pe_int))
      (pss_cons (ps_dput hu (pv 0) pe_str (pv 3) rfl)
      (pss_one (ps_ret (pe_op op_mod (pe_callTy call_int1 (by rfl) nInt PyProof.Rows.boot_int (pa_cons (pe_op op_fdiv (pv 3) pe_int) pa_nil)) (pv 1)))))))))), ?_⟩
    cases r with
    | cons r0 rr =>
    cases rr with
    | cons r1 rr =>
    cases rr
    cases r1
    cases r0
    -- what stays
    have keep : ∀ {H2 : Hp}, (∀ b o, ¬ (b = s ∨ b = c) → H b = some o → H2 b = some o) → SrcAt s c H2 → ∀ i : Int, 0 ≤ i → i < n → Q (.int i) H2 := fun {H2} h2 sa i i0 i1 =>
      k _ _ G H2 ⟨Le.refl _, h2, fun _ _ e => .inl e, ⟨fun b o e => h2 b o (fun z => by rw [w0.sep b z] at e; cases e) (w0.le b o e), sa, w0.sep⟩⟩ (.int i) (hq i i0 i1)
    obtain ⟨nsc, cells, l, m, t, hs, hc, hlen⟩ := w0.src
    refine ⟨fun σ H2 => ∃ mm, pickW s c n H mm σ H2, ?_, ?_⟩
    · refine ⟨pickW s c n H, ⟨_, cells, l, m, t, rfl, rfl, hs, hc, hlen, fun _ _ _ e => e⟩, ?_⟩
      rintro mm σ H2 ⟨cells, l, m, t, rfl, rfl, hs, hc, hlen, kp⟩
      refine ⟨_, rfl, _, _, rfl, rfl, _, rfl, ?_⟩
      refine ite2 (fun _ => ?_) (fun _ => ?_)
      · refine ⟨_, rfl, s, .int l, rfl, sd_l ▸ DGet.k (k := .inr "left") hs, _, _, rfl, rfl, _, rfl, ?_⟩
        refine ite2 (fun _ => ?_) (fun _ => ?_)
        · refine ⟨_, rfl, s, .ref c, rfl, sd_c ▸ DGet.k (k := .inr "cells") hs, _, cells.length, rfl, .inl ⟨_, SqL.of hc, by simp⟩, _, _, rfl, rfl, _, rfl, ?_⟩
          refine ite2 (fun hpos => ?_) (fun _ => ?_)
          · have hp : 0 < cells.length := by
              have := of_decide_eq_true hpos
              omega
            obtain ⟨x, hx⟩ : ∃ x, cells[cells.length - 1]? = some x := ⟨_, List.getElem?_eq_getElem (by omega)⟩
            refine ⟨fun σ' H' => ∃ m', m' < cells.length ∧ pickW s c n H m' σ' H', fun σ' H' z => z, ?_⟩
            refine ⟨_, rfl, s, .ref c, rfl, sd_c ▸ DGet.k (k := .inr "cells") hs, .inl ⟨rfl, _, SqL.of hc⟩, c, _, .int x, rfl, rfl, hc, (by rw [List.length_map, List.getElem?_map, hx]; rfl), ?_⟩
            refine ⟨_, rfl, s, _, rfl, DPut.k (k := .inr "left") (by rw [upd_ne nsc]; exact hs) (by show 4 < sizeLine; decide), ?_⟩
            refine ⟨cells.length - 1, by omega, cells.dropLast, x, m, t, by simp, rfl, by rw [upd_same, put_l], ?_, ?_, fun b o nb e => ?_⟩
            · rw [upd_ne (Ne.symm nsc), upd_same, List.map_dropLast]
            · simp
              omega
            · rw [upd_ne fun z => nb (.inl z), upd_ne fun z => nb (.inr z)]
              exact kp b o nb e
          · exact ⟨_, cells, l, m, t, rfl, rfl, hs, hc, hlen, kp⟩
        · exact ⟨_, cells, l, m, t, rfl, rfl, hs, hc, hlen, kp⟩
      · exact ⟨_, cells, l, m, t, rfl, rfl, hs, hc, hlen, kp⟩
    · rintro σ H2 ⟨_, cells, l, m, t, _, rfl, hs, hc, hlen, kp⟩
      refine ⟨_, rfl, s, .int l, rfl, sd_l ▸ DGet.k (k := .inr "left") hs, ?_⟩
      have gone : ∀ (x y z : Int), SrcAt s c (upd H2 s (.dK (sd c x y z))) ∧ ∀ b o, ¬ (b = s ∨ b = c) → H b = some o → (upd H2 s (.dK (sd c x y z))) b = some o := fun x y z =>
        ⟨⟨nsc, cells, x, y, z, upd_same, by rw [upd_ne (Ne.symm nsc)]; exact hc, hlen⟩, fun b o nb e => by rw [upd_ne fun z => nb (.inl z)]; exact kp b o nb e⟩
      have four : ∀ x y z : Int, (sd c x y z).length < sizeLine := fun _ _ _ => by show 4 < sizeLine; decide
      refine ⟨_, rfl, _, _, rfl, rfl, _, rfl, ?_⟩
      refine ite2 (fun _ => iteT ?a1) (fun _ => ⟨_, rfl, _, _, rfl, rfl, _, rfl, ite2 (fun _ => ?a2) (fun _ => ?a3)⟩)
      case a3 =>
        -- source['turn'] = source['turn'] + 1 ..
        refine ⟨_, rfl, s, .int t, rfl, sd_t ▸ DGet.k (k := .inr "turn") hs, _, _, rfl, rfl, ?_⟩
        refine ⟨_, rfl, s, _, rfl, DPut.k (k := .inr "turn") hs (four _ _ _), ?_⟩
        rw [put_t]
        refine ⟨_, rfl, s, .int m, rfl, sd_m ▸ DGet.k (k := .inr "mixed") upd_same, ?_⟩
        refine ⟨_, rfl, s, .int (t + 1), rfl, sd_t ▸ DGet.k (k := .inr "turn") upd_same, _, _, rfl, rfl, .inr ⟨by decide, by decide⟩, _, _, rfl, rfl, .inl ⟨_, rfl, _, _, rfl, rfl, (by show (0 : Int) < 998244353; decide), ?_⟩⟩
        have b1 := Int.emod_nonneg (m + (t + 1) * 104729) (show (998244353 : Int) ≠ 0 by decide)
        have b2 := Int.emod_lt_of_pos (m + (t + 1) * 104729) (show (0 : Int) < 998244353 by decide)
        refine ⟨_, rfl, _, rfl, _, _, rfl, rfl, .inl ⟨by omega, by omega⟩, ?_⟩
        refine ⟨_, rfl, s, .int (t + 1), rfl, sd_t ▸ DGet.k (k := .inr "turn") upd_same, _, _, rfl, rfl, .inr ⟨by decide, by decide⟩, _, _, rfl, rfl, .inl ⟨_, rfl, _, _, rfl, rfl, (by show (0 : Int) < 2147483647; decide), ?_⟩⟩
        refine ⟨_, rfl, _, rfl, s, _, rfl, DPut.k (k := .inr "mixed") upd_same (four _ _ _), ?_⟩
        rw [put_m, upd_upd]
        refine ⟨_, rfl, _, _, rfl, rfl, ⟨by decide, by decide⟩, .inl ⟨_, rfl, _, rfl, _, _, rfl, rfl, (by show (0 : Int) < n; omega), ?_⟩⟩
        obtain ⟨g1, g2⟩ := gone l ((((m + (t + 1) * 104729) % 998244353) * ((m + (t + 1) * 104729) % 998244353) + (t + 1) * 17) % 2147483647) (t + 1)
        exact keep g2 g1 _ (Int.emod_nonneg _ (by omega)) (Int.emod_lt_of_pos _ (by omega))
      all_goals
        refine ⟨_, rfl, _, rfl, _, _, rfl, ?_⟩
        rw [max_n h1]
        refine ⟨_, _, rfl, rfl, ⟨by omega, by omega⟩, ?_⟩
        refine ⟨_, rfl, s, _, rfl, DPut.k (k := .inr "left") hs (four _ _ _), ?_⟩
        rw [put_l]
        refine ⟨_, rfl, .inl ⟨_, rfl, _, rfl, _, _, rfl, ?_⟩⟩
        rw [max_n h1]
        refine ⟨_, _, rfl, rfl, (by show (0 : Int) < n; omega), ?_⟩
        obtain ⟨g1, g2⟩ := gone (l / n) m t
        exact keep g2 g1 _ (Int.emod_nonneg _ (by omega)) (Int.emod_lt_of_pos _ (by omega))
end
end Tk

set_option Elab.async false
set_option linter.all false
set_option maxRecDepth 100000
set_option maxHeartbeats 4000000
namespace Tk
open PySem L2 X3
abbrev slaw_mixed : Stmt := topS 37
theorem sclaw_mixed : FnScope ["source", "things", "rest", "lap"] ["source", "things"] (defScope slaw_mixed) := ⟨rfl, rfl, rfl, by decide +kernel, rfl, by decide +kernel, by decide +kernel⟩
abbrev slaw_of : Stmt := topS 40
theorem sclaw_of : FnScope ["source", "some"] ["source", "some"] (defScope slaw_of) := ⟨rfl, rfl, rfl, by decide +kernel, rfl, by decide +kernel, by decide +kernel⟩

theorem DatL.perm {K : PySem.W.Frag} {G : Hp} {us ys : List V} (p : us.Perm ys) : ∀ {xs : List X3.D}, DatL K G ys xs → ∃ zs : List X3.D, zs.Perm xs ∧ DatL K G us zs := by
  induction p with
  | nil => exact fun {xs} h => ⟨xs, .refl _, h⟩
  | cons x _ ih =>
    intro xs h
    cases h with
    | cons a r =>
      obtain ⟨zs, hp, hz⟩ := ih r
      exact ⟨_ :: zs, .cons _ hp, .cons a hz⟩
  | swap x y l =>
    intro xs h
    cases h with
    | cons a r =>
      cases r with
      | cons b r => exact ⟨_ :: _ :: _, .swap _ _ _, .cons b (.cons a r)⟩
  | trans _ _ ih1 ih2 =>
    intro xs h
    obtain ⟨zs, hp, hz⟩ := ih2 h
    obtain ⟨ws, hp2, hw⟩ := ih1 hz
    exact ⟨ws, hp2.trans hp, hw⟩
theorem perm_erase {α : Type} : ∀ {l : List α} {n : Nat} (h : n < l.length), (l[n] :: l.eraseIdx n).Perm l
  | _ :: _, 0, _ => .refl _
  | a :: l, n + 1, h => (List.Perm.swap a _ _).trans (.cons a (perm_erase (l := l) (n := n) (Nat.lt_of_succ_lt_succ h)))
theorem seqIx {i : Int} {n : Nat} (h0 : 0 ≤ i) (h1 : i < n) : PySem.seqIndex? i n = some i.toNat := by
  unfold PySem.seqIndex?
  simp [show ¬ i < 0 by omega, h0, h1]
section
variable {P : Program} {w : World} {K : PySem.W.Frag} {mg : Str → Option Value} {tk : Nat → Tok} {base : Heap}
def pOf : Res → List X3.D → (X3.D → Prop) → Prop := fun S ds q => ∃ (s c : Addr) (xs : List X3.D), S = srcR s c ∧ ds = [.val (.ref s), .list xs] ∧ xs ≠ [] ∧ xs.length < 100000 ∧ ∀ d ∈ xs, q d
theorem ok_law_of {f : Addr} {fd : FuncData} (F : Fun K "_law_of" "_law_of" slaw_of f fd) (T : Txt K mg tk) {f1 : Addr} {d1 : FuncData} (D1 : Prom P w K mg base "_law_pick" f1 d1 ["source", "many"] 1 (spD K pPick)) : FnOk P w K mg base CX0 2 f fd ["source", "some"] (spD K (pOf)) := by
  refine F.ok sclaw_of (fun vs H Q E h => ?_) (fun cdv A outer s H vs Q E hr h => ?_)
  · obtain ⟨S, G, ds, q, _, r, ⟨s, c, xs, _, rfl, _⟩, _⟩ := h
    exact r.length
  · obtain ⟨S, G, ds, q, w0, r, ⟨s, c, xs, rfl, rfl, ne, hl, hq⟩, k⟩ := h
    refine ⟨_, (pss_one (ps_ret (pe_ix (r := rIx K) ix_seq (pv 1) (pe_call D1.F (hr.mono (by decide)) (by rfl) D1.g D1.kp D1.b .nil pass0 (pa_cons (pv 0) (pa_cons (pe_callB (r := rCount K) call_len (by rfl) T.nlen PySem.boot_len (pa_cons (pv 1) pa_nil)) pa_nil))) (fun _ _ => rfl)))), ?_⟩
    refine body_of w0 r k ?_
    have h1 : 1 ≤ xs.length := List.length_pos_iff.mpr ne
    repeat (first | with_reducible refine we_call ?_ | refine wc_lenR (n := xs.length) (by rfl) ?_ | (first | with_reducible refine we_op ?_ | with_reducible refine we_lst ?_ | with_reducible refine wa_cons ?_ | with_reducible refine wa_nil ?_ | with_reducible refine we_cb ?_ | with_reducible refine we_tup ?_ | with_reducible refine we_un ?_ | with_reducible refine we_int ?_ | with_reducible refine we_str ?_ | with_reducible refine we_bl ?_ | with_reducible refine we_non ?_ | with_reducible refine we_val ?_ | with_reducible refine we_chain ?_ | with_reducible refine we_andV ?_ | with_reducible refine we_orV ?_ | with_reducible refine we_notV ?_ | with_reducible refine we_if ?_ | with_reducible refine we_fld ?_ | with_reducible refine we_dget ?_ | with_reducible refine we_din ?_ | with_reducible refine we_dnotin ?_ | with_reducible refine wt_or ?_ | with_reducible refine wt_and ?_ | with_reducible refine wt_not ?_ | with_reducible refine wt_b ?_ | with_reducible refine wt_test ?_ | with_reducible refine ws_seq ?_ | with_reducible refine ws_ret ?_ | with_reducible refine ws_if ?_ | with_reducible refine ws_asg ?_ | with_reducible refine ws_next ?_ | with_reducible refine wp_i ?_ | with_reducible refine wr_ib ?_ | with_reducible refine we_eqS ?_ | with_reducible refine we_neS ?_ | with_reducible refine we_eqI ?_ | with_reducible refine we_neI ?_ | with_reducible refine wp_l (Nat.le_of_ble_eq_true rfl) ?_ | with_reducible refine ⟨_, rfl, ?_⟩ | with_reducible refine iteT ?_ | with_reducible refine iteF ?_ | with_reducible refine iteNT ?_ | with_reducible refine iteNF ?_ | with_reducible refine wr_notN (fun u z => nomatch z) ?_ | with_reducible refine wr_isN (fun u z => nomatch z) ?_ | refine (And.intro (a := _ ≤ _) (Nat.le_of_ble_eq_true rfl) ?_) | refine we_var (by rfl) ?_))
    exact ⟨s, c, xs.length, rfl, rfl, by omega, by omega, fun i h0 h1 => wr_ixAny h0 h1 hq⟩
def pMixed : Res → List X3.D → (X3.D → Prop) → Prop := fun S ds q => ∃ (s c : Addr) (d : X3.D) (xs : List X3.D), S = srcR s c ∧ ds = [.val (.ref s), d] ∧ (d = .list xs ∨ d = .tup xs) ∧ xs.length < 10000 ∧ ∀ ys : List X3.D, ys.Perm xs → q (.list ys)
def mixW (s c a D : Addr) (H : Hp) (ys : List V) (i : Nat) (H2 : Hp) : Prop := ∃ us vs : List V, H2 D = some (.lst us) ∧ H2 a = some (.lst vs) ∧ us.length = i ∧ (us ++ vs).Perm ys ∧ SrcAt s c H2 ∧ ∀ b o, ¬ (b = s ∨ b = c) → H b = some o → H2 b = some o
theorem ok_law_mixed {f : Addr} {fd : FuncData} (F : Fun K "_law_mixed" "_law_mixed" slaw_mixed f fd) (T : Txt K mg tk) {f1 : Addr} {d1 : FuncData} (D1 : Prom P w K mg base "_law_pick" f1 d1 ["source", "many"] 1 (spD K pPick)) : FnOk P w K mg base CX0 2 f fd ["source", "things"] (spD K (pMixed)) := by
  refine F.ok sclaw_mixed (fun vs H Q E h => ?_) (fun cdv A outer s H vs Q E hr h => ?_)
  · obtain ⟨S, G, ds, q, _, r, ⟨s, c, d, xs, _, rfl, _⟩, _⟩ := h
    exact r.length
  · obtain ⟨S, G, ds, q, w0, r, ⟨s, c, d, xs, rfl, rfl, hd, hl, hq⟩, k⟩ := h
    refine ⟨_, (pss_cons (ps_set (i := 2) sclaw_mixed.nd rfl (Or.inr rfl) (pe_callTy (r := rLists K) call_list_of (by rfl) T.nlist (by decide +kernel) (pa_cons (pv 1) pa_nil)))
      (pss_one (ps_ret (pe_lc (own := [("lap", 3)]) (g := gName 3)  (tt := tYes) rfl sclaw_mixed.nd (pi_range1 (by rfl) T.nrange (pa_cons (pe_callB (r := rCount K) call_len (by rfl) T.nlen PySem.boot_len (pa_cons (pv 2) pa_nil)) pa_nil)) (blkOk_by (N := ["source", "things", "rest", "lap"]) (sc := defScope slaw_mixed) (by decide +kernel)) (fun _ _ _ _ _ => (pg_name (i := 3) sclaw_mixed.nd rfl (Or.inl rfl))) (fun _ _ _ _ _ => pts_nil) (fun _ _ _ _ _ => (show PE _ _ (tBM K "list" rPopAt _ _) from pe_bm PySem.F.plainAttrs_list PySem.F.slot_list_pop PySem.F.type_list_pop mt_popAt (pv 2) (pa_cons (pe_call D1.F (hr.mono (by decide)) (by rfl) D1.g D1.kp D1.b .nil pass0 (pa_cons (pv 0) (pa_cons (pe_callB (r := rCount K) call_len (by rfl) T.nlen PySem.boot_len (pa_cons (pv 2) pa_nil)) pa_nil))) pa_nil))))))), ?_⟩
    cases r with
    | cons r0 rr =>
    cases rr with
    | cons r1 rr =>
    cases rr
    cases r0
    obtain ⟨p, ys, rfl, hp, dl⟩ : ∃ p ys, ‹V› = .ref p ∧ (SqL K H p ys ∨ SqT K H p ys) ∧ DatL K G ys xs := by
      rcases hd with rfl | rfl
      · cases r1 with
        | list h1 r => exact ⟨_, _, rfl, .inl (SqL.of (w0.le _ _ h1)), r⟩
      · cases r1 with
        | tup h1 r => exact ⟨_, _, rfl, .inr (le_t w0.le h1), r⟩
    have hyl := dl.length
    refine ⟨_, rfl, p, ys, rfl, hp, fun a ha => ?_⟩
    refine ⟨_, rfl, _, ys.length, rfl, .inl ⟨_, SqL.of upd_same, rfl⟩, ys.length, rfl, by omega, by omega, fun D hD => ?_⟩
    rw [Int.toNat_natCast]
    have nfa : ¬ (a = s ∨ a = c) := w0.nfp ha
    have na : a ≠ D := fun z => by
      rw [← z, upd_same] at hD
      cases hD
    have hD0 : H D = none := by
      rw [upd_ne (Ne.symm na)] at hD
      exact hD
    have nfD : ¬ (D = s ∨ D = c) := w0.nfp hD0
    refine lc_range (lo := 0) (n := ys.length) (fun i H2 => mixW s c a D H ys i H2) ?_ ?_ ?_
    · refine ⟨[], ys, upd_same, by rw [upd_ne na, upd_same], rfl, .refl _, ?_, fun b o nb e => ?_⟩
      · exact (srcR s c).loc H _ (fun b fb => by rw [upd_ne (fun z => nfD (by rw [← z]; exact fb)), upd_ne (fun z => nfa (by rw [← z]; exact fb))]) w0.src
      · rw [upd_ne (ne_of_none e hD0), upd_ne (ne_of_none e ha)]
        exact e
    · rintro i H2 hi ⟨us, vs, hD2, ha2, hlen, hperm, sa, fr⟩
      have hvl : vs.length + i = ys.length := by
        have := hperm.length_eq
        simp at this
        omega
      refine ⟨rfl, ?_⟩
      unfold tYes
      dsimp only
      rw [if_pos rfl]
      refine ⟨_, rfl, .inl ⟨rfl, _, SqL.of ha2⟩, ?_⟩
      refine ⟨_, rfl, _, rfl, _, vs.length, rfl, .inl ⟨_, SqL.of ha2, rfl⟩, ?_⟩
      have wH : Wld (srcR s c) G H2 := ⟨fun b o e => fr b o (fun z => by rw [w0.sep b z] at e; cases e) (w0.le b o e), sa, w0.sep⟩
      refine ⟨srcR s c, G, [.val (.ref s), .int (vs.length : Nat)], fun d => ∃ j : Int, d = .int j ∧ 0 ≤ j ∧ j < vs.length, wH, .cons (.val _) (.cons (.int _) .nil), ⟨s, c, _, rfl, rfl, by omega, by omega, fun j h0 h1 => ⟨j, rfl, h0, h1⟩⟩, ?_⟩
      rintro v d G' H3 st dt ⟨j, rfl, h0, h1⟩
      cases dt
      have hD3 := st.hh _ _ nfD hD2
      have ha3 := st.hh _ _ nfa ha2
      have hj : j.toNat < vs.length := by omega
      refine ⟨a, vs, j, j.toNat, vs[j.toNat], rfl, rfl, ha3, by omega, by omega, seqIx h0 h1, List.getElem?_eq_getElem hj, ?_⟩
      refine ⟨us, by rw [upd_ne (Ne.symm na)]; exact hD3, by rw [hlen]; exact Nat.lt_of_lt_of_le (Nat.lt_trans hi (by omega : ys.length < 100000)) (by decide), us ++ [vs[j.toNat]], vs.eraseIdx j.toNat, upd_same, by rw [upd_ne na, upd_same], by simp [hlen], ?_, ?_, fun b o nb e => ?_⟩
      · refine List.Perm.trans ?_ hperm
        rw [List.append_assoc]
        exact List.Perm.append_left _ (perm_erase hj)
      · exact (srcR s c).loc H3 _ (fun b fb => by rw [upd_ne (fun z => nfD (by rw [← z]; exact fb)), upd_ne (fun z => nfa (by rw [← z]; exact fb))]) st.w.src
      · rw [upd_ne (ne_of_none e hD0), upd_ne (ne_of_none e ha)]
        exact st.hh b o nb (fr b o nb e)
    · rintro H2 ⟨us, vs, hD2, ha2, hlen, hperm, sa, fr⟩
      have hv0 : vs = [] := by
        have := hperm.length_eq
        simp at this
        exact List.length_eq_zero_iff.mp (by omega)
      subst hv0
      rw [List.append_nil] at hperm
      obtain ⟨zs, hz, dz⟩ := DatL.perm hperm dl
      have gD : G D = none := w0.le.none hD0
      have st : Stp (srcR s c) G H G H2 := ⟨Le.refl _, fr, fun _ _ e => .inl e, ⟨fun b o e => fr b o (fun z => by rw [w0.sep b z] at e; cases e) (w0.le b o e), sa, w0.sep⟩⟩
      exact k _ _ (upd G D (.lst us)) H2 (st.gel gD hD0 hD2 nfD) (.list upd_same (dz.mono (Le.new gD))) (hq zs hz)
end
end Tk

set_option Elab.async false
set_option linter.all false
set_option maxRecDepth 100000
set_option maxHeartbeats 4000000
namespace Tk
open PySem L2 X3
abbrev splaces : Stmt := topS 27
theorem scplaces : FnScope ["order", "place", "name"] ["order"] (defScope splaces) := ⟨rfl, rfl, rfl, by decide +kernel, rfl, by decide +kernel, by decide +kernel⟩
abbrev sstands_right : Stmt := topS 28
theorem scstands_right : FnScope ["behind", "places", "saying", "name", "some", "place", "other"] ["behind", "places", "saying"] (defScope sstands_right) := ⟨rfl, rfl, rfl, by decide +kernel, rfl, by decide +kernel, by decide +kernel⟩
abbrev sbroken : Stmt := topS 26
theorem scbroken : FnScope ["book", "order", "behind", "places", "number", "saying"] ["book", "order"] (defScope sbroken) := ⟨rfl, rfl, rfl, by decide +kernel, rfl, by decide +kernel, by decide +kernel⟩

/-! ### orders -/
/-- the places of an order's names -/
def PlOk (o : List Str) (kvs : List (Key × X3.D)) : Prop := ∀ n ∈ o, getK kvs (.inr n) = some (.int (o.idxOf n : Nat))
def rightB (bh : Bool) (o : List Str) (y : Str × List Str) : Bool := y.2.any fun s => decide ((o.idxOf s : Int) < (o.idxOf y.1 : Nat)) == bh
def brokenN (bh : Bool) (o : List Str) (says : List (Str × List Str)) : Option Nat := says.findIdx? fun y => !rightB bh o y
def optN : Option Nat → X3.D
  | none => .non
  | some i => .int (i : Nat)
def strsD (o : List Str) : X3.D := .tup (o.map .str)
theorem we_eqB {K : PySem.W.Frag} {S : Res} {Q : X3.D → Prop} {x y : Bool} (q : Q (.bl (x == y))) : WR2 K S (rEqA K) (.bl x) (.bl y) Q := by
  refine we_eqD ⟨rfl, rfl, rfl, rfl⟩ ?_
  have e : PyData.eqv (D.pd (.bl x)) (D.pd (.bl y)) = (x == y) := by cases x <;> cases y <;> decide +kernel
  rw [e]
  exact q
section
variable {P : Program} {w : World} {K : PySem.W.Frag} {mg : Str → Option Value} {tk : Nat → Tok} {base : Heap}
def pPlaces : Res → List X3.D → (X3.D → Prop) → Prop := fun _ ds q => ∃ o : List Str, ds = [strsD o] ∧ o.Nodup ∧ o.length ≤ 1000 ∧ ∀ kvs, PlOk o kvs → q (.dict kvs)
theorem ok_places {f : Addr} {fd : FuncData} (F : Fun K "places_of" "places_of" splaces f fd) (T : Txt K mg tk) : FnOk P w K mg base CX0 1 f fd ["order"] (spD K (pPlaces)) := by
  refine F.ok scplaces (fun vs H Q E h => ?_) (fun cdv A outer s H vs Q E hr h => ?_)
  · obtain ⟨S, G, ds, q, _, r, ⟨o, rfl, nd, hl, hq⟩, _⟩ := h
    exact r.length
  · obtain ⟨S, G, ds, q, w0, r, ⟨o, rfl, nd, hl, hq⟩, k⟩ := h
    have hu := hu64 hr
    have hu1 := hu_of hr
    refine ⟨_, (pss_one (ps_ret (pe_dc (own := [("place", 1), ("name", 2)]) (g := gTup K 2 (gCons (gName 1) (gCons (gName 2) gNil))) (tt := tYes) rfl scplaces.nd (pi_enumT (by rfl) T.nenumerate (pa_cons (pv 0) pa_nil)) (blkOk_by (N := ["order", "place", "name"]) (sc := defScope splaces) (by decide +kernel)) (fun _ _ _ _ _ => (pg_tup rfl (pgs_cons (pg_name (i := 1) scplaces.nd rfl (Or.inl rfl)) (pgs_cons (pg_name (i := 2) scplaces.nd rfl (Or.inl rfl)) pgs_nil)))) (fun _ _ _ _ _ => pts_nil) (fun _ _ _ _ _ => (pv 2)) (fun _ _ _ _ _ => (pv 1))))), ?_⟩
    refine body_of w0 r k ?_
    refine ws_ret (we_dc (is := [1, 2]) (fun pre out => out.length ≤ pre.length ∧ ∀ i < pre.length, ∀ n, o[i]? = some n → getK out (.inr n) = some (.int (i : Nat))) (fun i hi => by simpa using hi) (wi_enumT (wa_cons (we_var (by rfl) (wa_nil ⟨_, rfl, ⟨Nat.le_refl _, fun i hi => absurd hi (Nat.not_lt_zero _)⟩, ?_, ?_⟩)))))
    · rintro pre d post out hd ⟨hlen, hin⟩
      obtain ⟨y, hy, rfl⟩ := enum_split hd
      rw [List.getElem?_map] at hy
      obtain ⟨n, hn, rfl⟩ := Option.map_eq_some_iff.mp hy
      have hlt := (List.getElem?_eq_some_iff.mp hn).1
      refine wg_tup rfl (wgs_cons (wg_name (wgs_cons (wg_name (wgs_nil (wt_yes ?_))))))
      rw [if_pos rfl]
      refine we_var (by rfl) (we_var (by rfl) ⟨.inr n, rfl, by omega, Nat.le_trans (putD_len _ _ _) (by simp; omega), fun i hi m hm => ?_⟩)
      rw [getK_put]
      by_cases e : i = pre.length
      · subst e
        rw [hn] at hm
        cases hm
        rw [if_pos rfl]
      · have hi' : i < pre.length := by
          simp at hi
          omega
        have ne : ¬ (Sum.inr m : Key) = .inr n := fun z => by
          have z' := Sum.inr.inj z
          subst z'
          have h1 := List.getElem?_eq_some_iff.mp hm
          have h2 := List.getElem?_eq_some_iff.mp hn
          obtain ⟨a1, a2⟩ := h1
          obtain ⟨b1, b2⟩ := h2
          exact e ((List.getElem_inj nd).mp (a2.trans b2.symm))
        rw [if_neg ne]
        exact hin i hi' m hm
    · rintro out ⟨_, hin⟩
      refine hq out fun n hn => ?_
      have hlt := List.idxOf_lt_length_of_mem hn
      exact hin _ (by rw [enumD_len, List.length_map]; exact hlt) n (by rw [List.getElem?_eq_getElem hlt, List.getElem_idxOf])
def pRight : Res → List X3.D → (X3.D → Prop) → Prop := fun _ ds q => ∃ (bh : Bool) (o : List Str) (kvs : List (Key × X3.D)) (y : Str × List Str), ds = [.bl bh, .dict kvs, sayD y] ∧ PlOk o kvs ∧ y.1 ∈ o ∧ (∀ s ∈ y.2, s ∈ o) ∧ q (.bl (rightB bh o y))
theorem ok_stands_right {f : Addr} {fd : FuncData} (F : Fun K "_stands_right" "_stands_right" sstands_right f fd) (T : Txt K mg tk) : FnOk P w K mg base CX0 1 f fd ["behind", "places", "saying"] (spD K (pRight)) := by
  refine F.ok scstands_right (fun vs H Q E h => ?_) (fun cdv A outer s H vs Q E hr h => ?_)
  · obtain ⟨S, G, ds, q, _, r, ⟨bh, o, kvs, y, rfl, ok, h1, h2, hq⟩, _⟩ := h
    exact r.length
  · obtain ⟨S, G, ds, q, w0, r, ⟨bh, o, kvs, y, rfl, ok, h1, h2, hq⟩, k⟩ := h
    have hu := hu64 hr
    have hu1 := hu_of hr
    refine ⟨_, (pss_cons (ps_asg (pv 2) (pg_tup rfl (pgs_cons (pg_name (i := 3) scstands_right.nd rfl (Or.inl rfl)) (pgs_cons (pg_name (i := 4) scstands_right.nd rfl (Or.inl rfl)) pgs_nil))))
      (pss_cons (ps_set (i := 5) scstands_right.nd rfl (Or.inl rfl) (pe_dget hu1 (pv 1) (pv 3) (fun _ _ => rfl)))
      (pss_cons (ps_for PassesOwn.never rfl (pi_tup (pv 4)) (pg_name (i := 6) scstands_right.nd rfl (Or.inl rfl)) (pss_one (ps_if (pt_cmpR (r := rEqA K) (op_eqA hu) (pe_cmpR op_lt (pe_dget hu1 (pv 1) (pv 6) (fun _ _ => rfl)) (pv 5) (nomark _)) (pv 0) (nomark _)) (pss_one (ps_ret pe_bl)) pss_nil)))
      (pss_one (ps_ret pe_bl))))), ?_⟩
    refine body_of w0 r k ?_
    refine ws_seq (ws_asgT (is := [3, 4]) (we_var (by rfl) (wg_tup rfl (wgs_cons (wg_name (wgs_cons (wg_name (wgs_nil ?_))))))))
    refine ws_seq (ws_asg (we_dget (we_var (by rfl) (we_var (by rfl) ⟨_, .inr y.1, _, rfl, rfl, ok _ h1, ?_⟩))))
    refine ws_seq (ws_forT (is := [6]) y.2 .str (fun ys ρ' μ' => (∀ s ∈ ys, (decide ((o.idxOf s : Int) < (o.idxOf y.1 : Nat)) == bh) = false) ∧ μ' = [] ∧ ∃ x6, ρ' = [.dat (.bl bh), .dat (.dict kvs), .dat (sayD y), .dat (.str y.1), .dat (.tup (y.2.map .str)), .dat (.int (o.idxOf y.1 : Nat)), x6]) (wi_tup (we_var (by rfl) ⟨_, rfl, rfl, ⟨fun s h => (by cases h), rfl, _, rfl⟩, ?_, ?_⟩)))
    · rintro ys s zs ρ' μ' hs ⟨hno, rfl, x6, rfl⟩
      refine wg_name (ws_if ?_)
      repeat (first | with_reducible refine we_eqB ?_ | with_reducible refine ⟨_, .inr y.1, _, rfl, rfl, ok _ h1, ?_⟩ | refine ⟨_, .inr s, _, rfl, rfl, ok _ (h2 s (by rw [hs]; simp)), ?_⟩ | (first | with_reducible refine we_op ?_ | with_reducible refine we_lst ?_ | with_reducible refine wa_cons ?_ | with_reducible refine wa_nil ?_ | with_reducible refine we_cb ?_ | with_reducible refine we_tup ?_ | with_reducible refine we_un ?_ | with_reducible refine we_int ?_ | with_reducible refine we_str ?_ | with_reducible refine we_bl ?_ | with_reducible refine we_non ?_ | with_reducible refine we_val ?_ | with_reducible refine we_chain ?_ | with_reducible refine we_andV ?_ | with_reducible refine we_orV ?_ | with_reducible refine we_notV ?_ | with_reducible refine we_if ?_ | with_reducible refine we_fld ?_ | with_reducible refine we_dget ?_ | with_reducible refine we_din ?_ | with_reducible refine we_dnotin ?_ | with_reducible refine wt_or ?_ | with_reducible refine wt_and ?_ | with_reducible refine wt_not ?_ | with_reducible refine wt_b ?_ | with_reducible refine wt_test ?_ | with_reducible refine ws_seq ?_ | with_reducible refine ws_ret ?_ | with_reducible refine ws_if ?_ | with_reducible refine ws_asg ?_ | with_reducible refine ws_next ?_ | with_reducible refine wp_i ?_ | with_reducible refine wr_ib ?_ | with_reducible refine we_eqS ?_ | with_reducible refine we_neS ?_ | with_reducible refine we_eqI ?_ | with_reducible refine we_neI ?_ | with_reducible refine wp_l (Nat.le_of_ble_eq_true rfl) ?_ | with_reducible refine ⟨_, rfl, ?_⟩ | with_reducible refine iteT ?_ | with_reducible refine iteF ?_ | with_reducible refine iteNT ?_ | with_reducible refine iteNF ?_ | with_reducible refine wr_notN (fun u z => nomatch z) ?_ | with_reducible refine wr_isN (fun u z => nomatch z) ?_ | refine (And.intro (a := _ ≤ _) (Nat.le_of_ble_eq_true rfl) ?_) | refine we_var (by rfl) ?_))
      cases e : (decide ((o.idxOf s : Int) < (o.idxOf y.1 : Nat)) == bh) with
      | true =>
        refine iteT (ws_ret (we_bl ?_))
        have : rightB bh o y = true := List.any_eq_true.mpr ⟨s, by rw [hs]; simp, e⟩
        rw [this] at hq
        exact hq
      | false =>
        refine iteF (ws_next ⟨fun s' h' => ?_, rfl, _, rfl⟩)
        rcases List.mem_append.mp h' with z | z
        · exact hno s' z
        · rw [List.mem_singleton.mp z]
          exact e
    · rintro ρ' μ' ⟨hno, rfl, x6, rfl⟩
      refine ws_ret (we_bl ?_)
      have : rightB bh o y = false := by
        unfold rightB
        rw [List.any_eq_false]
        intro s hs
        rw [hno s hs]
        exact Bool.false_ne_true
      rw [this] at hq
      exact hq
theorem lkno {m : Str} {a b c d : X3.D} (h : (decide (m = "_side") || decide (m = "_items") || decide (m = "_sayings") || decide (m = "_prices")) = false) : List.lookup m [(("_side" : Str), a), ("_items", b), ("_sayings", c), ("_prices", d)] = none := by
  simp only [Bool.or_eq_false_iff, decide_eq_false_iff_not] at h
  obtain ⟨⟨⟨h1, h2⟩, h3⟩, h4⟩ := h
  rw [lookup_cons, if_neg h1, lookup_cons, if_neg h2, lookup_cons, if_neg h3, lookup_cons, if_neg h4]
  rfl
/-- names of a book's sayings all stand in an order -/
def SaysIn (o : List Str) (says : List (Str × List Str)) : Prop := ∀ y ∈ says, y.1 ∈ o ∧ ∀ s ∈ y.2, s ∈ o
def pBroken (C : Addr) : Res → List X3.D → (X3.D → Prop) → Prop := fun _ ds q => ∃ (side : Str) (its : List (Str × Int)) (says : List (Str × List Str)) (o : List Str), ds = [bkD C side its says, strsD o] ∧ o.Nodup ∧ o.length ≤ 1000 ∧ SaysIn o says ∧ q (optN (brokenN (decide (side = cBEHIND)) o says))
theorem ok_broken {f : Addr} {fd : FuncData} (F : Fun K "broken" "broken" sbroken f fd) (T : Txt K mg tk) {C : Addr} (cB : ClsB K C) {f1 f2 f3 f4 : Addr} {d1 d2 d3 d4 : FuncData}
    (D1 : PromM P w K mg base C "side" f1 d1 ["self"] 1 (spD K (pSide (K := K))))
    (D2 : Prom P w K mg base "places_of" f2 d2 ["order"] 1 (spD K (pPlaces)))
    (D3 : PromM P w K mg base C "sayings" f3 d3 ["self"] 1 (spD K (pSays (K := K))))
    (D4 : Prom P w K mg base "_stands_right" f4 d4 ["behind", "places", "saying"] 1 (spD K (pRight))) : FnOk P w K mg base CX0 2 f fd ["book", "order"] (spD K (pBroken C)) := by
  refine F.ok scbroken (fun vs H Q E h => ?_) (fun cdv A outer s H vs Q E hr h => ?_)
  · obtain ⟨S, G, ds, q, _, r, ⟨side, its, says, o, rfl, nd, hl, hin, hq⟩, _⟩ := h
    exact r.length
  · obtain ⟨S, G, ds, q, w0, r, ⟨side, its, says, o, rfl, nd, hl, hin, hq⟩, k⟩ := h
    have hu := hu64 hr
    have hu1 := hu_of hr
    refine ⟨_, (pss_cons (ps_set (i := 2) scbroken.nd rfl (Or.inl rfl) (pe_cmpR (r := rEqA K) (op_eqA hu) (pe_meth0 (pv 0) cB.cl D1.hm D1.F (hr.mono (by decide)) D1.b .nil pass0) (pe_glob (v := .str cBEHIND) (by rfl) T.gBEHIND ⟨_, rfl⟩) (nomark _)))
      (pss_cons (ps_set (i := 3) scbroken.nd rfl (Or.inl rfl) (pe_call D2.F (hr.mono (by decide)) (by rfl) D2.g D2.kp D2.b .nil pass0 (pa_cons (pv 1) pa_nil)))
      (pss_cons (ps_for PassesOwn.never rfl (pi_enum (by rfl) T.nenumerate (pa_cons (pe_meth0 (pv 0) cB.cl D3.hm D3.F (hr.mono (by decide)) D3.b .nil pass0) pa_nil)) (pg_tup rfl (pgs_cons (pg_name (i := 4) scbroken.nd rfl (Or.inl rfl)) (pgs_cons (pg_name (i := 5) scbroken.nd rfl (Or.inl rfl)) pgs_nil))) (pss_one (ps_if (pt_not (pt_val (pe_call D4.F (hr.mono (by decide)) (by rfl) D4.g D4.kp D4.b .nil pass0 (pa_cons (pv 2) (pa_cons (pv 3) (pa_cons (pv 5) pa_nil)))))) (pss_one (ps_ret (pv 4))) pss_nil)))
      (pss_one (ps_ret pe_non))))), ?_⟩
    refine body_of w0 r k ?_
    refine ws_seq (ws_asg (we_op (we_meth (we_var (by rfl) ⟨_, rfl, lkno (by decide +kernel), wa_nil ⟨C, side, its, says, rfl, cB, ?_⟩⟩))))
    refine we_str (we_eqS ?_)
    refine ws_seq (ws_asg (we_call (wa_cons (we_var (by rfl) (wa_nil ⟨o, rfl, nd, hl, fun kvs ok => ?_⟩)))))
    refine ws_seq (ws_for (is := [4, 5]) (fun pre ρ' μ' => (∀ i < pre.length, ∀ y, says[i]? = some y → rightB (decide (side = cBEHIND)) o y = true) ∧ μ' = [] ∧ ∃ x4 x5, ρ' = [.dat (bkD C side its says), .dat (strsD o), .dat (.bl (decide (side = cBEHIND))), .dat (.dict kvs), x4, x5]) (wi_enumL (wa_cons ?_)))
    refine we_meth (we_var (by rfl) ⟨_, rfl, lkno (by decide +kernel), wa_nil ⟨C, side, its, says, rfl, cB, wa_nil ⟨_, rfl, ⟨fun i h => absurd h (Nat.not_lt_zero _), rfl, _, _, rfl⟩, ?_, ?_⟩⟩⟩)
    · rintro pre d post ρ' μ' hd ⟨hall, rfl, x4, x5, rfl⟩
      obtain ⟨y, hy, rfl⟩ := enum_split hd
      rw [List.getElem?_map] at hy
      obtain ⟨y, hs, rfl⟩ := Option.map_eq_some_iff.mp hy
      have hm := List.mem_of_getElem? hs
      refine wg_tup rfl (wgs_cons (wg_name (wgs_cons (wg_name (wgs_nil ?_)))))
      refine ws_if (wt_not (wt_b (we_call (wa_cons (we_var (by rfl) (wa_cons (we_var (by rfl) (wa_cons (we_var (by rfl) (wa_nil ⟨_, o, kvs, y, rfl, ok, (hin y hm).1, (hin y hm).2, _, rfl, ?_⟩))))))))))
      cases e : rightB (decide (side = cBEHIND)) o y with
      | true =>
        refine iteNT (ws_next ⟨fun i hi y' hy' => ?_, rfl, _, _, rfl⟩)
        by_cases z : i < pre.length
        · exact hall i z y' hy'
        · have : i = pre.length := by
            simp at hi
            omega
          subst this
          rw [hs] at hy'
          cases hy'
          exact e
      | false =>
        refine iteNF (ws_ret (we_var (by rfl) ?_))
        have hb : brokenN (decide (side = cBEHIND)) o says = some pre.length := by
          obtain ⟨h1, h2⟩ := List.getElem?_eq_some_iff.mp hs
          refine List.findIdx?_eq_some_iff_getElem.mpr ⟨h1, by rw [h2, e]; rfl, fun j hj => ?_⟩
          rw [hall j hj _ (List.getElem?_eq_getElem (by omega))]
          exact Bool.false_ne_true
        rw [hb] at hq
        exact hq
    · rintro ρ' μ' ⟨hall, rfl, x4, x5, rfl⟩
      refine ws_ret (we_non ?_)
      have hb : brokenN (decide (side = cBEHIND)) o says = none := by
        refine List.findIdx?_eq_none_iff.mpr fun y hy => ?_
        obtain ⟨j, hj, e⟩ := List.mem_iff_getElem.mp hy
        rw [hall j (by rw [enumD_len, List.length_map]; exact hj) y (by rw [List.getElem?_eq_getElem hj, e])]
        rfl
      rw [hb] at hq
      exact hq
end
end Tk

set_option Elab.async false
set_option linter.all false
set_option maxRecDepth 100000
set_option maxHeartbeats 4000000
namespace Tk
open PySem L2 X3
abbrev smoved : Stmt := topS 33
theorem scmoved : FnScope ["order", "deed", "name", "place", "rest", "at", "other"] ["order", "deed"] (defScope smoved) := ⟨rfl, rfl, rfl, by decide +kernel, rfl, by decide +kernel, by decide +kernel⟩
abbrev sdeed_word : Stmt := topS 32
theorem scdeed_word : FnScope ["book", "order", "deed", "name", "place"] ["book", "order", "deed"] (defScope sdeed_word) := ⟨rfl, rfl, rfl, by decide +kernel, rfl, by decide +kernel, by decide +kernel⟩
abbrev sdone : Stmt := topS 30
theorem scdone : FnScope ["book", "order", "deed", "word"] ["book", "order", "deed"] (defScope sdone) := ⟨rfl, rfl, rfl, by decide +kernel, rfl, by decide +kernel, by decide +kernel⟩
abbrev sall_deeds : Stmt := topS 31
theorem scall_deeds : FnScope ["book", "order", "deeds", "name", "places", "place", "other"] ["book", "order"] (defScope sall_deeds) := ⟨rfl, rfl, rfl, by decide +kernel, rfl, by decide +kernel, by decide +kernel⟩

/-! ### deeds -/
def optS : Option Str → X3.D
  | none => .non
  | some s => .str s
def deedD (d : Str × Option Str) : X3.D := .tup [.str d.1, optS d.2]
theorem optS_nv (p : Option Str) (u : V) : optS p ≠ .val u := by cases p <;> exact fun z => nomatch z
theorem iteE {c : Bool} {A B : Prop} (h : c = true) (a : A) : if c = true then A else B := by rw [if_pos h]; exact a
theorem iteE0 {c : Bool} {A B : Prop} (h : c = false) (b : B) : if c = true then A else B := by rw [if_neg (by rw [h]; exact Bool.false_ne_true)]; exact b
def restL (o : List Str) (n : Str) : List Str := o.filter fun x => !decide (x = n)
def movedL (o : List Str) (d : Str × Option Str) : List Str :=
  let at_ := match d.2 with
    | none => 0
    | some x => (restL o d.1).idxOf x + 1
  (restL o d.1).take at_ ++ [d.1] ++ (restL o d.1).drop at_
/-- a deed of the names of an order -/
def DeedIn (o : List Str) (d : Str × Option Str) : Prop := d.1 ∈ o ∧ ∀ x, d.2 = some x → x ∈ o ∧ x ≠ d.1
theorem rest_len {o : List Str} {n : Str} : (restL o n).length ≤ o.length := List.length_filter_le _ _
theorem mem_rest {o : List Str} {n x : Str} : x ∈ restL o n ↔ x ∈ o ∧ x ≠ n := by
  unfold restL
  rw [List.mem_filter]
  simp
theorem perm_rest {n : Str} : ∀ {o : List Str}, o.Nodup → n ∈ o → (n :: restL o n).Perm o
  | a :: o, nd, h => by
    rw [List.nodup_cons] at nd
    by_cases e : a = n
    · subst e
      have : restL (a :: o) a = o := by
        unfold restL
        rw [List.filter_cons, if_neg (by simp), List.filter_eq_self.mpr fun x hx => by
          have : x ≠ a := fun z => nd.1 (z ▸ hx)
          simp [this]]
      rw [this]
    · have hm : n ∈ o := (List.mem_cons.mp h).resolve_left (Ne.symm e)
      have : restL (a :: o) n = a :: restL o n := by
        unfold restL
        rw [List.filter_cons, if_pos (by simp [e])]
      rw [this]
      exact (List.Perm.swap a n _).trans (.cons a (perm_rest nd.2 hm))
theorem ins_perm {α : Type} (k : Nat) (l : List α) (a : α) : (l.take k ++ [a] ++ l.drop k).Perm (a :: l) := by
  rw [List.append_assoc, List.singleton_append]
  refine List.perm_middle.trans ?_
  rw [List.take_append_drop]
theorem moved_perm {o : List Str} {d : Str × Option Str} (nd : o.Nodup) (h : d.1 ∈ o) : (movedL o d).Perm o := (ins_perm _ _ _).trans (perm_rest nd h)
theorem idxOf_first {x : Str} : ∀ {l : List Str} {m : Nat}, m < l.idxOf x → l[m]? ≠ some x
  | a :: l, m, h => by
    rw [List.idxOf_cons] at h
    by_cases e : a = x
    · subst e
      simp at h
    · have e' : (a == x) = false := by simpa using e
      rw [e'] at h
      cases m with
      | zero => simpa using e
      | succ m =>
        rw [List.getElem?_cons_succ]
        exact idxOf_first (by simpa using h)
theorem idxOf_at {x : Str} {l : List Str} (h : x ∈ l) : l[l.idxOf x]? = some x := by
  have hlt := List.idxOf_lt_length_of_mem h
  rw [List.getElem?_eq_getElem hlt, List.getElem_idxOf]
theorem cut_to {xs : List X3.D} {n : Nat} : cutD xs none (some (n : Int)) = xs.take n := by
  unfold cutD
  rw [HT.sIx_none, HT.sIx_nat]
  simp
theorem cut_from {xs : List X3.D} {n : Nat} : cutD xs (some (n : Int)) none = xs.drop n := by
  unfold cutD
  rw [HT.sIx_none, HT.sIx_nat]
  by_cases h : n ≤ xs.length
  · rw [Nat.min_eq_left h, List.take_of_length_le (by simp)]
  · rw [Nat.min_eq_right (by omega), List.drop_eq_nil_of_le (Nat.le_refl _), List.drop_eq_nil_of_le (by omega)]
    simp
section
variable {P : Program} {w : World} {K : PySem.W.Frag} {mg : Str → Option Value} {tk : Nat → Tok} {base : Heap}
def pMoved : Res → List X3.D → (X3.D → Prop) → Prop := fun _ ds q => ∃ (o : List Str) (d : Str × Option Str), ds = [strsD o, deedD d] ∧ o.length ≤ 1000 ∧ (∀ x, d.2 = some x → x ∈ o ∧ x ≠ d.1) ∧ q (strsD (movedL o d))
theorem ok_moved {f : Addr} {fd : FuncData} (F : Fun K "moved" "moved" smoved f fd) (T : Txt K mg tk) : FnOk P w K mg base CX0 1 f fd ["order", "deed"] (spD K (pMoved)) := by
  refine F.ok scmoved (fun vs H Q E h => ?_) (fun cdv A outer s H vs Q E hr h => ?_)
  · obtain ⟨S, G, ds, q, _, r, ⟨o, d, rfl, hl, hd, hq⟩, _⟩ := h
    exact r.length
  · obtain ⟨S, G, ds, q, w0, r, ⟨o, d, rfl, hl, hd, hq⟩, k⟩ := h
    have hu := hu64 hr
    have hu1 := hu_of hr
    refine ⟨_, (pss_cons (ps_asg (pv 1) (pg_tup rfl (pgs_cons (pg_name (i := 2) scmoved.nd rfl (Or.inr rfl)) (pgs_cons (pg_name (i := 3) scmoved.nd rfl (Or.inl rfl)) pgs_nil))))
      (pss_cons (ps_setLc (i := 4) (own := [("other", 6)]) (g := gName 6)  rfl scmoved.nd rfl rfl (by with_unfolding_all rfl) (pi_tup (pv 0)) (blkOk_by (N := ["order", "deed", "name", "place", "rest", "at", "other"]) (sc := defScope smoved) (by decide +kernel)) (fun _ _ _ _ _ => (pg_name (i := 6) scmoved.nd rfl (Or.inl rfl))) (fun _ _ _ _ _ => (pts_one (pt_cmpR op_ne (pv 6) (pv 2) (nomark _)))) (fun _ _ _ _ _ => (pv 6)))
      (pss_cons (ps_set (i := 5) scmoved.nd rfl (Or.inl rfl) (pe_ifExp (pt_cmpR op_isN (pv 3) pe_non (nomark _)) pe_int (pe_op op_plus (show PE _ _ (tBM K "list" (rIndex K) _ _) from pe_bm PySem.F.plainAttrs_list PySem.F.slot_list_index PySem.F.type_list_index mt_index (pv 4) (pa_cons (pv 3) pa_nil)) pe_int)))
      (pss_one (ps_ret (pe_callTy (r := rTup K) call_tuple_of (by rfl) T.ntuple PyProof.Rows.boot_tuple (pa_cons (pe_op op_plus (pe_op op_plus (pe_slice (r := rSlL K) sl_list (pv 4) po_none (po_some (pv 5))) (pe_lst (pa_cons (pv 2) pa_nil))) (pe_slice (r := rSlL K) sl_list (pv 4) (po_some (pv 5)) po_none)) pa_nil))))))), ?_⟩
    refine body_of w0 r k ?_

    obtain ⟨n, p⟩ := d
    refine ws_seq (ws_asgT (is := [2, 3]) (we_var (by rfl) (wg_tup rfl (wgs_cons (wg_name (wgs_cons (wg_name (wgs_nil ?_))))))))
    refine ws_seq (ws_asg (we_map (is := [6]) o .str .str (fun x => !decide (x = n)) (fun i hi => by simpa using hi) (wi_tup (we_var (by rfl) ⟨_, rfl, rfl, Nat.le_trans hl (by decide), fun x hx => wg_name ?_, ?_⟩))))
    · exact wt_test (we_op (we_var (by rfl) (we_var (by rfl) (wr_neS ⟨_, rfl, rfl, fun _ => we_var (by rfl) rfl⟩))))
    have fin : ∀ k : Nat, movedL o (n, p) = (restL o n).take k ++ [n] ++ (restL o n).drop k → WS K S (tRet (tCB (rTup K) (tCons (tOp rPlus (tOp rPlus (tSl (rSlL K) (tVar 4) tNoPart (tPart (tVar 5))) (tLst (tCons (tVar 2) tNil))) (tSl (rSlL K) (tVar 4) (tPart (tVar 5)) tNoPart)) tNil))) [.dat (strsD o), .dat (deedD (n, p)), .dat (.str n), .dat (optS p), .dat (.list ((restL o n).map .str)), .dat (.int (k : Nat)), .no] [] { nx := fun _ _ => q .non, rt := q } := fun k e => by
      have hr1 : (restL o n).length ≤ 1000 := Nat.le_trans rest_len hl
      refine ws_ret (we_cb (wa_cons (we_op (we_op (we_slL (we_var (by rfl) (wo_none (wo_some (we_var (by rfl) ⟨_, rfl, _, rfl, ?_⟩)))))))))
      rw [cut_to]
      refine we_lst (wa_cons (we_var (by rfl) (wa_nil ⟨Nat.le_of_ble_eq_true rfl, wp_l (by simp; omega) ?_⟩)))
      refine we_slL (we_var (by rfl) (wo_some (we_var (by rfl) ⟨_, rfl, wo_none ⟨_, rfl, wp_l (by rw [cut_from]; simp; omega) (wa_nil (wc_tupleR (.inl rfl) ?_))⟩⟩)))
      rw [cut_from, ← List.map_take, ← List.map_drop]
      rw [e] at hq
      have e2 : (((restL o n).take k ++ [n] ++ (restL o n).drop k).map X3.D.str) = (restL o n |>.take k).map .str ++ [.str n] ++ (restL o n |>.drop k).map .str := by simp
      show q (.tup _)
      unfold strsD at hq
      rw [e2] at hq
      exact hq
    refine ws_seq (ws_asg (we_if ?_))
    cases p with
    | none =>
      repeat (first | with_reducible refine wr_isN (optS_nv _) ?_ | (first | with_reducible refine we_op ?_ | with_reducible refine we_lst ?_ | with_reducible refine wa_cons ?_ | with_reducible refine wa_nil ?_ | with_reducible refine we_cb ?_ | with_reducible refine we_tup ?_ | with_reducible refine we_un ?_ | with_reducible refine we_int ?_ | with_reducible refine we_str ?_ | with_reducible refine we_bl ?_ | with_reducible refine we_non ?_ | with_reducible refine we_val ?_ | with_reducible refine we_chain ?_ | with_reducible refine we_andV ?_ | with_reducible refine we_orV ?_ | with_reducible refine we_notV ?_ | with_reducible refine we_if ?_ | with_reducible refine we_fld ?_ | with_reducible refine we_dget ?_ | with_reducible refine we_din ?_ | with_reducible refine we_dnotin ?_ | with_reducible refine wt_or ?_ | with_reducible refine wt_and ?_ | with_reducible refine wt_not ?_ | with_reducible refine wt_b ?_ | with_reducible refine wt_test ?_ | with_reducible refine ws_seq ?_ | with_reducible refine ws_ret ?_ | with_reducible refine ws_if ?_ | with_reducible refine ws_asg ?_ | with_reducible refine ws_next ?_ | with_reducible refine wp_i ?_ | with_reducible refine wr_ib ?_ | with_reducible refine we_eqS ?_ | with_reducible refine we_neS ?_ | with_reducible refine we_eqI ?_ | with_reducible refine we_neI ?_ | with_reducible refine wp_l (Nat.le_of_ble_eq_true rfl) ?_ | with_reducible refine ⟨_, rfl, ?_⟩ | with_reducible refine iteT ?_ | with_reducible refine iteF ?_ | with_reducible refine iteNT ?_ | with_reducible refine iteNF ?_ | with_reducible refine wr_notN (fun u z => nomatch z) ?_ | with_reducible refine wr_isN (fun u z => nomatch z) ?_ | refine (And.intro (a := _ ≤ _) (Nat.le_of_ble_eq_true rfl) ?_) | refine we_var (by rfl) ?_))
      exact iteE rfl (we_int (fin 0 rfl))
    | some x =>
      have hx := hd x rfl
      repeat (first | with_reducible refine wr_isN (optS_nv _) ?_ | (first | with_reducible refine we_op ?_ | with_reducible refine we_lst ?_ | with_reducible refine wa_cons ?_ | with_reducible refine wa_nil ?_ | with_reducible refine we_cb ?_ | with_reducible refine we_tup ?_ | with_reducible refine we_un ?_ | with_reducible refine we_int ?_ | with_reducible refine we_str ?_ | with_reducible refine we_bl ?_ | with_reducible refine we_non ?_ | with_reducible refine we_val ?_ | with_reducible refine we_chain ?_ | with_reducible refine we_andV ?_ | with_reducible refine we_orV ?_ | with_reducible refine we_notV ?_ | with_reducible refine we_if ?_ | with_reducible refine we_fld ?_ | with_reducible refine we_dget ?_ | with_reducible refine we_din ?_ | with_reducible refine we_dnotin ?_ | with_reducible refine wt_or ?_ | with_reducible refine wt_and ?_ | with_reducible refine wt_not ?_ | with_reducible refine wt_b ?_ | with_reducible refine wt_test ?_ | with_reducible refine ws_seq ?_ | with_reducible refine ws_ret ?_ | with_reducible refine ws_if ?_ | with_reducible refine ws_asg ?_ | with_reducible refine ws_next ?_ | with_reducible refine wp_i ?_ | with_reducible refine wr_ib ?_ | with_reducible refine we_eqS ?_ | with_reducible refine we_neS ?_ | with_reducible refine we_eqI ?_ | with_reducible refine we_neI ?_ | with_reducible refine wp_l (Nat.le_of_ble_eq_true rfl) ?_ | with_reducible refine ⟨_, rfl, ?_⟩ | with_reducible refine iteT ?_ | with_reducible refine iteF ?_ | with_reducible refine iteNT ?_ | with_reducible refine iteNF ?_ | with_reducible refine wr_notN (fun u z => nomatch z) ?_ | with_reducible refine wr_isN (fun u z => nomatch z) ?_ | refine (And.intro (a := _ ≤ _) (Nat.le_of_ble_eq_true rfl) ?_) | refine we_var (by rfl) ?_))
      refine iteE0 rfl (we_op ?_)
      refine we_index (we_var (by rfl) ⟨_, rfl, we_var (by rfl) ⟨x, _, rfl, idxOf_at (mem_rest.mpr hx), fun m hm => idxOf_first hm, we_int (wp_i (fin ((restL o n).idxOf x + 1) rfl))⟩⟩)
/-- a book's items and sayings, and an order of its names -/
structure OrdIn (its : List (Str × Int)) (says : List (Str × List Str)) (o : List Str) : Prop where
  perm : o.Perm (its.map (·.1))
  nd : o.Nodup
  len : o.length ≤ 1000
  says : SaysIn o says
theorem OrdIn.moved {its : List (Str × Int)} {says : List (Str × List Str)} {o : List Str} {d : Str × Option Str} (h : OrdIn its says o) (hd : d.1 ∈ o) : OrdIn its says (movedL o d) := by
  have hp := moved_perm h.nd hd
  exact ⟨hp.trans h.perm, hp.nodup_iff.mpr h.nd, by rw [hp.length_eq]; exact h.len, fun y hy => ⟨hp.mem_iff.mpr (h.says y hy).1, fun s hs => hp.mem_iff.mpr ((h.says y hy).2 s hs)⟩⟩
def keptB (side : Str) (o : List Str) (says : List (Str × List Str)) : Bool := (brokenN (decide (side = cBEHIND)) o says).isNone
theorem optN_nv (p : Option Nat) (u : V) : optN p ≠ .val u := by cases p <;> exact fun z => nomatch z
theorem optN_isN (p : Option Nat) : isNonD (optN p) = p.isNone := by cases p <;> rfl
def pDWord (C : Addr) : Res → List X3.D → (X3.D → Prop) → Prop := fun _ ds q => ∃ (side : Str) (its : List (Str × Int)) (says : List (Str × List Str)) (o : List Str) (d : Str × Option Str), ds = [bkD C side its says, strsD o, deedD d] ∧ OrdIn its says o ∧ DeedIn o d ∧ q (if keptB side (movedL o d) says then .non else .str "broken")
theorem ok_deed_word {f : Addr} {fd : FuncData} (F : Fun K "deed_word" "deed_word" sdeed_word f fd) (T : Txt K mg tk) {C : Addr} (cB : ClsB K C) {f1 f2 f3 f4 : Addr} {d1 d2 d3 d4 : FuncData}
    (D1 : Prom P w K mg base "is_pair" f1 d1 ["value"] 1 (spD K (pPair)))
    (D2 : PromM P w K mg base C "has_name" f2 d2 ["self", "value"] 1 (spD K (pHas (K := K))))
    (D3 : Prom P w K mg base "broken" f3 d3 ["book", "order"] 2 (spD K (pBroken C)))
    (D4 : Prom P w K mg base "moved" f4 d4 ["order", "deed"] 1 (spD K (pMoved))) : FnOk P w K mg base CX0 3 f fd ["book", "order", "deed"] (spD K (pDWord C)) := by
  refine F.ok scdeed_word (fun vs H Q E h => ?_) (fun cdv A outer s H vs Q E hr h => ?_)
  · obtain ⟨S, G, ds, q, _, r, ⟨side, its, says, o, d, rfl, ho, hd, hq⟩, _⟩ := h
    exact r.length
  · obtain ⟨S, G, ds, q, w0, r, ⟨side, its, says, o, d, rfl, ho, hd, hq⟩, k⟩ := h
    have hu := hu64 hr
    have hu1 := hu_of hr
    refine ⟨_, (pss_cons (ps_if (pt_not (pt_val (pe_call D1.F (hr.mono (by decide)) (by rfl) D1.g D1.kp D1.b .nil pass0 (pa_cons (pv 2) pa_nil)))) (pss_one (ps_ret pe_str)) pss_nil)
      (pss_cons (ps_asg (pv 2) (pg_tup rfl (pgs_cons (pg_name (i := 3) scdeed_word.nd rfl (Or.inl rfl)) (pgs_cons (pg_name (i := 4) scdeed_word.nd rfl (Or.inl rfl)) pgs_nil))))
      (pss_cons (ps_if (pt_not (pt_val (pe_meth (pv 0) cB.cl D2.hm D2.F (hr.mono (by decide)) D2.b .nil pass0 (pa_cons (pv 3) pa_nil)))) (pss_one (ps_ret pe_str)) pss_nil)
      (pss_cons (ps_if (PW.pt (pw_and (pt_cmpR op_notN (pv 4) pe_non (nomark _)) (pw_and1 (PW.pt (pw_or (pt_cmpR (r := rEqA K) (op_eqA hu) (pv 4) (pv 3) (nomark _)) (pw_or1 (pt_not (pt_val (pe_meth (pv 0) cB.cl D2.hm D2.F (hr.mono (by decide)) D2.b .nil pass0 (pa_cons (pv 4) pa_nil)))))))))) (pss_one (ps_ret pe_str)) pss_nil)
      (pss_cons (ps_if (pt_cmpR op_notN (pe_call D3.F (hr.mono (by decide)) (by rfl) D3.g D3.kp D3.b .nil pass0 (pa_cons (pv 0) (pa_cons (pe_call D4.F (hr.mono (by decide)) (by rfl) D4.g D4.kp D4.b .nil pass0 (pa_cons (pv 1) (pa_cons (pv 2) pa_nil))) pa_nil))) pe_non (nomark _)) (pss_one (ps_ret pe_str)) pss_nil)
      (pss_one (ps_ret pe_non))))))), ?_⟩
    refine body_of w0 r k ?_

    obtain ⟨n, p⟩ := d
    have hn : decide (n ∈ its.map (·.1)) = true := decide_eq_true (ho.perm.mem_iff.mp hd.1)
    have key : WS K S (tIfS (tTest (tOp (fun x y H Q => y = .non ∧ Q (.bl (!decide (x = .non))) H) (tCall (spD K (pBroken C)) [] E0 (tCons (tVar 0) (tCons (tCall (spD K pMoved) [] E0 (tCons (tVar 1) (tCons (tVar 2) tNil))) tNil))) (tC .non))) (tRet (tC (.str "broken"))) tNext) [.dat (bkD C side its says), .dat (strsD o), .dat (deedD (n, p)), .dat (.str n), .dat (optS p)] [] { nx := fun ρ' μ' => WS K S (tRet (tC .non)) ρ' μ' { nx := fun _ _ => q .non, rt := q }, rt := q } := by
      have ho2 := ho.moved (d := (n, p)) hd.1
      refine ws_if (wt_test (we_op (we_call (wa_cons (we_var (by rfl) (wa_cons (we_call (wa_cons (we_var (by rfl) (wa_cons (we_var (by rfl) (wa_nil ⟨o, (n, p), rfl, ho.len, hd.2, wa_nil ⟨side, its, says, _, rfl, ho2.nd, ho2.len, ho2.says, ?_⟩⟩))))))))))))
      refine we_non (wr_notN (optN_nv _) ⟨_, rfl, ?_⟩)
      rw [optN_isN]
      have hq' := hq
      unfold keptB at hq'
      cases e : (brokenN (decide (side = cBEHIND)) (movedL o (n, p)) says).isNone with
      | true =>
        rw [if_pos e] at hq'
        exact iteNT (ws_next (ws_ret (we_non hq')))
      | false =>
        rw [if_neg (by rw [e]; exact Bool.false_ne_true)] at hq'
        exact iteNF (ws_ret (we_str hq'))
    refine ws_seq (ws_if (wt_not (wt_b (we_call (wa_cons (we_var (by rfl) (wa_nil ⟨_, _, rfl, true, rfl, iteNT (ws_next ?_)⟩)))))))
    refine ws_seq (ws_asgT (is := [3, 4]) (we_var (by rfl) (wg_tup rfl (wgs_cons (wg_name (wgs_cons (wg_name (wgs_nil ?_))))))))
    refine ws_seq (ws_if (wt_not (wt_b (we_meth (we_var (by rfl) ⟨_, rfl, lkno (by decide +kernel), (wa_cons (we_var (by rfl) (wa_nil ⟨C, side, its, says, n, rfl, cB, _, rfl, ?_⟩)))⟩)))))
    rw [hn]
    refine iteNT (ws_next (ws_seq (ws_if (wt_and ?_))))
    repeat (first | with_reducible refine wr_notN (optS_nv _) ?_ | (first | with_reducible refine we_op ?_ | with_reducible refine we_lst ?_ | with_reducible refine wa_cons ?_ | with_reducible refine wa_nil ?_ | with_reducible refine we_cb ?_ | with_reducible refine we_tup ?_ | with_reducible refine we_un ?_ | with_reducible refine we_int ?_ | with_reducible refine we_str ?_ | with_reducible refine we_bl ?_ | with_reducible refine we_non ?_ | with_reducible refine we_val ?_ | with_reducible refine we_chain ?_ | with_reducible refine we_andV ?_ | with_reducible refine we_orV ?_ | with_reducible refine we_notV ?_ | with_reducible refine we_if ?_ | with_reducible refine we_fld ?_ | with_reducible refine we_dget ?_ | with_reducible refine we_din ?_ | with_reducible refine we_dnotin ?_ | with_reducible refine wt_or ?_ | with_reducible refine wt_and ?_ | with_reducible refine wt_not ?_ | with_reducible refine wt_b ?_ | with_reducible refine wt_test ?_ | with_reducible refine ws_seq ?_ | with_reducible refine ws_ret ?_ | with_reducible refine ws_if ?_ | with_reducible refine ws_asg ?_ | with_reducible refine ws_next ?_ | with_reducible refine wp_i ?_ | with_reducible refine wr_ib ?_ | with_reducible refine we_eqS ?_ | with_reducible refine we_neS ?_ | with_reducible refine we_eqI ?_ | with_reducible refine we_neI ?_ | with_reducible refine wp_l (Nat.le_of_ble_eq_true rfl) ?_ | with_reducible refine ⟨_, rfl, ?_⟩ | with_reducible refine iteT ?_ | with_reducible refine iteF ?_ | with_reducible refine iteNT ?_ | with_reducible refine iteNF ?_ | with_reducible refine wr_notN (fun u z => nomatch z) ?_ | with_reducible refine wr_isN (fun u z => nomatch z) ?_ | refine (And.intro (a := _ ≤ _) (Nat.le_of_ble_eq_true rfl) ?_) | refine we_var (by rfl) ?_))
    cases p with
    | none => exact iteE0 rfl (iteF (ws_next (ws_seq key)))
    | some x =>
      obtain ⟨hx1, hx2⟩ := hd.2 x rfl
      have hxn : decide (x ∈ its.map (·.1)) = true := decide_eq_true (ho.perm.mem_iff.mp hx1)
      refine iteE rfl (wt_or (wt_test (we_op (we_var (by rfl) (we_var (by rfl) (we_eqS ⟨_, rfl, iteDN hx2 ?_⟩))))))
      refine wt_not (wt_b (we_meth (we_var (by rfl) ⟨_, rfl, lkno (by decide +kernel), (wa_cons (we_var (by rfl) (wa_nil ⟨C, side, its, says, x, rfl, cB, _, rfl, ?_⟩)))⟩)))
      rw [hxn]
      exact iteNT (ws_next (ws_seq key))
def pDone (C : Addr) : Res → List X3.D → (X3.D → Prop) → Prop := fun _ ds q => ∃ (side : Str) (its : List (Str × Int)) (says : List (Str × List Str)) (o : List Str) (d : Str × Option Str), ds = [bkD C side its says, strsD o, deedD d] ∧ OrdIn its says o ∧ DeedIn o d ∧ keptB side (movedL o d) says = true ∧ q (strsD (movedL o d))
theorem ok_done {f : Addr} {fd : FuncData} (F : Fun K "done" "done" sdone f fd) (T : Txt K mg tk) {f1 f2 : Addr} {d1 d2 : FuncData}
    (D1 : Prom P w K mg base "deed_word" f1 d1 ["book", "order", "deed"] 3 (spD K (pDWord C)))
    (D2 : Prom P w K mg base "moved" f2 d2 ["order", "deed"] 1 (spD K (pMoved))) : FnOk P w K mg base CX0 4 f fd ["book", "order", "deed"] (spD K (pDone C)) := by
  refine F.ok scdone (fun vs H Q E h => ?_) (fun cdv A outer s H vs Q E hr h => ?_)
  · obtain ⟨S, G, ds, q, _, r, ⟨side, its, says, o, d, rfl, ho, hd, hk, hq⟩, _⟩ := h
    exact r.length
  · obtain ⟨S, G, ds, q, w0, r, ⟨side, its, says, o, d, rfl, ho, hd, hk, hq⟩, k⟩ := h
    have hu := hu64 hr
    have hu1 := hu_of hr
    refine ⟨_, (pss_cons (ps_set (i := 3) scdone.nd rfl (Or.inl rfl) (pe_call D1.F (hr.mono (by decide)) (by rfl) D1.g D1.kp D1.b .nil pass0 (pa_cons (pv 0) (pa_cons (pv 1) (pa_cons (pv 2) pa_nil)))))
      (pss_cons (ps_if (pt_cmpR op_notN (pv 3) pe_non (nomark _)) pss_never pss_nil)
      (pss_one (ps_ret (pe_call D2.F (hr.mono (by decide)) (by rfl) D2.g D2.kp D2.b .nil pass0 (pa_cons (pv 1) (pa_cons (pv 2) pa_nil))))))), ?_⟩
    refine body_of w0 r k ?_

    refine ws_seq (ws_asg (we_call (wa_cons (we_var (by rfl) (wa_cons (we_var (by rfl) (wa_cons (we_var (by rfl) (wa_nil ⟨side, its, says, o, d, rfl, ho, hd, ?_⟩)))))))))
    rw [if_pos hk]
    refine ws_seq (ws_if ?_)
    repeat (first | (first | with_reducible refine we_op ?_ | with_reducible refine we_lst ?_ | with_reducible refine wa_cons ?_ | with_reducible refine wa_nil ?_ | with_reducible refine we_cb ?_ | with_reducible refine we_tup ?_ | with_reducible refine we_un ?_ | with_reducible refine we_int ?_ | with_reducible refine we_str ?_ | with_reducible refine we_bl ?_ | with_reducible refine we_non ?_ | with_reducible refine we_val ?_ | with_reducible refine we_chain ?_ | with_reducible refine we_andV ?_ | with_reducible refine we_orV ?_ | with_reducible refine we_notV ?_ | with_reducible refine we_if ?_ | with_reducible refine we_fld ?_ | with_reducible refine we_dget ?_ | with_reducible refine we_din ?_ | with_reducible refine we_dnotin ?_ | with_reducible refine wt_or ?_ | with_reducible refine wt_and ?_ | with_reducible refine wt_not ?_ | with_reducible refine wt_b ?_ | with_reducible refine wt_test ?_ | with_reducible refine ws_seq ?_ | with_reducible refine ws_ret ?_ | with_reducible refine ws_if ?_ | with_reducible refine ws_asg ?_ | with_reducible refine ws_next ?_ | with_reducible refine wp_i ?_ | with_reducible refine wr_ib ?_ | with_reducible refine we_eqS ?_ | with_reducible refine we_neS ?_ | with_reducible refine we_eqI ?_ | with_reducible refine we_neI ?_ | with_reducible refine wp_l (Nat.le_of_ble_eq_true rfl) ?_ | with_reducible refine ⟨_, rfl, ?_⟩ | with_reducible refine iteT ?_ | with_reducible refine iteF ?_ | with_reducible refine iteNT ?_ | with_reducible refine iteNF ?_ | with_reducible refine wr_notN (fun u z => nomatch z) ?_ | with_reducible refine wr_isN (fun u z => nomatch z) ?_ | refine (And.intro (a := _ ≤ _) (Nat.le_of_ble_eq_true rfl) ?_) | refine we_var (by rfl) ?_))
    exact iteNT (ws_next (ws_ret (we_call (wa_cons (we_var (by rfl) (wa_cons (we_var (by rfl) (wa_nil ⟨o, d, rfl, ho.len, hd.2, hq⟩))))))))
end
end Tk

set_option Elab.async false
set_option linter.all false
set_option maxRecDepth 100000
set_option maxHeartbeats 4000000
namespace Tk
open PySem L2 X3
/-- all deeds of one name -/
def ofName (side : Str) (says : List (Str × List Str)) (o : List Str) (n : Str) : List (Str × Option Str) := ((none :: (restL o n).map some).filter fun p => keptB side (movedL o (n, p)) says).map fun p => (n, p)
def allL (side : Str) (names : List Str) (says : List (Str × List Str)) (o : List Str) : List (Str × Option Str) := names.flatMap (ofName side says o)
theorem ofName_len {side : Str} {says : List (Str × List Str)} {o : List Str} {n : Str} : (ofName side says o n).length ≤ o.length + 1 := by
  unfold ofName
  rw [List.length_map]
  refine Nat.le_trans (List.length_filter_le _ _) ?_
  rw [List.length_cons, List.length_map]
  have := rest_len (o := o) (n := n)
  omega
theorem flat_len {α β : Type} {f : α → List β} {k : Nat} : ∀ {l : List α}, (∀ x ∈ l, (f x).length ≤ k) → (l.flatMap f).length ≤ l.length * k
  | [], _ => by simp
  | a :: l, h => by
    rw [List.flatMap_cons, List.length_append, List.length_cons, Nat.succ_mul]
    have h1 := h a (by simp)
    have h2 := flat_len (l := l) fun x hx => h x (by simp [hx])
    omega
theorem places_eq {xs : List Str} : ([X3.D.non] ++ xs.map X3.D.str : List X3.D) = (none :: xs.map some).map optS := by
  simp only [List.map_cons, List.map_map, List.singleton_append]
  rfl
section
variable {P : Program} {w : World} {K : PySem.W.Frag} {mg : Str → Option Value} {tk : Nat → Tok} {base : Heap}
def pAll (C : Addr) : Res → List X3.D → (List X3.D → Prop) → Prop := fun _ ds q => ∃ (side : Str) (its : List (Str × Int)) (says : List (Str × List Str)) (o : List Str), ds = [bkD C side its says, strsD o] ∧ OrdIn its says o ∧ its.length ≤ 100 ∧ q ((allL side (its.map (·.1)) says o).map deedD)
theorem ok_all_deeds {f : Addr} {fd : FuncData} (F : Fun K "all_deeds" "all_deeds" sall_deeds f fd) (T : Txt K mg tk) {C : Addr} (cB : ClsB K C) {f1 f2 f3 : Addr} {d1 d2 d3 : FuncData}
    (D1 : PromM P w K mg base C "names" f1 d1 ["self"] 1 (spD K (pNames (K := K))))
    (D2 : Prom P w K mg base "broken" f2 d2 ["book", "order"] 2 (spD K (pBroken C)))
    (D3 : Prom P w K mg base "moved" f3 d3 ["order", "deed"] 1 (spD K (pMoved))) : FnOk P w K mg base CX0 3 f fd ["book", "order"] (spF K (pAll C)) := by
  refine F.ok scall_deeds (fun vs H Q E h => ?_) (fun cdv A outer s H vs Q E hr h => ?_)
  · obtain ⟨S, G, ds, q, _, r, ⟨side, its, says, o, rfl, ho, hfew, hq⟩, _⟩ := h
    exact r.length
  · obtain ⟨S, G, ds, q, w0, r, ⟨side, its, says, o, rfl, ho, hfew, hq⟩, k⟩ := h
    have hu := hu64 hr
    have hu1 := hu_of hr
    refine ⟨_, (pss_cons (ps_set (i := 2) scall_deeds.nd rfl (Or.inl rfl) (pe_lst pa_nil))
      (pss_cons (ps_for PassesOwn.never rfl (pi_list (pe_meth0 (pv 0) cB.cl D1.hm D1.F (hr.mono (by decide)) D1.b .nil pass0)) (pg_name (i := 3) scall_deeds.nd rfl (Or.inr rfl)) (pss_cons (ps_set (i := 4) scall_deeds.nd rfl (Or.inl rfl) (pe_op op_plus (pe_lst (pa_cons pe_non pa_nil)) (pe_lc (own := [("other", 6)]) (g := gName 6)  rfl scall_deeds.nd (pi_tup (pv 1)) (blkOk_by (N := ["book", "order", "deeds", "name", "places", "place", "other"]) (sc := defScope sall_deeds) (by decide +kernel)) (fun _ _ _ _ _ => (pg_name (i := 6) scall_deeds.nd rfl (Or.inl rfl))) (fun _ _ _ _ _ => (pts_one (pt_cmpR op_ne (pv 6) (pv 3) (nomark _)))) (fun _ _ _ _ _ => (pv 6)))))
      (pss_one (ps_for PassesOwn.never rfl (pi_list (pv 4)) (pg_name (i := 5) scall_deeds.nd rfl (Or.inl rfl)) (pss_one (ps_if (pt_cmpR op_isN (pe_call D2.F (hr.mono (by decide)) (by rfl) D2.g D2.kp D2.b .nil pass0 (pa_cons (pv 0) (pa_cons (pe_call D3.F (hr.mono (by decide)) (by rfl) D3.g D3.kp D3.b .nil pass0 (pa_cons (pv 1) (pa_cons (pe_tup (pa_cons (pv 3) (pa_cons (pv 5) pa_nil))) pa_nil))) pa_nil))) pe_non (nomark _)) (pss_one (ps_expr (show PE _ _ (tBM K "list" rAppend _ _) from pe_bm PySem.F.plainAttrs_list PySem.F.slot_list_append PySem.F.type_list_append mt_append (pv 2) (pa_cons (pe_tup (pa_cons (pv 3) (pa_cons (pv 5) pa_nil))) pa_nil)))) pss_nil))))))
      (pss_one (ps_ret (pv 2))))), ?_⟩

    refine body_ofF w0 r k ?_
    have hol : o.length ≤ 100 := by rw [ho.perm.length_eq, List.length_map]; exact hfew
    refine ws_seq (ws_new ?_ (Nat.le_of_ble_eq_true rfl))
    refine ws_forT (is := [3]) (its.map (·.1)) .str (fun ys ρ' μ' => ∃ x3 x4 x5, ρ' = [.dat (bkD C side its says), .dat (strsD o), .own 0, x3, x4, x5, .no] ∧ μ' = [.lst ((ys.flatMap (ofName side says o)).map deedD)]) (wi_list (we_meth (we_var (by rfl) ⟨_, rfl, lkno (by decide +kernel), wa_nil ⟨C, side, its, says, rfl, cB, _, rfl, rfl, ⟨_, _, _, rfl, rfl⟩, ?_, ?_⟩⟩)))
    · rintro ys n zs ρ' μ' hs ⟨x3, x4, x5, rfl, rfl⟩
      have hn : n ∈ o := ho.perm.mem_iff.mpr (by rw [hs]; simp)
      have hlen : (ys.flatMap (ofName side says o)).length ≤ 100 * 101 := by
        refine Nat.le_trans (flat_len (k := 101) fun x _ => Nat.le_trans ofName_len (by omega)) ?_
        have : ys.length ≤ its.length := by
          have := congrArg List.length hs
          simp at this
          omega
        exact Nat.mul_le_mul_right _ (by omega)
      refine wg_name (ws_seq (ws_asg (we_op (we_lst (wa_cons (we_non (wa_nil ⟨Nat.le_of_ble_eq_true rfl, ?_⟩)))))))
      refine we_map (is := [6]) o .str .str (fun x => !decide (x = n)) (fun i hi => by simpa using hi) (wi_tup (we_var (by rfl) ⟨_, rfl, rfl, Nat.le_trans hol (by decide), fun x hx => wg_name ?_, ?_⟩))
      · exact wt_test (we_op (we_var (by rfl) (we_var (by rfl) (wr_neS ⟨_, rfl, rfl, fun _ => we_var (by rfl) rfl⟩))))
      have hrl : (restL o n).length ≤ 100 := Nat.le_trans rest_len hol
      refine wp_l (by show 1 + ((restL o n).map X3.D.str).length ≤ 100000; rw [List.length_map]; omega) ?_
      show WS K S _ ([.dat (bkD C side its says), .dat (strsD o), .own 0, .dat (.str n), .dat (.list ([X3.D.non] ++ (restL o n).map X3.D.str)), x5, .no] : Rho) [.lst ((ys.flatMap (ofName side says o)).map deedD)] _
      rw [places_eq]
      refine ws_forT (is := [5]) (none :: (restL o n).map some) optS (fun vs ρ' μ' => ∃ x5, ρ' = [.dat (bkD C side its says), .dat (strsD o), .own 0, .dat (.str n), .dat (.list ((none :: (restL o n).map some).map optS)), x5, .no] ∧ μ' = [.lst ((ys.flatMap (ofName side says o)).map deedD ++ ((vs.filter fun p => keptB side (movedL o (n, p)) says).map fun p => (n, p)).map deedD)]) (wi_list (we_var (by rfl) ⟨_, rfl, rfl, ⟨_, rfl, by simp⟩, ?_, ?_⟩))
      · rintro us p vs ρ' μ' hp ⟨x5', rfl, rfl⟩
        have hd : DeedIn o (n, p) := ⟨hn, fun x hx => by
          have hx' : p = some x := hx
          subst hx'
          have hm : some x ∈ none :: (restL o n).map some := by rw [hp]; simp
          have hm2 : some x ∈ (restL o n).map some := by simpa using hm
          obtain ⟨z, hz, e⟩ := List.mem_map.mp hm2
          cases e
          exact mem_rest.mp hz⟩
        have ho2 := ho.moved (d := (n, p)) hn
        have hul : us.length ≤ 101 := by
          have := congrArg List.length hp
          simp at this
          omega
        refine wg_name (ws_if (wt_test (we_op (we_call (wa_cons (we_var (by rfl) (wa_cons (we_call (wa_cons (we_var (by rfl) (wa_cons (we_tup (wa_cons (we_var (by rfl) (wa_cons (we_var (by rfl) (wa_nil ⟨Nat.le_of_ble_eq_true rfl, ?_⟩)))))))))))))))))
        refine wa_nil ⟨o, (n, p), rfl, ho.len, hd.2, wa_nil ⟨side, its, says, _, rfl, ho2.nd, ho2.len, ho2.says, we_non (wr_isN (optN_nv _) ⟨_, rfl, ?_⟩)⟩⟩
        rw [optN_isN]
        show if keptB side (movedL o (n, p)) says = true then _ else _
        cases e : keptB side (movedL o (n, p)) says with
        | true =>
          rw [if_pos rfl]
          refine ws_append (j := 0) (by rfl) (by rfl) ?_ (we_tup (wa_cons (we_var (by rfl) (wa_cons (we_var (by rfl) (wa_nil ⟨Nat.le_of_ble_eq_true rfl, ?_⟩))))))
          · rw [List.length_append, List.length_map, List.length_map, List.length_map]
            have := List.length_filter_le (fun p => keptB side (movedL o (n, p)) says) us
            omega
          · exact ⟨_, rfl, by simp [e, deedD]⟩
        | false =>
          rw [if_neg Bool.false_ne_true]
          exact ws_next ⟨_, rfl, by simp [e]⟩
      · rintro ρ' μ' ⟨x5', rfl, rfl⟩
        exact ⟨_, _, _, rfl, by rw [List.flatMap_append]; simp [ofName]⟩
    · rintro ρ' μ' ⟨x3, x4, x5, rfl, rfl⟩
      exact ⟨0, _, rfl, rfl, hq⟩
end
end Tk

set_option Elab.async false
set_option linter.all false
set_option maxRecDepth 100000
set_option maxHeartbeats 4000000
namespace Tk
open PySem L2 X3
abbrev slaw_names : Stmt := topS 38
theorem sclaw_names : FnScope ["source", "many", "shift", "names", "tails", "k", "letter"] ["source", "many"] (defScope slaw_names) := ⟨rfl, rfl, rfl, by decide +kernel, rfl, by decide +kernel, by decide +kernel⟩
abbrev slaw_item_names : Stmt := topS 39
theorem sclaw_item_names : FnScope ["source", "many", "way", "some", "word", "k"] ["source", "many"] (defScope slaw_item_names) := ⟨rfl, rfl, rfl, by decide +kernel, rfl, by decide +kernel, by decide +kernel⟩

/-! ### drawn names -/
def dg (m : Nat) : Str := cutS (Str.ofString (toString ((100 : Int) + (m : Nat)))) (some 1) none
theorem dg_all : ∀ m < 100, (dg m).cps.toList.length = 2 ∧ (∀ c ∈ (dg m).cps.toList, digit c) ∧ (dg m).cps.toList = [48 + m / 10, 48 + m % 10] := by decide +kernel
theorem dg_inj {m n : Nat} (hm : m < 100) (hn : n < 100) (h : dg m = dg n) : m = n := by
  have h1 := (dg_all m hm).2.2
  have h2 := (dg_all n hn).2.2
  rw [h, h2] at h1
  simp at h1
  omega
structure NamesOk (ns : List Str) : Prop where
  nd : ns.Nodup
  ok : ∀ n ∈ ns, WordOk n
def tailsS : List Str := ["", "", "", "k", "kkkkkkkkk"]
theorem tails_ok : ∀ t ∈ tailsS, t.cps.toList.length ≤ 9 ∧ ∀ c ∈ t.cps.toList, letter c := by
  intro t ht
  simp only [tailsS, List.mem_cons, List.not_mem_nil, or_false] at ht
  rcases ht with rfl | rfl | rfl | rfl | rfl <;> exact ⟨by decide +kernel, by decide +kernel⟩
def NameAt (sh : Int) (j : Nat) (n : Str) : Prop := ∃ (ch : Nat) (t : Str), letter ch ∧ t ∈ tailsS ∧ n.cps.toList = ch :: ((dg ((sh + 37 * (j : Nat)) % 100).toNat).cps.toList ++ t.cps.toList)
theorem NameAt.word {sh : Int} {j : Nat} {n : Str} (h : NameAt sh j n) : WordOk n := by
  obtain ⟨ch, t, hc, ht, e⟩ := h
  have hm : ((sh + 37 * (j : Nat)) % 100).toNat < 100 := by omega
  obtain ⟨d1, d2, _⟩ := dg_all _ hm
  obtain ⟨t1, t2⟩ := tails_ok t ht
  have hl : n.length = 3 + t.cps.toList.length := by
    rw [cps_len, e, List.length_cons, List.length_append, d1]
    omega
  refine ⟨by omega, by omega, ⟨ch, by rw [e]; rfl, hc⟩, fun c hcm => ?_⟩
  rw [e] at hcm
  rcases List.mem_cons.mp hcm with rfl | hcm
  · exact .inl hc
  · rcases List.mem_append.mp hcm with z | z
    · exact .inr (d2 c z)
    · exact .inl (t2 c z)
theorem NameAt.inj {sh : Int} {i j : Nat} {n : Str} (hi : i < 100) (hj : j < 100) (h1 : NameAt sh i n) (h2 : NameAt sh j n) : i = j := by
  obtain ⟨ch, t, hc, ht, e⟩ := h1
  obtain ⟨ch', t', hc', ht', e'⟩ := h2
  have hm : ((sh + 37 * (i : Nat)) % 100).toNat < 100 := by omega
  have hm' : ((sh + 37 * (j : Nat)) % 100).toNat < 100 := by omega
  rw [e] at e'
  injection e' with _ e2
  have l1 := (dg_all _ hm).1
  have l2 := (dg_all _ hm').1
  have e3 := List.append_inj_left e2 (by rw [l1, l2])
  have := dg_inj hm hm' (str_ext e3)
  omega
theorem names_of {sh : Int} {ns : List Str} (hl : ns.length ≤ 100) (h : ∀ j n, ns[j]? = some n → NameAt sh j n) : NamesOk ns := by
  refine ⟨List.pairwise_iff_getElem.mpr fun i j hi hj hij e => ?_, fun n hn => ?_⟩
  · have h1 := h i _ (List.getElem?_eq_getElem hi)
    have h2 := h j _ (List.getElem?_eq_getElem hj)
    rw [e] at h1
    have := h1.inj (by omega) (by omega) h2
    omega
  · obtain ⟨j, hj, rfl⟩ := List.mem_iff_getElem.mp hn
    exact (h j _ (List.getElem?_eq_getElem hj)).word
theorem atLetter {i : Int} (h0 : 0 ≤ i) (h1 : i < 26) : ∃ ch, atI ("abcdefghijklmnopqrstuvwxyz" : Str).cps.toList i = some ch ∧ letter ch := by
  have hl : ("abcdefghijklmnopqrstuvwxyz" : Str).cps.toList.length = 26 := by decide +kernel
  have hlt : i.toNat < ("abcdefghijklmnopqrstuvwxyz" : Str).cps.toList.length := by omega
  have e : ((i.toNat : Nat) : Int) = i := by omega
  refine ⟨("abcdefghijklmnopqrstuvwxyz" : Str).cps.toList[i.toNat], ?_, List.getElem_mem hlt⟩
  have := atI_nat (List.getElem?_eq_getElem hlt)
  rw [e] at this
  exact this
theorem str_len100 : ∀ m < 100, (Str.ofString (toString ((100 : Int) + (m : Nat)))).length ≤ 100000 := by decide +kernel
theorem perm_map_inv {α β : Type} {f : α → β} {ws ys : List β} (p : ws.Perm ys) : ∀ {l : List α}, ws = l.map f → ∃ zs : List α, zs.Perm l ∧ ys = zs.map f := by
  induction p with
  | nil => exact fun {l} h => ⟨l, .refl _, h⟩
  | cons x _ ih =>
    intro l h
    cases l with
    | nil => cases h
    | cons a l =>
      injection h with h1 h2
      obtain ⟨zs, hp, hz⟩ := ih h2
      exact ⟨a :: zs, .cons _ hp, by rw [List.map_cons, hz, h1]⟩
  | swap x y l' =>
    intro l h
    match l, h with
    | a :: b :: l, h =>
      injection h with h1 h2
      injection h2 with h2 h3
      exact ⟨b :: a :: l, .swap _ _ _, by rw [List.map_cons, List.map_cons, h1, h2, h3]⟩
  | trans _ _ ih1 ih2 =>
    intro l h
    obtain ⟨zs, hp, hz⟩ := ih1 h
    obtain ⟨us, hp2, hu⟩ := ih2 hz
    exact ⟨us, hp2.trans hp, hu⟩
/-- what a mixing gives of things of one kind -/
theorem mixed_map {α : Type} {f : α → X3.D} {ys : List X3.D} {l : List α} (p : ys.Perm (l.map f)) : ∃ zs : List α, zs.Perm l ∧ ys = zs.map f := perm_map_inv p.symm rfl
def wordB (x : Str) : Bool := decide (1 ≤ x.length) && decide (x.length ≤ 12) && (match x.cps.toList with
  | [] => false
  | c :: _ => decide (letter c)) && x.cps.toList.all fun c => decide (letter c) || decide (digit c)
theorem wordB_ok {x : Str} (h : wordB x = true) : WordOk x := by
  unfold wordB at h
  simp only [Bool.and_eq_true, decide_eq_true_eq] at h
  obtain ⟨⟨⟨h1, h2⟩, h3⟩, h4⟩ := h
  refine ⟨h1, h2, ?_, fun c hc => ?_⟩
  · cases e : x.cps.toList with
    | nil =>
      rw [e] at h3
      cases h3
    | cons c l =>
      rw [e] at h3
      exact ⟨c, rfl, of_decide_eq_true h3⟩
  · have := List.all_eq_true.mp h4 c hc
    simpa using this
def words16 : List Str := ["a", "aa", "aaa", "b", "ab", "ba", "to", "day", "today", "first", "aab", "bb", "behind", "toto", "x", "xa"]
theorem words16_ok : words16.all wordB = true := by decide +kernel
theorem words16_nd : words16.Nodup := by decide +kernel
theorem names_take {l zs : List Str} (n : Nat) (hp : zs.Perm l) (nd : l.Nodup) (ok : ∀ x ∈ l, WordOk x) : NamesOk (zs.take n) :=
  ⟨(hp.nodup_iff.mpr nd).sublist (List.take_sublist _ _), fun x hx => ok x (hp.mem_iff.mp ((List.take_sublist _ _).mem hx))⟩
def tx (i : Nat) : Str := Str.ofString (toString ((1 : Int) + (i : Nat)))
theorem tx_all : ∀ i < 99, (tx i).cps.toList = (if i + 1 < 10 then [48 + (i + 1)] else [48 + (i + 1) / 10, 48 + (i + 1) % 10]) ∧ ∀ c ∈ (tx i).cps.toList, digit c := by decide +kernel
theorem tx_inj {i j : Nat} (hi : i < 99) (hj : j < 99) (h : tx i = tx j) : i = j := by
  have h1 := (tx_all i hi).1
  have h2 := (tx_all j hj).1
  rw [h, h2] at h1
  split at h1 <;> split at h1 <;> simp at h1 <;> omega
theorem tx_len {i : Nat} (hi : i < 99) : (tx i).cps.toList.length ≤ 2 := by
  rw [(tx_all i hi).1]
  split <;> simp
def stp (p : Nat) : Str := cutS "stepstep" none (some ((1 : Int) + (p : Nat)))
theorem stp_all : ∀ p < 8, 1 ≤ (stp p).cps.toList.length ∧ (stp p).cps.toList.length ≤ 8 ∧ (∀ c ∈ (stp p).cps.toList, letter c) ∧ (stp p).cps.toList.head? = some 115 := by decide +kernel
theorem stp_word {p i : Nat} (hp : p < 8) (hi : i < 99) : WordOk (stp p ++ tx i) := by
  obtain ⟨s1, s2, s3, s4⟩ := stp_all p hp
  have t1 := tx_len hi
  have t2 := (tx_all i hi).2
  have hl : (stp p ++ tx i).length = (stp p).cps.toList.length + (tx i).cps.toList.length := by rw [cps_len, cps_app, List.length_append]
  refine ⟨by omega, by omega, ⟨115, ?_, by decide +kernel⟩, fun c hc => ?_⟩
  · rw [cps_app, List.getElem?_append_left (by omega), ← List.head?_eq_getElem?]
    exact s4
  · rw [cps_app] at hc
    rcases List.mem_append.mp hc with z | z
    · exact .inl (s3 c z)
    · exact .inr (t2 c z)
theorem stp_inj {p i j : Nat} (hi : i < 99) (hj : j < 99) (h : stp p ++ tx i = stp p ++ tx j) : i = j := by
  have h1 : (stp p ++ tx i).cps.toList = (stp p ++ tx j).cps.toList := by rw [h]
  rw [cps_app, cps_app] at h1
  exact tx_inj hi hj (str_ext (List.append_cancel_left h1))
section
variable {P : Program} {w : World} {K : PySem.W.Frag} {mg : Str → Option Value} {tk : Nat → Tok} {base : Heap}
def pNames0 : Res → List X3.D → (X3.D → Prop) → Prop := fun S ds q => ∃ (s c : Addr) (many : Nat), S = srcR s c ∧ ds = [.val (.ref s), .int (many : Nat)] ∧ many ≤ 100 ∧ ∀ ns : List Str, ns.length = many → NamesOk ns → q (.list (ns.map .str))
theorem ok_law_names {f : Addr} {fd : FuncData} (F : Fun K "_law_names" "_law_names" slaw_names f fd) (T : Txt K mg tk) {f1 : Addr} {d1 : FuncData}
    (D1 : Prom P w K mg base "_law_pick" f1 d1 ["source", "many"] 1 (spD K (pPick))) : FnOk P w K mg base CX0 2 f fd ["source", "many"] (spD K (pNames0)) := by
  refine F.ok sclaw_names (fun vs H Q E h => ?_) (fun cdv A outer s H vs Q E hr h => ?_)
  · obtain ⟨S, G, ds, q, _, r, ⟨s, c, many, rfl, rfl, hm, hq⟩, _⟩ := h
    exact r.length
  · obtain ⟨S, G, ds, q, w0, r, ⟨s, c, many, rfl, rfl, hm, hq⟩, k⟩ := h
    have hu := hu64 hr
    have hu1 := hu_of hr
    refine ⟨_, (pss_cons (ps_par3 rfl sclaw_names.nd (i := 2) (j := 3) (l := 4) rfl rfl rfl (by decide) (by decide) (by decide) rfl rfl rfl (pa_cons (pe_call D1.F (hr.mono (by decide)) (by rfl) D1.g D1.kp D1.b .nil pass0 (pa_cons (pv 0) (pa_cons pe_int pa_nil))) (pa_cons (pe_lst pa_nil) (pa_cons (pe_lst (pa_cons pe_str (pa_cons pe_str (pa_cons pe_str (pa_cons pe_str (pa_cons pe_str pa_nil)))))) pa_nil))) rfl)
      (pss_cons (ps_for PassesOwn.never rfl (pi_range1 (by rfl) T.nrange (pa_cons (pv 1) pa_nil)) (pg_name (i := 5) sclaw_names.nd rfl (Or.inl rfl)) (pss_cons (ps_set (i := 6) sclaw_names.nd rfl (Or.inl rfl) (pe_ix (r := rIx K) ix_seq pe_str (pe_call D1.F (hr.mono (by decide)) (by rfl) D1.g D1.kp D1.b .nil pass0 (pa_cons (pv 0) (pa_cons pe_int pa_nil))) (fun _ _ => rfl)))
      (pss_one (ps_expr (show PE _ _ (tBM K "list" rAppend _ _) from pe_bm PySem.F.plainAttrs_list PySem.F.slot_list_append PySem.F.type_list_append mt_append (pv 3) (pa_cons (pe_op op_plus (pe_op op_plus (pv 6) (pe_slice (r := rSlS) sl_str (pe_callTy (r := rStrI) call_strI (by rfl) T.nstr PyProof.Rows.boot_str (pa_cons (pe_op op_plus pe_int (pe_op op_mod (pe_callTy call_int1 (by rfl) T.nint PyProof.Rows.boot_int (pa_cons (pe_op op_plus (pv 2) (pe_op op_times pe_int (pv 5))) pa_nil)) pe_int)) pa_nil)) (po_some pe_int) po_none)) (pe_ix (r := rIx K) ix_seq (pv 4) (pe_call D1.F (hr.mono (by decide)) (by rfl) D1.g D1.kp D1.b .nil pass0 (pa_cons (pv 0) (pa_cons pe_int pa_nil))) (fun _ _ => rfl))) pa_nil))))))
      (pss_one (ps_ret (pv 3))))), ?_⟩
    refine body_of w0 r k ?_

    refine ws_seq (ws_par3N (by decide) (Nat.le_of_ble_eq_true rfl) ?_)
    refine we_call (wa_cons (we_var (by rfl) (wa_cons (we_int (wa_nil ⟨s, c, 100, rfl, rfl, by decide, by decide, fun sh sh0 sh1 => ?_⟩)))))
    repeat (first | (first | with_reducible refine we_op ?_ | with_reducible refine we_lst ?_ | with_reducible refine wa_cons ?_ | with_reducible refine wa_nil ?_ | with_reducible refine we_cb ?_ | with_reducible refine we_tup ?_ | with_reducible refine we_un ?_ | with_reducible refine we_int ?_ | with_reducible refine we_str ?_ | with_reducible refine we_bl ?_ | with_reducible refine we_non ?_ | with_reducible refine we_val ?_ | with_reducible refine we_chain ?_ | with_reducible refine we_andV ?_ | with_reducible refine we_orV ?_ | with_reducible refine we_notV ?_ | with_reducible refine we_if ?_ | with_reducible refine we_fld ?_ | with_reducible refine we_dget ?_ | with_reducible refine we_din ?_ | with_reducible refine we_dnotin ?_ | with_reducible refine wt_or ?_ | with_reducible refine wt_and ?_ | with_reducible refine wt_not ?_ | with_reducible refine wt_b ?_ | with_reducible refine wt_test ?_ | with_reducible refine wp_i ?_ | with_reducible refine wr_ib ?_ | with_reducible refine we_eqS ?_ | with_reducible refine we_neS ?_ | with_reducible refine we_eqI ?_ | with_reducible refine we_neI ?_ | with_reducible refine wp_l (Nat.le_of_ble_eq_true rfl) ?_ | with_reducible refine ⟨_, rfl, ?_⟩ | with_reducible refine iteT ?_ | with_reducible refine iteF ?_ | with_reducible refine iteNT ?_ | with_reducible refine iteNF ?_ | with_reducible refine wr_notN (fun u z => nomatch z) ?_ | with_reducible refine wr_isN (fun u z => nomatch z) ?_ | refine (And.intro (a := _ ≤ _) (Nat.le_of_ble_eq_true rfl) ?_) | refine we_var (by rfl) ?_))
    refine ws_seq (ws_rng (is := [5]) many (fun i ρ' μ' => ∃ x5 x6, ∃ ns : List Str, ρ' = [.dat (.val (.ref s)), .dat (.int (many : Nat)), .dat (.int sh), .own 0, .dat (.list (tailsS.map .str)), x5, x6] ∧ μ' = [.lst (ns.map .str)] ∧ ns.length = i ∧ ∀ j n, ns[j]? = some n → NameAt sh j n) (wi_rng1 (wa_cons (we_var (by rfl) (wa_nil ⟨many, rfl, by omega, by omega, rfl, ⟨_, _, [], rfl, rfl, rfl, fun j n h => by simp at h⟩, ?_, ?_⟩)))))
    · rintro i ρ' μ' hi ⟨x5, x6, ns, rfl, rfl, hlen, hns⟩
      refine wg_name <| ws_seq <| ws_asg <| we_op <| we_str <| we_call <| wa_cons <| we_var (by rfl) <| wa_cons <| we_int <| wa_nil ⟨s, c, 26, rfl, rfl, by decide, by decide, fun li l0 l1 => ?_⟩
      obtain ⟨ch, hat, hch⟩ := atLetter l0 l1
      refine wr_ixS (by decide +kernel) hat ?_
      refine ws_append (j := 0) (by rfl) (by rfl) (by rw [List.length_map]; omega) ?_
      have hm0 : ((sh + 37 * (i : Nat)) % 100).toNat < 100 := by omega
      have hme : (((sh + 37 * (i : Nat)) % 100).toNat : Int) = (sh + 37 * (i : Nat)) % 100 := by omega
      obtain ⟨d1, d2, _⟩ := dg_all _ hm0
      have hdl : (dg ((sh + 37 * (i : Nat)) % 100).toNat).length = 2 := by rw [cps_len]; exact d1
      refine we_op (we_op (we_var (by rfl) (we_slS ?_)))
      refine we_cb <| wa_cons <| we_op <| we_int <| we_op <| we_cb <| wa_cons <| we_op <| we_var (by rfl) <| we_op <| we_int <| we_var (by rfl) <| wr_or1 <| wr_ci (.inl ⟨by decide, by decide⟩) <| wp_i <| wa_nil <| wc_int <| we_int <| wr_ci (by show (0 : Int) < 100; decide) <| wp_i <| wa_nil <| wc_strI (log_small (by omega) (by omega)) ?_
      rw [← hme]
      refine wo_some (we_int ⟨_, rfl, wo_none ⟨_, rfl, str_len100 _ hm0, wp_s ?_ ?_⟩⟩)
      · show (1 : Nat) + (dg _).length ≤ 100000
        omega
      refine we_op <| we_var (by rfl) <| we_call <| wa_cons <| we_var (by rfl) <| wa_cons <| we_int <| wa_nil ⟨s, c, 5, rfl, rfl, by decide, by decide, fun ti t0 t1 => wr_ixAny (ds := tailsS.map .str) t0 t1 fun td htd => ?_⟩
      obtain ⟨t, ht, rfl⟩ := List.mem_map.mp htd
      obtain ⟨t1, t2⟩ := tails_ok t ht
      refine wp_s ?_ ?_
      · rw [cps_len, cps_app, List.length_append, cps_len t]
        show (1 : Nat) + (dg ((sh + 37 * (i : Nat)) % 100).toNat).cps.toList.length + t.cps.toList.length ≤ 100000
        omega
      refine ⟨_, _, ns ++ [(⟨#[ch]⟩ ++ dg ((sh + 37 * (i : Nat)) % 100).toNat) ++ t], rfl, by simp [dg], by simp [hlen], fun j n hj => ?_⟩
      by_cases hlt : j < ns.length
      · rw [List.getElem?_append_left hlt] at hj
        exact hns j n hj
      · rw [List.getElem?_append_right (by omega)] at hj
        have hj0 : j - ns.length = 0 := by
          by_cases z : j - ns.length = 0
          · exact z
          · rw [List.getElem?_eq_none (by simp; omega)] at hj
            cases hj
        rw [hj0] at hj
        have hn : _ = n := Option.some.inj hj
        have hji : j = i := by omega
        subst hn hji
        exact ⟨ch, t, hch, ht, by rw [cps_app, cps_app]; rfl⟩
    · rintro ρ' μ' ⟨x5, x6, ns, rfl, rfl, hlen, hns⟩
      refine ws_ret ?_
      refine we_var (by rfl) ?_
      exact hq ns hlen (names_of (by omega) hns)
def pItemNames : Res → List X3.D → (X3.D → Prop) → Prop := fun S ds q => ∃ (s c : Addr) (many : Nat), S = srcR s c ∧ ds = [.val (.ref s), .int (many : Nat)] ∧ many ≤ 60 ∧ ∀ ns : List Str, ns.length = many → NamesOk ns → q (.list (ns.map .str))
theorem ok_law_item_names {f : Addr} {fd : FuncData} (F : Fun K "_law_item_names" "_law_item_names" slaw_item_names f fd) (T : Txt K mg tk) {f1 f2 f3 : Addr} {d1 d2 d3 : FuncData}
    (D1 : Prom P w K mg base "_law_pick" f1 d1 ["source", "many"] 1 (spD K (pPick)))
    (D2 : Prom P w K mg base "_law_mixed" f2 d2 ["source", "things"] 2 (spD K (pMixed)))
    (D3 : Prom P w K mg base "_law_names" f3 d3 ["source", "many"] 2 (spD K (pNames0))) : FnOk P w K mg base CX0 3 f fd ["source", "many"] (spD K (pItemNames)) := by
  refine F.ok sclaw_item_names (fun vs H Q E h => ?_) (fun cdv A outer s H vs Q E hr h => ?_)
  · obtain ⟨S, G, ds, q, _, r, ⟨s, c, many, rfl, rfl, hm, hq⟩, _⟩ := h
    exact r.length
  · obtain ⟨S, G, ds, q, w0, r, ⟨s, c, many, rfl, rfl, hm, hq⟩, k⟩ := h
    have hu := hu64 hr
    have hu1 := hu_of hr
    refine ⟨_, (pss_cons (ps_set (i := 2) sclaw_item_names.nd rfl (Or.inl rfl) (pe_call D1.F (hr.mono (by decide)) (by rfl) D1.g D1.kp D1.b .nil pass0 (pa_cons (pv 0) (pa_cons pe_int pa_nil))))
      (pss_cons (ps_set (i := 3) sclaw_item_names.nd rfl (Or.inl rfl) (pe_lst (pa_cons pe_str (pa_cons pe_str (pa_cons pe_str (pa_cons pe_str (pa_cons pe_str (pa_cons pe_str (pa_cons pe_str (pa_cons pe_str (pa_cons pe_str (pa_cons pe_str (pa_cons pe_str (pa_cons pe_str (pa_cons pe_str (pa_cons pe_str (pa_cons pe_str (pa_cons pe_str pa_nil))))))))))))))))))
      (pss_cons (ps_if (PW.pt (pw_and (pt_cmpR (r := rEqA K) (op_eqA hu) (pv 2) pe_int (nomark _)) (pw_and1 (pt_cmpR op_lt (pv 1) pe_int (nomark _))))) (pss_one (ps_ret (pe_slice (r := rSlL K) sl_list (pe_call D2.F (hr.mono (by decide)) (by rfl) D2.g D2.kp D2.b .nil pass0 (pa_cons (pv 0) (pa_cons (pv 3) pa_nil))) po_none (po_some (pv 1))))) pss_nil)
      (pss_cons (ps_if (pt_cmpR (r := rEqA K) (op_eqA hu) (pv 2) pe_int (nomark _)) (pss_cons (ps_set (i := 4) sclaw_item_names.nd rfl (Or.inr rfl) (pe_slice (r := rSlS) sl_str pe_str po_none (po_some (pe_op op_plus pe_int (pe_call D1.F (hr.mono (by decide)) (by rfl) D1.g D1.kp D1.b .nil pass0 (pa_cons (pv 0) (pa_cons pe_int pa_nil)))))))
      (pss_one (ps_ret (pe_lc (own := [("k", 5)]) (g := gName 5)  (tt := tYes) rfl sclaw_item_names.nd (pi_list (pe_slice (r := rSlL K) sl_list (pe_call D2.F (hr.mono (by decide)) (by rfl) D2.g D2.kp D2.b .nil pass0 (pa_cons (pv 0) (pa_cons (pe_listRg rfl (by rfl) T.nlist (prg_2 (by rfl) T.nrange pe_int (pe_op op_plus (pe_op op_plus pe_int (pv 1)) (pe_call D1.F (hr.mono (by decide)) (by rfl) D1.g D1.kp D1.b .nil pass0 (pa_cons (pv 0) (pa_cons pe_int pa_nil)))))) pa_nil))) po_none (po_some (pv 1)))) (blkOk_by (N := ["source", "many", "way", "some", "word", "k"]) (sc := defScope slaw_item_names) (by decide +kernel)) (fun _ _ _ _ _ => (pg_name (i := 5) sclaw_item_names.nd rfl (Or.inl rfl))) (fun _ _ _ _ _ => pts_nil) (fun _ _ _ _ _ => (pe_op op_plus (pv 4) (pe_callB (r := rStrI) call_reprI (by rfl) T.nrepr PyProof.Rows.boot_repr (pa_cons (pv 5) pa_nil)))))))) pss_nil)
      (pss_one (ps_ret (pe_call D3.F (hr.mono (by decide)) (by rfl) D3.g D3.kp D3.b .nil pass0 (pa_cons (pv 0) (pa_cons (pv 1) pa_nil))))))))), ?_⟩
    refine body_of w0 r k ?_

    refine ws_seq <| ws_asg <| we_call <| wa_cons <| we_var (by rfl) <| wa_cons <| we_int <| wa_nil ⟨s, c, 3, rfl, rfl, by decide, by decide, fun way w0 w1 => ?_⟩
    refine ws_seq (ws_asg ?_)
    repeat (first | (first | with_reducible refine we_op ?_ | with_reducible refine we_lst ?_ | with_reducible refine wa_cons ?_ | with_reducible refine wa_nil ?_ | with_reducible refine we_cb ?_ | with_reducible refine we_tup ?_ | with_reducible refine we_un ?_ | with_reducible refine we_int ?_ | with_reducible refine we_str ?_ | with_reducible refine we_bl ?_ | with_reducible refine we_non ?_ | with_reducible refine we_val ?_ | with_reducible refine we_chain ?_ | with_reducible refine we_andV ?_ | with_reducible refine we_orV ?_ | with_reducible refine we_notV ?_ | with_reducible refine we_if ?_ | with_reducible refine we_fld ?_ | with_reducible refine we_dget ?_ | with_reducible refine we_din ?_ | with_reducible refine we_dnotin ?_ | with_reducible refine wt_or ?_ | with_reducible refine wt_and ?_ | with_reducible refine wt_not ?_ | with_reducible refine wt_b ?_ | with_reducible refine wt_test ?_ | with_reducible refine wp_i ?_ | with_reducible refine wr_ib ?_ | with_reducible refine we_eqS ?_ | with_reducible refine we_neS ?_ | with_reducible refine we_eqI ?_ | with_reducible refine we_neI ?_ | with_reducible refine wp_l (Nat.le_of_ble_eq_true rfl) ?_ | with_reducible refine ⟨_, rfl, ?_⟩ | with_reducible refine iteT ?_ | with_reducible refine iteF ?_ | with_reducible refine iteNT ?_ | with_reducible refine iteNF ?_ | with_reducible refine wr_notN (fun u z => nomatch z) ?_ | with_reducible refine wr_isN (fun u z => nomatch z) ?_ | refine (And.intro (a := _ ≤ _) (Nat.le_of_ble_eq_true rfl) ?_) | refine we_var (by rfl) ?_))
    refine ws_seq (ws_ifR (wt_and ?_) ?_)
    · repeat (first | (first | with_reducible refine we_op ?_ | with_reducible refine we_lst ?_ | with_reducible refine wa_cons ?_ | with_reducible refine wa_nil ?_ | with_reducible refine we_cb ?_ | with_reducible refine we_tup ?_ | with_reducible refine we_un ?_ | with_reducible refine we_int ?_ | with_reducible refine we_str ?_ | with_reducible refine we_bl ?_ | with_reducible refine we_non ?_ | with_reducible refine we_val ?_ | with_reducible refine we_chain ?_ | with_reducible refine we_andV ?_ | with_reducible refine we_orV ?_ | with_reducible refine we_notV ?_ | with_reducible refine we_if ?_ | with_reducible refine we_fld ?_ | with_reducible refine we_dget ?_ | with_reducible refine we_din ?_ | with_reducible refine we_dnotin ?_ | with_reducible refine wt_or ?_ | with_reducible refine wt_and ?_ | with_reducible refine wt_not ?_ | with_reducible refine wt_b ?_ | with_reducible refine wt_test ?_ | with_reducible refine wp_i ?_ | with_reducible refine wr_ib ?_ | with_reducible refine we_eqS ?_ | with_reducible refine we_neS ?_ | with_reducible refine we_eqI ?_ | with_reducible refine we_neI ?_ | with_reducible refine wp_l (Nat.le_of_ble_eq_true rfl) ?_ | with_reducible refine ⟨_, rfl, ?_⟩ | with_reducible refine iteT ?_ | with_reducible refine iteF ?_ | with_reducible refine iteNT ?_ | with_reducible refine iteNF ?_ | with_reducible refine wr_notN (fun u z => nomatch z) ?_ | with_reducible refine wr_isN (fun u z => nomatch z) ?_ | refine (And.intro (a := _ ≤ _) (Nat.le_of_ble_eq_true rfl) ?_) | refine we_var (by rfl) ?_))
      by_cases hw : way = 0
      · refine iteD hw ?_
        repeat (first | (first | with_reducible refine we_op ?_ | with_reducible refine we_lst ?_ | with_reducible refine wa_cons ?_ | with_reducible refine wa_nil ?_ | with_reducible refine we_cb ?_ | with_reducible refine we_tup ?_ | with_reducible refine we_un ?_ | with_reducible refine we_int ?_ | with_reducible refine we_str ?_ | with_reducible refine we_bl ?_ | with_reducible refine we_non ?_ | with_reducible refine we_val ?_ | with_reducible refine we_chain ?_ | with_reducible refine we_andV ?_ | with_reducible refine we_orV ?_ | with_reducible refine we_notV ?_ | with_reducible refine we_if ?_ | with_reducible refine we_fld ?_ | with_reducible refine we_dget ?_ | with_reducible refine we_din ?_ | with_reducible refine we_dnotin ?_ | with_reducible refine wt_or ?_ | with_reducible refine wt_and ?_ | with_reducible refine wt_not ?_ | with_reducible refine wt_b ?_ | with_reducible refine wt_test ?_ | with_reducible refine wp_i ?_ | with_reducible refine wr_ib ?_ | with_reducible refine we_eqS ?_ | with_reducible refine we_neS ?_ | with_reducible refine we_eqI ?_ | with_reducible refine we_neI ?_ | with_reducible refine wp_l (Nat.le_of_ble_eq_true rfl) ?_ | with_reducible refine ⟨_, rfl, ?_⟩ | with_reducible refine iteT ?_ | with_reducible refine iteF ?_ | with_reducible refine iteNT ?_ | with_reducible refine iteNF ?_ | with_reducible refine wr_notN (fun u z => nomatch z) ?_ | with_reducible refine wr_isN (fun u z => nomatch z) ?_ | refine (And.intro (a := _ ≤ _) (Nat.le_of_ble_eq_true rfl) ?_) | refine we_var (by rfl) ?_))
        intro h17
        have h17' := of_decide_eq_true h17
        refine ws_ret <| we_slL <| we_call <| wa_cons <| we_var (by rfl) <| wa_cons <| we_var (by rfl) <| wa_nil ⟨s, c, _, words16.map .str, rfl, rfl, .inl rfl, by decide, fun ys hp => ?_⟩
        obtain ⟨zs, hz, rfl⟩ := mixed_map hp
        refine wo_none <| wo_some <| we_var (by rfl) ⟨_, rfl, _, rfl, ?_⟩
        rw [cut_to, ← List.map_take]
        refine hq _ ?_ (names_take many hz words16_nd fun x hx => wordB_ok (List.all_eq_true.mp words16_ok x hx))
        rw [List.length_take, hz.length_eq]
        exact Nat.min_eq_left (by show many ≤ 16; omega)
      · exact iteDN hw fun z => by cases z
    refine ws_next (ws_seq (ws_ifR ?_ ?_))
    · repeat (first | (first | with_reducible refine we_op ?_ | with_reducible refine we_lst ?_ | with_reducible refine wa_cons ?_ | with_reducible refine wa_nil ?_ | with_reducible refine we_cb ?_ | with_reducible refine we_tup ?_ | with_reducible refine we_un ?_ | with_reducible refine we_int ?_ | with_reducible refine we_str ?_ | with_reducible refine we_bl ?_ | with_reducible refine we_non ?_ | with_reducible refine we_val ?_ | with_reducible refine we_chain ?_ | with_reducible refine we_andV ?_ | with_reducible refine we_orV ?_ | with_reducible refine we_notV ?_ | with_reducible refine we_if ?_ | with_reducible refine we_fld ?_ | with_reducible refine we_dget ?_ | with_reducible refine we_din ?_ | with_reducible refine we_dnotin ?_ | with_reducible refine wt_or ?_ | with_reducible refine wt_and ?_ | with_reducible refine wt_not ?_ | with_reducible refine wt_b ?_ | with_reducible refine wt_test ?_ | with_reducible refine wp_i ?_ | with_reducible refine wr_ib ?_ | with_reducible refine we_eqS ?_ | with_reducible refine we_neS ?_ | with_reducible refine we_eqI ?_ | with_reducible refine we_neI ?_ | with_reducible refine wp_l (Nat.le_of_ble_eq_true rfl) ?_ | with_reducible refine ⟨_, rfl, ?_⟩ | with_reducible refine iteT ?_ | with_reducible refine iteF ?_ | with_reducible refine iteNT ?_ | with_reducible refine iteNF ?_ | with_reducible refine wr_notN (fun u z => nomatch z) ?_ | with_reducible refine wr_isN (fun u z => nomatch z) ?_ | refine (And.intro (a := _ ≤ _) (Nat.le_of_ble_eq_true rfl) ?_) | refine we_var (by rfl) ?_))
      intro _
      refine ws_seq <| ws_asg <| we_slS <| we_str <| wo_none <| wo_some <| we_op <| we_int <| we_call <| wa_cons <| we_var (by rfl) <| wa_cons <| we_int <| wa_nil ⟨s, c, 8, rfl, rfl, by decide, by decide, fun p p0 p1 => wp_i ⟨_, rfl, _, rfl, Nat.le_of_ble_eq_true rfl, ?_⟩⟩
      obtain ⟨p, rfl⟩ := Int.eq_ofNat_of_zero_le p0
      have hp8 : p < 8 := by omega
      refine ws_ret <| we_mapE (is := [5]) (fun i : Nat => .int (1 + (i : Nat))) (fun i => .str (stp p ++ tx i)) (fun a b e => by injection e with e; rw [show a = b by omega]) (fun i hi => by simpa using hi) <| wi_list <| we_slL <| we_call <| wa_cons <| we_var (by rfl) <| wa_cons <| we_listRg <| we_int <| we_op <| we_op <| we_int <| we_var (by rfl) <| wp_i <| we_call <| wa_cons <| we_var (by rfl) <| wa_cons <| we_int <| wa_nil ⟨s, c, 12, rfl, rfl, by decide, by decide, fun m m0 m1 => wp_i ?_⟩
      obtain ⟨m, rfl⟩ := Int.eq_ofNat_of_zero_le m0
      have hn : ((1 : Int) + (many : Nat) + (m : Nat) - 1).toNat = many + m := by omega
      refine ⟨1, _, rfl, rfl, by omega, wa_nil ⟨s, c, _, rng 1 _, rfl, rfl, .inl rfl, by rw [rng_len]; omega, fun ys hp => ?_⟩⟩
      rw [hn] at hp
      obtain ⟨zs, hz, rfl⟩ := mixed_map (f := fun i : Nat => X3.D.int (1 + (i : Nat))) hp
      refine wo_none <| wo_some <| we_var (by rfl) ⟨_, rfl, _, rfl, ?_⟩
      rw [cut_to, ← List.map_take]
      have hzl : (zs.take many).length = many := by
        rw [List.length_take, hz.length_eq, List.length_range]
        omega
      have hz99 : ∀ x ∈ zs.take many, x < 99 := fun x hx => by
        have := List.mem_range.mp (hz.mem_iff.mp ((List.take_sublist _ _).mem hx))
        omega
      refine ⟨_, rfl, zs.take many, rfl, by omega, fun x hx => wg_name ?_, ?_⟩
      · have hx9 := hz99 x hx
        refine we_op <| we_var (by rfl) <| we_cb <| wa_cons <| we_var (by rfl) <| wa_nil <| wc_strI (log_small (by omega) (by omega)) <| wp_s ?_ rfl
        obtain ⟨_, s2, _, _⟩ := stp_all p hp8
        have t1 := tx_len hx9
        show (stp p).length + (tx x).length ≤ 100000
        rw [cps_len, cps_len]
        omega
      · have e : (zs.take many).map (fun i => X3.D.str (stp p ++ tx i)) = ((zs.take many).map fun i => stp p ++ tx i).map .str := by rw [List.map_map]; rfl
        rw [e]
        refine hq _ (by rw [List.length_map]; exact hzl) ⟨?_, fun n hn => ?_⟩
        · have nd : (zs.take many).Nodup := (hz.nodup_iff.mpr List.nodup_range).sublist (List.take_sublist _ _)
          refine List.pairwise_map.mpr (List.Pairwise.imp_of_mem (fun {a b} ha hb hab e => hab (stp_inj (hz99 a ha) (hz99 b hb) e)) nd)
        · obtain ⟨x, hx, rfl⟩ := List.mem_map.mp hn
          exact stp_word hp8 (hz99 x hx)
    refine ws_next <| ws_ret <| we_call <| wa_cons <| we_var (by rfl) <| wa_cons <| we_var (by rfl) <| wa_nil ⟨s, c, many, rfl, rfl, by omega, hq⟩
end
end Tk

set_option Elab.async false
set_option linter.all false
set_option maxRecDepth 100000
set_option maxHeartbeats 4000000
namespace Tk
open PySem L2 X3
abbrev slaw_sayings : Stmt := topS 41
theorem sclaw_sayings : FnScope ["source", "side", "order", "many", "found", "row", "lap", "place", "some", "name"] ["source", "side", "order", "many"] (defScope slaw_sayings) := ⟨rfl, rfl, rfl, by decide +kernel, rfl, by decide +kernel, by decide +kernel⟩
abbrev slaw_made : Stmt := topS 42
theorem sclaw_made : FnScope ["side", "items", "sayings", "world", "item"] ["side", "items", "sayings"] (defScope slaw_made) := ⟨rfl, rfl, rfl, by decide +kernel, rfl, by decide +kernel, by decide +kernel⟩
abbrev slaw_world : Stmt := topS 43
theorem sclaw_world : FnScope ["source", "most", "many", "prices", "names", "side", "order", "sayings", "world", "name"] ["source", "most", "many", "prices"] (defScope slaw_world) := ⟨rfl, rfl, rfl, by decide +kernel, rfl, by decide +kernel, by decide +kernel⟩

/-! ### drawn sayings -/
structure DrawnSay (side : Str) (o : List Str) (y : Str × List Str) : Prop where
  at_ : y.1 ∈ o
  oth : OthersOk o y.1 y.2
  ne : y.2 ≠ []
  right : rightB (decide (side = cBEHIND)) o y = true
def rowL (side : Str) (o : List Str) : List Str := if side = cBEHIND then o else o.reverse
theorem row_mem {side : Str} {o : List Str} {x : Str} : x ∈ rowL side o ↔ x ∈ o := by
  unfold rowL
  split
  · exact .rfl
  · exact List.mem_reverse
theorem row_len {side : Str} {o : List Str} : (rowL side o).length = o.length := by
  unfold rowL
  split
  · rfl
  · exact List.length_reverse
theorem row_nd {side : Str} {o : List Str} (nd : o.Nodup) : (rowL side o).Nodup := by
  unfold rowL
  split
  · exact nd
  · exact (List.reverse_perm o).nodup_iff.mpr nd
theorem idxOf_get {o : List Str} {x : Str} {j : Nat} (nd : o.Nodup) (h : o[j]? = some x) : o.idxOf x = j := by
  obtain ⟨hj, e⟩ := List.getElem?_eq_some_iff.mp h
  have h1 := idxOf_at (List.mem_of_getElem? h)
  obtain ⟨hk, e2⟩ := List.getElem?_eq_some_iff.mp h1
  exact (List.getElem_inj nd).mp (e2.trans e.symm)
theorem drawn_ok {side : Str} {o zs : List Str} {n s0 : Str} {place : Nat} (nd : o.Nodup) (hp : (rowL side o)[place]? = some n) (hs0 : s0 ∈ (rowL side o).take place) (hz0 : s0 ∈ zs)
    (hz : ∀ s ∈ zs, s ∈ (rowL side o).take place ++ (rowL side o).drop (place + 1)) (ndz : zs.Nodup) (few : zs.length ≤ 1000) : DrawnSay side o (n, zs) := by
  obtain ⟨hlt, hn⟩ := List.getElem?_eq_some_iff.mp hp
  have hrow : rowL side o = (rowL side o).take place ++ (n :: (rowL side o).drop (place + 1)) := by
    rw [← hn, ← List.drop_eq_getElem_cons hlt, List.take_append_drop]
  have ndr := row_nd (side := side) nd
  rw [hrow] at ndr
  have hnn : n ∉ (rowL side o).take place ++ (rowL side o).drop (place + 1) := by
    have h1 := (List.perm_middle (a := n) (l₁ := (rowL side o).take place) (l₂ := (rowL side o).drop (place + 1))).nodup_iff.mp ndr
    exact (List.nodup_cons.mp h1).1
  refine ⟨row_mem.mp (List.mem_of_getElem? hp), ⟨fun s hs => ?_, fun h => hnn (hz n h), ndz, few⟩, fun e => ?_, ?_⟩
  · rcases List.mem_append.mp (hz s hs) with z | z
    · exact row_mem.mp ((List.take_sublist _ _).mem z)
    · exact row_mem.mp ((List.drop_sublist _ _).mem z)
  · have e' : zs = [] := e
    rw [e'] at hz0
    cases hz0
  · refine List.any_eq_true.mpr ⟨s0, hz0, ?_⟩
    obtain ⟨i, hi, ei⟩ := List.mem_iff_getElem.mp hs0
    rw [List.getElem_take] at ei
    have hip : i < place := by
      rw [List.length_take] at hi
      omega
    have hgi : (rowL side o)[i]? = some s0 := by
      rw [List.getElem?_eq_getElem (by omega), ei]
    by_cases hb : side = cBEHIND
    · unfold rowL at hgi hp
      rw [if_pos hb] at hgi hp
      rw [idxOf_get nd hgi, idxOf_get nd hp, decide_eq_true hb]
      simp [hip]
    · have hl := row_len (side := side) (o := o)
      unfold rowL at hgi hp
      rw [if_neg hb] at hgi hp
      rw [List.getElem?_reverse (by omega)] at hgi hp
      rw [idxOf_get nd hgi, idxOf_get nd hp, decide_eq_false hb]
      simp
      omega
section
variable {P : Program} {w : World} {K : PySem.W.Frag} {mg : Str → Option Value} {tk : Nat → Tok} {base : Heap}
def pSayings : Res → List X3.D → (X3.D → Prop) → Prop := fun S ds q => ∃ (s c : Addr) (side : Str) (o : List Str) (many : Nat), S = srcR s c ∧ ds = [.val (.ref s), .str side, .list (o.map .str), .int (many : Nat)] ∧ o.Nodup ∧ o.length ≤ 100 ∧ many ≤ 100 ∧ ∀ says : List (Str × List Str), says.length ≤ many → (∀ y ∈ says, DrawnSay side o y) → q (.list (says.map sayD))
theorem ok_law_sayings {f : Addr} {fd : FuncData} (F : Fun K "_law_sayings" "_law_sayings" slaw_sayings f fd) (T : Txt K mg tk) {f1 f2 f3 : Addr} {d1 d2 d3 : FuncData}
    (D1 : Prom P w K mg base "_law_pick" f1 d1 ["source", "many"] 1 (spD K (pPick)))
    (D2 : Prom P w K mg base "_law_of" f2 d2 ["source", "some"] 2 (spD K (pOf)))
    (D3 : Prom P w K mg base "_law_mixed" f3 d3 ["source", "things"] 2 (spD K (pMixed))) : FnOk P w K mg base CX0 3 f fd ["source", "side", "order", "many"] (spD K (pSayings)) := by
  refine F.ok sclaw_sayings (fun vs H Q E h => ?_) (fun cdv A outer s H vs Q E hr h => ?_)
  · obtain ⟨S, G, ds, q, _, r, ⟨s, c, side, o, many, rfl, rfl, nd, hl, hm, hq⟩, _⟩ := h
    exact r.length
  · obtain ⟨S, G, ds, q, w0, r, ⟨s, c, side, o, many, rfl, rfl, nd, hl, hm, hq⟩, k⟩ := h
    have hu := hu64 hr
    have hu1 := hu_of hr
    refine ⟨_, (pss_cons (ps_par rfl sclaw_sayings.nd (i := 4) (j := 5) rfl rfl (by decide) rfl rfl (pa_cons (pe_lst pa_nil) (pa_cons (pe_ifExp (pt_cmpR (r := rEqA K) (op_eqA hu) (pv 1) pe_str (nomark _)) (pv 2) (show PE _ _ (tRevL K _) from pe_revL (pv 2))) pa_nil)) rfl)
      (pss_cons (ps_for PassesOwn.never rfl (pi_range1 (by rfl) T.nrange (pa_cons (pe_ifExp (pt_cmpR op_gt (pe_callB (r := rCount K) call_len (by rfl) T.nlen PySem.boot_len (pa_cons (pv 5) pa_nil)) pe_int (nomark _)) (pv 3) pe_int) pa_nil)) (pg_name (i := 6) sclaw_sayings.nd rfl (Or.inl rfl)) (pss_cons (ps_set (i := 7) sclaw_sayings.nd rfl (Or.inl rfl) (pe_op op_plus pe_int (pe_call D1.F (hr.mono (by decide)) (by rfl) D1.g D1.kp D1.b .nil pass0 (pa_cons (pv 0) (pa_cons (pe_op op_sub (pe_callB (r := rCount K) call_len (by rfl) T.nlen PySem.boot_len (pa_cons (pv 5) pa_nil)) pe_int) pa_nil)))))
      (pss_cons (ps_set (i := 8) sclaw_sayings.nd rfl (Or.inl rfl) (pe_lst (pa_cons (pe_call D2.F (hr.mono (by decide)) (by rfl) D2.g D2.kp D2.b .nil pass0 (pa_cons (pv 0) (pa_cons (pe_slice (r := rSlL K) sl_list (pv 5) po_none (po_some (pv 7))) pa_nil))) pa_nil)))
      (pss_cons (ps_for PassesOwn.never rfl (pi_list (pe_slice (r := rSlL K) sl_list (pe_call D3.F (hr.mono (by decide)) (by rfl) D3.g D3.kp D3.b .nil pass0 (pa_cons (pv 0) (pa_cons (pe_op op_plus (pe_slice (r := rSlL K) sl_list (pv 5) po_none (po_some (pv 7))) (pe_slice (r := rSlL K) sl_list (pv 5) (po_some (pe_op op_plus (pv 7) pe_int)) po_none)) pa_nil))) po_none (po_some (pe_call D2.F (hr.mono (by decide)) (by rfl) D2.g D2.kp D2.b .nil pass0 (pa_cons (pv 0) (pa_cons (pe_lst (pa_cons pe_int (pa_cons pe_int (pa_cons pe_int (pa_cons pe_int (pa_cons pe_int (pa_cons pe_int pa_nil))))))) pa_nil)))))) (pg_name (i := 9) sclaw_sayings.nd rfl (Or.inl rfl)) (pss_one (ps_set (i := 8) sclaw_sayings.nd rfl (Or.inl rfl) (pe_op op_plus (pv 8) (pe_op op_times (pe_lst (pa_cons (pv 9) pa_nil)) (pe_callTy call_int1 (by rfl) T.nint PyProof.Rows.boot_int (pa_cons (pe_cmpR (r := rIn K true) op_notIn_seq (pv 9) (pv 8) (by with_unfolding_all rfl)) pa_nil)))))))
      (pss_one (ps_expr (show PE _ _ (tBM K "list" rAppend _ _) from pe_bm PySem.F.plainAttrs_list PySem.F.slot_list_append PySem.F.type_list_append mt_append (pv 4) (pa_cons (pe_tup (pa_cons (pe_ix (r := rIx K) ix_seq (pv 5) (pv 7) (fun _ _ => rfl)) (pa_cons (pe_callTy (r := rTup K) call_tuple_of (by rfl) T.ntuple PyProof.Rows.boot_tuple (pa_cons (pe_call D3.F (hr.mono (by decide)) (by rfl) D3.g D3.kp D3.b .nil pass0 (pa_cons (pv 0) (pa_cons (pv 8) pa_nil))) pa_nil)) pa_nil))) pa_nil))))))))
      (pss_one (ps_ret (pv 4))))), ?_⟩
    refine body_of w0 r k ?_

    refine ws_seq (ws_parN (Nat.le_of_ble_eq_true rfl) (WE.imp (Q := fun d => d = .list ((rowL side o).map .str)) ?_ ?_))
    · refine we_if <| wt_test <| we_op <| we_var (by rfl) <| we_str <| we_eqS ⟨_, rfl, ?_⟩
      unfold rowL
      by_cases hb : side = cBEHIND
      · rw [if_pos hb]
        exact iteD hb (we_var (by rfl) rfl)
      · rw [if_neg hb]
        exact iteDN hb (we_revL (we_var (by rfl) ⟨_, rfl, by rw [List.map_reverse]⟩))
    rintro d rfl
    have hrl := row_len (side := side) (o := o)
    have wm : WE K (srcR s c) (tIf (tTest (tOp (rI0 fun i j => .bl (decide (i > j))) (tCB (rCount K) (tCons (tVar 5) tNil)) (tC (.int 1)))) (tVar 3) (tC (.int 0))) ([.dat (.val (.ref s)), .dat (.str side), .dat (.list (o.map .str)), .dat (.int (many : Nat)), .own 0, .dat (.list ((rowL side o).map .str)), .no, .no, .no, .no] : Rho) (fun d => d = .int ((if 1 < (rowL side o).length then many else 0 : Nat) : Nat)) := by
      refine we_if <| wt_test <| we_op <| we_cb <| wa_cons <| we_var (by rfl) <| wa_nil <| wc_lenR (n := (rowL side o).length) (by simp [LenD]) <| we_int <| wr_ib (g := fun i j => decide (i > j)) ⟨_, rfl, ?_⟩
      by_cases h : 1 < (rowL side o).length
      · rw [if_pos h]
        exact iteE (decide_eq_true (by omega)) (we_var (by rfl) rfl)
      · rw [if_neg h]
        exact iteE0 (decide_eq_false (by omega)) (we_int rfl)
    refine ws_seq (ws_rng (is := [6]) (if 1 < (rowL side o).length then many else 0) (fun i ρ' μ' => ∃ x6 x7 x8 x9, ∃ says : List (Str × List Str), ρ' = [.dat (.val (.ref s)), .dat (.str side), .dat (.list (o.map .str)), .dat (.int (many : Nat)), .own 0, .dat (.list ((rowL side o).map .str)), x6, x7, x8, x9] ∧ μ' = [.lst (says.map sayD)] ∧ says.length = i ∧ ∀ y ∈ says, DrawnSay side o y) (wi_rng1 (wa_cons (wm.imp ?_))))
    rintro d rfl
    have hmm : (if 1 < (rowL side o).length then many else 0) ≤ many := by split <;> omega
    refine wa_nil ⟨_, rfl, by omega, by omega, by rw [Int.toNat_natCast], ⟨_, _, _, _, [], rfl, rfl, rfl, fun y h => by cases h⟩, ?_, ?_⟩
    · rintro i ρ' μ' hi ⟨x6, x7, x8, x9, says, rfl, rfl, hlen, hsays⟩
      have hi1 : 1 < (rowL side o).length := by
        by_cases h : 1 < (rowL side o).length
        · exact h
        · rw [if_neg h] at hi
          omega
      -- place
      refine wg_name <| ws_seq <| ws_asg <| we_op <| we_int <| we_call <| wa_cons <| we_var (by rfl) <| wa_cons <| we_op <| we_cb <| wa_cons <| we_var (by rfl) <| wa_nil <| wc_lenR (n := (rowL side o).length) (by simp [LenD]) <| we_int <| wr_ii (g := fun i j => i - j) <| wa_nil ⟨s, c, _, rfl, rfl, by omega, by omega, fun p p0 p1 => wp_i ?_⟩
      obtain ⟨p, rfl⟩ := Int.eq_ofNat_of_zero_le p0
      have hp1 : p + 1 < (rowL side o).length := by omega
      rw [show (1 : Int) + (p : Nat) = ((p + 1 : Nat) : Int) by omega]
      -- some
      refine ws_seq <| ws_asg <| we_lst <| wa_cons <| we_call <| wa_cons <| we_var (by rfl) <| wa_cons <| we_slL <| we_var (by rfl) <| wo_none <| wo_some <| we_var (by rfl) ⟨_, rfl, _, rfl, wa_nil ?_⟩
      rw [cut_to, ← List.map_take]
      refine ⟨s, c, _, rfl, rfl, ?_, by rw [List.length_map, List.length_take]; omega, fun d hd => ?_⟩
      · refine List.ne_nil_of_length_pos ?_
        rw [List.length_map, List.length_take]
        omega
      obtain ⟨s0, hs0, rfl⟩ := List.mem_map.mp hd
      refine wa_nil ⟨Nat.le_of_ble_eq_true rfl, ?_⟩
      have hpl : (rowL side o)[p + 1]? = some (rowL side o)[p + 1] := List.getElem?_eq_getElem hp1
      -- for name
      refine ws_seq (ws_forM (is := [9]) X3.D.str (fun j ρ' μ' => ∃ x9, ∃ ss : List Str, ρ' = [.dat (.val (.ref s)), .dat (.str side), .dat (.list (o.map .str)), .dat (.int (many : Nat)), .own 0, .dat (.list ((rowL side o).map .str)), .dat (.int (i : Nat)), .dat (.int ((p + 1 : Nat) : Nat)), .dat (.list (ss.map .str)), x9] ∧ μ' = [.lst (says.map sayD)] ∧ ss.Nodup ∧ s0 ∈ ss ∧ ss.length ≤ 1 + j ∧ j ≤ 200 ∧ ∀ z ∈ ss, z ∈ (rowL side o).take (p + 1) ++ (rowL side o).drop (p + 1 + 1)) (wi_list <| we_slL <| we_call <| wa_cons <| we_var (by rfl) <| wa_cons <| we_op <| we_slL <| we_var (by rfl) <| wo_none <| wo_some <| we_var (by rfl) ⟨_, rfl, _, rfl, ?_⟩))
      rw [cut_to, ← List.map_take]
      refine we_slL <| we_var (by rfl) <| wo_some <| we_op <| we_var (by rfl) <| we_int <| wp_i ⟨_, rfl, wo_none ⟨_, rfl, ?_⟩⟩
      rw [show ((p + 1 : Nat) : Int) + 1 = ((p + 1 + 1 : Nat) : Int) from rfl, cut_from, ← List.map_drop]
      refine wp_l (by rw [List.length_map, List.length_map, List.length_take, List.length_drop]; omega) ?_
      rw [← List.map_append]
      refine wa_nil ⟨s, c, _, _, rfl, rfl, .inl rfl, by rw [List.length_map, List.length_append, List.length_take, List.length_drop]; omega, fun ys hp => ?_⟩
      obtain ⟨zs, hz, rfl⟩ := mixed_map hp
      refine wo_none <| wo_some <| we_call ?_
      repeat (first | (first | with_reducible refine we_op ?_ | with_reducible refine we_lst ?_ | with_reducible refine wa_cons ?_ | with_reducible refine wa_nil ?_ | with_reducible refine we_cb ?_ | with_reducible refine we_tup ?_ | with_reducible refine we_un ?_ | with_reducible refine we_int ?_ | with_reducible refine we_str ?_ | with_reducible refine we_bl ?_ | with_reducible refine we_non ?_ | with_reducible refine we_val ?_ | with_reducible refine we_chain ?_ | with_reducible refine we_andV ?_ | with_reducible refine we_orV ?_ | with_reducible refine we_notV ?_ | with_reducible refine we_if ?_ | with_reducible refine we_fld ?_ | with_reducible refine we_dget ?_ | with_reducible refine we_din ?_ | with_reducible refine we_dnotin ?_ | with_reducible refine wt_or ?_ | with_reducible refine wt_and ?_ | with_reducible refine wt_not ?_ | with_reducible refine wt_b ?_ | with_reducible refine wt_test ?_ | with_reducible refine wp_i ?_ | with_reducible refine wr_ib ?_ | with_reducible refine we_eqS ?_ | with_reducible refine we_neS ?_ | with_reducible refine we_eqI ?_ | with_reducible refine we_neI ?_ | with_reducible refine wp_l (Nat.le_of_ble_eq_true rfl) ?_ | with_reducible refine ⟨_, rfl, ?_⟩ | with_reducible refine iteT ?_ | with_reducible refine iteF ?_ | with_reducible refine iteNT ?_ | with_reducible refine iteNF ?_ | with_reducible refine wr_notN (fun u z => nomatch z) ?_ | with_reducible refine wr_isN (fun u z => nomatch z) ?_ | refine (And.intro (a := _ ≤ _) (Nat.le_of_ble_eq_true rfl) ?_) | refine we_var (by rfl) ?_))
      refine ⟨s, c, [.int 0, .int 0, .int 1, .int 1, .int 2, .int 3], rfl, rfl, by simp, by decide, fun d hd => ?_⟩
      obtain ⟨m, rfl, hm3⟩ : ∃ m : Nat, d = .int (m : Nat) ∧ m ≤ 3 := by
        simp only [List.mem_cons, List.not_mem_nil, or_false] at hd
        rcases hd with rfl | rfl | rfl | rfl | rfl | rfl
        · exact ⟨0, rfl, by omega⟩
        · exact ⟨0, rfl, by omega⟩
        · exact ⟨1, rfl, by omega⟩
        · exact ⟨1, rfl, by omega⟩
        · exact ⟨2, rfl, by omega⟩
        · exact ⟨3, rfl, by omega⟩
      refine ⟨_, rfl, _, rfl, ?_⟩
      rw [cut_to, ← List.map_take]
      have hml : (zs.take m).length ≤ 3 := by rw [List.length_take]; omega
      refine ⟨_, rfl, zs.take m, rfl, ⟨_, [s0], rfl, rfl, by simp, by simp, Nat.le_refl _, by omega, fun z hz' => ?_⟩, ?_, ?_⟩
      · rw [List.mem_singleton.mp hz']
        exact List.mem_append_left _ hs0
      · rintro j x ρ' μ' hx ⟨x9', ss, rfl, rfl, nd1, h0, hlen1, hj, hin⟩
        have hjl := (List.getElem?_eq_some_iff.mp hx).1
        have hxm : x ∈ (rowL side o).take (p + 1) ++ (rowL side o).drop (p + 1 + 1) := hz.mem_iff.mp ((List.take_sublist _ _).mem (List.mem_of_getElem? hx))
        refine wg_name <| ws_asg <| we_op <| we_var (by rfl) <| we_op <| we_lst <| wa_cons <| we_var (by rfl) <| wa_nil ⟨Nat.le_of_ble_eq_true rfl, ?_⟩
        refine we_cb <| wa_cons <| we_op <| we_var (by rfl) <| we_var (by rfl) <| wr_inS (neg := true) (ns := ss) (.inl rfl) <| wa_nil <| wc_intb ?_
        rw [if_pos rfl]
        by_cases hxs : x ∈ ss
        · rw [decide_eq_true hxs]
          refine wt_l (n := 0) (by decide) (by decide) (Nat.le_of_ble_eq_true rfl) (wp_l (by show (ss.map X3.D.str).length + 0 ≤ 100000; rw [List.length_map]; omega) ?_)
          refine ⟨.dat (.str x), ss, ?_, rfl, nd1, h0, by omega, by omega, hin⟩
          show ([_, _, _, _, _, _, _, _, SD.dat (.list (ss.map X3.D.str ++ [])), _] : Rho) = _
          rw [List.append_nil]
        · rw [decide_eq_false hxs]
          refine wt_l (n := 1) (by decide) (by decide) (Nat.le_of_ble_eq_true rfl) (wp_l (by show (ss.map X3.D.str).length + 1 ≤ 100000; rw [List.length_map]; omega) ?_)
          refine ⟨.dat (.str x), ss ++ [x], ?_, rfl, ?_, List.mem_append_left _ h0, by rw [List.length_append, List.length_singleton]; omega, by omega, fun z hz' => ?_⟩
          · show ([_, _, _, _, _, _, _, _, SD.dat (.list (ss.map X3.D.str ++ [X3.D.str x])), _] : Rho) = _
            rw [List.map_append]
            rfl
          · refine List.nodup_append.mpr ⟨nd1, by simp, fun a ha b hb e => ?_⟩
            rw [List.mem_singleton.mp hb] at e
            exact hxs (e ▸ ha)
          · rcases List.mem_append.mp hz' with z1 | z1
            · exact hin z z1
            · rw [List.mem_singleton.mp z1]
              exact hxm
      · rintro ρ' μ' ⟨x9', ss, rfl, rfl, nd1, h0, hlen1, hj, hin⟩
        refine ws_append (j := 0) (by rfl) (by rfl) (by rw [List.length_map]; omega) ?_
        refine we_tup <| wa_cons <| we_op <| we_var (by rfl) <| we_var (by rfl) <| wr_ixL (d := .str (rowL side o)[p + 1]) (atI_nat (by rw [List.getElem?_map, hpl]; rfl)) <| wa_cons <| we_cb <| wa_cons <| we_call <| wa_cons <| we_var (by rfl) <| wa_cons <| we_var (by rfl) <| wa_nil ⟨s, c, _, ss.map .str, rfl, rfl, .inl rfl, by rw [List.length_map]; omega, fun ys hys => ?_⟩
        obtain ⟨us, hus, rfl⟩ := mixed_map hys
        refine wa_nil <| wc_tupleR (.inl rfl) <| wa_nil ⟨Nat.le_of_ble_eq_true rfl, ?_⟩
        refine ⟨_, _, _, _, says ++ [((rowL side o)[p + 1], us)], rfl, ?_, by simp [hlen], fun y hy => ?_⟩
        · show [M.lst (says.map sayD ++ [X3.D.tup [.str (rowL side o)[p + 1], .tup (us.map .str)]])] = _
          rw [List.map_append]
          rfl
        · rcases List.mem_append.mp hy with z1 | z1
          · exact hsays y z1
          · rw [List.mem_singleton.mp z1]
            exact drawn_ok nd hpl hs0 (hus.mem_iff.mpr h0) (fun z hz' => hin z (hus.mem_iff.mp hz')) (hus.nodup_iff.mpr nd1) (by rw [hus.length_eq]; omega)
    · rintro ρ' μ' ⟨x6, x7, x8, x9, says, rfl, rfl, hlen, hsays⟩
      refine ws_ret ?_
      refine we_var (by rfl) ?_
      exact hq says (by omega) hsays
end
end Tk

set_option Elab.async false
set_option linter.all false
set_option maxRecDepth 100000
set_option maxHeartbeats 4000000
namespace Tk
open PySem L2 X3
/-! ### worlds -/
theorem getK_none {kvs : List (Key × X3.D)} {k : Key} (h : k ∉ kvs.map (·.1)) : getK kvs k = none := by
  cases e : getK kvs k with
  | none => rfl
  | some v => exact absurd (getK_pairs.mp (by rw [e]; rfl)) h
def pricesD (its : List (Str × Int)) : X3.D := .dict (its.map fun p => (.inr p.1, .int p.2))
def world4 (side : Str) (its : List (Str × Int)) (says : List (Str × List Str)) : List (Key × X3.D) := [(.inr "side", .str side), (.inr "items", .list (its.map itemD)), (.inr "sayings", .list (says.map sayD)), (.inr "names", .list ((its.map (·.1)).map .str))]
def worldK (C : Addr) (side : Str) (its : List (Str × Int)) (says : List (Str × List Str)) : List (Key × X3.D) := world4 side its says ++ [(.inr "prices", pricesD its), (.inr "book", bkD C side its says)]
def worldD (C : Addr) (side : Str) (its : List (Str × Int)) (says : List (Str × List Str)) : X3.D := .dict (worldK C side its says)
section
variable {C : Addr} {side : Str} {its : List (Str × Int)} {says : List (Str × List Str)}
theorem world4_merge : mergeD [] (world4 side its says) = world4 side its says :=
  mergeD_nodup (acc := []) (show [(Sum.inr "side" : Key), Sum.inr "items", Sum.inr "sayings", Sum.inr "names"].Nodup by decide +kernel)
theorem world_put : putD (putD (world4 side its says) (.inr "prices") (pricesD its)) (.inr "book") (bkD C side its says) = worldK C side its says := by
  have n1 : [(Sum.inr "prices" : Key), Sum.inr "side", Sum.inr "items", Sum.inr "sayings", Sum.inr "names"].Nodup := by decide +kernel
  have n2 : [(Sum.inr "book" : Key), Sum.inr "side", Sum.inr "items", Sum.inr "sayings", Sum.inr "names", Sum.inr "prices"].Nodup := by decide +kernel
  have e1 : putD (world4 side its says) (.inr "prices") (pricesD its) = world4 side its says ++ [(.inr "prices", pricesD its)] := putD_new _ (getK_none (List.nodup_cons.mp n1).1)
  rw [e1]
  exact putD_new _ (getK_none (List.nodup_cons.mp n2).1)
theorem wk_nd : ((worldK C side its says).map (·.1)).Nodup := show [(Sum.inr "side" : Key), Sum.inr "items", Sum.inr "sayings", Sum.inr "names", Sum.inr "prices", Sum.inr "book"].Nodup by decide +kernel
theorem wk_side : getK (worldK C side its says) (.inr "side") = some (.str side) := getK_of_nodup wk_nd (by simp [worldK, world4])
theorem wk_items : getK (worldK C side its says) (.inr "items") = some (.list (its.map itemD)) := getK_of_nodup wk_nd (by simp [worldK, world4])
theorem wk_says : getK (worldK C side its says) (.inr "sayings") = some (.list (says.map sayD)) := getK_of_nodup wk_nd (by simp [worldK, world4])
theorem wk_names : getK (worldK C side its says) (.inr "names") = some (.list ((its.map (·.1)).map .str)) := getK_of_nodup wk_nd (by simp [worldK, world4])
theorem wk_book : getK (worldK C side its says) (.inr "book") = some (bkD C side its says) := getK_of_nodup wk_nd (by simp [worldK, world4])
end
structure WorldOk (side : Str) (its : List (Str × Int)) (says : List (Str × List Str)) (o : List Str) : Prop where
  bk : BkOk side its says
  ord : OrdIn its says o
  kept : keptB side o says = true
/-- a class that can be made -/
structure PromC (P : Program) (w : World) (K : PySem.W.Frag) (mg : Str → Option Value) (base : Heap) (x : Str) (C f : Addr) (fd : FuncData) (ps : List Str) (k : Nat) (sp : Sp) : Prop where
  M : Mk K C f
  g : mg x = some (.ref C)
  b : Binds K fd ps []
  F : FnOk P w K mg base CX0 k f fd ps sp
section
variable {P : Program} {w : World} {K : PySem.W.Frag} {mg : Str → Option Value} {tk : Nat → Tok} {base : Heap}
def pMade (C : Addr) : Res → List X3.D → (X3.D → Prop) → Prop := fun _ ds q => ∃ (side : Str) (its : List (Str × Int)) (says : List (Str × List Str)), ds = [.str side, .list (its.map itemD), .list (says.map sayD)] ∧ BkOk side its says ∧ q (worldD C side its says)
theorem ok_law_made {f : Addr} {fd : FuncData} (F : Fun K "_law_made" "_law_made" slaw_made f fd) (T : Txt K mg tk) {C : Addr} (cB : ClsB K C) {f1 : Addr} {d1 : FuncData}
    (D1 : PromC P w K mg base "Book" C f1 d1 ["self", "side", "items", "sayings"] 5 (spNew K (pNew (K := K)))) : FnOk P w K mg base CX0 7 f fd ["side", "items", "sayings"] (spD K (pMade C)) := by
  refine F.ok sclaw_made (fun vs H Q E h => ?_) (fun cdv A outer s H vs Q E hr h => ?_)
  · obtain ⟨S, G, ds, q, _, r, ⟨side, its, says, rfl, ok, hq⟩, _⟩ := h
    exact r.length
  · obtain ⟨S, G, ds, q, w0, r, ⟨side, its, says, rfl, ok, hq⟩, k⟩ := h
    have hu := hu64 hr
    have hu1 := hu_of hr
    refine ⟨_, (pss_cons (ps_set (i := 3) sclaw_made.nd rfl (Or.inl rfl) (pe_disp (pps_cons pe_str (pv 0) (pps_cons pe_str (pv 1) (pps_cons pe_str (pv 2) (pps_cons pe_str (pe_lc (own := [("item", 4)]) (g := gName 4)  (tt := tYes) rfl sclaw_made.nd (pi_list (pv 1)) (blkOk_by (N := ["side", "items", "sayings", "world", "item"]) (sc := defScope slaw_made) (by decide +kernel)) (fun _ _ _ _ _ => (pg_name (i := 4) sclaw_made.nd rfl (Or.inl rfl))) (fun _ _ _ _ _ => pts_nil) (fun _ _ _ _ _ => (pe_ix (r := rIx K) ix_seq (pv 4) pe_int (fun _ _ => rfl)))) pps_nil)))) (by decide +kernel) rfl (by simp) (by decide)))
      (pss_cons (ps_asg (pe_tup (pa_cons (pe_callTy (r := rDictP K) (call_dictP rfl) (by rfl) T.ndict PyProof.Rows.boot_dict (pa_cons (pv 1) pa_nil)) (pa_cons (pe_make D1.M D1.F (hr.mono (by decide)) (by rfl) D1.g D1.b .nil pass0 (pa_cons (pv 0) (pa_cons (pv 1) (pa_cons (pv 2) pa_nil)))) pa_nil))) (pg_tup rfl (pgs_cons (pg_sub (pv 3) pe_str (set_dict hu1)) (pgs_cons (pg_sub (pv 3) pe_str (set_dict hu1)) pgs_nil))))
      (pss_one (ps_ret (pv 3))))), ?_⟩
    refine body_of w0 r k ?_

    have hf := ok.items.few
    refine ws_seq <| ws_newDisp (Nat.le_of_ble_eq_true rfl) <| wps_cons <| we_var (by rfl) <| wps_cons <| we_var (by rfl) <| wps_cons <| we_var (by rfl) <| wps_cons ?_
    refine we_mapY (is := [4]) its itemD (fun p => .str p.1) (fun i hi => by simpa using hi) (wi_list <| we_var (by rfl) ⟨_, rfl, rfl, by omega, fun p hp => wg_name ?_, ?_⟩)
    · exact we_op <| we_var (by rfl) <| we_int <| wr_ixT rfl rfl
    refine wps_nil ⟨by show 4 ≤ 15; decide, ?_⟩
    have e4 : ∀ l : List X3.D, l = (its.map (·.1)).map .str → mergeD [] [((Sum.inr "side" : Key), X3.D.str side), (.inr "items", .list (its.map itemD)), (.inr "sayings", .list (says.map sayD)), (.inr "names", .list l)] = world4 side its says := fun l hl => by
      subst hl
      exact world4_merge
    rw [e4 _ (by rw [List.map_map]; rfl)]
    refine ws_seq <| ws_put2 (j := 0) (by rfl) (by rfl) (by show 4 + 1 < 100000; decide) <| we_tup <| wa_cons <| we_cb <| wa_cons <| we_var (by rfl) <| wa_nil ?_
    have e5 : its.map itemD = (its.map fun p => ((Sum.inr p.1 : Key), X3.D.int p.2)).map fun kv => X3.D.tup [kD kv.1, kv.2] := by rw [List.map_map]; rfl
    rw [e5]
    refine wc_dictP ?_
    have e6 : mergeD [] (its.map fun p => ((Sum.inr p.1 : Key), X3.D.int p.2)) = its.map fun p => ((Sum.inr p.1 : Key), X3.D.int p.2) := by
      refine mergeD_nodup (acc := []) ?_
      rw [List.nil_append, List.map_map]
      have h := ok.items.nd
      have e7 : (its.map fun p => (Sum.inr p.1 : Key)) = (its.map (·.1)).map Sum.inr := by rw [List.map_map]; rfl
      show (its.map fun p => (Sum.inr p.1 : Key)).Nodup
      rw [e7]
      exact List.pairwise_map.mpr (h.imp fun {a b} hab e => hab (Sum.inr.inj e))
    rw [e6, ← e5]
    refine wa_cons <| we_make (wa_cons (we_var (by rfl) (wa_cons (we_var (by rfl) (wa_cons (we_var (by rfl) (wa_nil ⟨C, side, its, says, rfl, cB, ok, wa_nil ⟨Nat.le_of_ble_eq_true rfl, _, _, rfl, ?_⟩⟩)))))))
    show WS K S (tRet (tVar 3)) _ [M.dict (putD (putD (world4 side its says) (.inr "prices") (pricesD its)) (.inr "book") (bkD C side its says))] _
    rw [world_put]
    refine ws_ret ?_
    exact we_var (by rfl) hq
end
end Tk

set_option Elab.async false
set_option linter.all false
set_option maxRecDepth 100000
set_option maxHeartbeats 4000000
namespace Tk
open PySem L2 X3
abbrev slaw_moved : Stmt := topS 44
theorem sclaw_moved : FnScope ["order", "name", "place", "found", "other"] ["order", "name", "place"] (defScope slaw_moved) := ⟨rfl, rfl, rfl, by decide +kernel, rfl, by decide +kernel, by decide +kernel⟩
abbrev slaw_keeps : Stmt := topS 45
theorem sclaw_keeps : FnScope ["world", "order", "places", "name", "some", "near", "k", "other"] ["world", "order"] (defScope slaw_keeps) := ⟨rfl, rfl, rfl, by decide +kernel, rfl, by decide +kernel, by decide +kernel⟩

theorem says_ok {side : Str} {its : List (Str × Int)} {o : List Str} {y : Str × List Str} (hp : o.Perm (its.map (·.1))) (h : DrawnSay side o y) : SayOk its y :=
  ⟨hp.mem_iff.mp h.at_, ⟨fun s hs => hp.mem_iff.mp (h.oth.sub s hs), h.oth.own, h.oth.nd, h.oth.few⟩, h.ne⟩
theorem kept_iff {side : Str} {o : List Str} {says : List (Str × List Str)} : keptB side o says = true ↔ ∀ y ∈ says, rightB (decide (side = cBEHIND)) o y = true := by
  unfold keptB brokenN
  rw [Option.isNone_iff_eq_none, List.findIdx?_eq_none_iff]
  constructor
  · intro h y hy
    have := h y hy
    simpa using this
  · intro h y hy
    rw [h y hy]
    rfl
section
variable {P : Program} {w : World} {K : PySem.W.Frag} {mg : Str → Option Value} {tk : Nat → Tok} {base : Heap}
def pWorld (C : Addr) : Res → List X3.D → (X3.D → Prop) → Prop := fun S ds q => ∃ (s c : Addr) (most many : Nat) (prices : List Int), S = srcR s c ∧ ds = [.val (.ref s), .int (most : Nat), .int (many : Nat), .list (prices.map .int)] ∧ (1 ≤ most ∧ most ≤ 60 ∧ many ≤ 99) ∧ (prices ≠ [] ∧ prices.length < 1000 ∧ ∀ p ∈ prices, 0 ≤ p) ∧
  ∀ side its says o, WorldOk side its says o → its ≠ [] → its.length ≤ most → q (.tup [worldD C side its says, strsD o])
theorem ok_law_world {f : Addr} {fd : FuncData} (F : Fun K "_law_world" "_law_world" slaw_world f fd) (T : Txt K mg tk) {f1 f2 f3 f4 f5 f6 : Addr} {d1 d2 d3 d4 d5 d6 : FuncData}
    (D1 : Prom P w K mg base "_law_item_names" f1 d1 ["source", "many"] 3 (spD K (pItemNames)))
    (D2 : Prom P w K mg base "_law_pick" f2 d2 ["source", "many"] 1 (spD K (pPick)))
    (D3 : Prom P w K mg base "_law_mixed" f3 d3 ["source", "things"] 2 (spD K (pMixed)))
    (D4 : Prom P w K mg base "_law_of" f4 d4 ["source", "some"] 2 (spD K (pOf)))
    (D5 : Prom P w K mg base "_law_sayings" f5 d5 ["source", "side", "order", "many"] 3 (spD K (pSayings)))
    (D6 : Prom P w K mg base "_law_made" f6 d6 ["side", "items", "sayings"] 7 (spD K (pMade C))) : FnOk P w K mg base CX0 8 f fd ["source", "most", "many", "prices"] (spD K (pWorld C)) := by
  refine F.ok sclaw_world (fun vs H Q E h => ?_) (fun cdv A outer s H vs Q E hr h => ?_)
  · obtain ⟨S, G, ds, q, _, r, ⟨s, c, most, many, prices, rfl, rfl, hm, hpr, hq⟩, _⟩ := h
    exact r.length
  · obtain ⟨S, G, ds, q, w0, r, ⟨s, c, most, many, prices, rfl, rfl, hm, hpr, hq⟩, k⟩ := h
    have hu := hu64 hr
    have hu1 := hu_of hr
    refine ⟨_, (pss_cons (ps_set (i := 4) sclaw_world.nd rfl (Or.inl rfl) (pe_call D1.F (hr.mono (by decide)) (by rfl) D1.g D1.kp D1.b .nil pass0 (pa_cons (pv 0) (pa_cons (pe_op op_plus pe_int (pe_call D2.F (hr.mono (by decide)) (by rfl) D2.g D2.kp D2.b .nil pass0 (pa_cons (pv 0) (pa_cons (pv 1) pa_nil)))) pa_nil))))
      (pss_cons (ps_par rfl sclaw_world.nd (i := 5) (j := 6) rfl rfl (by decide) rfl rfl (pa_cons (pe_call D4.F (hr.mono (by decide)) (by rfl) D4.g D4.kp D4.b .nil pass0 (pa_cons (pv 0) (pa_cons (pe_lst (pa_cons pe_str (pa_cons pe_str pa_nil))) pa_nil))) (pa_cons (pe_call D3.F (hr.mono (by decide)) (by rfl) D3.g D3.kp D3.b .nil pass0 (pa_cons (pv 0) (pa_cons (pv 4) pa_nil))) pa_nil)) rfl)
      (pss_cons (ps_set (i := 7) sclaw_world.nd rfl (Or.inl rfl) (pe_call D5.F (hr.mono (by decide)) (by rfl) D5.g D5.kp D5.b .nil pass0 (pa_cons (pv 0) (pa_cons (pv 5) (pa_cons (pv 6) (pa_cons (pe_call D2.F (hr.mono (by decide)) (by rfl) D2.g D2.kp D2.b .nil pass0 (pa_cons (pv 0) (pa_cons (pe_op op_plus (pv 2) pe_int) pa_nil))) pa_nil))))))
      (pss_cons (ps_set (i := 8) sclaw_world.nd rfl (Or.inl rfl) (pe_call D6.F (hr.mono (by decide)) (by rfl) D6.g D6.kp D6.b .nil pass0 (pa_cons (pv 5) (pa_cons (pe_lc (own := [("name", 9)]) (g := gName 9)  (tt := tYes) rfl sclaw_world.nd (pi_list (pv 4)) (blkOk_by (N := ["source", "most", "many", "prices", "names", "side", "order", "sayings", "world", "name"]) (sc := defScope slaw_world) (by decide +kernel)) (fun _ _ _ _ _ => (pg_name (i := 9) sclaw_world.nd rfl (Or.inl rfl))) (fun _ _ _ _ _ => pts_nil) (fun _ _ _ _ _ => (pe_tup (pa_cons (pv 9) (pa_cons (pe_call D4.F (hr.mono (by decide)) (by rfl) D4.g D4.kp D4.b .nil pass0 (pa_cons (pv 0) (pa_cons (pv 3) pa_nil))) pa_nil))))) (pa_cons (pv 7) pa_nil)))))
      (pss_one (ps_ret (pe_tup (pa_cons (pv 8) (pa_cons (pe_callTy (r := rTup K) call_tuple_of (by rfl) T.ntuple PyProof.Rows.boot_tuple (pa_cons (pv 6) pa_nil)) pa_nil))))))))), ?_⟩
    refine body_of w0 r k ?_

    obtain ⟨m1, m2, m3⟩ := hm
    obtain ⟨pr1, pr2, pr3⟩ := hpr
    refine ws_seq <| ws_asg <| we_call <| wa_cons <| we_var (by rfl) <| wa_cons <| we_op <| we_int <| we_call <| wa_cons <| we_var (by rfl) <| wa_cons <| we_var (by rfl) <| wa_nil ⟨s, c, most, rfl, rfl, by omega, by omega, fun kx k0 k1 => wp_i ?_⟩
    obtain ⟨kx, rfl⟩ := Int.eq_ofNat_of_zero_le k0
    rw [show (1 : Int) + (kx : Nat) = ((kx + 1 : Nat) : Int) by omega]
    refine wa_nil ⟨s, c, kx + 1, rfl, rfl, by omega, fun ns hnl hns => ?_⟩
    refine ws_seq <| ws_par <| wa_cons <| we_call <| wa_cons <| we_var (by rfl) <| wa_cons <| we_lst <| wa_cons <| we_str <| wa_cons <| we_str <| wa_nil ⟨Nat.le_of_ble_eq_true rfl, wa_nil ⟨s, c, _, rfl, rfl, by simp, Nat.le_of_ble_eq_true rfl, fun sd hsd => ?_⟩⟩
    obtain ⟨side, rfl, hside⟩ : ∃ side : Str, sd = .str side ∧ (side = cBEHIND ∨ side = cAHEAD) := by
      simp only [List.mem_cons, List.not_mem_nil, or_false] at hsd
      rcases hsd with rfl | rfl
      · exact ⟨_, rfl, .inl rfl⟩
      · exact ⟨_, rfl, .inr rfl⟩
    refine wa_cons <| we_call <| wa_cons <| we_var (by rfl) <| wa_cons <| we_var (by rfl) <| wa_nil ⟨s, c, _, ns.map .str, rfl, rfl, .inl rfl, by rw [List.length_map]; omega, fun ys hp => wa_nil ⟨_, _, rfl, ?_⟩⟩
    obtain ⟨o, ho, rfl⟩ := mixed_map hp
    have ond : o.Nodup := ho.nodup_iff.mpr hns.nd
    have ol : o.length = kx + 1 := by rw [ho.length_eq, hnl]
    refine ws_seq <| ws_asg <| we_call <| wa_cons <| we_var (by rfl) <| wa_cons <| we_var (by rfl) <| wa_cons <| we_var (by rfl) <| wa_cons <| we_call <| wa_cons <| we_var (by rfl) <| wa_cons <| we_op <| we_var (by rfl) <| we_int <| wp_i <| wa_nil ⟨s, c, _, rfl, rfl, by omega, by omega, fun m mm0 mm1 => ?_⟩
    obtain ⟨m, rfl⟩ := Int.eq_ofNat_of_zero_le mm0
    refine wa_nil ⟨s, c, side, o, m, rfl, rfl, ond, by omega, by omega, fun says hsl hsays => ?_⟩
    refine ws_seq <| ws_asg <| we_call <| wa_cons <| we_var (by rfl) <| wa_cons <| we_drawL (is := [9]) ns .str (fun ys out => ∃ its : List (Str × Int), out = its.map itemD ∧ its.map (·.1) = ys ∧ ∀ p ∈ its, p.2 ∈ prices) (fun i hi => by simpa using hi) <| wi_list <| we_var (by rfl) ⟨_, rfl, rfl, by omega, ⟨[], rfl, rfl, fun p h => by cases h⟩, ?_, ?_⟩
    · rintro ys x zs out hs _ ⟨its, rfl, rfl, hpp⟩
      refine wg_name <| we_tup <| wa_cons <| we_var (by rfl) <| wa_cons <| we_call <| wa_cons <| we_var (by rfl) <| wa_cons <| we_var (by rfl) <| wa_nil ⟨s, c, prices.map .int, rfl, rfl, by simpa using pr1, by rw [List.length_map]; omega, fun d hd => wa_nil ⟨Nat.le_of_ble_eq_true rfl, ?_⟩⟩
      obtain ⟨pr, hpr2, rfl⟩ := List.mem_map.mp hd
      refine ⟨its ++ [(x, pr)], by rw [List.map_append]; rfl, by rw [List.map_append]; rfl, fun p hp => ?_⟩
      rcases List.mem_append.mp hp with z | z
      · exact hpp p z
      · rw [List.mem_singleton.mp z]
        exact hpr2
    · rintro out hol ⟨its, rfl, hnm, hpp⟩
      have hitl : its.length = kx + 1 := by rw [← hnl, ← hnm, List.length_map]
      have hop : o.Perm (its.map (·.1)) := by rw [hnm]; exact ho
      have bk : BkOk side its says := ⟨hside, ⟨fun p hp => hns.ok _ (by rw [← hnm]; exact List.mem_map_of_mem hp), fun p hp => pr3 _ (hpp p hp), by rw [hnm]; exact hns.nd, by omega⟩, fun y hy => says_ok hop (hsays y hy)⟩
      refine wa_cons <| we_var (by rfl) <| wa_nil ⟨side, its, says, rfl, bk, ?_⟩
      refine ws_ret <| we_tup <| wa_cons <| we_var (by rfl) <| wa_cons <| we_cb <| wa_cons <| we_var (by rfl) <| wa_nil <| wc_tupleR (.inl rfl) <| wa_nil ⟨Nat.le_of_ble_eq_true rfl, ?_⟩
      refine hq side its says o ⟨bk, ⟨hop, ond, by omega, fun y hy => ⟨(hsays y hy).at_, (hsays y hy).oth.sub⟩⟩, kept_iff.mpr fun y hy => (hsays y hy).right⟩ (fun e => ?_) (by omega)
      rw [e] at hitl
      simp at hitl
/-! ### the law's own moving -/
def mvStep (n : Str) (p : Option Str) (x : Str) : List Str := (if !decide (x = n) then [x] else []) ++ (if decide (p = some x) then [n] else [])
def mvInit (n : Str) (p : Option Str) : List Str := match p with
  | none => [n]
  | some _ => []
theorem mv_none {n : Str} : ∀ {o : List Str}, o.flatMap (mvStep n none) = restL o n
  | [] => rfl
  | x :: o => by
    rw [List.flatMap_cons, mv_none]
    unfold mvStep restL
    rw [List.filter_cons]
    by_cases e : x = n <;> simp [e]
theorem mv_some {n y : Str} (hy : y ≠ n) : ∀ {o : List Str}, o.flatMap (mvStep n (some y)) = (restL o n).flatMap fun x => if x = y then [x, n] else [x]
  | [] => rfl
  | x :: o => by
    rw [List.flatMap_cons, mv_some hy]
    unfold mvStep restL
    rw [List.filter_cons]
    by_cases e : x = n
    · subst e
      simp [hy]
    · by_cases e2 : x = y
      · subst e2
        simp [e]
      · have : ¬ y = x := fun z => e2 z.symm
        simp [e, e2, this]
theorem mv_ins {n y : Str} : ∀ {r : List Str}, r.Nodup → y ∈ r → (r.flatMap fun x => if x = y then [x, n] else [x]) = r.take (r.idxOf y + 1) ++ [n] ++ r.drop (r.idxOf y + 1)
  | x :: r, nd, h => by
    rw [List.nodup_cons] at nd
    rw [List.flatMap_cons, List.idxOf_cons]
    by_cases e : x = y
    · subst e
      have hr : ∀ l : List Str, x ∉ l → (l.flatMap fun z => if z = x then [z, n] else [z]) = l := by
        intro l
        induction l with
        | nil => exact fun _ => rfl
        | cons a l ih =>
          intro hx
          have h1 : ¬ a = x := fun z => hx (by simp [z])
          rw [List.flatMap_cons, if_neg h1, ih fun z => hx (by simp [z])]
          rfl
      rw [hr r nd.1]
      simp
    · have e' : (x == y) = false := by simpa using e
      rw [e', if_neg e, mv_ins nd.2 ((List.mem_cons.mp h).resolve_left (Ne.symm e))]
      simp
theorem mv_eq {o : List Str} {d : Str × Option Str} (nd : o.Nodup) (hd : DeedIn o d) : mvInit d.1 d.2 ++ o.flatMap (mvStep d.1 d.2) = movedL o d := by
  obtain ⟨n, p⟩ := d
  cases p with
  | none =>
    show [n] ++ o.flatMap (mvStep n none) = _
    rw [mv_none]
    rfl
  | some y =>
    obtain ⟨h1, h2⟩ := hd.2 y rfl
    show [] ++ o.flatMap (mvStep n (some y)) = _
    have nr : (restL o n).Nodup := nd.sublist List.filter_sublist
    rw [List.nil_append, mv_some h2, mv_ins nr (mem_rest.mpr ⟨h1, h2⟩)]
    rfl
theorem we_times1 {S : Res} {Q : X3.D → Prop} {d : X3.D} {b : Bool} (q : Q (.list (if b = true then [d] else []))) : WR2 K S rTimes (.list [d]) (.int (if b = true then 1 else 0)) Q := by
  cases b with
  | true => exact wt_l (n := 1) (by decide) (by decide) (Nat.le_of_ble_eq_true rfl) q
  | false => exact wt_l (n := 0) (by decide) (by decide) (Nat.le_of_ble_eq_true rfl) q
theorem we_eqOS {S : Res} {Q : X3.D → Prop} {x : Str} {p : Option Str} (q : Q (.bl (decide (p = some x)))) : WR2 K S (rEqA K) (.str x) (optS p) Q := by
  cases p with
  | none =>
    refine wr_or1 fun G H vx vy k w dx dy c => ?_
    cases dx
    cases dy
    refine ⟨rfl, ?_⟩
    have e : decide (V.str x = V.non) = decide ((none : Option Str) = some x) := by rw [decide_eq_false (fun z => nomatch z), decide_eq_false (fun z => nomatch z)]
    rw [e]
    exact c _ _ G H (.refl w) (.bl _) q
  | some y =>
    refine we_eqS ?_
    have e : decide (x = y) = decide (some y = some x) := by
      by_cases h : x = y
      · simp [h]
      · have : ¬ y = x := fun z => h z.symm
        simp [h, this]
    rw [e]
    exact q
def pLMoved : Res → List X3.D → (X3.D → Prop) → Prop := fun _ ds q => ∃ (o : List Str) (d : Str × Option Str), ds = [strsD o, .str d.1, optS d.2] ∧ o.Nodup ∧ o.length ≤ 1000 ∧ DeedIn o d ∧ q (strsD (movedL o d))
theorem ok_law_moved {f : Addr} {fd : FuncData} (F : Fun K "_law_moved" "_law_moved" slaw_moved f fd) (T : Txt K mg tk) : FnOk P w K mg base CX0 1 f fd ["order", "name", "place"] (spD K (pLMoved)) := by
  refine F.ok sclaw_moved (fun vs H Q E h => ?_) (fun cdv A outer s H vs Q E hr h => ?_)
  · obtain ⟨S, G, ds, q, _, r, ⟨o, d, rfl, nd, hl, hd, hq⟩, _⟩ := h
    exact r.length
  · obtain ⟨S, G, ds, q, w0, r, ⟨o, d, rfl, nd, hl, hd, hq⟩, k⟩ := h
    have hu := hu64 hr
    have hu1 := hu_of hr
    refine ⟨_, (pss_cons (ps_set (i := 3) sclaw_moved.nd rfl (Or.inl rfl) (pe_ifExp (pt_cmpR op_notN (pv 2) pe_non (nomark _)) (pe_lst pa_nil) (pe_lst (pa_cons (pv 1) pa_nil))))
      (pss_cons (ps_for PassesOwn.never rfl (pi_tup (pv 0)) (pg_name (i := 4) sclaw_moved.nd rfl (Or.inl rfl)) (pss_one (ps_set (i := 3) sclaw_moved.nd rfl (Or.inl rfl) (pe_op op_plus (pe_op op_plus (pv 3) (pe_op op_times (pe_lst (pa_cons (pv 4) pa_nil)) (pe_callTy call_int1 (by rfl) T.nint PyProof.Rows.boot_int (pa_cons (pe_cmpR (r := rNeA K) (op_neA hu) (pv 4) (pv 1) (nomark _)) pa_nil)))) (pe_op op_times (pe_lst (pa_cons (pv 1) pa_nil)) (pe_callTy call_int1 (by rfl) T.nint PyProof.Rows.boot_int (pa_cons (pe_cmpR (r := rEqA K) (op_eqA hu) (pv 4) (pv 2) (nomark _)) pa_nil)))))))
      (pss_one (ps_ret (pe_callTy (r := rTup K) call_tuple_of (by rfl) T.ntuple PyProof.Rows.boot_tuple (pa_cons (pv 3) pa_nil)))))), ?_⟩
    refine body_of w0 r k ?_

    obtain ⟨n, p⟩ := d
    refine ws_seq <| ws_asg <| WE.imp (Q := fun d => d = .list ((mvInit n p).map .str)) ?_ ?_
    · refine we_if <| wt_test <| we_op <| we_var (by rfl) <| we_non <| wr_notN (optS_nv _) ⟨_, rfl, ?_⟩
      cases p with
      | none => exact iteE0 rfl (we_lst <| wa_cons <| we_var (by rfl) <| wa_nil ⟨Nat.le_of_ble_eq_true rfl, rfl⟩)
      | some y => exact iteE rfl (we_lst <| wa_nil ⟨Nat.le_of_ble_eq_true rfl, rfl⟩)
    rintro _ rfl
    have hil : (mvInit n p).length ≤ 1 := by cases p <;> simp [mvInit]
    refine ws_seq (ws_forT (is := [4]) o .str (fun ys ρ' μ' => ∃ x4, ρ' = [.dat (strsD o), .dat (.str n), .dat (optS p), .dat (.list ((mvInit n p ++ ys.flatMap (mvStep n p)).map .str)), x4] ∧ μ' = []) (wi_tup <| we_var (by rfl) ⟨_, rfl, rfl, ⟨_, by rw [List.flatMap_nil, List.append_nil]; rfl, rfl⟩, ?_, ?_⟩))
    · rintro ys x zs ρ' μ' hs ⟨x4, rfl, rfl⟩
      have hlen : (mvInit n p ++ ys.flatMap (mvStep n p)).length ≤ 1 + ys.length * 2 := by
        rw [List.length_append]
        have := flat_len (f := mvStep n p) (k := 2) (l := ys) fun x _ => by
          unfold mvStep
          split <;> split <;> simp
        omega
      have hys : ys.length ≤ o.length := by
        have := congrArg List.length hs
        simp at this
        omega
      refine wg_name <| ws_asg <| we_op <| we_op <| we_var (by rfl) <| we_op <| we_lst <| wa_cons <| we_var (by rfl) <| wa_nil ⟨Nat.le_of_ble_eq_true rfl, ?_⟩
      refine we_cb <| wa_cons <| we_op <| we_var (by rfl) <| we_var (by rfl) <| we_neS <| wa_nil <| wc_intb <| we_times1 <| wp_l ?_ ?_
      · rw [List.length_map]
        split
        · show _ + 1 ≤ 100000
          omega
        · show _ + 0 ≤ 100000
          omega
      refine we_op <| we_lst <| wa_cons <| we_var (by rfl) <| wa_nil ⟨Nat.le_of_ble_eq_true rfl, ?_⟩
      refine we_cb <| wa_cons <| we_op <| we_var (by rfl) <| we_var (by rfl) <| we_eqOS <| wa_nil <| wc_intb <| we_times1 <| wp_l ?_ ?_
      · rw [List.length_append, List.length_map]
        split <;> split
        · show _ + 1 + 1 ≤ 100000
          omega
        · show _ + 1 + 0 ≤ 100000
          omega
        · show _ + 0 + 1 ≤ 100000
          omega
        · show _ + 0 + 0 ≤ 100000
          omega
      refine ⟨.dat (.str x), ?_, rfl⟩
      have e : (mvInit n p ++ (ys ++ [x]).flatMap (mvStep n p)).map X3.D.str = (mvInit n p ++ ys.flatMap (mvStep n p)).map X3.D.str ++ (if (!decide (x = n)) = true then [X3.D.str x] else []) ++ (if decide (p = some x) = true then [X3.D.str n] else []) := by
        rw [List.flatMap_append, List.flatMap_cons, List.flatMap_nil, List.append_nil]
        unfold mvStep
        rw [List.map_append, List.map_append, List.map_append]
        have e1 : ∀ (b : Bool) (z : Str), (if b = true then [z] else []).map X3.D.str = if b = true then [X3.D.str z] else [] := fun b z => by cases b <;> rfl
        rw [List.map_append, e1, e1, List.append_assoc, List.append_assoc]
      rw [e]
      rfl
    · rintro ρ' μ' ⟨x4, rfl, rfl⟩
      refine ws_ret <| we_cb <| wa_cons <| we_var (by rfl) <| wa_nil <| wc_tupleR (.inl rfl) ?_
      rw [mv_eq nd hd]
      exact hq
end
end Tk

set_option Elab.async false
set_option linter.all false
set_option maxRecDepth 100000
set_option maxHeartbeats 4000000
namespace Tk
open PySem L2 X3
abbrev slaw_deeds : Stmt := topS 46
theorem sclaw_deeds : FnScope ["world", "order", "found", "name", "place", "late", "other"] ["world", "order"] (defScope slaw_deeds) := ⟨rfl, rfl, rfl, by decide +kernel, rfl, by decide +kernel, by decide +kernel⟩
abbrev slaw_stirred : Stmt := topS 47
theorem sclaw_stirred : FnScope ["source", "world", "order", "laps", "rows", "lap", "deed"] ["source", "world", "order", "laps"] (defScope slaw_stirred) := ⟨rfl, rfl, rfl, by decide +kernel, rfl, by decide +kernel, by decide +kernel⟩

theorem rng0 (n : Nat) : rng 0 n = (List.range n).map fun i => X3.D.int (i : Nat) := by
  unfold rng
  refine List.map_congr_left fun i _ => ?_
  rw [Int.zero_add]
/-- what the law's own look at a saying says -/
theorem right_min {o : List Str} {y : Str × List Str} (hin : y.1 ∈ o ∧ ∀ s ∈ y.2, s ∈ o) (own : y.1 ∉ y.2) {m : Int} (hm : m ∈ y.2.map fun s => ((o.idxOf s : Nat) : Int)) (hall : ∀ x ∈ y.2.map (fun s => ((o.idxOf s : Nat) : Int)), m ≤ x) :
    decide (m > ((o.idxOf y.1 : Nat) : Int)) = !rightB true o y := by
  unfold rightB
  rw [Bool.eq_iff_iff, decide_eq_true_iff, Bool.not_eq_true', List.any_eq_false]
  constructor
  · intro h s hs
    have := hall _ (List.mem_map_of_mem (f := fun s => ((o.idxOf s : Nat) : Int)) hs)
    have h2 : ¬ ((o.idxOf s : Int) < (o.idxOf y.1 : Nat)) := by omega
    simp [h2]
  · intro h
    obtain ⟨s, hs, rfl⟩ := List.mem_map.mp hm
    have h1 := h s hs
    have h2 : ¬ ((o.idxOf s : Int) < (o.idxOf y.1 : Nat)) := fun z => h1 (by simp [z])
    have h3 : o.idxOf s ≠ o.idxOf y.1 := fun z => by
      have a1 := idxOf_at (hin.2 s hs)
      have a2 := idxOf_at hin.1
      rw [z, a2] at a1
      have : y.1 = s := Option.some.inj a1
      exact own (this ▸ hs)
    omega
theorem right_max {o : List Str} {y : Str × List Str} (hin : y.1 ∈ o ∧ ∀ s ∈ y.2, s ∈ o) (own : y.1 ∉ y.2) {m : Int} (hm : m ∈ y.2.map fun s => ((o.idxOf s : Nat) : Int)) (hall : ∀ x ∈ y.2.map (fun s => ((o.idxOf s : Nat) : Int)), x ≤ m) :
    decide (m < ((o.idxOf y.1 : Nat) : Int)) = !rightB false o y := by
  unfold rightB
  rw [Bool.eq_iff_iff, decide_eq_true_iff, Bool.not_eq_true', List.any_eq_false]
  constructor
  · intro h s hs
    have := hall _ (List.mem_map_of_mem (f := fun s => ((o.idxOf s : Nat) : Int)) hs)
    have h2 : (o.idxOf s : Int) < (o.idxOf y.1 : Nat) := by omega
    simp [h2]
  · intro h
    obtain ⟨s, hs, rfl⟩ := List.mem_map.mp hm
    have h1 := h s hs
    by_cases z : (o.idxOf s : Int) < (o.idxOf y.1 : Nat)
    · exact z
    · exact absurd (by simp [z]) h1
def placesK (o : List Str) : List (Key × X3.D) := (List.range o.length).map fun i => (.inr (o.getD i ""), .int (i : Nat))
theorem placesK_keys {o : List Str} : (placesK o).map (·.1) = o.map Sum.inr := by
  unfold placesK
  rw [List.map_map]
  refine List.ext_getElem (by simp) fun i h1 h2 => ?_
  simp at h1
  simp [List.getElem?_eq_getElem h1]
theorem placesK_nd {o : List Str} (nd : o.Nodup) : ((placesK o).map (·.1)).Nodup := by
  rw [placesK_keys]
  exact List.pairwise_map.mpr (nd.imp fun {a b} hab e => hab (Sum.inr.inj e))
theorem placesK_merge {o : List Str} (nd : o.Nodup) : mergeD [] (placesK o) = placesK o := mergeD_nodup (acc := []) (placesK_nd nd)
theorem placesK_ok {o : List Str} (nd : o.Nodup) : PlOk o (placesK o) := fun n hn => by
  refine getK_of_nodup (placesK_nd nd) (List.mem_map.mpr ⟨o.idxOf n, List.mem_range.mpr (List.idxOf_lt_length_of_mem hn), ?_⟩)
  rw [List.getD_eq_getElem?_getD, idxOf_at hn]
  rfl
theorem side_ne : ¬ cAHEAD = cBEHIND := by decide +kernel
section
variable {P : Program} {w : World} {K : PySem.W.Frag} {mg : Str → Option Value} {tk : Nat → Tok} {base : Heap}
def pKeeps (C : Addr) : Res → List X3.D → (X3.D → Prop) → Prop := fun _ ds q => ∃ (side : Str) (its : List (Str × Int)) (says : List (Str × List Str)) (o : List Str), ds = [worldD C side its says, strsD o] ∧ BkOk side its says ∧ OrdIn its says o ∧ q (.bl (keptB side o says))
theorem ok_law_keeps {f : Addr} {fd : FuncData} (F : Fun K "_law_keeps" "_law_keeps" slaw_keeps f fd) (T : Txt K mg tk) : FnOk P w K mg base CX0 1 f fd ["world", "order"] (spD K (pKeeps C)) := by
  refine F.ok sclaw_keeps (fun vs H Q E h => ?_) (fun cdv A outer s H vs Q E hr h => ?_)
  · obtain ⟨S, G, ds, q, _, r, ⟨side, its, says, o, rfl, bk, ho, hq⟩, _⟩ := h
    exact r.length
  · obtain ⟨S, G, ds, q, w0, r, ⟨side, its, says, o, rfl, bk, ho, hq⟩, k⟩ := h
    have hu := hu64 hr
    have hu1 := hu_of hr
    refine ⟨_, (pss_cons (ps_set (i := 2) sclaw_keeps.nd rfl (Or.inr rfl) (pe_callTy (r := rDictP K) (call_dictP rfl) (by rfl) T.ndict PyProof.Rows.boot_dict (pa_cons (pe_lc (own := [("k", 6)]) (g := gName 6)  (tt := tYes) rfl sclaw_keeps.nd (pi_range1 (by rfl) T.nrange (pa_cons (pe_callB (r := rCount K) call_len (by rfl) T.nlen PySem.boot_len (pa_cons (pv 1) pa_nil)) pa_nil)) (blkOk_by (N := ["world", "order", "places", "name", "some", "near", "k", "other"]) (sc := defScope slaw_keeps) (by decide +kernel)) (fun _ _ _ _ _ => (pg_name (i := 6) sclaw_keeps.nd rfl (Or.inl rfl))) (fun _ _ _ _ _ => pts_nil) (fun _ _ _ _ _ => (pe_tup (pa_cons (pe_ix (r := rIx K) ix_seq (pv 1) (pv 6) (fun _ _ => rfl)) (pa_cons (pv 6) pa_nil))))) pa_nil)))
      (pss_cons (ps_for PassesOwn.never rfl (pi_list (pe_dget hu1 (pv 0) pe_str (fun _ _ => rfl))) (pg_tup rfl (pgs_cons (pg_name (i := 3) sclaw_keeps.nd rfl (Or.inl rfl)) (pgs_cons (pg_name (i := 4) sclaw_keeps.nd rfl (Or.inl rfl)) pgs_nil))) (pss_cons (ps_setLc (i := 5) (own := [("other", 7)]) (g := gName 7)  (tt := tYes) rfl sclaw_keeps.nd rfl rfl (by with_unfolding_all rfl) (pi_tup (pv 4)) (blkOk_by (N := ["world", "order", "places", "name", "some", "near", "k", "other"]) (sc := defScope slaw_keeps) (by decide +kernel)) (fun _ _ _ _ _ => (pg_name (i := 7) sclaw_keeps.nd rfl (Or.inl rfl))) (fun _ _ _ _ _ => pts_nil) (fun _ _ _ _ _ => (pe_dget hu1 (pv 2) (pv 7) (fun _ _ => rfl))))
      (pss_one (ps_if (PW.pt (pw_or (PW.pt (pw_and (pt_cmpR (r := rEqA K) (op_eqA hu) (pe_dget hu1 (pv 0) pe_str (fun _ _ => rfl)) pe_str (nomark _)) (pw_and1 (pt_cmpR op_gt (pe_callB (r := rMinI K) (call_minI rfl) (by rfl) T.nmin PyProof.Rows.boot_min (pa_cons (pv 5) pa_nil)) (pe_dget hu1 (pv 2) (pv 3) (fun _ _ => rfl)) (nomark _))))) (pw_or1 (PW.pt (pw_and (pt_cmpR (r := rEqA K) (op_eqA hu) (pe_dget hu1 (pv 0) pe_str (fun _ _ => rfl)) pe_str (nomark _)) (pw_and1 (pt_cmpR op_lt (pe_callB (r := rMaxI K) (call_maxI rfl) (by rfl) T.nmax PyProof.Rows.boot_max (pa_cons (pv 5) pa_nil)) (pe_dget hu1 (pv 2) (pv 3) (fun _ _ => rfl)) (nomark _)))))))) (pss_one (ps_ret pe_bl)) pss_nil))))
      (pss_one (ps_ret pe_bl)))), ?_⟩
    refine body_of w0 r k ?_

    have hol := ho.len
    -- places
    refine ws_seq <| ws_asg <| we_cb <| wa_cons <| we_mapY (is := [6]) (List.range o.length) (fun i => .int (i : Nat)) (fun i => .tup [.str (o.getD i ""), .int (i : Nat)]) (fun i hi => by simpa using hi) <| wi_rng1 <| wa_cons <| we_cb <| wa_cons <| we_var (by rfl) <| wa_nil <| wc_lenR (n := o.length) (by simp [LenD, strsD]) <| wa_nil ⟨o.length, rfl, by omega, by omega, ?_⟩
    refine ⟨by rw [Int.toNat_natCast, rng0], by rw [List.length_range]; omega, fun i hi => wg_name ?_, wa_nil ?_⟩
    · have hlt := List.mem_range.mp hi
      refine we_tup <| wa_cons <| we_op <| we_var (by rfl) <| we_var (by rfl) <| wr_ixT (d := .str (o.getD i "")) (atI_nat ?_) <| wa_cons <| we_var (by rfl) <| wa_nil ⟨Nat.le_of_ble_eq_true rfl, rfl⟩
      rw [List.getElem?_map, List.getElem?_eq_getElem hlt, List.getD_eq_getElem?_getD, List.getElem?_eq_getElem hlt]
      rfl
    rw [show ((List.range o.length).map fun i => X3.D.tup [.str (o.getD i ""), .int (i : Nat)]) = (placesK o).map fun kv => .tup [kD kv.1, kv.2] by unfold placesK; rw [List.map_map]; rfl]
    refine wc_dictP ?_
    rw [placesK_merge ho.nd]
    have pl := placesK_ok ho.nd
    refine ws_seq (ws_forT (is := [3, 4]) says sayD (fun ys ρ' μ' => (∀ y ∈ ys, rightB (decide (side = cBEHIND)) o y = true) ∧ μ' = [] ∧ ∃ x3 x4 x5, ρ' = [.dat (worldD C side its says), .dat (strsD o), .dat (.dict (placesK o)), x3, x4, x5, .no, .no]) (wi_list <| we_dget <| we_var (by rfl) <| we_str ⟨_, .inr "sayings", _, rfl, rfl, wk_says, _, rfl, rfl, ⟨fun y h => (by cases h), rfl, _, _, _, rfl⟩, ?_, ?_⟩))
    · rintro ys y zs ρ' μ' hs ⟨hall, rfl, x3, x4, x5, rfl⟩
      have hy : y ∈ says := by rw [hs]; simp
      have hin := ho.says y hy
      have ok := bk.says y hy
      refine wg_tup rfl (wgs_cons (wg_name (wgs_cons (wg_name (wgs_nil ?_)))))
      refine ws_seq <| ws_asg <| we_mapY (is := [7]) y.2 .str (fun s => .int (o.idxOf s : Nat)) (fun i hi => by simpa using hi) <| wi_tup <| we_var (by rfl) ⟨_, rfl, rfl, by have := ok.oth.few; omega, fun s hs => wg_name <| we_dget <| we_var (by rfl) <| we_var (by rfl) ⟨_, .inr s, _, rfl, rfl, pl s (hin.2 s hs), rfl⟩, ?_⟩
      rw [show (y.2.map fun s => X3.D.int (o.idxOf s : Nat)) = (y.2.map fun s => ((o.idxOf s : Nat) : Int)).map .int by rw [List.map_map]; rfl]
      have ne : (y.2.map fun s => ((o.idxOf s : Nat) : Int)) ≠ [] := by
        have := ok.ne
        simpa using this
      refine ws_if (WT.imp (Q := fun b => b = !rightB (decide (side = cBEHIND)) o y) ?_ ?_)
      · refine wt_or <| wt_and <| wt_test <| we_op <| we_dget <| we_var (by rfl) <| we_str ⟨_, .inr "side", _, rfl, rfl, wk_side, we_str <| we_eqS ⟨_, rfl, ?_⟩⟩
        rcases bk.side with hb | hb
        · refine iteD hb <| wt_test <| we_op <| we_cb <| wa_cons <| we_var (by rfl) <| wa_nil <| wc_minI ne fun m hm hmin => we_dget <| we_var (by rfl) <| we_var (by rfl) ⟨_, .inr y.1, _, rfl, rfl, pl _ hin.1, wr_ib (g := fun i j => decide (i > j)) ⟨_, rfl, ?_⟩⟩
          rw [right_min hin ok.oth.own hm hmin, decide_eq_true hb]
          cases e : rightB true o y with
          | false => exact iteNF rfl
          | true =>
            refine iteNT <| wt_and <| wt_test <| we_op <| we_dget <| we_var (by rfl) <| we_str ⟨_, .inr "side", _, rfl, rfl, wk_side, we_str <| we_eqS ⟨_, rfl, iteDN (fun z => ?_) rfl⟩⟩
            rw [hb] at z
            exact side_ne z.symm
        · have hnb : ¬ side = cBEHIND := fun z => side_ne (hb.symm.trans z)
          refine iteDN hnb <| iteF <| wt_and <| wt_test <| we_op <| we_dget <| we_var (by rfl) <| we_str ⟨_, .inr "side", _, rfl, rfl, wk_side, we_str <| we_eqS ⟨_, rfl, iteD hb ?_⟩⟩
          refine wt_test <| we_op <| we_cb <| wa_cons <| we_var (by rfl) <| wa_nil <| wc_maxI ne fun m hm hmax => we_dget <| we_var (by rfl) <| we_var (by rfl) ⟨_, .inr y.1, _, rfl, rfl, pl _ hin.1, wr_ib (g := fun i j => decide (i < j)) ⟨_, rfl, ?_⟩⟩
          rw [decide_eq_false hnb]
          exact right_max hin ok.oth.own hm hmax
      · rintro _ rfl
        cases e : rightB (decide (side = cBEHIND)) o y with
        | false =>
          refine iteNF (ws_ret (we_bl ?_))
          have : keptB side o says = false := by
            cases h : keptB side o says with
            | false => rfl
            | true =>
              rw [kept_iff.mp h y hy] at e
              cases e
          rw [this] at hq
          exact hq
        | true =>
          refine iteNT (ws_next ⟨fun z hz => ?_, rfl, _, _, _, rfl⟩)
          rcases List.mem_append.mp hz with h | h
          · exact hall z h
          · rw [List.mem_singleton.mp h]
            exact e
    · rintro ρ' μ' ⟨hall, rfl, x3, x4, x5, rfl⟩
      refine ws_ret (we_bl ?_)
      rw [kept_iff.mpr hall] at hq
      exact hq
end
end Tk

set_option Elab.async false
set_option linter.all false
set_option maxRecDepth 100000
set_option maxHeartbeats 4000000
namespace Tk
open PySem L2 X3
theorem all_mem {side : Str} {its : List (Str × Int)} {says : List (Str × List Str)} {o : List Str} {d : Str × Option Str} (ho : OrdIn its says o) (h : d ∈ allL side (its.map (·.1)) says o) : DeedIn o d ∧ keptB side (movedL o d) says = true := by
  obtain ⟨n, hn, h⟩ := List.mem_flatMap.mp h
  obtain ⟨p, hp, rfl⟩ := List.mem_map.mp h
  obtain ⟨hp, hk⟩ := List.mem_filter.mp hp
  refine ⟨⟨ho.perm.mem_iff.mpr hn, fun x hx => ?_⟩, hk⟩
  have hx' : p = some x := hx
  subst hx'
  have hm2 : some x ∈ (restL o n).map some := by simpa using hp
  obtain ⟨z, hz, e⟩ := List.mem_map.mp hm2
  cases e
  exact mem_rest.mp hz
theorem all_ne {side : Str} {its : List (Str × Int)} {says : List (Str × List Str)} {o : List Str} (h : WorldOk side its says o) (ne : its ≠ []) : allL side (its.map (·.1)) says o ≠ [] := by
  have hl : o.length = its.length := by rw [h.ord.perm.length_eq, List.length_map]
  cases o with
  | nil =>
    have : its.length = 0 := hl.symm
    exact absurd (List.length_eq_zero_iff.mp this) ne
  | cons n r =>
    have hm : movedL (n :: r) (n, none) = n :: r := by
      have : restL (n :: r) n = r := by
        unfold restL
        have nd := List.nodup_cons.mp h.ord.nd
        rw [List.filter_cons, if_neg (by simp), List.filter_eq_self.mpr fun x hx => by
          have : x ≠ n := fun z => nd.1 (z ▸ hx)
          simp [this]]
      unfold movedL
      dsimp only
      rw [this]
      rfl
    have hd : (n, none) ∈ allL side (its.map (·.1)) says (n :: r) := by
      refine List.mem_flatMap.mpr ⟨n, h.ord.perm.mem_iff.mp (by simp), List.mem_map.mpr ⟨none, List.mem_filter.mpr ⟨by simp, ?_⟩, rfl⟩⟩
      rw [hm]
      exact h.kept
    intro e
    rw [e] at hd
    cases hd
theorem WorldOk.moved {side : Str} {its : List (Str × Int)} {says : List (Str × List Str)} {o : List Str} {d : Str × Option Str} (h : WorldOk side its says o) (hd : d ∈ allL side (its.map (·.1)) says o) : WorldOk side its says (movedL o d) := by
  obtain ⟨h1, h2⟩ := all_mem h.ord hd
  exact ⟨h.bk, h.ord.moved h1.1, h2⟩
theorem all_len {side : Str} {its : List (Str × Int)} {says : List (Str × List Str)} {o : List Str} (ho : OrdIn its says o) (few : its.length ≤ 100) : (allL side (its.map (·.1)) says o).length ≤ 100 * 101 := by
  have hol : o.length ≤ 100 := by rw [ho.perm.length_eq, List.length_map]; exact few
  refine Nat.le_trans (flat_len (k := 101) fun x _ => Nat.le_trans ofName_len (by omega)) ?_
  rw [List.length_map]
  exact Nat.mul_le_mul_right _ few
def dlD (o : List Str) (d : Str × Option Str) : X3.D := .tup [deedD d, strsD (movedL o d)]
section
variable {P : Program} {w : World} {K : PySem.W.Frag} {mg : Str → Option Value} {tk : Nat → Tok} {base : Heap}
def pDeeds (C : Addr) : Res → List X3.D → (X3.D → Prop) → Prop := fun _ ds q => ∃ (side : Str) (its : List (Str × Int)) (says : List (Str × List Str)) (o : List Str), ds = [worldD C side its says, strsD o] ∧ BkOk side its says ∧ OrdIn its says o ∧ its.length ≤ 100 ∧ q (.list ((allL side (its.map (·.1)) says o).map (dlD o)))
theorem ok_law_deeds {f : Addr} {fd : FuncData} (F : Fun K "_law_deeds" "_law_deeds" slaw_deeds f fd) (T : Txt K mg tk) {f1 f2 : Addr} {d1 d2 : FuncData}
    (D1 : Prom P w K mg base "_law_moved" f1 d1 ["order", "name", "place"] 1 (spD K (pLMoved)))
    (D2 : Prom P w K mg base "_law_keeps" f2 d2 ["world", "order"] 1 (spD K (pKeeps C))) : FnOk P w K mg base CX0 2 f fd ["world", "order"] (spD K (pDeeds C)) := by
  refine F.ok sclaw_deeds (fun vs H Q E h => ?_) (fun cdv A outer s H vs Q E hr h => ?_)
  · obtain ⟨S, G, ds, q, _, r, ⟨side, its, says, o, rfl, bk, ho, hfew, hq⟩, _⟩ := h
    exact r.length
  · obtain ⟨S, G, ds, q, w0, r, ⟨side, its, says, o, rfl, bk, ho, hfew, hq⟩, k⟩ := h
    have hu := hu64 hr
    have hu1 := hu_of hr
    refine ⟨_, (pss_cons (ps_set (i := 2) sclaw_deeds.nd rfl (Or.inl rfl) (pe_lst pa_nil))
      (pss_cons (ps_for PassesOwn.never rfl (pi_list (pe_dget hu1 (pv 0) pe_str (fun _ _ => rfl))) (pg_name (i := 3) sclaw_deeds.nd rfl (Or.inr rfl)) (pss_one (ps_for PassesOwn.never rfl (pi_list (pe_op op_plus (pe_lst (pa_cons pe_non pa_nil)) (pe_lc (own := [("other", 6)]) (g := gName 6)  rfl sclaw_deeds.nd (pi_tup (pv 1)) (blkOk_by (N := ["world", "order", "found", "name", "place", "late", "other"]) (sc := defScope slaw_deeds) (by decide +kernel)) (fun _ _ _ _ _ => (pg_name (i := 6) sclaw_deeds.nd rfl (Or.inl rfl))) (fun _ _ _ _ _ => (pts_one (pt_cmpR op_ne (pv 6) (pv 3) (nomark _)))) (fun _ _ _ _ _ => (pv 6))))) (pg_name (i := 4) sclaw_deeds.nd rfl (Or.inl rfl)) (pss_cons (ps_set (i := 5) sclaw_deeds.nd rfl (Or.inl rfl) (pe_call D1.F (hr.mono (by decide)) (by rfl) D1.g D1.kp D1.b .nil pass0 (pa_cons (pv 1) (pa_cons (pv 3) (pa_cons (pv 4) pa_nil)))))
      (pss_one (ps_if (pt_val (pe_call D2.F (hr.mono (by decide)) (by rfl) D2.g D2.kp D2.b .nil pass0 (pa_cons (pv 0) (pa_cons (pv 5) pa_nil)))) (pss_one (ps_expr (show PE _ _ (tBM K "list" rAppend _ _) from pe_bm PySem.F.plainAttrs_list PySem.F.slot_list_append PySem.F.type_list_append mt_append (pv 2) (pa_cons (pe_tup (pa_cons (pe_tup (pa_cons (pv 3) (pa_cons (pv 4) pa_nil))) (pa_cons (pv 5) pa_nil))) pa_nil)))) pss_nil))))))
      (pss_one (ps_ret (pv 2))))), ?_⟩
    refine body_of w0 r k ?_

    have hol : o.length ≤ 100 := by rw [ho.perm.length_eq, List.length_map]; exact hfew
    refine ws_seq (ws_new ?_ (Nat.le_of_ble_eq_true rfl))
    refine ws_seq (ws_forT (is := [3]) (its.map (·.1)) .str (fun ys ρ' μ' => ∃ x3 x4 x5, ρ' = [.dat (worldD C side its says), .dat (strsD o), .own 0, x3, x4, x5, .no] ∧ μ' = [.lst ((ys.flatMap (ofName side says o)).map (dlD o))]) (wi_list <| we_dget <| we_var (by rfl) <| we_str ⟨_, .inr "names", _, rfl, rfl, wk_names, _, rfl, rfl, ⟨_, _, _, rfl, rfl⟩, ?_, ?_⟩))
    · rintro ys n zs ρ' μ' hs ⟨x3, x4, x5, rfl, rfl⟩
      have hn : n ∈ o := ho.perm.mem_iff.mpr (by rw [hs]; simp)
      have hlen : (ys.flatMap (ofName side says o)).length ≤ 100 * 101 := by
        refine Nat.le_trans (flat_len (k := 101) fun x _ => Nat.le_trans ofName_len (by omega)) ?_
        have : ys.length ≤ its.length := by
          have := congrArg List.length hs
          simp at this
          omega
        exact Nat.mul_le_mul_right _ (by omega)
      have hrl : (restL o n).length ≤ 100 := Nat.le_trans rest_len hol
      refine wg_name <| ws_forT (is := [4]) (none :: (restL o n).map some) optS (fun vs ρ' μ' => ∃ x4 x5, ρ' = [.dat (worldD C side its says), .dat (strsD o), .own 0, .dat (.str n), x4, x5, .no] ∧ μ' = [.lst ((ys.flatMap (ofName side says o)).map (dlD o) ++ ((vs.filter fun p => keptB side (movedL o (n, p)) says).map fun p => (n, p)).map (dlD o))]) (wi_list <| we_op <| we_lst <| wa_cons <| we_non <| wa_nil ⟨Nat.le_of_ble_eq_true rfl, ?_⟩)
      refine we_map (is := [6]) o .str .str (fun x => !decide (x = n)) (fun i hi => by simpa using hi) (wi_tup (we_var (by rfl) ⟨_, rfl, rfl, Nat.le_trans hol (by decide), fun x hx => wg_name ?_, ?_⟩))
      · exact wt_test (we_op (we_var (by rfl) (we_var (by rfl) (wr_neS ⟨_, rfl, rfl, fun _ => we_var (by rfl) rfl⟩))))
      refine wp_l (by show 1 + ((restL o n).map X3.D.str).length ≤ 100000; rw [List.length_map]; omega) ⟨_, rfl, places_eq, ⟨_, _, rfl, by simp⟩, ?_, ?_⟩
      · rintro us p vs ρ' μ' hp ⟨x4', x5', rfl, rfl⟩
        have hd : DeedIn o (n, p) := ⟨hn, fun x hx => by
          have hx' : p = some x := hx
          subst hx'
          have hm : some x ∈ none :: (restL o n).map some := by rw [hp]; simp
          have hm2 : some x ∈ (restL o n).map some := by simpa using hm
          obtain ⟨z, hz, e⟩ := List.mem_map.mp hm2
          cases e
          exact mem_rest.mp hz⟩
        have ho2 := ho.moved (d := (n, p)) hn
        have hul : us.length ≤ 101 := by
          have := congrArg List.length hp
          simp at this
          omega
        refine wg_name <| ws_seq <| ws_asg <| we_call (wa_cons (we_var (by rfl) (wa_cons (we_var (by rfl) (wa_cons (we_var (by rfl) (wa_nil ⟨o, (n, p), rfl, ho.nd, ho.len, hd, ?_⟩)))))))
        refine ws_if <| wt_b <| we_call (wa_cons (we_var (by rfl) (wa_cons (we_var (by rfl) (wa_nil ⟨side, its, says, _, rfl, bk, ho2, _, rfl, ?_⟩)))))
        cases e : keptB side (movedL o (n, p)) says with
        | true =>
          rw [if_pos rfl]
          refine ws_append (j := 0) (by rfl) (by rfl) ?_ (we_tup <| wa_cons <| we_tup (wa_cons (we_var (by rfl) (wa_cons (we_var (by rfl) (wa_nil ⟨Nat.le_of_ble_eq_true rfl, ?_⟩))))))
          · rw [List.length_append, List.length_map, List.length_map, List.length_map]
            have := List.length_filter_le (fun p => keptB side (movedL o (n, p)) says) us
            omega
          · exact wa_cons (we_var (by rfl) (wa_nil ⟨Nat.le_of_ble_eq_true rfl, _, _, rfl, by simp [e, dlD, deedD]⟩))
        | false =>
          rw [if_neg Bool.false_ne_true]
          exact ws_next ⟨_, _, rfl, by simp [e]⟩
      · rintro ρ' μ' ⟨x4', x5', rfl, rfl⟩
        exact ⟨_, _, _, rfl, by rw [List.flatMap_append]; simp [ofName]⟩
    · rintro ρ' μ' ⟨x3, x4, x5, rfl, rfl⟩
      refine ws_ret ?_
      exact we_var (by rfl) hq
/-- deeds that can be done, one after another -/
inductive Walk (side : Str) (its : List (Str × Int)) (says : List (Str × List Str)) (o : List Str) : List (Str × Option Str) → List Str → Prop
  | nil : Walk side its says o [] o
  | snoc {rows : List (Str × Option Str)} {o1 : List Str} {d : Str × Option Str} : Walk side its says o rows o1 → d ∈ allL side (its.map (·.1)) says o1 → Walk side its says o (rows ++ [d]) (movedL o1 d)
theorem Walk.ok {side : Str} {its : List (Str × Int)} {says : List (Str × List Str)} {o o1 : List Str} {rows : List (Str × Option Str)} (h : Walk side its says o rows o1) (ok : WorldOk side its says o) : WorldOk side its says o1 := by
  induction h with
  | nil => exact ok
  | snoc _ hd ih => exact ih.moved hd
def pStirred (C : Addr) : Res → List X3.D → (X3.D → Prop) → Prop := fun S ds q => ∃ (s c : Addr) (side : Str) (its : List (Str × Int)) (says : List (Str × List Str)) (o : List Str) (laps : Nat), S = srcR s c ∧ ds = [.val (.ref s), worldD C side its says, strsD o, .int (laps : Nat)] ∧ WorldOk side its says o ∧ its ≠ [] ∧ its.length ≤ 100 ∧ laps ≤ 1000 ∧
  ∀ rows o', Walk side its says o rows o' → rows.length ≤ laps → q (.tup [strsD o', .list (rows.map deedD)])
theorem ok_law_stirred {f : Addr} {fd : FuncData} (F : Fun K "_law_stirred" "_law_stirred" slaw_stirred f fd) (T : Txt K mg tk) {f1 f2 f3 : Addr} {d1 d2 d3 : FuncData}
    (D1 : Prom P w K mg base "_law_pick" f1 d1 ["source", "many"] 1 (spD K (pPick)))
    (D2 : Prom P w K mg base "_law_of" f2 d2 ["source", "some"] 2 (spD K (pOf)))
    (D3 : Prom P w K mg base "_law_deeds" f3 d3 ["world", "order"] 2 (spD K (pDeeds C))) : FnOk P w K mg base CX0 3 f fd ["source", "world", "order", "laps"] (spD K (pStirred C)) := by
  refine F.ok sclaw_stirred (fun vs H Q E h => ?_) (fun cdv A outer s H vs Q E hr h => ?_)
  · obtain ⟨S, G, ds, q, _, r, ⟨s, c, side, its, says, o, laps, rfl, rfl, ok, ne, hfew, hlap, hq⟩, _⟩ := h
    exact r.length
  · obtain ⟨S, G, ds, q, w0, r, ⟨s, c, side, its, says, o, laps, rfl, rfl, ok, ne, hfew, hlap, hq⟩, k⟩ := h
    have hu := hu64 hr
    have hu1 := hu_of hr
    refine ⟨_, (pss_cons (ps_set (i := 4) sclaw_stirred.nd rfl (Or.inl rfl) (pe_lst pa_nil))
      (pss_cons (ps_for PassesOwn.never rfl (pi_range1 (by rfl) T.nrange (pa_cons (pe_call D1.F (hr.mono (by decide)) (by rfl) D1.g D1.kp D1.b .nil pass0 (pa_cons (pv 0) (pa_cons (pe_op op_plus (pv 3) pe_int) pa_nil))) pa_nil)) (pg_name (i := 5) sclaw_stirred.nd rfl (Or.inl rfl)) (pss_cons (ps_asg (pe_call D2.F (hr.mono (by decide)) (by rfl) D2.g D2.kp D2.b .nil pass0 (pa_cons (pv 0) (pa_cons (pe_call D3.F (hr.mono (by decide)) (by rfl) D3.g D3.kp D3.b .nil pass0 (pa_cons (pv 1) (pa_cons (pv 2) pa_nil))) pa_nil))) (pg_tup rfl (pgs_cons (pg_name (i := 6) sclaw_stirred.nd rfl (Or.inl rfl)) (pgs_cons (pg_name (i := 2) sclaw_stirred.nd rfl (Or.inl rfl)) pgs_nil))))
      (pss_one (ps_expr (show PE _ _ (tBM K "list" rAppend _ _) from pe_bm PySem.F.plainAttrs_list PySem.F.slot_list_append PySem.F.type_list_append mt_append (pv 4) (pa_cons (pv 6) pa_nil))))))
      (pss_one (ps_ret (pe_tup (pa_cons (pv 2) (pa_cons (pv 4) pa_nil))))))), ?_⟩
    refine body_of w0 r k ?_

    refine ws_seq (ws_new ?_ (Nat.le_of_ble_eq_true rfl))
    refine ws_seq (ws_forM (is := [5]) (fun i : Nat => .int (i : Nat)) (fun j ρ' μ' => ∃ x5 x6 o1 rows, ρ' = [.dat (.val (.ref s)), .dat (worldD C side its says), .dat (strsD o1), .dat (.int (laps : Nat)), .own 0, x5, x6] ∧ μ' = [.lst (rows.map deedD)] ∧ Walk side its says o rows o1 ∧ rows.length = j ∧ j ≤ laps) (wi_rng1 <| wa_cons <| we_call <| wa_cons <| we_var (by rfl) <| wa_cons <| we_op <| we_var (by rfl) <| we_int <| wp_i <| wa_nil ⟨s, c, _, rfl, rfl, by omega, by omega, fun n n0 n1 => wa_nil ⟨n, rfl, by omega, by omega, ?_⟩⟩))
    obtain ⟨n, rfl⟩ := Int.eq_ofNat_of_zero_le n0
    refine ⟨List.range n, by rw [Int.toNat_natCast, rng0], ⟨_, _, o, [], rfl, rfl, .nil, rfl, Nat.zero_le _⟩, ?_, ?_⟩
    · rintro i x ρ' μ' hx ⟨x5, x6, o1, rows, rfl, rfl, hw, hl, _⟩
      have hi : i < n := by simpa using (List.getElem?_eq_some_iff.mp hx).1
      have ok1 := hw.ok ok
      refine wg_name <| ws_seq <| ws_asgT (is := [6, 2]) <| we_call <| wa_cons <| we_var (by rfl) <| wa_cons <| we_call (wa_cons (we_var (by rfl) (wa_cons (we_var (by rfl) (wa_nil ⟨side, its, says, o1, rfl, ok.bk, ok1.ord, hfew, wa_nil ⟨s, c, _, rfl, rfl, ?_, ?_, fun d hd => ?_⟩⟩)))))
      · have := all_ne ok1 ne
        simpa using this
      · rw [List.length_map]
        have := all_len (side := side) ok1.ord hfew
        omega
      · obtain ⟨dd, hdd, rfl⟩ := List.mem_map.mp hd
        refine wg_tup rfl (wgs_cons (wg_name (wgs_cons (wg_name (wgs_nil ?_)))))
        refine ws_append (j := 0) (by rfl) (by rfl) (by rw [List.length_map]; omega) (we_var (by rfl) ?_)
        exact ⟨_, _, _, rows ++ [dd], rfl, by rw [List.map_append]; rfl, hw.snoc hdd, by rw [List.length_append, List.length_singleton, hl], by omega⟩
    · rintro ρ' μ' ⟨x5, x6, o1, rows, rfl, rfl, hw, hl, hlaps⟩
      refine ws_ret <| we_tup <| wa_cons <| we_var (by rfl) <| wa_cons <| we_var (by rfl) <| wa_nil ⟨Nat.le_of_ble_eq_true rfl, ?_⟩
      exact hq rows o1 hw (by omega)
end
end Tk

set_option Elab.async false
set_option linter.all false
set_option maxRecDepth 100000
set_option maxHeartbeats 4000000
namespace Tk
open PySem L2 X3
abbrev slaw : Stmt := topS 48
theorem sclaw : FnScope ["script", "source", "lap", "world", "order", "due", "turn", "told", "deed", "late", "here", "behind"] ["script"] (defScope slaw) := ⟨rfl, rfl, rfl, by decide +kernel, rfl, by decide +kernel, by decide +kernel⟩

theorem letters_small : ∀ c ∈ cLETTERS.cps.toList, c < 1114112 := by decide +kernel
theorem digits_small : ∀ c ∈ cDIGITS.cps.toList, c < 1114112 := by decide +kernel
theorem WordOk.small {x : Str} (h : WordOk x) : ∀ c ∈ x.cps.toList, c < 1114112 := fun c hc => (h.all c hc).elim (letters_small c) (digits_small c)
structure Words (o : List Str) : Prop where
  ok : ∀ x ∈ o, WordOk x
theorem strs_lay {o : List Str} (h : Words o) : Lay 1 (strsD o) := Lay.tup fun d hd => by
  obtain ⟨x, hx, rfl⟩ := List.mem_map.mp hd
  exact Lay.str (h.ok x hx).small
theorem deed_lay {o : List Str} {d : Str × Option Str} (h : Words o) (hd : DeedIn o d) : Lay 1 (deedD d) := Lay.tup fun z hz => by
  rcases List.mem_cons.mp hz with rfl | hz
  · exact Lay.str (h.ok _ hd.1).small
  · rw [List.mem_singleton.mp hz]
    obtain ⟨n, p⟩ := d
    cases p with
    | none => exact Lay.non
    | some x => exact Lay.str (h.ok x (hd.2 x rfl).1).small
theorem deed_shw {o : List Str} {d : Str × Option Str} (h : Words o) (hd : DeedIn o d) : Shw 1 (2 * 13) (deedD d) := Shw.tup (k := 0) (b := 12) (ds := [.str d.1, optS d.2]) fun z hz => by
  rcases List.mem_cons.mp hz with rfl | hz
  · exact Shw.str (h.ok _ hd.1).small (h.ok _ hd.1).hi
  · rw [List.mem_singleton.mp hz]
    obtain ⟨n, p⟩ := d
    cases p with
    | none => exact Shw.non
    | some x => exact Shw.str (h.ok x (hd.2 x rfl).1).small (h.ok x (hd.2 x rfl).1).hi
theorem WorldOk.words {side : Str} {its : List (Str × Int)} {says : List (Str × List Str)} {o : List Str} (h : WorldOk side its says o) : Words o := ⟨fun x hx => by
  obtain ⟨p, hp, rfl⟩ := List.mem_map.mp (h.ord.perm.mem_iff.mp hx)
  exact h.bk.items.word p hp⟩
theorem all_len2 {side : Str} {its : List (Str × Int)} {says : List (Str × List Str)} {o : List Str} (ho : OrdIn its says o) (few : its.length ≤ 12) : (allL side (its.map (·.1)) says o).length ≤ 156 := by
  have hol : o.length ≤ 12 := by rw [ho.perm.length_eq, List.length_map]; exact few
  refine Nat.le_trans (flat_len (k := 13) fun x _ => Nat.le_trans ofName_len (by omega)) ?_
  rw [List.length_map]
  omega
theorem all_shw {side : Str} {its : List (Str × Int)} {says : List (Str × List Str)} {o : List Str} (ok : WorldOk side its says o) (few : its.length ≤ 12) : ShwOk (.list ((allL side (its.map (·.1)) says o).map deedD)) := by
  refine (Shw.list (k := 1) (b := 2 * 13) fun d hd => ?_).ok (by decide) ?_
  · obtain ⟨dd, h, rfl⟩ := List.mem_map.mp hd
    exact deed_shw ok.words (all_mem ok.ord h).1
  · rw [List.length_map]
    have := all_len2 (side := side) ok.ord few
    omega
theorem all_lay {side : Str} {its : List (Str × Int)} {says : List (Str × List Str)} {o : List Str} (ok : WorldOk side its says o) : Lay 2 (.list ((allL side (its.map (·.1)) says o).map deedD)) := Lay.list fun d hd => by
  obtain ⟨dd, h, rfl⟩ := List.mem_map.mp hd
  exact deed_lay ok.words (all_mem ok.ord h).1
theorem view_last {ρ : Rho} {μ : Mu} {i : Nat} {es : List X3.D} (h : ρ[i]? = some (.own μ.length)) : (view ρ (μ ++ [.lst es]))[i]? = some (.dat (.list es)) := by
  unfold view
  rw [List.getElem?_map, h]
  simp [viewD]
theorem dl_inj {o : List Str} (a b : Str × Option Str) (h : dlD o a = dlD o b) : deedD a = deedD b := by
  unfold dlD at h
  injection h with h
  injection h
def spLaw (K : PySem.W.Frag) : Sp := fun vs H Q _ => ∃ (a : Addr) (ns : List Int), vs = [.ref a] ∧ SqL K H a (ns.map V.int) ∧ ns.length ≤ 63 ∧ ∀ H', Q (.bl true) H'
theorem seq_call {sp : Sp} {E : XK} {rest : TS} {D : Ends} {σ : L2.St} {H : Hp} {x : V} (h0 : σ[0]? = some (some x)) (h : sp [x] H (fun v H1 => rest D (σ.set 1 (some v)) H1) E) : tSeq (tAsg (tCall sp [] E (tCons (tVar 0) tNil)) (gName 1)) rest D σ H := ⟨x, h0, h⟩
section
variable {P : Program} {w : World} {K : PySem.W.Frag} {mg : Str → Option Value} {tk : Nat → Tok} {base : Heap}
theorem ok_law {f : Addr} {fd : FuncData} (F : Fun K "law" "law" slaw f fd) (T : Txt K mg tk) (h1 : One base) {C : Addr} (cB : ClsB K C) {f1 f2 f3 f4 f5 f6 f7 f8 f9 : Addr} {d1 d2 d3 d4 d5 d6 d7 d8 d9 : FuncData}
    (D1 : Prom P w K mg base "_law_source" f1 d1 ["script"] 1 (spSource K))
    (D2 : Prom P w K mg base "_law_world" f2 d2 ["source", "most", "many", "prices"] 8 (spD K (pWorld C)))
    (D3 : Prom P w K mg base "_law_stirred" f3 d3 ["source", "world", "order", "laps"] 3 (spD K (pStirred C)))
    (D4 : Prom P w K mg base "_law_deeds" f4 d4 ["world", "order"] 2 (spD K (pDeeds C)))
    (D5 : Prom P w K mg base "all_deeds" f5 d5 ["book", "order"] 3 (spF K (pAll C)))
    (D6 : Prom P w K mg base "_law_mixed" f6 d6 ["source", "things"] 2 (spD K (pMixed)))
    (D7 : Prom P w K mg base "done" f7 d7 ["book", "order", "deed"] 4 (spD K (pDone C)))
    (D8 : Prom P w K mg base "_law_of" f8 d8 ["source", "some"] 2 (spD K (pOf)))
    (D9 : PromC P w K mg base "Book" C f9 d9 ["self", "side", "items", "sayings"] 5 (spNew K (pNew (K := K)))) : FnG P w K mg base CX0 9 f fd ["script"] (spLaw K) := by
  refine X3.Fun.okG F sclaw (fun vs H Q E h => ?_) (fun cdv A outer s0 H vs Q E hgu hr h => ?_)
  · obtain ⟨a, ns, rfl, _⟩ := h
    rfl
  · obtain ⟨a, ns, rfl, hS, hlen, k⟩ := h
    have hu := hu64 hr
    have hu1 := hu_of hr
    refine ⟨_, (pss_cons (ps_set (i := 1) sclaw.nd rfl (Or.inl rfl) (pe_call D1.F (hr.mono (by decide)) (by rfl) D1.g D1.kp D1.b .nil pass0 (pa_cons (pv 0) pa_nil)))
      (pss_cons (ps_for PassesOwn.never rfl (pi_range1 (by rfl) T.nrange (pa_cons pe_int pa_nil)) (pg_name (i := 2) sclaw.nd rfl (Or.inl rfl)) (pss_cons (ps_asg (pe_call D2.F (hr.mono (by decide)) (by rfl) D2.g D2.kp D2.b .nil pass0 (pa_cons (pv 1) (pa_cons (pe_ix (r := rIx K) ix_seq (pe_lst (pa_cons pe_int (pa_cons pe_int (pa_cons pe_int (pa_cons pe_int pa_nil))))) (pv 2) (fun _ _ => rfl)) (pa_cons pe_int (pa_cons (pe_lst (pa_cons pe_int (pa_cons pe_int (pa_cons pe_int pa_nil)))) pa_nil))))) (pg_tup rfl (pgs_cons (pg_name (i := 3) sclaw.nd rfl (Or.inl rfl)) (pgs_cons (pg_name (i := 4) sclaw.nd rfl (Or.inl rfl)) pgs_nil))))
      (pss_cons (ps_set (i := 4) sclaw.nd rfl (Or.inl rfl) (pe_ix (r := rIx K) ix_seq (pe_call D3.F (hr.mono (by decide)) (by rfl) D3.g D3.kp D3.b .nil pass0 (pa_cons (pv 1) (pa_cons (pv 3) (pa_cons (pv 4) (pa_cons pe_int pa_nil))))) pe_int (fun _ _ => rfl)))
      (pss_cons (ps_set (i := 5) sclaw.nd rfl (Or.inl rfl) (pe_call D4.F (hr.mono (by decide)) (by rfl) D4.g D4.kp D4.b .nil pass0 (pa_cons (pv 3) (pa_cons (pv 4) pa_nil))))
      (pss_cons (ps_for PassesOwn.never rfl (pi_range1 (by rfl) T.nrange (pa_cons pe_int pa_nil)) (pg_name (i := 6) sclaw.nd rfl (Or.inl rfl)) (pss_cons (ps_set (i := 7) sclaw.nd rfl (Or.inl rfl) (pe_call D5.F (hr.mono (by decide)) (by rfl) D5.g D5.kp D5.b .nil pass0 (pa_cons (pe_dget hu1 (pv 3) pe_str (fun _ _ => rfl)) (pa_cons (pv 4) pa_nil))))
      (pss_cons (ps_if (pt_cmpR (r := rNeA K) (op_neA hu) (pe_callB (r := rRepr K) (call_repr hgu hu h1) (by rfl) T.nrepr PyProof.Rows.boot_repr (pa_cons (pv 7) pa_nil)) (pe_callB (r := rRepr K) (call_repr hgu hu h1) (by rfl) T.nrepr PyProof.Rows.boot_repr (pa_cons (pe_lc (own := [("deed", 8), ("late", 9)]) (g := gTup K 2 (gCons (gName 8) (gCons (gName 9) gNil)))  (tt := tYes) rfl sclaw.nd (pi_list (pv 5)) (blkOk_by (N := ["script", "source", "lap", "world", "order", "due", "turn", "told", "deed", "late", "here", "behind"]) (sc := defScope slaw) (by decide +kernel)) (fun _ _ _ _ _ => (pg_tup rfl (pgs_cons (pg_name (i := 8) sclaw.nd rfl (Or.inl rfl)) (pgs_cons (pg_name (i := 9) sclaw.nd rfl (Or.inl rfl)) pgs_nil)))) (fun _ _ _ _ _ => pts_nil) (fun _ _ _ _ _ => (pv 8))) pa_nil)) (nomark _)) (pss_one (ps_ret pe_bl)) pss_nil)
      (pss_one (ps_expr (show PE _ _ (tBM K "list" rAppend _ _) from pe_bm PySem.F.plainAttrs_list PySem.F.slot_list_append PySem.F.type_list_append mt_append (pv 7) (pa_cons pe_non pa_nil)))))))
      (pss_cons (ps_for PassesOwn.never rfl (pi_list (pe_slice (r := rSlL K) sl_list (pe_call D6.F (hr.mono (by decide)) (by rfl) D6.g D6.kp D6.b .nil pass0 (pa_cons (pv 1) (pa_cons (pv 5) pa_nil))) po_none (po_some pe_int))) (pg_tup rfl (pgs_cons (pg_name (i := 8) sclaw.nd rfl (Or.inl rfl)) (pgs_cons (pg_name (i := 9) sclaw.nd rfl (Or.inl rfl)) pgs_nil))) (pss_one (ps_if (pt_cmpR (r := rNeA K) (op_neA hu) (pe_call D7.F (hr.mono (by decide)) (by rfl) D7.g D7.kp D7.b .nil pass0 (pa_cons (pe_dget hu1 (pv 3) pe_str (fun _ _ => rfl)) (pa_cons (pv 4) (pa_cons (pv 8) pa_nil)))) (pv 9) (nomark _)) (pss_one (ps_ret pe_bl)) pss_nil)))
      (pss_cons (ps_set (i := 9) sclaw.nd rfl (Or.inl rfl) (pe_ix (r := rIx K) ix_seq (pe_call D8.F (hr.mono (by decide)) (by rfl) D8.g D8.kp D8.b .nil pass0 (pa_cons (pv 1) (pa_cons (pv 5) pa_nil))) pe_int (fun _ _ => rfl)))
      (pss_one (ps_for PassesOwn.never rfl (pi_list (pe_lst (pa_cons (pv 9) (pa_cons (pv 4) pa_nil)))) (pg_name (i := 10) sclaw.nd rfl (Or.inl rfl)) (pss_one (ps_if (pt_cmpR (r := rNeA K) (op_neA hu) (pe_call D5.F (hr.mono (by decide)) (by rfl) D5.g D5.kp D5.b .nil pass0 (pa_cons (pe_dget hu1 (pv 3) pe_str (fun _ _ => rfl)) (pa_cons (pv 10) pa_nil))) (pe_lc (own := [("deed", 8), ("behind", 11)]) (g := gTup K 2 (gCons (gName 8) (gCons (gName 11) gNil)))  (tt := tYes) rfl sclaw.nd (pi_list (pe_call D4.F (hr.mono (by decide)) (by rfl) D4.g D4.kp D4.b .nil pass0 (pa_cons (pv 3) (pa_cons (pv 10) pa_nil)))) (blkOk_by (N := ["script", "source", "lap", "world", "order", "due", "turn", "told", "deed", "late", "here", "behind"]) (sc := defScope slaw) (by decide +kernel)) (fun _ _ _ _ _ => (pg_tup rfl (pgs_cons (pg_name (i := 8) sclaw.nd rfl (Or.inl rfl)) (pgs_cons (pg_name (i := 11) sclaw.nd rfl (Or.inl rfl)) pgs_nil)))) (fun _ _ _ _ _ => pts_nil) (fun _ _ _ _ _ => (pv 8))) (nomark _)) (pss_one (ps_ret pe_bl)) pss_nil)))))))))))
      (pss_one (ps_ret (pe_and (pe_cmpR (r := rEqA K) (op_eqA hu) (pe_call D5.F (hr.mono (by decide)) (by rfl) D5.g D5.kp D5.b .nil pass0 (pa_cons (pe_make D9.M D9.F (hr.mono (by decide)) (by rfl) D9.g D9.b .nil pass0 (pa_cons pe_str (pa_cons (pe_lst pa_nil) (pa_cons (pe_lst pa_nil) pa_nil)))) (pa_cons (pe_tup pa_nil) pa_nil))) (pe_lst pa_nil) (nomark _)) (pe_one (pe_cmpR (r := rEqA K) (op_eqA hu) (pe_call D5.F (hr.mono (by decide)) (by rfl) D5.g D5.kp D5.b .nil pass0 (pa_cons (pe_make D9.M D9.F (hr.mono (by decide)) (by rfl) D9.g D9.b .nil pass0 (pa_cons pe_str (pa_cons (pe_lst (pa_cons (pe_tup (pa_cons pe_str (pa_cons pe_int pa_nil))) pa_nil)) (pa_cons (pe_lst pa_nil) pa_nil)))) (pa_cons (pe_tup (pa_cons pe_str pa_nil)) pa_nil))) (pe_lst (pa_cons (pe_tup (pa_cons pe_str (pa_cons pe_non pa_nil))) pa_nil)) (nomark _)))))))), ?_⟩

    refine seq_call (x := .ref a) rfl ⟨a, ns, rfl, hS, hlen, fun s c' H' hs hc le sa => ?_⟩
    dsimp only
    refine ws_first (S := srcR s c') (K := K) (ρ := [.no, .dat (.val (.ref s)), .no, .no, .no, .no, .no, .no, .no, .no, .no, .no]) (q := fun d => d = .bl true) sa (by rfl) (fun i d e => ?h1) (fun i j e => ?h2) (fun v d G H2 dt e => ?h3) ?_
    case h3 =>
      subst e
      cases dt
      exact k H2
    case h1 => match i, e with
      | 0, e => cases e
      | 1, e => cases e; exact ⟨.ref s, rfl, fun G => .val _⟩
      | 2, e => cases e
      | 3, e => cases e
      | 4, e => cases e
      | 5, e => cases e
      | 6, e => cases e
      | 7, e => cases e
      | 8, e => cases e
      | 9, e => cases e
      | 10, e => cases e
      | 11, e => cases e
      | _ + 12, e => cases e
    case h2 => match i, e with
      | 0, e => cases e
      | 1, e => cases e
      | 2, e => cases e
      | 3, e => cases e
      | 4, e => cases e
      | 5, e => cases e
      | 6, e => cases e
      | 7, e => cases e
      | 8, e => cases e
      | 9, e => cases e
      | 10, e => cases e
      | 11, e => cases e
      | _ + 12, e => cases e
    refine ws_seq (ws_rng (is := [2]) 4 (fun i ρ' μ' => ∃ x0 x2 x3 x4 x5 x6 x7 x8 x9 x10 x11, ρ' = [x0, .dat (.val (.ref s)), x2, x3, x4, x5, x6, x7, x8, x9, x10, x11]) (wi_rng1 <| wa_cons <| we_int <| wa_nil ⟨4, rfl, by decide, by decide, rfl, ⟨_, _, _, _, _, _, _, _, _, _, _, rfl⟩, ?_, ?_⟩))
    · rintro i ρ' μ' hi ⟨x0, x2, x3, x4, x5, x6, x7, x8, x9, x10, x11, rfl⟩
      refine wg_name <| ws_seq <| ws_asgT (is := [3, 4]) <| we_call <| wa_cons <| we_var (by rfl) <| wa_cons <| we_op <| we_lst ?_
      repeat (first | (first | with_reducible refine we_op ?_ | with_reducible refine we_lst ?_ | with_reducible refine wa_cons ?_ | with_reducible refine wa_nil ?_ | with_reducible refine we_cb ?_ | with_reducible refine we_tup ?_ | with_reducible refine we_un ?_ | with_reducible refine we_int ?_ | with_reducible refine we_str ?_ | with_reducible refine we_bl ?_ | with_reducible refine we_non ?_ | with_reducible refine we_val ?_ | with_reducible refine we_chain ?_ | with_reducible refine we_andV ?_ | with_reducible refine we_orV ?_ | with_reducible refine we_notV ?_ | with_reducible refine we_if ?_ | with_reducible refine we_fld ?_ | with_reducible refine we_dget ?_ | with_reducible refine we_din ?_ | with_reducible refine we_dnotin ?_ | with_reducible refine wt_or ?_ | with_reducible refine wt_and ?_ | with_reducible refine wt_not ?_ | with_reducible refine wt_b ?_ | with_reducible refine wt_test ?_ | with_reducible refine wp_i ?_ | with_reducible refine wr_ib ?_ | with_reducible refine we_eqS ?_ | with_reducible refine we_neS ?_ | with_reducible refine we_eqI ?_ | with_reducible refine we_neI ?_ | with_reducible refine wp_l (Nat.le_of_ble_eq_true rfl) ?_ | with_reducible refine ⟨_, rfl, ?_⟩ | with_reducible refine iteT ?_ | with_reducible refine iteF ?_ | with_reducible refine iteNT ?_ | with_reducible refine iteNF ?_ | with_reducible refine wr_notN (fun u z => nomatch z) ?_ | with_reducible refine wr_isN (fun u z => nomatch z) ?_ | refine (And.intro (a := _ ≤ _) (Nat.le_of_ble_eq_true rfl) ?_) | refine we_var (by rfl) ?_))
      refine wr_ixAny (ds := [.int 3, .int 6, .int 9, .int 12]) (by omega) (by show (i : Int) < 4; omega) fun d hd => ?_
      obtain ⟨m, rfl, hm1, hm2⟩ : ∃ m : Nat, d = .int (m : Nat) ∧ 1 ≤ m ∧ m ≤ 12 := by
        simp only [List.mem_cons, List.not_mem_nil, or_false] at hd
        rcases hd with rfl | rfl | rfl | rfl
        · exact ⟨3, rfl, by omega, by omega⟩
        · exact ⟨6, rfl, by omega, by omega⟩
        · exact ⟨9, rfl, by omega, by omega⟩
        · exact ⟨12, rfl, by omega, by omega⟩
      repeat (first | (first | with_reducible refine we_op ?_ | with_reducible refine we_lst ?_ | with_reducible refine wa_cons ?_ | with_reducible refine wa_nil ?_ | with_reducible refine we_cb ?_ | with_reducible refine we_tup ?_ | with_reducible refine we_un ?_ | with_reducible refine we_int ?_ | with_reducible refine we_str ?_ | with_reducible refine we_bl ?_ | with_reducible refine we_non ?_ | with_reducible refine we_val ?_ | with_reducible refine we_chain ?_ | with_reducible refine we_andV ?_ | with_reducible refine we_orV ?_ | with_reducible refine we_notV ?_ | with_reducible refine we_if ?_ | with_reducible refine we_fld ?_ | with_reducible refine we_dget ?_ | with_reducible refine we_din ?_ | with_reducible refine we_dnotin ?_ | with_reducible refine wt_or ?_ | with_reducible refine wt_and ?_ | with_reducible refine wt_not ?_ | with_reducible refine wt_b ?_ | with_reducible refine wt_test ?_ | with_reducible refine wp_i ?_ | with_reducible refine wr_ib ?_ | with_reducible refine we_eqS ?_ | with_reducible refine we_neS ?_ | with_reducible refine we_eqI ?_ | with_reducible refine we_neI ?_ | with_reducible refine wp_l (Nat.le_of_ble_eq_true rfl) ?_ | with_reducible refine ⟨_, rfl, ?_⟩ | with_reducible refine iteT ?_ | with_reducible refine iteF ?_ | with_reducible refine iteNT ?_ | with_reducible refine iteNF ?_ | with_reducible refine wr_notN (fun u z => nomatch z) ?_ | with_reducible refine wr_isN (fun u z => nomatch z) ?_ | refine (And.intro (a := _ ≤ _) (Nat.le_of_ble_eq_true rfl) ?_) | refine we_var (by rfl) ?_))
      refine ⟨s, c', m, 12, [0, 1, 4], rfl, rfl, ⟨hm1, by omega, by omega⟩, ⟨by simp, by decide, by decide⟩, fun side its says o0 ok0 ne hfew => ?_⟩
      refine wg_tup rfl (wgs_cons (wg_name (wgs_cons (wg_name (wgs_nil ?_)))))
      -- order
      refine ws_seq <| ws_asg <| we_op <| we_call <| wa_cons <| we_var (by rfl) <| wa_cons <| we_var (by rfl) <| wa_cons <| we_var (by rfl) <| wa_cons <| we_int <| wa_nil ⟨s, c', side, its, says, o0, 5, rfl, rfl, ok0, ne, by omega, by omega, fun rows o hw _ => we_int <| wr_ixT (d := strsD o) rfl ?_⟩
      have ok := hw.ok ok0
      have hW := ok.words
      -- due
      refine ws_seq <| ws_asg <| we_call <| wa_cons <| we_var (by rfl) <| wa_cons <| we_var (by rfl) <| wa_nil ⟨side, its, says, o, rfl, ok.bk, ok.ord, by omega, ?_⟩
      have hal := all_len (side := side) ok.ord (show its.length ≤ 100 by omega)
      -- for turn
      refine ws_seq (ws_rng (is := [6]) 2 (fun j ρ' μ' => ∃ x6 x7 x8 x9 x10 x11, ρ' = [x0, .dat (.val (.ref s)), .dat (.int (i : Nat)), .dat (worldD C side its says), .dat (strsD o), .dat (.list ((allL side (its.map (·.1)) says o).map (dlD o))), x6, x7, x8, x9, x10, x11]) (wi_rng1 <| wa_cons <| we_int <| wa_nil ⟨2, rfl, by decide, by decide, rfl, ⟨_, _, _, _, _, _, rfl⟩, ?_, ?_⟩))
      · rintro j ρ' μ' hj ⟨x6, x7, x8, x9, x10, x11, rfl⟩
        refine wg_name <| ws_seq <| ws_asgF (Nat.le_of_ble_eq_true rfl) <| wa_cons <| we_dget <| we_var (by rfl) <| we_str ⟨_, .inr "book", _, rfl, rfl, wk_book, wa_cons <| we_var (by rfl) <| wa_nil ⟨side, its, says, o, rfl, ok.ord, by omega, ?_⟩⟩
        have shw := all_shw ok (by omega)
        refine ws_seq (ws_ifF ?_ (ws_next ?_))
        · refine wt_test <| we_op <| we_cb <| wa_cons <| we_var (view_last (by rfl)) <| wa_nil <| wc_repr (.inl ⟨_, rfl⟩) shw <| we_cb <| wa_cons <| we_mapE (is := [8, 9]) (dlD o) deedD dl_inj (fun i hi => by simpa using hi) <| wi_list <| we_var (by rfl) ⟨_, rfl, _, rfl, by omega, fun d hd => ?_, ?_⟩
          · refine wg_tup rfl (wgs_cons (wg_name (wgs_cons (wg_name (wgs_nil ?_)))))
            exact we_var (by rfl) rfl
          · exact wa_nil <| wc_repr (.inl ⟨_, rfl⟩) shw <| we_neS ⟨_, rfl, by simp⟩
        · refine ws_append (j := μ'.length) (by rfl) List.getElem?_concat_length (by rw [List.length_map]; omega) (we_non ?_)
          exact ⟨_, _, _, _, _, _, rfl⟩
      rintro ρ' μ' ⟨x6, x7, x8, x9, x10, x11, rfl⟩
      -- what is done
      refine ws_seq (ws_forM (is := [8, 9]) (dlD o) (fun j ρ' μ' => ∃ x6 x7 x8 x9 x10 x11, ρ' = [x0, .dat (.val (.ref s)), .dat (.int (i : Nat)), .dat (worldD C side its says), .dat (strsD o), .dat (.list ((allL side (its.map (·.1)) says o).map (dlD o))), x6, x7, x8, x9, x10, x11]) (wi_list <| we_slL <| we_call <| wa_cons <| we_var (by rfl) <| wa_cons <| we_var (by rfl) <| wa_nil ⟨s, c', _, _, rfl, rfl, .inl rfl, ?_, fun ys hp => ?_⟩))
      · rw [List.length_map]
        have := all_len2 (side := side) ok.ord (show its.length ≤ 12 by omega)
        omega
      obtain ⟨zs, hz, rfl⟩ := mixed_map hp
      refine wo_none <| wo_some <| we_int ⟨_, rfl, _, rfl, ?_⟩
      rw [show (6 : Int) = ((6 : Nat) : Int) from rfl, cut_to, ← List.map_take]
      refine ⟨_, rfl, zs.take 6, rfl, ⟨_, _, _, _, _, _, rfl⟩, ?_, ?_⟩
      · rintro j d ρ' μ' hd ⟨x6, x7, x8, x9, x10, x11, rfl⟩
        have hdm := hz.mem_iff.mp ((List.take_sublist _ _).mem (List.mem_of_getElem? hd))
        obtain ⟨hdi, hdk⟩ := all_mem ok.ord hdm
        refine wg_tup rfl (wgs_cons (wg_name (wgs_cons (wg_name (wgs_nil ?_)))))
        refine ws_ifF (wt_test <| we_op <| we_call <| wa_cons <| we_dget <| we_var (by rfl) <| we_str ⟨_, .inr "book", _, rfl, rfl, wk_book, (wa_cons (we_var (by rfl) (wa_cons (we_var (by rfl) (wa_nil ⟨side, its, says, o, d, rfl, ok.ord, hdi, hdk, we_var (by rfl) ?_⟩)))))⟩) (ws_next ⟨_, _, _, _, _, _, rfl⟩)
        have l1 := strs_lay (ok.moved hdm).words
        exact we_neD (l1.eq l1 (by decide) (by decide)) ⟨_, rfl, by rw [l1.refl]; rfl⟩
      rintro ρ' μ' ⟨x6, x7, x8, x9, x10, x11, rfl⟩
      -- late
      refine ws_seq <| ws_asg <| we_op <| we_call <| wa_cons <| we_var (by rfl) <| wa_cons <| we_var (by rfl) <| wa_nil ⟨s, c', _, rfl, rfl, ?_, ?_, fun d hd => ?_⟩
      · have := all_ne ok ne
        simpa using this
      · rw [List.length_map]
        omega
      obtain ⟨dd, hdd, rfl⟩ := List.mem_map.mp hd
      have ok2 := ok.moved hdd
      refine we_int <| wr_ixT (d := strsD (movedL o dd)) rfl ?_
      refine ws_forT (is := [10]) [movedL o dd, o] strsD (fun ys ρ' μ' => ∃ x6 x7 x8 x10 x11, ρ' = [x0, .dat (.val (.ref s)), .dat (.int (i : Nat)), .dat (worldD C side its says), .dat (strsD o), .dat (.list ((allL side (its.map (·.1)) says o).map (dlD o))), x6, x7, x8, .dat (strsD (movedL o dd)), x10, x11]) (wi_list <| we_lst <| wa_cons <| we_var (by rfl) <| wa_cons <| we_var (by rfl) <| wa_nil ⟨Nat.le_of_ble_eq_true rfl, _, rfl, rfl, ⟨_, _, _, _, _, rfl⟩, ?_, ?_⟩)
      · rintro ys x zs ρ' μ' hsx ⟨x6, x7, x8, x10, x11, rfl⟩
        have okx : WorldOk side its says x := by
          have hx : x ∈ [movedL o dd, o] := by rw [hsx]; simp
          rcases List.mem_cons.mp hx with rfl | hx
          · exact ok2
          · rw [List.mem_singleton.mp hx]
            exact ok
        have hal2 := all_len2 (side := side) okx.ord (show its.length ≤ 12 by omega)
        have l2 := all_lay okx
        refine wg_name <| ws_ifF (wt_test <| we_op <| we_callF <| wa_cons <| we_dget <| we_var (by rfl) <| we_str ⟨_, .inr "book", _, rfl, rfl, wk_book, wa_cons <| we_var (by rfl) <| wa_nil ⟨side, its, says, x, rfl, okx.ord, by omega, ?_⟩⟩) (ws_next ⟨_, _, _, _, _, rfl⟩)
        refine we_mapE (is := [8, 11]) (dlD x) deedD dl_inj (fun i hi => by simpa using hi) <| wi_list <| we_call <| wa_cons <| we_var (by rfl) <| wa_cons <| we_var (by rfl) <| wa_nil ⟨side, its, says, x, rfl, ok.bk, okx.ord, by omega, _, rfl, _, rfl, by omega, fun d hd => ?_, ?_⟩
        · refine wg_tup rfl (wgs_cons (wg_name (wgs_cons (wg_name (wgs_nil ?_)))))
          exact we_var (by rfl) rfl
        · exact we_neD (l2.eq l2 (by decide) (by decide)) ⟨_, rfl, by rw [l2.refl]; rfl⟩
      · rintro ρ' μ' ⟨x6, x7, x8, x10, x11, rfl⟩
        exact ⟨_, _, _, _, _, _, _, _, _, _, _, rfl⟩
    · rintro ρ' μ' ⟨x0, x2, x3, x4, x5, x6, x7, x8, x9, x10, x11, rfl⟩
      have ord0 : OrdIn [] [] ([] : List Str) := ⟨.refl _, List.nodup_nil, Nat.zero_le _, fun y h => by cases h⟩
      have ord1 : OrdIn [(("a" : Str), (0 : Int))] [] [("a" : Str)] := ⟨.refl _, by simp, by decide, fun y h => by cases h⟩
      have bk0 : BkOk cAHEAD [] [] := ⟨.inr rfl, ⟨fun p h => (by cases h), fun p h => (by cases h), List.nodup_nil, Nat.zero_le _⟩, fun y h => by cases h⟩
      have bk1 : BkOk cBEHIND [(("a" : Str), (0 : Int))] [] := by
        refine ⟨.inl rfl, ⟨fun p h => ?_, fun p h => ?_, by simp, by decide⟩, fun y h => by cases h⟩
        · rw [List.mem_singleton.mp h]
          exact wordB_ok (by decide +kernel)
        · rw [List.mem_singleton.mp h]
          exact Int.le_refl _
      have e0 : (allL cAHEAD ([].map fun x : Str × Int => x.1) [] []).map deedD = [] := rfl
      have e1 : allL cBEHIND ([(("a" : Str), (0 : Int))].map (·.1)) [] [("a" : Str)] = [(("a" : Str), (none : Option Str))] := by decide +kernel
      refine ws_ret <| we_andV <| we_op <| we_callF <| wa_cons <| we_make ?_
      repeat (first | (first | with_reducible refine we_op ?_ | with_reducible refine we_lst ?_ | with_reducible refine wa_cons ?_ | with_reducible refine wa_nil ?_ | with_reducible refine we_cb ?_ | with_reducible refine we_tup ?_ | with_reducible refine we_un ?_ | with_reducible refine we_int ?_ | with_reducible refine we_str ?_ | with_reducible refine we_bl ?_ | with_reducible refine we_non ?_ | with_reducible refine we_val ?_ | with_reducible refine we_chain ?_ | with_reducible refine we_andV ?_ | with_reducible refine we_orV ?_ | with_reducible refine we_notV ?_ | with_reducible refine we_if ?_ | with_reducible refine we_fld ?_ | with_reducible refine we_dget ?_ | with_reducible refine we_din ?_ | with_reducible refine we_dnotin ?_ | with_reducible refine wt_or ?_ | with_reducible refine wt_and ?_ | with_reducible refine wt_not ?_ | with_reducible refine wt_b ?_ | with_reducible refine wt_test ?_ | with_reducible refine wp_i ?_ | with_reducible refine wr_ib ?_ | with_reducible refine we_eqS ?_ | with_reducible refine we_neS ?_ | with_reducible refine we_eqI ?_ | with_reducible refine we_neI ?_ | with_reducible refine wp_l (Nat.le_of_ble_eq_true rfl) ?_ | with_reducible refine ⟨_, rfl, ?_⟩ | with_reducible refine iteT ?_ | with_reducible refine iteF ?_ | with_reducible refine iteNT ?_ | with_reducible refine iteNF ?_ | with_reducible refine wr_notN (fun u z => nomatch z) ?_ | with_reducible refine wr_isN (fun u z => nomatch z) ?_ | refine (And.intro (a := _ ≤ _) (Nat.le_of_ble_eq_true rfl) ?_) | refine we_var (by rfl) ?_))
      refine ⟨C, cAHEAD, [], [], rfl, cB, bk0, ?_⟩
      repeat (first | (first | with_reducible refine we_op ?_ | with_reducible refine we_lst ?_ | with_reducible refine wa_cons ?_ | with_reducible refine wa_nil ?_ | with_reducible refine we_cb ?_ | with_reducible refine we_tup ?_ | with_reducible refine we_un ?_ | with_reducible refine we_int ?_ | with_reducible refine we_str ?_ | with_reducible refine we_bl ?_ | with_reducible refine we_non ?_ | with_reducible refine we_val ?_ | with_reducible refine we_chain ?_ | with_reducible refine we_andV ?_ | with_reducible refine we_orV ?_ | with_reducible refine we_notV ?_ | with_reducible refine we_if ?_ | with_reducible refine we_fld ?_ | with_reducible refine we_dget ?_ | with_reducible refine we_din ?_ | with_reducible refine we_dnotin ?_ | with_reducible refine wt_or ?_ | with_reducible refine wt_and ?_ | with_reducible refine wt_not ?_ | with_reducible refine wt_b ?_ | with_reducible refine wt_test ?_ | with_reducible refine wp_i ?_ | with_reducible refine wr_ib ?_ | with_reducible refine we_eqS ?_ | with_reducible refine we_neS ?_ | with_reducible refine we_eqI ?_ | with_reducible refine we_neI ?_ | with_reducible refine wp_l (Nat.le_of_ble_eq_true rfl) ?_ | with_reducible refine ⟨_, rfl, ?_⟩ | with_reducible refine iteT ?_ | with_reducible refine iteF ?_ | with_reducible refine iteNT ?_ | with_reducible refine iteNF ?_ | with_reducible refine wr_notN (fun u z => nomatch z) ?_ | with_reducible refine wr_isN (fun u z => nomatch z) ?_ | refine (And.intro (a := _ ≤ _) (Nat.le_of_ble_eq_true rfl) ?_) | refine we_var (by rfl) ?_))
      refine ⟨cAHEAD, [], [], [], rfl, ord0, by decide, ?_⟩
      rw [e0]
      repeat (first | (first | with_reducible refine we_op ?_ | with_reducible refine we_lst ?_ | with_reducible refine wa_cons ?_ | with_reducible refine wa_nil ?_ | with_reducible refine we_cb ?_ | with_reducible refine we_tup ?_ | with_reducible refine we_un ?_ | with_reducible refine we_int ?_ | with_reducible refine we_str ?_ | with_reducible refine we_bl ?_ | with_reducible refine we_non ?_ | with_reducible refine we_val ?_ | with_reducible refine we_chain ?_ | with_reducible refine we_andV ?_ | with_reducible refine we_orV ?_ | with_reducible refine we_notV ?_ | with_reducible refine we_if ?_ | with_reducible refine we_fld ?_ | with_reducible refine we_dget ?_ | with_reducible refine we_din ?_ | with_reducible refine we_dnotin ?_ | with_reducible refine wt_or ?_ | with_reducible refine wt_and ?_ | with_reducible refine wt_not ?_ | with_reducible refine wt_b ?_ | with_reducible refine wt_test ?_ | with_reducible refine wp_i ?_ | with_reducible refine wr_ib ?_ | with_reducible refine we_eqS ?_ | with_reducible refine we_neS ?_ | with_reducible refine we_eqI ?_ | with_reducible refine we_neI ?_ | with_reducible refine wp_l (Nat.le_of_ble_eq_true rfl) ?_ | with_reducible refine ⟨_, rfl, ?_⟩ | with_reducible refine iteT ?_ | with_reducible refine iteF ?_ | with_reducible refine iteNT ?_ | with_reducible refine iteNF ?_ | with_reducible refine wr_notN (fun u z => nomatch z) ?_ | with_reducible refine wr_isN (fun u z => nomatch z) ?_ | refine (And.intro (a := _ ≤ _) (Nat.le_of_ble_eq_true rfl) ?_) | refine we_var (by rfl) ?_))
      refine we_eqD (x := .list []) (y := .list []) ⟨rfl, rfl, rfl, rfl⟩ ⟨_, rfl, iteE rfl ?_⟩
      refine we_op <| we_callF <| wa_cons <| we_make ?_
      repeat (first | (first | with_reducible refine we_op ?_ | with_reducible refine we_lst ?_ | with_reducible refine wa_cons ?_ | with_reducible refine wa_nil ?_ | with_reducible refine we_cb ?_ | with_reducible refine we_tup ?_ | with_reducible refine we_un ?_ | with_reducible refine we_int ?_ | with_reducible refine we_str ?_ | with_reducible refine we_bl ?_ | with_reducible refine we_non ?_ | with_reducible refine we_val ?_ | with_reducible refine we_chain ?_ | with_reducible refine we_andV ?_ | with_reducible refine we_orV ?_ | with_reducible refine we_notV ?_ | with_reducible refine we_if ?_ | with_reducible refine we_fld ?_ | with_reducible refine we_dget ?_ | with_reducible refine we_din ?_ | with_reducible refine we_dnotin ?_ | with_reducible refine wt_or ?_ | with_reducible refine wt_and ?_ | with_reducible refine wt_not ?_ | with_reducible refine wt_b ?_ | with_reducible refine wt_test ?_ | with_reducible refine wp_i ?_ | with_reducible refine wr_ib ?_ | with_reducible refine we_eqS ?_ | with_reducible refine we_neS ?_ | with_reducible refine we_eqI ?_ | with_reducible refine we_neI ?_ | with_reducible refine wp_l (Nat.le_of_ble_eq_true rfl) ?_ | with_reducible refine ⟨_, rfl, ?_⟩ | with_reducible refine iteT ?_ | with_reducible refine iteF ?_ | with_reducible refine iteNT ?_ | with_reducible refine iteNF ?_ | with_reducible refine wr_notN (fun u z => nomatch z) ?_ | with_reducible refine wr_isN (fun u z => nomatch z) ?_ | refine (And.intro (a := _ ≤ _) (Nat.le_of_ble_eq_true rfl) ?_) | refine we_var (by rfl) ?_))
      refine ⟨C, cBEHIND, [("a", 0)], [], rfl, cB, bk1, ?_⟩
      repeat (first | (first | with_reducible refine we_op ?_ | with_reducible refine we_lst ?_ | with_reducible refine wa_cons ?_ | with_reducible refine wa_nil ?_ | with_reducible refine we_cb ?_ | with_reducible refine we_tup ?_ | with_reducible refine we_un ?_ | with_reducible refine we_int ?_ | with_reducible refine we_str ?_ | with_reducible refine we_bl ?_ | with_reducible refine we_non ?_ | with_reducible refine we_val ?_ | with_reducible refine we_chain ?_ | with_reducible refine we_andV ?_ | with_reducible refine we_orV ?_ | with_reducible refine we_notV ?_ | with_reducible refine we_if ?_ | with_reducible refine we_fld ?_ | with_reducible refine we_dget ?_ | with_reducible refine we_din ?_ | with_reducible refine we_dnotin ?_ | with_reducible refine wt_or ?_ | with_reducible refine wt_and ?_ | with_reducible refine wt_not ?_ | with_reducible refine wt_b ?_ | with_reducible refine wt_test ?_ | with_reducible refine wp_i ?_ | with_reducible refine wr_ib ?_ | with_reducible refine we_eqS ?_ | with_reducible refine we_neS ?_ | with_reducible refine we_eqI ?_ | with_reducible refine we_neI ?_ | with_reducible refine wp_l (Nat.le_of_ble_eq_true rfl) ?_ | with_reducible refine ⟨_, rfl, ?_⟩ | with_reducible refine iteT ?_ | with_reducible refine iteF ?_ | with_reducible refine iteNT ?_ | with_reducible refine iteNF ?_ | with_reducible refine wr_notN (fun u z => nomatch z) ?_ | with_reducible refine wr_isN (fun u z => nomatch z) ?_ | refine (And.intro (a := _ ≤ _) (Nat.le_of_ble_eq_true rfl) ?_) | refine we_var (by rfl) ?_))
      refine ⟨cBEHIND, [("a", 0)], [], ["a"], rfl, ord1, by decide, ?_⟩
      rw [e1]
      repeat (first | (first | with_reducible refine we_op ?_ | with_reducible refine we_lst ?_ | with_reducible refine wa_cons ?_ | with_reducible refine wa_nil ?_ | with_reducible refine we_cb ?_ | with_reducible refine we_tup ?_ | with_reducible refine we_un ?_ | with_reducible refine we_int ?_ | with_reducible refine we_str ?_ | with_reducible refine we_bl ?_ | with_reducible refine we_non ?_ | with_reducible refine we_val ?_ | with_reducible refine we_chain ?_ | with_reducible refine we_andV ?_ | with_reducible refine we_orV ?_ | with_reducible refine we_notV ?_ | with_reducible refine we_if ?_ | with_reducible refine we_fld ?_ | with_reducible refine we_dget ?_ | with_reducible refine we_din ?_ | with_reducible refine we_dnotin ?_ | with_reducible refine wt_or ?_ | with_reducible refine wt_and ?_ | with_reducible refine wt_not ?_ | with_reducible refine wt_b ?_ | with_reducible refine wt_test ?_ | with_reducible refine wp_i ?_ | with_reducible refine wr_ib ?_ | with_reducible refine we_eqS ?_ | with_reducible refine we_neS ?_ | with_reducible refine we_eqI ?_ | with_reducible refine we_neI ?_ | with_reducible refine wp_l (Nat.le_of_ble_eq_true rfl) ?_ | with_reducible refine ⟨_, rfl, ?_⟩ | with_reducible refine iteT ?_ | with_reducible refine iteF ?_ | with_reducible refine iteNT ?_ | with_reducible refine iteNF ?_ | with_reducible refine wr_notN (fun u z => nomatch z) ?_ | with_reducible refine wr_isN (fun u z => nomatch z) ?_ | refine (And.intro (a := _ ≤ _) (Nat.le_of_ble_eq_true rfl) ?_) | refine we_var (by rfl) ?_))
      refine we_eqD (x := .list [.tup [.str "a", .non]]) (y := .list [.tup [.str "a", .non]]) ⟨rfl, rfl, by decide +kernel, by decide +kernel⟩ ?_
      have e2 : PyData.eqv (D.pd (.list [.tup [.str "a", .non]])) (D.pd (.list [.tup [.str "a", .non]])) = true := by decide +kernel
      rw [e2]
end
end Tk

set_option Elab.async false
set_option linter.all false
set_option maxRecDepth 100000
set_option maxHeartbeats 8000000
set_option pp.maxSteps 300
namespace Tk
open PySem L2 X3
def tkF (t0 t1 t2 t3 t4 : Tok) : Nat → Tok
  | 0 => t0
  | 1 => t1
  | 2 => t2
  | 3 => t3
  | _ => t4
theorem all_mk {l : PySem.W.OpenLaw} {w : World} {K : PySem.W.Frag} {h : Heap} {mg : Str → Option Value} {fa C f0 f1 f2 f3 f4 f5 f6 f7 f8 f9 f10 f11 f12 f13 f14 f15 f16 f17 f18 f19 f20 f21 f22 f23 f24 f25 f26 f27 f28 f29 f30 f31 f32 f33 f34 : Addr} {t0 t1 t2 t3 t4 : Tok} (X : K.In h) (G : h.Ns mainGlobals mg) (hfa : mg "law" = some (.ref fa))
    {oc0 kV0 dc0 pm0 cd0 ct0 : Value} {od0 an0 : Option Addr} {sl0 : Array (Option Value)}
    {oc1 kV1 dc1 pm1 cd1 ct1 : Value} {od1 an1 : Option Addr} {sl1 : Array (Option Value)}
    {oc2 kV2 dc2 pm2 cd2 ct2 : Value} {od2 an2 : Option Addr} {sl2 : Array (Option Value)}
    {oc3 kV3 dc3 pm3 cd3 ct3 : Value} {od3 an3 : Option Addr} {sl3 : Array (Option Value)}
    {oc4 kV4 dc4 pm4 cd4 ct4 : Value} {od4 an4 : Option Addr} {sl4 : Array (Option Value)}
    {oc5 kV5 dc5 pm5 cd5 ct5 : Value} {od5 an5 : Option Addr} {sl5 : Array (Option Value)}
    {oc6 kV6 dc6 pm6 cd6 ct6 : Value} {od6 an6 : Option Addr} {sl6 : Array (Option Value)}
    {oc7 kV7 dc7 pm7 cd7 ct7 : Value} {od7 an7 : Option Addr} {sl7 : Array (Option Value)}
    {oc8 kV8 dc8 pm8 cd8 ct8 : Value} {od8 an8 : Option Addr} {sl8 : Array (Option Value)}
    {oc9 kV9 dc9 pm9 cd9 ct9 : Value} {od9 an9 : Option Addr} {sl9 : Array (Option Value)}
    {oc10 kV10 dc10 pm10 cd10 ct10 : Value} {od10 an10 : Option Addr} {sl10 : Array (Option Value)}
    {oc11 kV11 dc11 pm11 cd11 ct11 : Value} {od11 an11 : Option Addr} {sl11 : Array (Option Value)}
    {oc12 kV12 dc12 pm12 cd12 ct12 : Value} {od12 an12 : Option Addr} {sl12 : Array (Option Value)}
    {oc13 kV13 dc13 pm13 cd13 ct13 : Value} {od13 an13 : Option Addr} {sl13 : Array (Option Value)}
    {oc14 kV14 dc14 pm14 cd14 ct14 : Value} {od14 an14 : Option Addr} {sl14 : Array (Option Value)}
    {oc15 kV15 dc15 pm15 cd15 ct15 : Value} {od15 an15 : Option Addr} {sl15 : Array (Option Value)}
    {oc16 kV16 dc16 pm16 cd16 ct16 : Value} {od16 an16 : Option Addr} {sl16 : Array (Option Value)}
    {oc17 kV17 dc17 pm17 cd17 ct17 : Value} {od17 an17 : Option Addr} {sl17 : Array (Option Value)}
    {oc18 kV18 dc18 pm18 cd18 ct18 : Value} {od18 an18 : Option Addr} {sl18 : Array (Option Value)}
    {oc19 kV19 dc19 pm19 cd19 ct19 : Value} {od19 an19 : Option Addr} {sl19 : Array (Option Value)}
    {oc20 kV20 dc20 pm20 cd20 ct20 : Value} {od20 an20 : Option Addr} {sl20 : Array (Option Value)}
    {oc21 kV21 dc21 pm21 cd21 ct21 : Value} {od21 an21 : Option Addr} {sl21 : Array (Option Value)}
    {oc22 kV22 dc22 pm22 cd22 ct22 : Value} {od22 an22 : Option Addr} {sl22 : Array (Option Value)}
    {oc23 kV23 dc23 pm23 cd23 ct23 : Value} {od23 an23 : Option Addr} {sl23 : Array (Option Value)}
    {oc24 kV24 dc24 pm24 cd24 ct24 : Value} {od24 an24 : Option Addr} {sl24 : Array (Option Value)}
    {oc25 kV25 dc25 pm25 cd25 ct25 : Value} {od25 an25 : Option Addr} {sl25 : Array (Option Value)}
    {oc26 kV26 dc26 pm26 cd26 ct26 : Value} {od26 an26 : Option Addr} {sl26 : Array (Option Value)}
    {oc27 kV27 dc27 pm27 cd27 ct27 : Value} {od27 an27 : Option Addr} {sl27 : Array (Option Value)}
    {oc28 kV28 dc28 pm28 cd28 ct28 : Value} {od28 an28 : Option Addr} {sl28 : Array (Option Value)}
    {oc29 kV29 dc29 pm29 cd29 ct29 : Value} {od29 an29 : Option Addr} {sl29 : Array (Option Value)}
    {oc30 kV30 dc30 pm30 cd30 ct30 : Value} {od30 an30 : Option Addr} {sl30 : Array (Option Value)}
    {oc31 kV31 dc31 pm31 cd31 ct31 : Value} {od31 an31 : Option Addr} {sl31 : Array (Option Value)}
    {oc32 kV32 dc32 pm32 cd32 ct32 : Value} {od32 an32 : Option Addr} {sl32 : Array (Option Value)}
    {oc33 kV33 dc33 pm33 cd33 ct33 : Value} {od33 an33 : Option Addr} {sl33 : Array (Option Value)}
    {oc34 kV34 dc34 pm34 cd34 ct34 : Value} {od34 an34 : Option Addr} {sl34 : Array (Option Value)}
    (aC : PySem.W.nsIn K mainGlobals "Book" = some (some (.ref C)))
    (pg : PySem.W.plainGet K C Str.empty = true)
    (hdd : PySem.W.hasDictIn K C = true)
    (po : PySem.W.plainOver K C = true)
    (sa : PySem.W.findIn K (.ref C) "__setattr__" = some (some (.builtin "object.__setattr__")))
    (mk : PySem.W.makesIn K C = true)
    (kc : PySem.W.keepIn K (.ref C) = true)
    (n_side : PySem.W.findIn K (.ref C) "_side" = some none)
    (n_items : PySem.W.findIn K (.ref C) "_items" = some none)
    (n_sayings : PySem.W.findIn K (.ref C) "_sayings" = some none)
    (n_prices : PySem.W.findIn K (.ref C) "_prices" = some none)
    (nabs : PySem.W.nsIn K mainGlobals "abs" = some none)
    (nall : PySem.W.nsIn K mainGlobals "all" = some none)
    (nbool : PySem.W.nsIn K mainGlobals "bool" = some none)
    (ndict : PySem.W.nsIn K mainGlobals "dict" = some none)
    (nenumerate : PySem.W.nsIn K mainGlobals "enumerate" = some none)
    (nint : PySem.W.nsIn K mainGlobals "int" = some none)
    (nisinstance : PySem.W.nsIn K mainGlobals "isinstance" = some none)
    (nlen : PySem.W.nsIn K mainGlobals "len" = some none)
    (nlist : PySem.W.nsIn K mainGlobals "list" = some none)
    (nmax : PySem.W.nsIn K mainGlobals "max" = some none)
    (nmin : PySem.W.nsIn K mainGlobals "min" = some none)
    (nrange : PySem.W.nsIn K mainGlobals "range" = some none)
    (nrepr : PySem.W.nsIn K mainGlobals "repr" = some none)
    (nset : PySem.W.nsIn K mainGlobals "set" = some none)
    (nstr : PySem.W.nsIn K mainGlobals "str" = some none)
    (ntuple : PySem.W.nsIn K mainGlobals "tuple" = some none)
    (gLETTERS : PySem.W.nsIn K mainGlobals "LETTERS" = some (some (.str cLETTERS t0)))
    (gDIGITS : PySem.W.nsIn K mainGlobals "DIGITS" = some (some (.str cDIGITS t1)))
    (gBEHIND : PySem.W.nsIn K mainGlobals "BEHIND" = some (some (.str cBEHIND t2)))
    (gAHEAD : PySem.W.nsIn K mainGlobals "AHEAD" = some (some (.str cAHEAD t3)))
    (gLONGEST : PySem.W.nsIn K mainGlobals "LONGEST" = some (some (.int cLONGEST t4)))
    (a0 : PySem.W.nsIn K mainGlobals "_law_source" = some (some (.ref f0)))
    (l0 : K.lookup f0 = some ⟨oc0, od0, .func (PySem.W.fnOf "_law_source" "_law_source" (defArgs sSource) (defBody sSource) (defScope sSource) .none kV0 dc0 pm0 an0 cd0 ct0), sl0⟩)
    (c_0 : PySem.W.codeIn K cd0 "_law_source" = true)
    (k_0 : PySem.W.keepIn K (.ref f0) = true)
    (a1 : PySem.W.nsIn K mainGlobals "_law_pick" = some (some (.ref f1)))
    (l1 : K.lookup f1 = some ⟨oc1, od1, .func (PySem.W.fnOf "_law_pick" "_law_pick" (defArgs sPick) (defBody sPick) (defScope sPick) .none kV1 dc1 pm1 an1 cd1 ct1), sl1⟩)
    (c_1 : PySem.W.codeIn K cd1 "_law_pick" = true)
    (k_1 : PySem.W.keepIn K (.ref f1) = true)
    (a2 : PySem.W.nsIn K mainGlobals "_law_mixed" = some (some (.ref f2)))
    (l2 : K.lookup f2 = some ⟨oc2, od2, .func (PySem.W.fnOf "_law_mixed" "_law_mixed" (defArgs slaw_mixed) (defBody slaw_mixed) (defScope slaw_mixed) .none kV2 dc2 pm2 an2 cd2 ct2), sl2⟩)
    (c_2 : PySem.W.codeIn K cd2 "_law_mixed" = true)
    (k_2 : PySem.W.keepIn K (.ref f2) = true)
    (a3 : PySem.W.nsIn K mainGlobals "_law_names" = some (some (.ref f3)))
    (l3 : K.lookup f3 = some ⟨oc3, od3, .func (PySem.W.fnOf "_law_names" "_law_names" (defArgs slaw_names) (defBody slaw_names) (defScope slaw_names) .none kV3 dc3 pm3 an3 cd3 ct3), sl3⟩)
    (c_3 : PySem.W.codeIn K cd3 "_law_names" = true)
    (k_3 : PySem.W.keepIn K (.ref f3) = true)
    (a4 : PySem.W.nsIn K mainGlobals "_law_item_names" = some (some (.ref f4)))
    (l4 : K.lookup f4 = some ⟨oc4, od4, .func (PySem.W.fnOf "_law_item_names" "_law_item_names" (defArgs slaw_item_names) (defBody slaw_item_names) (defScope slaw_item_names) .none kV4 dc4 pm4 an4 cd4 ct4), sl4⟩)
    (c_4 : PySem.W.codeIn K cd4 "_law_item_names" = true)
    (k_4 : PySem.W.keepIn K (.ref f4) = true)
    (a5 : PySem.W.nsIn K mainGlobals "_law_of" = some (some (.ref f5)))
    (l5 : K.lookup f5 = some ⟨oc5, od5, .func (PySem.W.fnOf "_law_of" "_law_of" (defArgs slaw_of) (defBody slaw_of) (defScope slaw_of) .none kV5 dc5 pm5 an5 cd5 ct5), sl5⟩)
    (c_5 : PySem.W.codeIn K cd5 "_law_of" = true)
    (k_5 : PySem.W.keepIn K (.ref f5) = true)
    (a6 : PySem.W.nsIn K mainGlobals "_law_sayings" = some (some (.ref f6)))
    (l6 : K.lookup f6 = some ⟨oc6, od6, .func (PySem.W.fnOf "_law_sayings" "_law_sayings" (defArgs slaw_sayings) (defBody slaw_sayings) (defScope slaw_sayings) .none kV6 dc6 pm6 an6 cd6 ct6), sl6⟩)
    (c_6 : PySem.W.codeIn K cd6 "_law_sayings" = true)
    (k_6 : PySem.W.keepIn K (.ref f6) = true)
    (a7 : PySem.W.nsIn K mainGlobals "is_listed" = some (some (.ref f7)))
    (l7 : K.lookup f7 = some ⟨oc7, od7, .func (PySem.W.fnOf "is_listed" "is_listed" (defArgs sis_listed) (defBody sis_listed) (defScope sis_listed) .none kV7 dc7 pm7 an7 cd7 ct7), sl7⟩)
    (c_7 : PySem.W.codeIn K cd7 "is_listed" = true)
    (k_7 : PySem.W.keepIn K (.ref f7) = true)
    (a8 : PySem.W.nsIn K mainGlobals "is_pair" = some (some (.ref f8)))
    (l8 : K.lookup f8 = some ⟨oc8, od8, .func (PySem.W.fnOf "is_pair" "is_pair" (defArgs sis_pair) (defBody sis_pair) (defScope sis_pair) .none kV8 dc8 pm8 an8 cd8 ct8), sl8⟩)
    (c_8 : PySem.W.codeIn K cd8 "is_pair" = true)
    (k_8 : PySem.W.keepIn K (.ref f8) = true)
    (a9 : PySem.W.nsIn K mainGlobals "is_word" = some (some (.ref f9)))
    (l9 : K.lookup f9 = some ⟨oc9, od9, .func (PySem.W.fnOf "is_word" "is_word" (defArgs sis_word) (defBody sis_word) (defScope sis_word) .none kV9 dc9 pm9 an9 cd9 ct9), sl9⟩)
    (c_9 : PySem.W.codeIn K cd9 "is_word" = true)
    (k_9 : PySem.W.keepIn K (.ref f9) = true)
    (a10 : PySem.W.nsIn K mainGlobals "is_integer" = some (some (.ref f10)))
    (l10 : K.lookup f10 = some ⟨oc10, od10, .func (PySem.W.fnOf "is_integer" "is_integer" (defArgs sis_integer) (defBody sis_integer) (defScope sis_integer) .none kV10 dc10 pm10 an10 cd10 ct10), sl10⟩)
    (c_10 : PySem.W.codeIn K cd10 "is_integer" = true)
    (k_10 : PySem.W.keepIn K (.ref f10) = true)
    (a11 : PySem.W.nsIn K mainGlobals "is_number" = some (some (.ref f11)))
    (l11 : K.lookup f11 = some ⟨oc11, od11, .func (PySem.W.fnOf "is_number" "is_number" (defArgs sis_number) (defBody sis_number) (defScope sis_number) .none kV11 dc11 pm11 an11 cd11 ct11), sl11⟩)
    (c_11 : PySem.W.codeIn K cd11 "is_number" = true)
    (k_11 : PySem.W.keepIn K (.ref f11) = true)
    (a12 : PySem.W.nsIn K mainGlobals "_wrong_item" = some (some (.ref f12)))
    (l12 : K.lookup f12 = some ⟨oc12, od12, .func (PySem.W.fnOf "_wrong_item" "_wrong_item" (defArgs swrong_item) (defBody swrong_item) (defScope swrong_item) .none kV12 dc12 pm12 an12 cd12 ct12), sl12⟩)
    (c_12 : PySem.W.codeIn K cd12 "_wrong_item" = true)
    (k_12 : PySem.W.keepIn K (.ref f12) = true)
    (a13 : PySem.W.nsIn K mainGlobals "_wrong_other" = some (some (.ref f13)))
    (l13 : K.lookup f13 = some ⟨oc13, od13, .func (PySem.W.fnOf "_wrong_other" "_wrong_other" (defArgs swrong_other) (defBody swrong_other) (defScope swrong_other) .none kV13 dc13 pm13 an13 cd13 ct13), sl13⟩)
    (c_13 : PySem.W.codeIn K cd13 "_wrong_other" = true)
    (k_13 : PySem.W.keepIn K (.ref f13) = true)
    (a14 : PySem.W.nsIn K mainGlobals "_wrong_saying" = some (some (.ref f14)))
    (l14 : K.lookup f14 = some ⟨oc14, od14, .func (PySem.W.fnOf "_wrong_saying" "_wrong_saying" (defArgs swrong_saying) (defBody swrong_saying) (defScope swrong_saying) .none kV14 dc14 pm14 an14 cd14 ct14), sl14⟩)
    (c_14 : PySem.W.codeIn K cd14 "_wrong_saying" = true)
    (k_14 : PySem.W.keepIn K (.ref f14) = true)
    (a15 : PySem.W.nsIn K mainGlobals "_wrong_part" = some (some (.ref f15)))
    (l15 : K.lookup f15 = some ⟨oc15, od15, .func (PySem.W.fnOf "_wrong_part" "_wrong_part" (defArgs swrong_part) (defBody swrong_part) (defScope swrong_part) .none kV15 dc15 pm15 an15 cd15 ct15), sl15⟩)
    (c_15 : PySem.W.codeIn K cd15 "_wrong_part" = true)
    (k_15 : PySem.W.keepIn K (.ref f15) = true)
    (a16 : PySem.W.findIn K (.ref C) "__init__" = some (some (.ref f16)))
    (i16 : PySem.W.isFn K (.ref f16) = true)
    (l16 : K.lookup f16 = some ⟨oc16, od16, .func (PySem.W.fnOf "__init__" "Book.__init__" (defArgs sBooku_initu) (defBody sBooku_initu) (defScope sBooku_initu) .none kV16 dc16 pm16 an16 cd16 ct16), sl16⟩)
    (c_16 : PySem.W.codeIn K cd16 "Book.__init__" = true)
    (k_16 : PySem.W.keepIn K (.ref f16) = true)
    (a17 : PySem.W.nsIn K mainGlobals "_law_made" = some (some (.ref f17)))
    (l17 : K.lookup f17 = some ⟨oc17, od17, .func (PySem.W.fnOf "_law_made" "_law_made" (defArgs slaw_made) (defBody slaw_made) (defScope slaw_made) .none kV17 dc17 pm17 an17 cd17 ct17), sl17⟩)
    (c_17 : PySem.W.codeIn K cd17 "_law_made" = true)
    (k_17 : PySem.W.keepIn K (.ref f17) = true)
    (a18 : PySem.W.nsIn K mainGlobals "_law_world" = some (some (.ref f18)))
    (l18 : K.lookup f18 = some ⟨oc18, od18, .func (PySem.W.fnOf "_law_world" "_law_world" (defArgs slaw_world) (defBody slaw_world) (defScope slaw_world) .none kV18 dc18 pm18 an18 cd18 ct18), sl18⟩)
    (c_18 : PySem.W.codeIn K cd18 "_law_world" = true)
    (k_18 : PySem.W.keepIn K (.ref f18) = true)
    (a19 : PySem.W.nsIn K mainGlobals "_law_moved" = some (some (.ref f19)))
    (l19 : K.lookup f19 = some ⟨oc19, od19, .func (PySem.W.fnOf "_law_moved" "_law_moved" (defArgs slaw_moved) (defBody slaw_moved) (defScope slaw_moved) .none kV19 dc19 pm19 an19 cd19 ct19), sl19⟩)
    (c_19 : PySem.W.codeIn K cd19 "_law_moved" = true)
    (k_19 : PySem.W.keepIn K (.ref f19) = true)
    (a20 : PySem.W.nsIn K mainGlobals "_law_keeps" = some (some (.ref f20)))
    (l20 : K.lookup f20 = some ⟨oc20, od20, .func (PySem.W.fnOf "_law_keeps" "_law_keeps" (defArgs slaw_keeps) (defBody slaw_keeps) (defScope slaw_keeps) .none kV20 dc20 pm20 an20 cd20 ct20), sl20⟩)
    (c_20 : PySem.W.codeIn K cd20 "_law_keeps" = true)
    (k_20 : PySem.W.keepIn K (.ref f20) = true)
    (a21 : PySem.W.nsIn K mainGlobals "_law_deeds" = some (some (.ref f21)))
    (l21 : K.lookup f21 = some ⟨oc21, od21, .func (PySem.W.fnOf "_law_deeds" "_law_deeds" (defArgs slaw_deeds) (defBody slaw_deeds) (defScope slaw_deeds) .none kV21 dc21 pm21 an21 cd21 ct21), sl21⟩)
    (c_21 : PySem.W.codeIn K cd21 "_law_deeds" = true)
    (k_21 : PySem.W.keepIn K (.ref f21) = true)
    (a22 : PySem.W.nsIn K mainGlobals "_law_stirred" = some (some (.ref f22)))
    (l22 : K.lookup f22 = some ⟨oc22, od22, .func (PySem.W.fnOf "_law_stirred" "_law_stirred" (defArgs slaw_stirred) (defBody slaw_stirred) (defScope slaw_stirred) .none kV22 dc22 pm22 an22 cd22 ct22), sl22⟩)
    (c_22 : PySem.W.codeIn K cd22 "_law_stirred" = true)
    (k_22 : PySem.W.keepIn K (.ref f22) = true)
    (a23 : PySem.W.findIn K (.ref C) "names" = some (some (.ref f23)))
    (i23 : PySem.W.isFn K (.ref f23) = true)
    (l23 : K.lookup f23 = some ⟨oc23, od23, .func (PySem.W.fnOf "names" "Book.names" (defArgs sBook_names) (defBody sBook_names) (defScope sBook_names) .none kV23 dc23 pm23 an23 cd23 ct23), sl23⟩)
    (c_23 : PySem.W.codeIn K cd23 "Book.names" = true)
    (k_23 : PySem.W.keepIn K (.ref f23) = true)
    (a24 : PySem.W.findIn K (.ref C) "side" = some (some (.ref f24)))
    (i24 : PySem.W.isFn K (.ref f24) = true)
    (l24 : K.lookup f24 = some ⟨oc24, od24, .func (PySem.W.fnOf "side" "Book.side" (defArgs sBook_side) (defBody sBook_side) (defScope sBook_side) .none kV24 dc24 pm24 an24 cd24 ct24), sl24⟩)
    (c_24 : PySem.W.codeIn K cd24 "Book.side" = true)
    (k_24 : PySem.W.keepIn K (.ref f24) = true)
    (a25 : PySem.W.nsIn K mainGlobals "places_of" = some (some (.ref f25)))
    (l25 : K.lookup f25 = some ⟨oc25, od25, .func (PySem.W.fnOf "places_of" "places_of" (defArgs splaces) (defBody splaces) (defScope splaces) .none kV25 dc25 pm25 an25 cd25 ct25), sl25⟩)
    (c_25 : PySem.W.codeIn K cd25 "places_of" = true)
    (k_25 : PySem.W.keepIn K (.ref f25) = true)
    (a26 : PySem.W.findIn K (.ref C) "sayings" = some (some (.ref f26)))
    (i26 : PySem.W.isFn K (.ref f26) = true)
    (l26 : K.lookup f26 = some ⟨oc26, od26, .func (PySem.W.fnOf "sayings" "Book.sayings" (defArgs sBook_sayings) (defBody sBook_sayings) (defScope sBook_sayings) .none kV26 dc26 pm26 an26 cd26 ct26), sl26⟩)
    (c_26 : PySem.W.codeIn K cd26 "Book.sayings" = true)
    (k_26 : PySem.W.keepIn K (.ref f26) = true)
    (a27 : PySem.W.nsIn K mainGlobals "_stands_right" = some (some (.ref f27)))
    (l27 : K.lookup f27 = some ⟨oc27, od27, .func (PySem.W.fnOf "_stands_right" "_stands_right" (defArgs sstands_right) (defBody sstands_right) (defScope sstands_right) .none kV27 dc27 pm27 an27 cd27 ct27), sl27⟩)
    (c_27 : PySem.W.codeIn K cd27 "_stands_right" = true)
    (k_27 : PySem.W.keepIn K (.ref f27) = true)
    (a28 : PySem.W.nsIn K mainGlobals "broken" = some (some (.ref f28)))
    (l28 : K.lookup f28 = some ⟨oc28, od28, .func (PySem.W.fnOf "broken" "broken" (defArgs sbroken) (defBody sbroken) (defScope sbroken) .none kV28 dc28 pm28 an28 cd28 ct28), sl28⟩)
    (c_28 : PySem.W.codeIn K cd28 "broken" = true)
    (k_28 : PySem.W.keepIn K (.ref f28) = true)
    (a29 : PySem.W.nsIn K mainGlobals "moved" = some (some (.ref f29)))
    (l29 : K.lookup f29 = some ⟨oc29, od29, .func (PySem.W.fnOf "moved" "moved" (defArgs smoved) (defBody smoved) (defScope smoved) .none kV29 dc29 pm29 an29 cd29 ct29), sl29⟩)
    (c_29 : PySem.W.codeIn K cd29 "moved" = true)
    (k_29 : PySem.W.keepIn K (.ref f29) = true)
    (a30 : PySem.W.nsIn K mainGlobals "all_deeds" = some (some (.ref f30)))
    (l30 : K.lookup f30 = some ⟨oc30, od30, .func (PySem.W.fnOf "all_deeds" "all_deeds" (defArgs sall_deeds) (defBody sall_deeds) (defScope sall_deeds) .none kV30 dc30 pm30 an30 cd30 ct30), sl30⟩)
    (c_30 : PySem.W.codeIn K cd30 "all_deeds" = true)
    (k_30 : PySem.W.keepIn K (.ref f30) = true)
    (a31 : PySem.W.findIn K (.ref C) "has_name" = some (some (.ref f31)))
    (i31 : PySem.W.isFn K (.ref f31) = true)
    (l31 : K.lookup f31 = some ⟨oc31, od31, .func (PySem.W.fnOf "has_name" "Book.has_name" (defArgs sBook_has_name) (defBody sBook_has_name) (defScope sBook_has_name) .none kV31 dc31 pm31 an31 cd31 ct31), sl31⟩)
    (c_31 : PySem.W.codeIn K cd31 "Book.has_name" = true)
    (k_31 : PySem.W.keepIn K (.ref f31) = true)
    (a32 : PySem.W.nsIn K mainGlobals "deed_word" = some (some (.ref f32)))
    (l32 : K.lookup f32 = some ⟨oc32, od32, .func (PySem.W.fnOf "deed_word" "deed_word" (defArgs sdeed_word) (defBody sdeed_word) (defScope sdeed_word) .none kV32 dc32 pm32 an32 cd32 ct32), sl32⟩)
    (c_32 : PySem.W.codeIn K cd32 "deed_word" = true)
    (k_32 : PySem.W.keepIn K (.ref f32) = true)
    (a33 : PySem.W.nsIn K mainGlobals "done" = some (some (.ref f33)))
    (l33 : K.lookup f33 = some ⟨oc33, od33, .func (PySem.W.fnOf "done" "done" (defArgs sdone) (defBody sdone) (defScope sdone) .none kV33 dc33 pm33 an33 cd33 ct33), sl33⟩)
    (c_33 : PySem.W.codeIn K cd33 "done" = true)
    (k_33 : PySem.W.keepIn K (.ref f33) = true)
    (a34 : PySem.W.nsIn K mainGlobals "law" = some (some (.ref f34)))
    (l34 : K.lookup f34 = some ⟨oc34, od34, .func (PySem.W.fnOf "law" "law" (defArgs slaw) (defBody slaw) (defScope slaw) .none kV34 dc34 pm34 an34 cd34 ct34), sl34⟩)
    (c_34 : PySem.W.codeIn K cd34 "law" = true)
    (k_34 : PySem.W.keepIn K (.ref f34) = true) :
    ∃ fd : FuncData, (∀ (s : Shared) (v : Value), BindsTo s fd ⟨[v], []⟩ [("script", v)]) ∧ ∀ base : Heap, K.In base → base.Ns mainGlobals mg → One base → FnG l.prog w K mg base CX0 9 fa fd ["script"] (spLaw K) := by
  have e := hfa.symm.trans (PySem.W.mg_of X G a34)
  cases e
  have T : Txt K mg (tkF t0 t1 t2 t3 t4) := {
    nabs := PySem.W.mg_none_of X G nabs
    nall := PySem.W.mg_none_of X G nall
    nbool := PySem.W.mg_none_of X G nbool
    ndict := PySem.W.mg_none_of X G ndict
    nenumerate := PySem.W.mg_none_of X G nenumerate
    nint := PySem.W.mg_none_of X G nint
    nisinstance := PySem.W.mg_none_of X G nisinstance
    nlen := PySem.W.mg_none_of X G nlen
    nlist := PySem.W.mg_none_of X G nlist
    nmax := PySem.W.mg_none_of X G nmax
    nmin := PySem.W.mg_none_of X G nmin
    nrange := PySem.W.mg_none_of X G nrange
    nrepr := PySem.W.mg_none_of X G nrepr
    nset := PySem.W.mg_none_of X G nset
    nstr := PySem.W.mg_none_of X G nstr
    ntuple := PySem.W.mg_none_of X G ntuple
    gLETTERS := PySem.W.mg_of X G gLETTERS
    gDIGITS := PySem.W.mg_of X G gDIGITS
    gBEHIND := PySem.W.mg_of X G gBEHIND
    gAHEAD := PySem.W.mg_of X G gAHEAD
    gLONGEST := PySem.W.mg_of X G gLONGEST }
  have cB : ClsB K C := ⟨⟨pg, hdd, po, sa⟩, n_side, n_items, n_sayings, n_prices⟩
  obtain ⟨g0, F0⟩ : ∃ fd, Fun K "_law_source" "_law_source" sSource f0 fd := ⟨_, fun_mk l0 c_0 k_0⟩
  have b0 := F0.binds (ps := ["script"]) fun _ _ _ _ _ _ us hl => match us, hl with | [_], _ => rfl
  obtain ⟨g1, F1⟩ : ∃ fd, Fun K "_law_pick" "_law_pick" sPick f1 fd := ⟨_, fun_mk l1 c_1 k_1⟩
  have b1 := F1.binds (ps := ["source", "many"]) fun _ _ _ _ _ _ us hl => match us, hl with | [_, _], _ => rfl
  obtain ⟨g2, F2⟩ : ∃ fd, Fun K "_law_mixed" "_law_mixed" slaw_mixed f2 fd := ⟨_, fun_mk l2 c_2 k_2⟩
  have b2 := F2.binds (ps := ["source", "things"]) fun _ _ _ _ _ _ us hl => match us, hl with | [_, _], _ => rfl
  obtain ⟨g3, F3⟩ : ∃ fd, Fun K "_law_names" "_law_names" slaw_names f3 fd := ⟨_, fun_mk l3 c_3 k_3⟩
  have b3 := F3.binds (ps := ["source", "many"]) fun _ _ _ _ _ _ us hl => match us, hl with | [_, _], _ => rfl
  obtain ⟨g4, F4⟩ : ∃ fd, Fun K "_law_item_names" "_law_item_names" slaw_item_names f4 fd := ⟨_, fun_mk l4 c_4 k_4⟩
  have b4 := F4.binds (ps := ["source", "many"]) fun _ _ _ _ _ _ us hl => match us, hl with | [_, _], _ => rfl
  obtain ⟨g5, F5⟩ : ∃ fd, Fun K "_law_of" "_law_of" slaw_of f5 fd := ⟨_, fun_mk l5 c_5 k_5⟩
  have b5 := F5.binds (ps := ["source", "some"]) fun _ _ _ _ _ _ us hl => match us, hl with | [_, _], _ => rfl
  obtain ⟨g6, F6⟩ : ∃ fd, Fun K "_law_sayings" "_law_sayings" slaw_sayings f6 fd := ⟨_, fun_mk l6 c_6 k_6⟩
  have b6 := F6.binds (ps := ["source", "side", "order", "many"]) fun _ _ _ _ _ _ us hl => match us, hl with | [_, _, _, _], _ => rfl
  obtain ⟨g7, F7⟩ : ∃ fd, Fun K "is_listed" "is_listed" sis_listed f7 fd := ⟨_, fun_mk l7 c_7 k_7⟩
  have b7 := F7.binds (ps := ["value"]) fun _ _ _ _ _ _ us hl => match us, hl with | [_], _ => rfl
  obtain ⟨g8, F8⟩ : ∃ fd, Fun K "is_pair" "is_pair" sis_pair f8 fd := ⟨_, fun_mk l8 c_8 k_8⟩
  have b8 := F8.binds (ps := ["value"]) fun _ _ _ _ _ _ us hl => match us, hl with | [_], _ => rfl
  obtain ⟨g9, F9⟩ : ∃ fd, Fun K "is_word" "is_word" sis_word f9 fd := ⟨_, fun_mk l9 c_9 k_9⟩
  have b9 := F9.binds (ps := ["value"]) fun _ _ _ _ _ _ us hl => match us, hl with | [_], _ => rfl
  obtain ⟨g10, F10⟩ : ∃ fd, Fun K "is_integer" "is_integer" sis_integer f10 fd := ⟨_, fun_mk l10 c_10 k_10⟩
  have b10 := F10.binds (ps := ["value"]) fun _ _ _ _ _ _ us hl => match us, hl with | [_], _ => rfl
  obtain ⟨g11, F11⟩ : ∃ fd, Fun K "is_number" "is_number" sis_number f11 fd := ⟨_, fun_mk l11 c_11 k_11⟩
  have b11 := F11.binds (ps := ["value"]) fun _ _ _ _ _ _ us hl => match us, hl with | [_], _ => rfl
  obtain ⟨g12, F12⟩ : ∃ fd, Fun K "_wrong_item" "_wrong_item" swrong_item f12 fd := ⟨_, fun_mk l12 c_12 k_12⟩
  have b12 := F12.binds (ps := ["items"]) fun _ _ _ _ _ _ us hl => match us, hl with | [_], _ => rfl
  obtain ⟨g13, F13⟩ : ∃ fd, Fun K "_wrong_other" "_wrong_other" swrong_other f13 fd := ⟨_, fun_mk l13 c_13 k_13⟩
  have b13 := F13.binds (ps := ["names", "name", "some"]) fun _ _ _ _ _ _ us hl => match us, hl with | [_, _, _], _ => rfl
  obtain ⟨g14, F14⟩ : ∃ fd, Fun K "_wrong_saying" "_wrong_saying" swrong_saying f14 fd := ⟨_, fun_mk l14 c_14 k_14⟩
  have b14 := F14.binds (ps := ["items", "sayings"]) fun _ _ _ _ _ _ us hl => match us, hl with | [_, _], _ => rfl
  obtain ⟨g15, F15⟩ : ∃ fd, Fun K "_wrong_part" "_wrong_part" swrong_part f15 fd := ⟨_, fun_mk l15 c_15 k_15⟩
  have b15 := F15.binds (ps := ["side", "items", "sayings"]) fun _ _ _ _ _ _ us hl => match us, hl with | [_, _, _], _ => rfl
  obtain ⟨g16, F16⟩ : ∃ fd, Fun K "__init__" "Book.__init__" sBooku_initu f16 fd := ⟨_, fun_mk l16 c_16 k_16⟩
  have b16 := F16.binds (ps := ["self", "side", "items", "sayings"]) fun _ _ _ _ _ _ us hl => match us, hl with | [_, _, _, _], _ => rfl
  obtain ⟨g17, F17⟩ : ∃ fd, Fun K "_law_made" "_law_made" slaw_made f17 fd := ⟨_, fun_mk l17 c_17 k_17⟩
  have b17 := F17.binds (ps := ["side", "items", "sayings"]) fun _ _ _ _ _ _ us hl => match us, hl with | [_, _, _], _ => rfl
  obtain ⟨g18, F18⟩ : ∃ fd, Fun K "_law_world" "_law_world" slaw_world f18 fd := ⟨_, fun_mk l18 c_18 k_18⟩
  have b18 := F18.binds (ps := ["source", "most", "many", "prices"]) fun _ _ _ _ _ _ us hl => match us, hl with | [_, _, _, _], _ => rfl
  obtain ⟨g19, F19⟩ : ∃ fd, Fun K "_law_moved" "_law_moved" slaw_moved f19 fd := ⟨_, fun_mk l19 c_19 k_19⟩
  have b19 := F19.binds (ps := ["order", "name", "place"]) fun _ _ _ _ _ _ us hl => match us, hl with | [_, _, _], _ => rfl
  obtain ⟨g20, F20⟩ : ∃ fd, Fun K "_law_keeps" "_law_keeps" slaw_keeps f20 fd := ⟨_, fun_mk l20 c_20 k_20⟩
  have b20 := F20.binds (ps := ["world", "order"]) fun _ _ _ _ _ _ us hl => match us, hl with | [_, _], _ => rfl
  obtain ⟨g21, F21⟩ : ∃ fd, Fun K "_law_deeds" "_law_deeds" slaw_deeds f21 fd := ⟨_, fun_mk l21 c_21 k_21⟩
  have b21 := F21.binds (ps := ["world", "order"]) fun _ _ _ _ _ _ us hl => match us, hl with | [_, _], _ => rfl
  obtain ⟨g22, F22⟩ : ∃ fd, Fun K "_law_stirred" "_law_stirred" slaw_stirred f22 fd := ⟨_, fun_mk l22 c_22 k_22⟩
  have b22 := F22.binds (ps := ["source", "world", "order", "laps"]) fun _ _ _ _ _ _ us hl => match us, hl with | [_, _, _, _], _ => rfl
  obtain ⟨g23, F23⟩ : ∃ fd, Fun K "names" "Book.names" sBook_names f23 fd := ⟨_, fun_mk l23 c_23 k_23⟩
  have b23 := F23.binds (ps := ["self"]) fun _ _ _ _ _ _ us hl => match us, hl with | [_], _ => rfl
  obtain ⟨g24, F24⟩ : ∃ fd, Fun K "side" "Book.side" sBook_side f24 fd := ⟨_, fun_mk l24 c_24 k_24⟩
  have b24 := F24.binds (ps := ["self"]) fun _ _ _ _ _ _ us hl => match us, hl with | [_], _ => rfl
  obtain ⟨g25, F25⟩ : ∃ fd, Fun K "places_of" "places_of" splaces f25 fd := ⟨_, fun_mk l25 c_25 k_25⟩
  have b25 := F25.binds (ps := ["order"]) fun _ _ _ _ _ _ us hl => match us, hl with | [_], _ => rfl
  obtain ⟨g26, F26⟩ : ∃ fd, Fun K "sayings" "Book.sayings" sBook_sayings f26 fd := ⟨_, fun_mk l26 c_26 k_26⟩
  have b26 := F26.binds (ps := ["self"]) fun _ _ _ _ _ _ us hl => match us, hl with | [_], _ => rfl
  obtain ⟨g27, F27⟩ : ∃ fd, Fun K "_stands_right" "_stands_right" sstands_right f27 fd := ⟨_, fun_mk l27 c_27 k_27⟩
  have b27 := F27.binds (ps := ["behind", "places", "saying"]) fun _ _ _ _ _ _ us hl => match us, hl with | [_, _, _], _ => rfl
  obtain ⟨g28, F28⟩ : ∃ fd, Fun K "broken" "broken" sbroken f28 fd := ⟨_, fun_mk l28 c_28 k_28⟩
  have b28 := F28.binds (ps := ["book", "order"]) fun _ _ _ _ _ _ us hl => match us, hl with | [_, _], _ => rfl
  obtain ⟨g29, F29⟩ : ∃ fd, Fun K "moved" "moved" smoved f29 fd := ⟨_, fun_mk l29 c_29 k_29⟩
  have b29 := F29.binds (ps := ["order", "deed"]) fun _ _ _ _ _ _ us hl => match us, hl with | [_, _], _ => rfl
  obtain ⟨g30, F30⟩ : ∃ fd, Fun K "all_deeds" "all_deeds" sall_deeds f30 fd := ⟨_, fun_mk l30 c_30 k_30⟩
  have b30 := F30.binds (ps := ["book", "order"]) fun _ _ _ _ _ _ us hl => match us, hl with | [_, _], _ => rfl
  obtain ⟨g31, F31⟩ : ∃ fd, Fun K "has_name" "Book.has_name" sBook_has_name f31 fd := ⟨_, fun_mk l31 c_31 k_31⟩
  have b31 := F31.binds (ps := ["self", "value"]) fun _ _ _ _ _ _ us hl => match us, hl with | [_, _], _ => rfl
  obtain ⟨g32, F32⟩ : ∃ fd, Fun K "deed_word" "deed_word" sdeed_word f32 fd := ⟨_, fun_mk l32 c_32 k_32⟩
  have b32 := F32.binds (ps := ["book", "order", "deed"]) fun _ _ _ _ _ _ us hl => match us, hl with | [_, _, _], _ => rfl
  obtain ⟨g33, F33⟩ : ∃ fd, Fun K "done" "done" sdone f33 fd := ⟨_, fun_mk l33 c_33 k_33⟩
  have b33 := F33.binds (ps := ["book", "order", "deed"]) fun _ _ _ _ _ _ us hl => match us, hl with | [_, _, _], _ => rfl
  have F34 := fun_mk (st := slaw) l34 c_34 k_34
  refine ⟨PySem.W.fnOf "law" "law" (defArgs slaw) (defBody slaw) (defScope slaw) .none kV34 dc34 pm34 an34 cd34 ct34, fun s v => .of_eq rfl, fun base KB GB h1 => ?_⟩
  have D0 : Prom l.prog w K mg base "_law_source" f0 g0 ["script"] 1 (spSource K) := ⟨PySem.W.mg_of X G a0, k_0, b0, ok_source F0 T.nabs T.nint⟩
  have D1 : Prom l.prog w K mg base "_law_pick" f1 g1 ["source", "many"] 1 (spD K (pPick)) := ⟨PySem.W.mg_of X G a1, k_1, b1, ok_pick F1 T.nlen T.nmax T.nint⟩
  have D2 : Prom l.prog w K mg base "_law_mixed" f2 g2 ["source", "things"] 2 (spD K (pMixed)) := ⟨PySem.W.mg_of X G a2, k_2, b2, ok_law_mixed F2 T D1⟩
  have D3 : Prom l.prog w K mg base "_law_names" f3 g3 ["source", "many"] 2 (spD K (pNames0)) := ⟨PySem.W.mg_of X G a3, k_3, b3, ok_law_names F3 T D1⟩
  have D4 : Prom l.prog w K mg base "_law_item_names" f4 g4 ["source", "many"] 3 (spD K (pItemNames)) := ⟨PySem.W.mg_of X G a4, k_4, b4, ok_law_item_names F4 T D1 D2 D3⟩
  have D5 : Prom l.prog w K mg base "_law_of" f5 g5 ["source", "some"] 2 (spD K (pOf)) := ⟨PySem.W.mg_of X G a5, k_5, b5, ok_law_of F5 T D1⟩
  have D6 : Prom l.prog w K mg base "_law_sayings" f6 g6 ["source", "side", "order", "many"] 3 (spD K (pSayings)) := ⟨PySem.W.mg_of X G a6, k_6, b6, ok_law_sayings F6 T D1 D5 D2⟩
  have D7 : Prom l.prog w K mg base "is_listed" f7 g7 ["value"] 1 (spD K (pListed)) := ⟨PySem.W.mg_of X G a7, k_7, b7, ok_is_listed F7 T ⟩
  have D8 : Prom l.prog w K mg base "is_pair" f8 g8 ["value"] 1 (spD K (pPair)) := ⟨PySem.W.mg_of X G a8, k_8, b8, ok_is_pair F8 T ⟩
  have D9 : Prom l.prog w K mg base "is_word" f9 g9 ["value"] 1 (spD K (pWord)) := ⟨PySem.W.mg_of X G a9, k_9, b9, ok_is_word F9 T ⟩
  have D10 : Prom l.prog w K mg base "is_integer" f10 g10 ["value"] 1 (spD K (pInt)) := ⟨PySem.W.mg_of X G a10, k_10, b10, ok_is_integer F10 T ⟩
  have D11 : Prom l.prog w K mg base "is_number" f11 g11 ["value"] 2 (spD K (pNum)) := ⟨PySem.W.mg_of X G a11, k_11, b11, ok_is_number F11 T D10⟩
  have D12 : Prom l.prog w K mg base "_wrong_item" f12 g12 ["items"] 3 (spD K (pItem)) := ⟨PySem.W.mg_of X G a12, k_12, b12, ok_wrong_item F12 T D7 D8 D9 D11⟩
  have D13 : Prom l.prog w K mg base "_wrong_other" f13 g13 ["names", "name", "some"] 1 (spD K (pOther)) := ⟨PySem.W.mg_of X G a13, k_13, b13, ok_wrong_other F13 T ⟩
  have D14 : Prom l.prog w K mg base "_wrong_saying" f14 g14 ["items", "sayings"] 2 (spD K (pSaying)) := ⟨PySem.W.mg_of X G a14, k_14, b14, ok_wrong_saying F14 T D7 D8 D13⟩
  have D15 : Prom l.prog w K mg base "_wrong_part" f15 g15 ["side", "items", "sayings"] 4 (spD K (pPart)) := ⟨PySem.W.mg_of X G a15, k_15, b15, ok_wrong_part F15 T D12 D14⟩
  have D16 : PromC l.prog w K mg base "Book" C f16 g16 ["self", "side", "items", "sayings"] 5 (spNew K (pNew (K := K))) := ⟨⟨mk, a16, i16, kc⟩, PySem.W.mg_of X G aC, b16, ok_Booku_initu F16 T D15⟩
  have D17 : Prom l.prog w K mg base "_law_made" f17 g17 ["side", "items", "sayings"] 7 (spD K (pMade C)) := ⟨PySem.W.mg_of X G a17, k_17, b17, ok_law_made F17 T cB D16⟩
  have D18 : Prom l.prog w K mg base "_law_world" f18 g18 ["source", "most", "many", "prices"] 8 (spD K (pWorld C)) := ⟨PySem.W.mg_of X G a18, k_18, b18, ok_law_world F18 T D4 D1 D2 D5 D6 D17⟩
  have D19 : Prom l.prog w K mg base "_law_moved" f19 g19 ["order", "name", "place"] 1 (spD K (pLMoved)) := ⟨PySem.W.mg_of X G a19, k_19, b19, ok_law_moved F19 T ⟩
  have D20 : Prom l.prog w K mg base "_law_keeps" f20 g20 ["world", "order"] 1 (spD K (pKeeps C)) := ⟨PySem.W.mg_of X G a20, k_20, b20, ok_law_keeps F20 T ⟩
  have D21 : Prom l.prog w K mg base "_law_deeds" f21 g21 ["world", "order"] 2 (spD K (pDeeds C)) := ⟨PySem.W.mg_of X G a21, k_21, b21, ok_law_deeds F21 T D19 D20⟩
  have D22 : Prom l.prog w K mg base "_law_stirred" f22 g22 ["source", "world", "order", "laps"] 3 (spD K (pStirred C)) := ⟨PySem.W.mg_of X G a22, k_22, b22, ok_law_stirred F22 T D1 D5 D21⟩
  have D23 : PromM l.prog w K mg base C "names" f23 g23 ["self"] 1 (spD K (pNames (K := K))) := ⟨⟨a23, i23, k_23⟩, b23, ok_Book_names F23 T ⟩
  have D24 : PromM l.prog w K mg base C "side" f24 g24 ["self"] 1 (spD K (pSide (K := K))) := ⟨⟨a24, i24, k_24⟩, b24, ok_Book_side F24 T ⟩
  have D25 : Prom l.prog w K mg base "places_of" f25 g25 ["order"] 1 (spD K (pPlaces)) := ⟨PySem.W.mg_of X G a25, k_25, b25, ok_places F25 T ⟩
  have D26 : PromM l.prog w K mg base C "sayings" f26 g26 ["self"] 1 (spD K (pSays (K := K))) := ⟨⟨a26, i26, k_26⟩, b26, ok_Book_sayings F26 T ⟩
  have D27 : Prom l.prog w K mg base "_stands_right" f27 g27 ["behind", "places", "saying"] 1 (spD K (pRight)) := ⟨PySem.W.mg_of X G a27, k_27, b27, ok_stands_right F27 T ⟩
  have D28 : Prom l.prog w K mg base "broken" f28 g28 ["book", "order"] 2 (spD K (pBroken C)) := ⟨PySem.W.mg_of X G a28, k_28, b28, ok_broken F28 T cB D24 D25 D26 D27⟩
  have D29 : Prom l.prog w K mg base "moved" f29 g29 ["order", "deed"] 1 (spD K (pMoved)) := ⟨PySem.W.mg_of X G a29, k_29, b29, ok_moved F29 T ⟩
  have D30 : Prom l.prog w K mg base "all_deeds" f30 g30 ["book", "order"] 3 (spF K (pAll C)) := ⟨PySem.W.mg_of X G a30, k_30, b30, ok_all_deeds F30 T cB D23 D28 D29⟩
  have D31 : PromM l.prog w K mg base C "has_name" f31 g31 ["self", "value"] 1 (spD K (pHas (K := K))) := ⟨⟨a31, i31, k_31⟩, b31, ok_Book_has_name F31 T ⟩
  have D32 : Prom l.prog w K mg base "deed_word" f32 g32 ["book", "order", "deed"] 3 (spD K (pDWord C)) := ⟨PySem.W.mg_of X G a32, k_32, b32, ok_deed_word F32 T cB D8 D31 D28 D29⟩
  have D33 : Prom l.prog w K mg base "done" f33 g33 ["book", "order", "deed"] 4 (spD K (pDone C)) := ⟨PySem.W.mg_of X G a33, k_33, b33, ok_done F33 T D32 D29⟩
  exact ok_law F34 T h1 cB D0 D18 D22 D21 D30 D2 D33 D5 D16
end Tk

open PySem PySem.W PyProof.Rows
set_option Elab.async false
set_option maxRecDepth 100000
set_option maxHeartbeats 8000000
open_top hd for PySem.Challenge.rw_takenout_k13_all_deeds

set_option Elab.async false
set_option linter.all false
set_option maxRecDepth 100000
set_option maxHeartbeats 8000000
set_option pp.maxSteps 300
open PySem PySem.W PyProof.Rows
theorem PySem.Challenge.cw_takenout_k13_all_deeds_holds : PySem.Challenge.rw_takenout_k13_all_deeds.Holds := by
  refine hd ?_
  k_fill
  refine X3.walk_ofG (l := PySem.Challenge.rw_takenout_k13_all_deeds) (n := 63) (k := 9) (x := "script") (sp := fun w => Tk.spLaw (hd.heap_39 w.params)) (by decide +kernel) rfl (by decide) rfl ⟨rfl, by decide, by decide⟩ (fun w h Y => PySem.W.kIn_of Y) ?F ?S
  case S => exact fun w H a ns hl hS => ⟨a, ns, rfl, hS, hl, fun _ => rfl⟩
  case F =>
    intro w mg fa h KX G hmg
    refine' Tk.all_mk (K := hd.heap_39 w.params) KX G hmg ?aC ?pg ?hdd ?po ?sa ?mk ?kc ?n_side ?n_items ?n_sayings ?n_prices ?nabs ?nall ?nbool ?ndict ?nenumerate ?nint ?nisinstance ?nlen ?nlist ?nmax ?nmin ?nrange ?nrepr ?nset ?nstr ?ntuple ?gLETTERS ?gDIGITS ?gBEHIND ?gAHEAD ?gLONGEST ?a0 ?l0 ?c_0 ?k_0 ?a1 ?l1 ?c_1 ?k_1 ?a2 ?l2 ?c_2 ?k_2 ?a3 ?l3 ?c_3 ?k_3 ?a4 ?l4 ?c_4 ?k_4 ?a5 ?l5 ?c_5 ?k_5 ?a6 ?l6 ?c_6 ?k_6 ?a7 ?l7 ?c_7 ?k_7 ?a8 ?l8 ?c_8 ?k_8 ?a9 ?l9 ?c_9 ?k_9 ?a10 ?l10 ?c_10 ?k_10 ?a11 ?l11 ?c_11 ?k_11 ?a12 ?l12 ?c_12 ?k_12 ?a13 ?l13 ?c_13 ?k_13 ?a14 ?l14 ?c_14 ?k_14 ?a15 ?l15 ?c_15 ?k_15 ?a16 ?i16 ?l16 ?c_16 ?k_16 ?a17 ?l17 ?c_17 ?k_17 ?a18 ?l18 ?c_18 ?k_18 ?a19 ?l19 ?c_19 ?k_19 ?a20 ?l20 ?c_20 ?k_20 ?a21 ?l21 ?c_21 ?k_21 ?a22 ?l22 ?c_22 ?k_22 ?a23 ?i23 ?l23 ?c_23 ?k_23 ?a24 ?i24 ?l24 ?c_24 ?k_24 ?a25 ?l25 ?c_25 ?k_25 ?a26 ?i26 ?l26 ?c_26 ?k_26 ?a27 ?l27 ?c_27 ?k_27 ?a28 ?l28 ?c_28 ?k_28 ?a29 ?l29 ?c_29 ?k_29 ?a30 ?l30 ?c_30 ?k_30 ?a31 ?i31 ?l31 ?c_31 ?k_31 ?a32 ?l32 ?c_32 ?k_32 ?a33 ?l33 ?c_33 ?k_33 ?a34 ?l34 ?c_34 ?k_34
    (case aC => k_is)
    (case pg => k_is)
    (case hdd => k_is)
    (case po => k_is)
    (case sa => k_is)
    (case mk => k_is)
    (case kc => k_is)
    (case n_side => k_is)
    (case n_items => k_is)
    (case n_sayings => k_is)
    (case n_prices => k_is)
    (case nabs => k_is)
    (case nall => k_is)
    (case nbool => k_is)
    (case ndict => k_is)
    (case nenumerate => k_is)
    (case nint => k_is)
    (case nisinstance => k_is)
    (case nlen => k_is)
    (case nlist => k_is)
    (case nmax => k_is)
    (case nmin => k_is)
    (case nrange => k_is)
    (case nrepr => k_is)
    (case nset => k_is)
    (case nstr => k_is)
    (case ntuple => k_is)
    (case gLETTERS => k_is)
    (case gDIGITS => k_is)
    (case gBEHIND => k_is)
    (case gAHEAD => k_is)
    (case gLONGEST => k_is)
    (case a0 => k_is)
    (case l0 => k_is)
    (case c_0 => k_is)
    (case k_0 => k_is)
    (case a1 => k_is)
    (case l1 => k_is)
    (case c_1 => k_is)
    (case k_1 => k_is)
    (case a2 => k_is)
    (case l2 => k_is)
    (case c_2 => k_is)
    (case k_2 => k_is)
    (case a3 => k_is)
    (case l3 => k_is)
    (case c_3 => k_is)
    (case k_3 => k_is)
    (case a4 => k_is)
    (case l4 => k_is)
    (case c_4 => k_is)
    (case k_4 => k_is)
    (case a5 => k_is)
    (case l5 => k_is)
    (case c_5 => k_is)
    (case k_5 => k_is)
    (case a6 => k_is)
    (case l6 => k_is)
    (case c_6 => k_is)
    (case k_6 => k_is)
    (case a7 => k_is)
    (case l7 => k_is)
    (case c_7 => k_is)
    (case k_7 => k_is)
    (case a8 => k_is)
    (case l8 => k_is)
    (case c_8 => k_is)
    (case k_8 => k_is)
    (case a9 => k_is)
    (case l9 => k_is)
    (case c_9 => k_is)
    (case k_9 => k_is)
    (case a10 => k_is)
    (case l10 => k_is)
    (case c_10 => k_is)
    (case k_10 => k_is)
    (case a11 => k_is)
    (case l11 => k_is)
    (case c_11 => k_is)
    (case k_11 => k_is)
    (case a12 => k_is)
    (case l12 => k_is)
    (case c_12 => k_is)
    (case k_12 => k_is)
    (case a13 => k_is)
    (case l13 => k_is)
    (case c_13 => k_is)
    (case k_13 => k_is)
    (case a14 => k_is)
    (case l14 => k_is)
    (case c_14 => k_is)
    (case k_14 => k_is)
    (case a15 => k_is)
    (case l15 => k_is)
    (case c_15 => k_is)
    (case k_15 => k_is)
    (case a16 => k_is)
    (case i16 => k_is)
    (case l16 => k_is)
    (case c_16 => k_is)
    (case k_16 => k_is)
    (case a17 => k_is)
    (case l17 => k_is)
    (case c_17 => k_is)
    (case k_17 => k_is)
    (case a18 => k_is)
    (case l18 => k_is)
    (case c_18 => k_is)
    (case k_18 => k_is)
    (case a19 => k_is)
    (case l19 => k_is)
    (case c_19 => k_is)
    (case k_19 => k_is)
    (case a20 => k_is)
    (case l20 => k_is)
    (case c_20 => k_is)
    (case k_20 => k_is)
    (case a21 => k_is)
    (case l21 => k_is)
    (case c_21 => k_is)
    (case k_21 => k_is)
    (case a22 => k_is)
    (case l22 => k_is)
    (case c_22 => k_is)
    (case k_22 => k_is)
    (case a23 => k_is)
    (case i23 => k_is)
    (case l23 => k_is)
    (case c_23 => k_is)
    (case k_23 => k_is)
    (case a24 => k_is)
    (case i24 => k_is)
    (case l24 => k_is)
    (case c_24 => k_is)
    (case k_24 => k_is)
    (case a25 => k_is)
    (case l25 => k_is)
    (case c_25 => k_is)
    (case k_25 => k_is)
    (case a26 => k_is)
    (case i26 => k_is)
    (case l26 => k_is)
    (case c_26 => k_is)
    (case k_26 => k_is)
    (case a27 => k_is)
    (case l27 => k_is)
    (case c_27 => k_is)
    (case k_27 => k_is)
    (case a28 => k_is)
    (case l28 => k_is)
    (case c_28 => k_is)
    (case k_28 => k_is)
    (case a29 => k_is)
    (case l29 => k_is)
    (case c_29 => k_is)
    (case k_29 => k_is)
    (case a30 => k_is)
    (case l30 => k_is)
    (case c_30 => k_is)
    (case k_30 => k_is)
    (case a31 => k_is)
    (case i31 => k_is)
    (case l31 => k_is)
    (case c_31 => k_is)
    (case k_31 => k_is)
    (case a32 => k_is)
    (case l32 => k_is)
    (case c_32 => k_is)
    (case k_32 => k_is)
    (case a33 => k_is)
    (case l33 => k_is)
    (case c_33 => k_is)
    (case k_33 => k_is)
    (case a34 => k_is)
    (case l34 => k_is)
    (case c_34 => k_is)
    (case k_34 => k_is)

