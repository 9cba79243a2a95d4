import PyProof.Rows.All
import HandS.ForMost
import HandS.TupAny
import HandS.IsInst
import HandS.Deep
import HandS.Zip
import HandS.Lambda
import KE.GoesMore
import KE.GoesEnum
import HandS.Style
import HandS.More
import KE.DataMinMax
import HandS.DictComp
import HandS.SortInts
import KE.SortData
import KE.DataFind
import KE.KDictCopyH
import KE.KDictSum
import HandS.ExcValue
import KE.DataCmp
import HandS.ExcOwn
import HandS.ExcIs
import HandS.RepeatKit
import HandS.Iter
import PyProof.Rows.SortShell
import HandS.TupMul
import KE.GoesSet
import HandS.Strs
import KE.KEqDict
import HandS.RaiseMore
import HandS.FStr
import HandS.TupSets
import HandS.Conv
import KE.GoesZip
import PySem.Challenge.RW_reachrows_k65_islands_and_orders_by_name
set_option Elab.async false
set_option linter.all false
set_option maxRecDepth 100000
set_option maxHeartbeats 4000000
section
namespace RR
open PySem PySem.Spec L2
open PyProof.Rows hiding St
abbrev D := PyData
abbrev DEnv := List (Option D)
def keyD : Key → D
  | .inl i => .int i
  | .inr x => .str x
/-- what stands for a datum, all of it in F -/
inductive Rp (K : PySem.W.Frag) (F : Hp) : D → V → Prop
  | non : Rp K F .none .non
  | bl (b : Bool) : Rp K F (.bool b) (.bl b)
  | int (i : Int) : Rp K F (.int i) (.int i)
  | str (x : Str) : Rp K F (.str x) (.str x)
  | lst {a : Addr} {xs : List V} {ds : List D} : F a = some (.lst xs) → xs.length = ds.length → (∀ (i : Nat) x d, xs[i]? = some x → ds[i]? = some d → Rp K F d x) → Rp K F (.list ds) (.ref a)
  | tup {a : Addr} {xs : List V} {ds : List D} : SqT K F a xs → xs.length = ds.length → (∀ (i : Nat) x d, xs[i]? = some x → ds[i]? = some d → Rp K F d x) → Rp K F (.tuple ds) (.ref a)
  | dct {a : Addr} {kvs : List (Key × V)} {ds : List (D × D)} : Rd F a (.dK kvs) → ds.map (·.1) = kvs.map (fun p => keyD p.1) → (∀ (i : Nat) x d, kvs[i]? = some x → ds[i]? = some d → Rp K F d.2 x.2) → Rp K F (.dict ds) (.ref a)
/-- the same of lists, one by one -/
structure Rps (K : PySem.W.Frag) (F : Hp) (ds : List D) (xs : List V) : Prop where
  len : xs.length = ds.length
  at_ : ∀ (i : Nat) x d, xs[i]? = some x → ds[i]? = some d → Rp K F d x
section
variable {K : PySem.W.Frag} {F F' H H' : Hp} {d : D} {v : V}
theorem Same.sqt {a : Addr} {xs : List V} (e : Same F F') (h : SqT K F a xs) : SqT K F' a xs := by
  rcases h with (h | ⟨o, h⟩) | h
  · exact .inl (.inl (e _ _ h))
  · exact .inl (.inr ⟨o, e _ _ h⟩)
  · exact .inr h
theorem Same.rd {a : Addr} {u : HO} (e : Same F F') (h : Rd F a u) : Rd F' a u := by
  rcases h with h | ⟨o, h⟩
  · exact .inl (e _ _ h)
  · exact .inr ⟨o, e _ _ h⟩
theorem Rp.mono (h : Rp K F d v) (e : Same F F') : Rp K F' d v := by
  induction h with
  | non => exact .non
  | bl b => exact .bl b
  | int i => exact .int i
  | str x => exact .str x
  | lst h1 h2 _ ih => exact .lst (e _ _ h1) h2 ih
  | tup h1 h2 _ ih => exact .tup (Same.sqt e h1) h2 ih
  | dct h1 h2 _ ih => exact .dct (Same.rd e h1) h2 ih
theorem Rps.mono {ds : List D} {xs : List V} (h : Rps K F ds xs) (e : Same F F') : Rps K F' ds xs := ⟨h.len, fun i x d a b => (h.at_ i x d a b).mono e⟩
theorem Rps.nil : Rps K F [] [] := ⟨rfl, fun i x d a => by simp at a⟩
theorem Rps.cons {ds : List D} {xs : List V} (h : Rp K F d v) (t : Rps K F ds xs) : Rps K F (d :: ds) (v :: xs) := by
  refine ⟨by simp [t.len], fun i x d' a b => ?_⟩
  cases i with
  | zero =>
    simp at a b
    subst a b
    exact h
  | succ i =>
    simp at a b
    exact t.at_ i x d' a b
theorem Rps.uncons {ds : List D} {xs : List V} (h : Rps K F (d :: ds) xs) : ∃ v r, xs = v :: r ∧ Rp K F d v ∧ Rps K F ds r := by
  cases xs with
  | nil => have := h.len; simp at this
  | cons v r =>
    refine ⟨v, r, rfl, h.at_ 0 v d rfl rfl, ?_, fun i x d' a b => h.at_ (i + 1) x d' (by simpa using a) (by simpa using b)⟩
    have := h.len
    simpa using this
theorem Rps.unnil {xs : List V} (h : Rps K F [] xs) : xs = [] := List.length_eq_zero_iff.mp h.len
theorem Rps.append {ds es : List D} {xs ys : List V} (h : Rps K F ds xs) (t : Rps K F es ys) : Rps K F (ds ++ es) (xs ++ ys) := by
  induction ds generalizing xs with
  | nil => rw [h.unnil]; exact t
  | cons d ds ih =>
    obtain ⟨v, r, rfl, h1, h2⟩ := h.uncons
    exact .cons h1 (ih h2)
theorem Rps.get {ds : List D} {xs : List V} (h : Rps K F ds xs) {i : Nat} (e : ds[i]? = some d) : ∃ v, xs[i]? = some v ∧ Rp K F d v := by
  have hi : i < xs.length := by rw [h.len]; exact (List.getElem?_eq_some_iff.mp e).1
  exact ⟨xs[i], by simp [hi], h.at_ i _ d (by simp [hi]) e⟩
theorem Rps.set {ds : List D} {xs : List V} (h : Rps K F ds xs) (i : Nat) (r : Rp K F d v) : Rps K F (ds.set i d) (xs.set i v) := by
  refine ⟨by simp [h.len], fun j x d' a b => ?_⟩
  by_cases e : i = j
  · subst e
    rw [List.getElem?_set] at a b
    simp at a b
    obtain ⟨_, rfl⟩ := a
    obtain ⟨_, rfl⟩ := b
    exact r
  · rw [List.getElem?_set_ne e] at a b
    exact h.at_ j x d' a b
theorem Rps.take {ds : List D} {xs : List V} (h : Rps K F ds xs) (n : Nat) : Rps K F (ds.take n) (xs.take n) := by
  refine ⟨by simp [h.len], fun j x d' a b => ?_⟩
  rw [List.getElem?_take] at a b
  split at a
  · rename_i hj
    rw [if_pos hj] at b
    exact h.at_ j x d' a b
  · cases a
theorem Rps.drop {ds : List D} {xs : List V} (h : Rps K F ds xs) (n : Nat) : Rps K F (ds.drop n) (xs.drop n) := by
  refine ⟨by simp [h.len], fun j x d' a b => ?_⟩
  rw [List.getElem?_drop] at a b
  exact h.at_ _ x d' a b
theorem Rps.reverse {ds : List D} {xs : List V} (h : Rps K F ds xs) : Rps K F ds.reverse xs.reverse := by
  induction ds generalizing xs with
  | nil => rw [h.unnil]; exact .nil
  | cons d ds ih =>
    obtain ⟨v, r, rfl, h1, h2⟩ := h.uncons
    rw [List.reverse_cons, List.reverse_cons]
    exact (ih h2).append (.cons h1 .nil)
theorem Rp.int_inv {i : Int} (h : Rp K F (.int i) v) : v = .int i := by cases h; rfl
theorem Rp.bl_inv {b : Bool} (h : Rp K F (.bool b) v) : v = .bl b := by cases h; rfl
theorem Rp.str_inv {x : Str} (h : Rp K F (.str x) v) : v = .str x := by cases h; rfl
theorem Rp.non_inv (h : Rp K F .none v) : v = .non := by cases h; rfl
theorem Rp.lst_inv {ds : List D} (h : Rp K F (.list ds) v) : ∃ a xs, v = .ref a ∧ F a = some (.lst xs) ∧ Rps K F ds xs := by
  cases h with
  | lst h1 h2 h3 => exact ⟨_, _, rfl, h1, h2, h3⟩
theorem Rp.tup_inv {ds : List D} (h : Rp K F (.tuple ds) v) : ∃ a xs, v = .ref a ∧ SqT K F a xs ∧ Rps K F ds xs := by
  cases h with
  | tup h1 h2 h3 => exact ⟨_, _, rfl, h1, h2, h3⟩
theorem Rp.of_lst {ds : List D} {a : Addr} {xs : List V} (h : F a = some (.lst xs)) (r : Rps K F ds xs) : Rp K F (.list ds) (.ref a) := .lst h r.len r.at_
theorem Rp.of_tup {ds : List D} {a : Addr} {xs : List V} (h : SqT K F a xs) (r : Rps K F ds xs) : Rp K F (.tuple ds) (.ref a) := .tup h r.len r.at_
end
/-- new things alone -/
structure Gr (F H F' H' : Hp) : Prop where
  f : Same F F'
  fh : Same F' H'
  h : Same H H'
  new : ∀ a o, F' a = some o → F a = some o ∨ H a = none
theorem Gr.refl {F H : Hp} (h : Same F H) : Gr F H F H := ⟨.refl _, h, .refl _, fun _ _ e => .inl e⟩
theorem Gr.trans {F H F1 H1 F2 H2 : Hp} (a : Gr F H F1 H1) (b : Gr F1 H1 F2 H2) : Gr F H F2 H2 := by
  refine ⟨a.f.trans b.f, b.fh, a.h.trans b.h, fun p o e => ?_⟩
  rcases b.new p o e with q | q
  · exact a.new p o q
  · exact .inr (a.h.free q)
theorem same_up {H : Hp} {p : Addr} {o : HO} (h : H p = none) : Same H (upd H p o) := fun b x e => by
  rw [upd_ne (ne_of_none e h)]
  exact e
/-- a new object, frozen at once -/
theorem Gr.new1 {F H : Hp} {p : Addr} (h : Same F H) (n : H p = none) (o : HO) : Gr F H (upd F p o) (upd H p o) := by
  refine ⟨same_up (h.free n), fun b x e => ?_, same_up n, fun b x e => ?_⟩
  · by_cases hb : b = p
    · subst hb; rw [upd_same] at e ⊢; exact e
    · rw [upd_ne hb] at e ⊢; exact h _ _ e
  · by_cases hb : b = p
    · subst hb; exact .inr n
    · rw [upd_ne hb] at e; exact .inl e
/-- a new object, not frozen -/
theorem Gr.new0 {F H : Hp} {p : Addr} (h : Same F H) (n : H p = none) (o : HO) : Gr F H F (upd H p o) :=
  ⟨.refl _, h.trans (same_up n), same_up n, fun _ _ e => .inl e⟩
/-- the drawing list: its drawn cells, how many were spread, what is left -/
def PenAt (dr : Addr) (F H : Hp) (a : Addr) (n : Nat) : Prop := ∃ (w l : Int) (xs : List Int), H a = some (.lst [.ref dr, .int w, .int l]) ∧ F dr = some (.lst (xs.map V.int)) ∧ 0 ≤ w ∧ w ≤ n ∧ 0 ≤ l
/-- the list of drawn cells; the tables of code objects, each with its lambdas' name -/
structure DrT where
  ad : Addr
  tb : List (Addr × Str)
instance {n : Nat} : OfNat DrT n := ⟨⟨n, []⟩⟩
structure Pm where
  K : PySem.W.Frag
  /-- the drawing list's address and slot -/
  ap : Option (Addr × Nat)
  /-- the list of its drawn cells -/
  dr : DrT
/-- what may change: the drawing list, the tables -/
def Pm.isPen (p : Pm) (a : Addr) : Prop := ∃ b i, p.ap = some (b, i) ∧ (a = b ∨ ∃ q ∈ p.dr.tb, q.1 = a)
/-- the tables: each code object that they tell is frozen and bears the name -/
def TabF (T : List (Addr × Str)) (F H : Hp) : Prop := ∀ q ∈ T, F q.1 = none ∧ ∃ ps : Array Value, H q.1 = some (.tbl ps) ∧ TriplesOk ps.toList ∧ ∀ (pos : Pos) (cv : Value), codeAmong pos ps.toList = some cv → ∃ c, cv = .ref c ∧ F c = some (LamX.CodeO c q.2)
theorem TabF.nil {F H : Hp} : TabF [] F H := fun _ h => nomatch h
theorem TabF.up {T : List (Addr × Str)} {F H F' H' : Hp} (t : TabF T F H) (ff : Same F F') (fn : ∀ q ∈ T, F' q.1 = none) (hh : ∀ q ∈ T, ∀ o, H q.1 = some o → H' q.1 = some o) : TabF T F' H' := fun q hq => by
  obtain ⟨_, ps, e, t3, c⟩ := t q hq
  refine ⟨fn q hq, ps, hh q hq _ e, t3, fun pos cv h => ?_⟩
  obtain ⟨c, e1, e2⟩ := c pos cv h
  exact ⟨c, e1, ff _ _ e2⟩
/-- a local's own list or dict: nobody else knows it -/
inductive Own (K : PySem.W.Frag) (F H : Hp) : D → Addr → Prop
  | lst {a : Addr} {xs : List V} {ds : List D} : H a = some (.lst xs) → Rps K F ds xs → Own K F H (.list ds) a
  | dct {a : Addr} {kvs : List (Key × V)} {ds : List (D × D)} : H a = some (.dK kvs) → ds.map (·.1) = kvs.map (fun p => keyD p.1) → (∀ (i : Nat) x d, kvs[i]? = some x → ds[i]? = some d → Rp K F d.2 x.2) → Own K F H (.dict ds) a
/-- F: what stands frozen; O: the slots that hold things of their own; F0, H0: at the def's entry -/
structure Sep (p : Pm) (F0 H0 : Hp) (O : List Nat) (F H : Hp) (σ : St) (Γ : DEnv) (n : Nat) : Prop where
  f0 : Same F0 F
  fh : Same F H
  stay : ∀ a o, H0 a = some o → ¬ p.isPen a → H a = some o
  newF : ∀ a o, F a = some o → F0 a = some o ∨ H0 a = none
  pen : ∀ a i, p.ap = some (a, i) → F a = none ∧ σ[i]? = some (some (.ref a)) ∧ PenAt p.dr.ad F H a n ∧ TabF p.dr.tb F H
  len : σ.length = Γ.length
  sh : ∀ i d, i ∉ O → Γ[i]? = some (some d) → ∃ v, σ[i]? = some (some v) ∧ Rp p.K F d v
  ow : ∀ i ∈ O, ∀ d, Γ[i]? = some (some d) → ∃ a, σ[i]? = some (some (.ref a)) ∧ Own p.K F H d a ∧ F a = none ∧ H0 a = none ∧ ¬ p.isPen a
  dj : ∀ i ∈ O, ∀ j ∈ O, i ≠ j → ∀ a di dj, Γ[i]? = some (some di) → Γ[j]? = some (some dj) → σ[i]? = some (some (.ref a)) → σ[j]? = some (some (.ref a)) → False
section
variable {p : Pm} {F0 H0 F H F' H' : Hp} {O O' : List Nat} {σ : St} {Γ : DEnv} {n : Nat}
theorem Own.gr {K : PySem.W.Frag} {d : D} {a : Addr} (h : Own K F H d a) (g : Gr F H F' H') : Own K F' H' d a := by
  cases h with
  | lst e r => exact .lst (g.h _ _ e) (r.mono g.f)
  | dct e q r => exact .dct (g.h _ _ e) q fun i x d a b => (r i x d a b).mono g.f
theorem Own.notCode {K : PySem.W.Frag} {d : D} {a : Addr} {o : HO} {q : Str} (h : Own K F H d a) (e : H a = some o) : ∀ c : Addr, o = LamX.CodeO c q → False := fun c z => by
  subst z
  unfold LamX.CodeO at e
  cases h with
  | lst e1 _ => rw [e] at e1; cases e1
  | dct e1 _ _ => rw [e] at e1; cases e1
theorem Own.at {K : PySem.W.Frag} {d : D} {a : Addr} (h : Own K F H d a) : ∃ o, H a = some o := by
  cases h with
  | lst e r => exact ⟨_, e⟩
  | dct e q r => exact ⟨_, e⟩
theorem PenAt.at {a dr : Addr} (h : PenAt dr F H a n) : ∃ o, H a = some o := by
  obtain ⟨_, _, _, e, _⟩ := h
  exact ⟨_, e⟩
theorem PenAt.gr {a dr : Addr} (h : PenAt dr F H a n) (g : Gr F H F' H') : PenAt dr F' H' a n := by
  obtain ⟨w, l, xs, e, q, r⟩ := h
  exact ⟨w, l, xs, g.h _ _ e, g.f _ _ q, r⟩
theorem Gr.none {a : Addr} (g : Gr F H F' H') (h : F a = none) (e : ∃ o, H a = some o) : F' a = none := by
  cases q : F' a with
  | none => rfl
  | some o =>
    obtain ⟨u, e⟩ := e
    rcases g.new a o q with z | z
    · rw [h] at z; cases z
    · rw [e] at z; cases z
theorem Sep.gr (s : Sep p F0 H0 O F H σ Γ n) (g : Gr F H F' H') : Sep p F0 H0 O F' H' σ Γ n where
  f0 := s.f0.trans g.f
  fh := g.fh
  stay := fun a o e q => g.h _ _ (s.stay a o e q)
  newF := fun a o e => by
    rcases g.new a o e with z | z
    · exact s.newF a o z
    · cases q : H0 a with
      | none => exact .inr rfl
      | some u =>
        by_cases hp : p.isPen a
        · obtain ⟨b, i, hp, rfl | ⟨qt, hq, rfl⟩⟩ := hp
          · obtain ⟨x, e1⟩ := (s.pen _ i hp).2.2.1.at
            rw [e1] at z; cases z
          · obtain ⟨_, ps, e1, _⟩ := (s.pen b i hp).2.2.2 qt hq
            rw [e1] at z; cases z
        · have := s.stay a u q hp
          rw [this] at z; cases z
  pen := fun a i e => let ⟨h1, h2, h3⟩ := s.pen a i e; ⟨g.none h1 h3.1.at, h2, h3.1.gr g, h3.2.up g.f (fun q hq => g.none (h3.2 q hq).1 (let ⟨_, ps, e, _⟩ := h3.2 q hq; ⟨_, e⟩)) (fun q _ o e => g.h _ _ e)⟩
  len := s.len
  sh := fun i d h e => let ⟨v, e1, r⟩ := s.sh i d h e; ⟨v, e1, r.mono g.f⟩
  ow := fun i hi d e => let ⟨a, e1, o, f, h, q⟩ := s.ow i hi d e; ⟨a, e1, o.gr g, g.none f o.at, h, q⟩
  dj := s.dj
end
/-- what an expression may do: new things, and draws -/
structure Gp (p : Pm) (F H F' H' : Hp) : Prop where
  f : Same F F'
  h : ∀ a o, H a = some o → ¬ p.isPen a → H' a = some o
  new : ∀ a o, F' a = some o → F a = some o ∨ H a = none ∨ p.isPen a
theorem Gp.refl {p : Pm} {F H : Hp} : Gp p F H F H := ⟨.refl _, fun _ _ e _ => e, fun _ _ e => .inl e⟩
theorem Gp.trans {p : Pm} {F H F1 H1 F2 H2 : Hp} (a : Gp p F H F1 H1) (b : Gp p F1 H1 F2 H2) : Gp p F H F2 H2 := by
  refine ⟨a.f.trans b.f, fun q o e hp => b.h q o (a.h q o e hp) hp, fun q o e => ?_⟩
  rcases b.new q o e with z | z | z
  · exact a.new q o z
  · by_cases hp : p.isPen q
    · exact .inr (.inr hp)
    · cases w : H q with
      | none => exact .inr (.inl rfl)
      | some u =>
        rw [a.h q u w hp] at z
        cases z
  · exact .inr (.inr z)
theorem Gr.gp {p : Pm} {F H F' H' : Hp} (g : Gr F H F' H') : Gp p F H F' H' := ⟨g.f, fun a o e _ => g.h a o e, fun a o e => (g.new a o e).elim .inl fun z => .inr (.inl z)⟩
abbrev ME := DEnv → Nat → (D → Nat → Prop) → Prop
abbrev MT := DEnv → Nat → (Bool → Nat → Prop) → Prop
abbrev MA := DEnv → Nat → (List D → Nat → Prop) → Prop
abbrev MF := List D → Nat → (D → Nat → Prop) → Prop
structure EndsD where
  nx : DEnv → Nat → Prop
  rt : D → Nat → Prop
  bk : DEnv → Nat → Prop := fun _ _ => False
  ct : DEnv → Nat → Prop := fun _ _ => False
abbrev MS := EndsD → DEnv → Nat → Prop
abbrev MG := D → DEnv → (DEnv → Prop) → Prop
/-- a reading t tells the meaning m -/
def LE (p : Pm) (O : List Nat) (t : TE) (m : ME) : Prop :=
  ∀ F0 H0 F H σ Γ n (Q : D → Nat → Prop), Sep p F0 H0 O F H σ Γ n → m Γ n Q → ∀ Q' : VK,
    (∀ d v F' H' n', Sep p F0 H0 O F' H' σ Γ n' → Gp p F H F' H' → Rp p.K F' d v → Q d n' → Q' v H') → t σ H Q'
def LT (p : Pm) (O : List Nat) (t : TT) (m : MT) : Prop :=
  ∀ F0 H0 F H σ Γ n (Q : Bool → Nat → Prop), Sep p F0 H0 O F H σ Γ n → m Γ n Q → ∀ Q' : Bool → Hp → Prop,
    (∀ b F' H' n', Sep p F0 H0 O F' H' σ Γ n' → Gp p F H F' H' → Q b n' → Q' b H') → t σ H Q'
def LA (p : Pm) (O : List Nat) (t : TA) (m : MA) : Prop :=
  ∀ F0 H0 F H σ Γ n (Q : List D → Nat → Prop), Sep p F0 H0 O F H σ Γ n → m Γ n Q → ∀ Q' : List V → Hp → Prop,
    (∀ ds vs F' H' n', Sep p F0 H0 O F' H' σ Γ n' → Gp p F H F' H' → Rps p.K F' ds vs → Q ds n' → Q' vs H') → t σ H Q'
/-- behind a return: what the slots hold is nothing to us -/
structure Fin0 (p : Pm) (F0 H0 F H : Hp) (n : Nat) : Prop where
  f0 : Same F0 F
  fh : Same F H
  stay : ∀ a o, H0 a = some o → ¬ p.isPen a → H a = some o
  newF : ∀ a o, F a = some o → F0 a = some o ∨ H0 a = none
  pen : ∀ a i, p.ap = some (a, i) → F a = none ∧ PenAt p.dr.ad F H a n ∧ TabF p.dr.tb F H
theorem Sep.fin {p : Pm} {F0 H0 F H : Hp} {O : List Nat} {σ : St} {Γ : DEnv} {n : Nat} (s : Sep p F0 H0 O F H σ Γ n) : Fin0 p F0 H0 F H n :=
  ⟨s.f0, s.fh, s.stay, s.newF, fun a i e => ⟨(s.pen a i e).1, (s.pen a i e).2.2⟩⟩
def LS (p : Pm) (Ob O O' : List Nat) (t : TS) (m : MS) : Prop :=
  ∀ F0 H0 F H σ Γ n (E : EndsD), Sep p F0 H0 O F H σ Γ n → m E Γ n → ∀ E' : Ends,
    (∀ F' H' σ' Γ' n', Sep p F0 H0 O' F' H' σ' Γ' n' → Same F F' → E.nx Γ' n' → E'.nx σ' H') →
    (∀ d v F' H' n', Fin0 p F0 H0 F' H' n' → Rp p.K F' d v → E.rt d n' → E'.rt v H') →
    (∀ F' H' σ' Γ' n', Sep p F0 H0 Ob F' H' σ' Γ' n' → Same F F' → E.bk Γ' n' → E'.bk σ' H') →
    (∀ F' H' σ' Γ' n', Sep p F0 H0 Ob F' H' σ' Γ' n' → Same F F' → E.ct Γ' n' → E'.ct σ' H') → t E' σ H
structure RE (X : Cx) (p : Pm) (O : List Nat) (e : Expr) (t : TE) (m : ME) : Prop where
  pe : PE X e t
  le : LE p O t m
structure RT (X : Cx) (p : Pm) (O : List Nat) (e : Expr) (t : TT) (m : MT) : Prop where
  pt : PT X e t
  le : LT p O t m
structure RW (X : Cx) (p : Pm) (O : List Nat) (e : Expr) (t : TT) (m : MT) : Prop where
  pw : PW X e t
  le : LT p O t m
structure RA (X : Cx) (p : Pm) (O : List Nat) (es : List Expr) (t : TA) (m : MA) : Prop where
  pa : PA X es t
  le : LA p O t m
structure RS (X : Cx) (p : Pm) (Ob O O' : List Nat) (st : Stmt) (t : TS) (m : MS) : Prop where
  ps : PS X st t
  le : LS p Ob O O' t m
structure RSs (X : Cx) (p : Pm) (Ob O O' : List Nat) (sts : List Stmt) (t : TS) (m : MS) : Prop where
  ps : PSs X sts t
  le : LS p Ob O O' t m
end RR
end
section
namespace RR
open PySem PySem.Spec L2
open PyProof.Rows hiding St
section
variable {X : Cx} {p : Pm} {O : List Nat} {a b c e : Expr} {pos : Pos} {ta tb tc te : TE} {ma mb mc me : ME}
@[reducible] def mVar (i : Nat) : ME := fun Γ n Q => ∃ d, Γ[i]? = some (some d) ∧ Q d n
@[reducible] def mC (d : D) : ME := fun _ n Q => Q d n
theorem e_var {x : Str} (i : Nat) (h : PE X (.Name x pos) (tVar i)) (hO : i ∉ O) : RE X p O (.Name x pos) (tVar i) (mVar i) :=
  ⟨h, fun F0 H0 F H σ Γ n Q s ⟨d, e, q⟩ Q' k => by
    obtain ⟨v, e1, r⟩ := s.sh i d hO e
    exact ⟨v, e1, k d v F H n s .refl r q⟩⟩
theorem le_c {v : V} {d : D} (r : ∀ K F, Rp K F d v) : LE p O (tC v) (mC d) := fun F0 H0 F H σ Γ n Q s q Q' k => k d v F H n s .refl (r _ _) q
theorem e_int {i j} : RE X p O (.Constant (.int i) j pos) (tC (.int i)) (mC (.int i)) := ⟨pe_int, le_c fun _ _ => .int i⟩
theorem e_bl {i j} : RE X p O (.Constant (.bool i) j pos) (tC (.bl i)) (mC (.bool i)) := ⟨pe_bl, le_c fun _ _ => .bl i⟩
theorem e_non {j} : RE X p O (.Constant .none j pos) (tC .non) (mC .none) := ⟨pe_non, le_c fun _ _ => .non⟩
theorem e_str {i j} : RE X p O (.Constant (.str i) j pos) (tC (.str i)) (mC (.str i)) := ⟨pe_str, le_c fun _ _ => .str i⟩
/-- a constant of the module -/
theorem e_glob {x : Str} {v : V} {u : Value} {d : D} (hg : Gl X x) (hm : X.mg x = some u) (r : RelV v u) (w : ∀ F, Rp p.K F d v) (hd : (x == ("__debug__" : Str)) = false := by decide) : RE X p O (.Name x pos) (tC v) (mC d) :=
  ⟨pe_glob hg hm r hd, fun F0 H0 F H σ Γ n Q s q Q' k => k d v F H n s .refl (w F) q⟩
/-- a reading by values tells a partial function of data -/
def OpL (K : PySem.W.Frag) (r : R2) (f : D → D → Option D) : Prop := ∀ F H x y dx dy d, Same F H → Rp K F dx x → Rp K F dy y → f dx dy = some d →
  ∀ Q' : VK, (∀ v F' H', Gr F H F' H' → Rp K F' d v → Q' v H') → r x y H Q'
def UnL (K : PySem.W.Frag) (r : V → Hp → VK → Prop) (f : D → Option D) : Prop := ∀ F H x dx d, Same F H → Rp K F dx x → f dx = some d →
  ∀ Q' : VK, (∀ v F' H', Gr F H F' H' → Rp K F' d v → Q' v H') → r x H Q'
def ClL (K : PySem.W.Frag) (r : List V → Hp → VK → Prop) (f : List D → Option D) : Prop := ∀ F H xs ds d, Same F H → Rps K F ds xs → f ds = some d →
  ∀ Q' : VK, (∀ v F' H', Gr F H F' H' → Rp K F' d v → Q' v H') → r xs H Q'
@[reducible] def mOp (f : D → D → Option D) (ma mb : ME) : ME := fun Γ n Q => ma Γ n fun x n1 => mb Γ n1 fun y n2 => ∃ d, f x y = some d ∧ Q d n2
@[reducible] def mUn (f : D → Option D) (ma : ME) : ME := fun Γ n Q => ma Γ n fun x n1 => ∃ d, f x = some d ∧ Q d n1
theorem le_op {r : R2} {f : D → D → Option D} (l : OpL p.K r f) (ha : LE p O ta ma) (hb : LE p O tb mb) : LE p O (tOp r ta tb) (mOp f ma mb) :=
  fun F0 H0 F H σ Γ n Q s q Q' k => by
    refine ha F0 H0 F H σ Γ n _ s q _ fun dx x F1 H1 n1 s1 e1 r1 q1 => ?_
    refine hb F0 H0 F1 H1 σ Γ n1 _ s1 q1 _ fun dy y F2 H2 n2 s2 e2 r2 ⟨d, fe, q2⟩ => ?_
    refine l F2 H2 x y dx dy d s2.fh (r1.mono e2.f) r2 fe _ fun v F3 H3 g r3 => ?_
    exact k d v F3 H3 n2 (s2.gr g) ((e1.trans e2).trans g.gp) r3 q2
theorem le_un {r : V → Hp → VK → Prop} {f : D → Option D} (l : UnL p.K r f) (ha : LE p O ta ma) : LE p O (tUn r ta) (mUn f ma) :=
  fun F0 H0 F H σ Γ n Q s q Q' k => by
    refine ha F0 H0 F H σ Γ n _ s q _ fun dx x F1 H1 n1 s1 e1 r1 ⟨d, fe, q1⟩ => ?_
    refine l F1 H1 x dx d s1.fh r1 fe _ fun v F3 H3 g r3 => ?_
    exact k d v F3 H3 n1 (s1.gr g) (e1.trans g.gp) r3 q1
theorem e_op {op : Operator} {r : R2} {f : D → D → Option D} (ho : OpR X (binaryOp op) r) (l : OpL p.K r f) (ha : RE X p O a ta ma) (hb : RE X p O b tb mb) : RE X p O (.BinOp a op b pos) (tOp r ta tb) (mOp f ma mb) :=
  ⟨pe_op ho ha.pe hb.pe, le_op l ha.le hb.le⟩
theorem e_un {op : UnaryOp} {r : V → Hp → VK → Prop} {f : D → Option D} (ho : UnR X (unaryOp op) r) (l : UnL p.K r f) (ha : RE X p O a ta ma) : RE X p O (.UnaryOp op a pos) (tUn r ta) (mUn f ma) :=
  ⟨pe_un ho ha.pe, le_un l ha.le⟩
theorem e_cmp {op : CmpOp} {r : R2} {f : D → D → Option D} (ho : OpR X (compareOp op) r) (l : OpL p.K r f) (ha : RE X p O a ta ma) (hb : RE X p O b tb mb) (hm : behindInMarks op b = false) : RE X p O (.Compare a [op] [b] pos) (tOp r ta tb) (mOp f ma mb) :=
  ⟨pe_cmpR ho ha.pe hb.pe hm, le_op l ha.le hb.le⟩
/-- a value that is True or False, as a test -/
@[reducible] def mTest (m : ME) : MT := fun Γ n Q => m Γ n fun d n1 => ∃ b, d = .bool b ∧ Q b n1
theorem lt_test {t : TE} {m : ME} (h : LE p O t m) : LT p O (tTest t) (mTest m) := fun F0 H0 F H σ Γ n Q s q Q' k =>
  h F0 H0 F H σ Γ n _ s q _ fun d v F1 H1 n1 s1 e1 r1 ⟨b, eb, q1⟩ => by
    subst eb
    exact ⟨b, r1.bl_inv, k b F1 H1 n1 s1 e1 q1⟩
theorem t_cmp {op : CmpOp} {r : R2} {f : D → D → Option D} (ho : OpR X (compareOp op) r) (l : OpL p.K r f) (ha : RE X p O a ta ma) (hb : RE X p O b tb mb) (hm : behindInMarks op b = false) : RT X p O (.Compare a [op] [b] pos) (tTest (tOp r ta tb)) (mTest (mOp f ma mb)) :=
  ⟨pt_cmpR ho ha.pe hb.pe hm, lt_test (le_op l ha.le hb.le)⟩
theorem t_val (ha : RE X p O a ta ma) (he : ∀ whole, isTrue a X.env whole = (do let v ← whole; standAt a.pos; holding [v] (truthy v)) := by intro _; rfl) : RT X p O a (tB ta) (mTest ma) :=
  ⟨pt_val ha.pe he, lt_test ha.le⟩
/-- a < b < c -/
@[reducible] def mChain (f g : D → D → Option D) (ma mb mc : ME) : ME := fun Γ n Q => ma Γ n fun x n1 => mb Γ n1 fun y n2 => ∃ k, f x y = some (.bool k) ∧ if k = true then mc Γ n2 fun z n3 => ∃ d, g y z = some d ∧ Q d n3 else Q (.bool false) n2
theorem le_chain {r r' : R2} {f g : D → D → Option D} (l : OpL p.K r f) (l' : OpL p.K r' g) (ha : LE p O ta ma) (hb : LE p O tb mb) (hc : LE p O tc mc) : LE p O (tChain r r' ta tb tc) (mChain f g ma mb mc) :=
  fun F0 H0 F H σ Γ n Q s q Q' k => by
    refine ha F0 H0 F H σ Γ n _ s q _ fun dx x F1 H1 n1 s1 e1 r1 q1 => ?_
    refine hb F0 H0 F1 H1 σ Γ n1 _ s1 q1 _ fun dy y F2 H2 n2 s2 e2 r2 ⟨d, fe, q2⟩ => ?_
    refine l F2 H2 x y dx dy _ s2.fh (r1.mono e2.f) r2 fe _ fun v F3 H3 g3 r3 => ?_
    refine ⟨d, r3.bl_inv, ?_⟩
    cases d with
    | true =>
      rw [if_pos rfl] at q2 ⊢
      refine hc F0 H0 F3 H3 σ Γ n2 _ (s2.gr g3) q2 _ fun dz z F4 H4 n4 s4 e4 r4 ⟨d, ge, q4⟩ => ?_
      refine l' F4 H4 y z dy dz d s4.fh (r2.mono (g3.f.trans e4.f)) r4 ge _ fun v F5 H5 g5 r5 => ?_
      exact k d v F5 H5 n4 (s4.gr g5) ((((e1.trans e2).trans g3.gp).trans e4).trans g5.gp) r5 q4
    | false =>
      rw [if_neg (by decide)] at q2 ⊢
      exact k _ _ F3 H3 n2 (s2.gr g3) ((e1.trans e2).trans g3.gp) (.bl false) q2
theorem e_chain {op op' : CmpOp} {r r' : R2} {f g : D → D → Option D} (ho : OpR X (compareOp op) r) (l : OpL p.K r f) (ho' : OpR X (compareOp op') r') (l' : OpL p.K r' g) (ha : RE X p O a ta ma) (hb : RE X p O b tb mb) (hc : RE X p O c tc mc)
    (h : PE X (.Compare a [op, op'] [b, c] pos) (tChain r r' ta tb tc)) : RE X p O (.Compare a [op, op'] [b, c] pos) (tChain r r' ta tb tc) (mChain f g ma mb mc) := ⟨h, le_chain l l' ha.le hb.le hc.le⟩
theorem t_chain {op op' : CmpOp} {r r' : R2} {f g : D → D → Option D} (ho : OpR X (compareOp op) r) (l : OpL p.K r f) (ho' : OpR X (compareOp op') r') (l' : OpL p.K r' g) (ha : RE X p O a ta ma) (hb : RE X p O b tb mb) (hc : RE X p O c tc mc)
    (h : PT X (.Compare a [op, op'] [b, c] pos) (tTest (tChain r r' ta tb tc))) : RT X p O (.Compare a [op, op'] [b, c] pos) (tTest (tChain r r' ta tb tc)) (mTest (mChain f g ma mb mc)) := ⟨h, lt_test (le_chain l l' ha.le hb.le hc.le)⟩
variable {tA tB' : TT} {mA mB : MT} {rest : List Expr}
@[reducible] def mAnd (m u : MT) : MT := fun Γ n Q => m Γ n fun c n1 => if c = true then u Γ n1 Q else Q false n1
@[reducible] def mOr (m u : MT) : MT := fun Γ n Q => m Γ n fun c n1 => if c = true then Q true n1 else u Γ n1 Q
@[reducible] def mNot (m : MT) : MT := fun Γ n Q => m Γ n fun c n1 => Q (!c) n1
theorem lt_and (ha : LT p O tA mA) (hb : LT p O tB' mB) : LT p O (tAnd tA tB') (mAnd mA mB) := fun F0 H0 F H σ Γ n Q s q Q' k =>
  ha F0 H0 F H σ Γ n _ s q _ fun c F1 H1 n1 s1 e1 q1 => by
    cases c with
    | true =>
      rw [if_pos rfl] at q1 ⊢
      exact hb F0 H0 F1 H1 σ Γ n1 Q s1 q1 Q' fun b F2 H2 n2 s2 e2 q2 => k b F2 H2 n2 s2 (e1.trans e2) q2
    | false =>
      rw [if_neg (by decide)] at q1 ⊢
      exact k false F1 H1 n1 s1 e1 q1
theorem lt_or (ha : LT p O tA mA) (hb : LT p O tB' mB) : LT p O (tOr tA tB') (mOr mA mB) := fun F0 H0 F H σ Γ n Q s q Q' k =>
  ha F0 H0 F H σ Γ n _ s q _ fun c F1 H1 n1 s1 e1 q1 => by
    cases c with
    | true =>
      rw [if_pos rfl] at q1 ⊢
      exact k true F1 H1 n1 s1 e1 q1
    | false =>
      rw [if_neg (by decide)] at q1 ⊢
      exact hb F0 H0 F1 H1 σ Γ n1 Q s1 q1 Q' fun b F2 H2 n2 s2 e2 q2 => k b F2 H2 n2 s2 (e1.trans e2) q2
theorem lt_not (ha : LT p O tA mA) : LT p O (tNot tA) (mNot mA) := fun F0 H0 F H σ Γ n Q s q Q' k =>
  ha F0 H0 F H σ Γ n _ s q _ fun c F1 H1 n1 s1 e1 q1 => k (!c) F1 H1 n1 s1 e1 q1
theorem w_and1 (ha : RT X p O a tA mA) : RW X p O (.BoolOp .And [a] pos) tA mA := ⟨pw_and1 ha.pt, ha.le⟩
theorem w_or1 (ha : RT X p O a tA mA) : RW X p O (.BoolOp .Or [a] pos) tA mA := ⟨pw_or1 ha.pt, ha.le⟩
theorem w_and (ha : RT X p O a tA mA) (hb : RW X p O (.BoolOp .And (b :: rest) pos) tB' mB) : RW X p O (.BoolOp .And (a :: b :: rest) pos) (tAnd tA tB') (mAnd mA mB) := ⟨pw_and ha.pt hb.pw, lt_and ha.le hb.le⟩
theorem w_or (ha : RT X p O a tA mA) (hb : RW X p O (.BoolOp .Or (b :: rest) pos) tB' mB) : RW X p O (.BoolOp .Or (a :: b :: rest) pos) (tOr tA tB') (mOr mA mB) := ⟨pw_or ha.pt hb.pw, lt_or ha.le hb.le⟩
theorem RW.t (h : RW X p O a tA mA) : RT X p O a tA mA := ⟨h.pw.pt, h.le⟩
theorem t_not (ha : RT X p O a tA mA) : RT X p O (.UnaryOp .Not a pos) (tNot tA) (mNot mA) := ⟨pt_not ha.pt, lt_not ha.le⟩
/-- as values -/
@[reducible] def mAndV (m u : ME) : ME := fun Γ n Q => m Γ n fun x n1 => ∃ c, x = .bool c ∧ if c = true then u Γ n1 Q else Q (.bool false) n1
@[reducible] def mOrV (m u : ME) : ME := fun Γ n Q => m Γ n fun x n1 => ∃ c, x = .bool c ∧ if c = true then Q (.bool true) n1 else u Γ n1 Q
@[reducible] def mNotV (m : ME) : ME := fun Γ n Q => m Γ n fun x n1 => ∃ c, x = .bool c ∧ Q (.bool (!c)) n1
theorem le_andV (ha : LE p O ta ma) (hb : LE p O tb mb) : LE p O (tAndV ta tb) (mAndV ma mb) := fun F0 H0 F H σ Γ n Q s q Q' k =>
  ha F0 H0 F H σ Γ n _ s q _ fun d v F1 H1 n1 s1 e1 r1 ⟨c, ec, q1⟩ => by
    subst ec
    refine ⟨c, r1.bl_inv, ?_⟩
    cases c with
    | true =>
      rw [if_pos rfl] at q1 ⊢
      exact hb F0 H0 F1 H1 σ Γ n1 Q s1 q1 Q' fun d v F2 H2 n2 s2 e2 r2 q2 => k d v F2 H2 n2 s2 (e1.trans e2) r2 q2
    | false =>
      rw [if_neg (by decide)] at q1 ⊢
      exact k _ _ F1 H1 n1 s1 e1 (.bl false) q1
theorem le_orV (ha : LE p O ta ma) (hb : LE p O tb mb) : LE p O (tOrV ta tb) (mOrV ma mb) := fun F0 H0 F H σ Γ n Q s q Q' k =>
  ha F0 H0 F H σ Γ n _ s q _ fun d v F1 H1 n1 s1 e1 r1 ⟨c, ec, q1⟩ => by
    subst ec
    refine ⟨c, r1.bl_inv, ?_⟩
    cases c with
    | true =>
      rw [if_pos rfl] at q1 ⊢
      exact k _ _ F1 H1 n1 s1 e1 (.bl true) q1
    | false =>
      rw [if_neg (by decide)] at q1 ⊢
      exact hb F0 H0 F1 H1 σ Γ n1 Q s1 q1 Q' fun d v F2 H2 n2 s2 e2 r2 q2 => k d v F2 H2 n2 s2 (e1.trans e2) r2 q2
theorem le_notV (ha : LE p O ta ma) : LE p O (tNotV ta) (mNotV ma) := fun F0 H0 F H σ Γ n Q s q Q' k =>
  ha F0 H0 F H σ Γ n _ s q _ fun d v F1 H1 n1 s1 e1 r1 ⟨c, ec, q1⟩ => by
    subst ec
    exact ⟨c, r1.bl_inv, k _ _ F1 H1 n1 s1 e1 (.bl _) q1⟩
theorem e_one {op} (h : RE X p O a ta ma) : RE X p O (.BoolOp op [a] pos) ta ma := ⟨pe_one h.pe, h.le⟩
theorem e_and (ha : RE X p O a ta ma) (hb : RE X p O (.BoolOp .And (b :: rest) pos) tb mb) : RE X p O (.BoolOp .And (a :: b :: rest) pos) (tAndV ta tb) (mAndV ma mb) := ⟨pe_and ha.pe hb.pe, le_andV ha.le hb.le⟩
theorem e_or (ha : RE X p O a ta ma) (hb : RE X p O (.BoolOp .Or (b :: rest) pos) tb mb) : RE X p O (.BoolOp .Or (a :: b :: rest) pos) (tOrV ta tb) (mOrV ma mb) := ⟨pe_or ha.pe hb.pe, le_orV ha.le hb.le⟩
theorem e_not (ha : RE X p O a ta ma) : RE X p O (.UnaryOp .Not a pos) (tNotV ta) (mNotV ma) := ⟨pe_not ha.pe, le_notV ha.le⟩
@[reducible] def mIf (t : MT) (ma mb : ME) : ME := fun Γ n Q => t Γ n fun c n1 => if c = true then ma Γ n1 Q else mb Γ n1 Q
theorem le_if (hc : LT p O tA mA) (ha : LE p O ta ma) (hb : LE p O tb mb) : LE p O (tIf tA ta tb) (mIf mA ma mb) := fun F0 H0 F H σ Γ n Q s q Q' k =>
  hc F0 H0 F H σ Γ n _ s q _ fun c F1 H1 n1 s1 e1 q1 => by
    cases c with
    | true =>
      rw [if_pos rfl] at q1 ⊢
      exact ha F0 H0 F1 H1 σ Γ n1 Q s1 q1 Q' fun d v F2 H2 n2 s2 e2 r2 q2 => k d v F2 H2 n2 s2 (e1.trans e2) r2 q2
    | false =>
      rw [if_neg (by decide)] at q1 ⊢
      exact hb F0 H0 F1 H1 σ Γ n1 Q s1 q1 Q' fun d v F2 H2 n2 s2 e2 r2 q2 => k d v F2 H2 n2 s2 (e1.trans e2) r2 q2
theorem e_if (hc : RT X p O c tA mA) (ha : RE X p O a ta ma) (hb : RE X p O b tb mb) : RE X p O (.IfExp c a b pos) (tIf tA ta tb) (mIf mA ma mb) := ⟨pe_ifExp hc.pt ha.pe hb.pe, le_if hc.le ha.le hb.le⟩
@[reducible] def mNil : MA := fun _ n Q => Q [] n
@[reducible] def mCons (m : ME) (u : MA) : MA := fun Γ n Q => m Γ n fun d n1 => u Γ n1 fun ds n2 => Q (d :: ds) n2
variable {es : List Expr} {t : TA} {m : MA}
theorem a_nil : RA X p O [] tNil mNil := ⟨pa_nil, fun F0 H0 F H σ Γ n Q s q Q' k => k [] [] F H n s .refl .nil q⟩
theorem la_cons (ha : LE p O te me) (hr : LA p O t m) : LA p O (tCons te t) (mCons me m) := fun F0 H0 F H σ Γ n Q s q Q' k =>
  ha F0 H0 F H σ Γ n _ s q _ fun d v F1 H1 n1 s1 e1 r1 q1 =>
    hr F0 H0 F1 H1 σ Γ n1 _ s1 q1 _ fun ds vs F2 H2 n2 s2 e2 r2 q2 => k (d :: ds) (v :: vs) F2 H2 n2 s2 (e1.trans e2) (.cons (r1.mono e2.f) r2) q2
theorem a_cons (ha : RE X p O e te me) (hr : RA X p O es t m) (hs : starEach (e :: es) X.env = (false, eval e X.env) :: starEach es X.env := by rfl) : RA X p O (e :: es) (tCons te t) (mCons me m) := ⟨pa_cons ha.pe hr.pa hs, la_cons ha.le hr.le⟩
/-- sizes: a list, a tuple, a text of at most so many -/
def lim : Nat := 100000
theorem lim_line {n : Nat} (h : n ≤ lim) : n ≤ sizeLine := Nat.le_trans h (by decide)
theorem lim_lt {n : Nat} (h : n ≤ lim) : n < sizeLine := Nat.lt_of_le_of_lt h (by decide)
@[reducible] def mTup (m : MA) : ME := fun Γ n Q => m Γ n fun ds n1 => ds.length ≤ lim ∧ Q (.tuple ds) n1
@[reducible] def mLst (m : MA) : ME := fun Γ n Q => m Γ n fun ds n1 => ds.length ≤ lim ∧ Q (.list ds) n1
theorem Rp.new_tup {K : PySem.W.Frag} {F H : Hp} {q : Addr} {ds : List D} {vs : List V} (r : Rps K F ds vs) (f : F q = none) : Rp K (upd F q (.tup vs)) (.tuple ds) (.ref q) := .of_tup (.inl (.inl upd_same)) (r.mono (same_up f))
theorem Rp.new_lst {K : PySem.W.Frag} {F H : Hp} {q : Addr} {ds : List D} {vs : List V} (r : Rps K F ds vs) (f : F q = none) : Rp K (upd F q (.lst vs)) (.list ds) (.ref q) := .of_lst upd_same (r.mono (same_up f))
theorem le_tup (h : LA p O t m) : LE p O (tTup t) (mTup m) := fun F0 H0 F H σ Γ n Q s q Q' k =>
  h F0 H0 F H σ Γ n _ s q _ fun ds vs F1 H1 n1 s1 e1 r1 ⟨l, q1⟩ => by
    refine ⟨by rw [r1.len]; exact lim_line l, fun x hx => ?_⟩
    have g := Gr.new1 (F := F1) s1.fh hx (.tup vs)
    exact k _ _ _ _ n1 (s1.gr g) (e1.trans g.gp) (Rp.new_tup (H := H1) r1 (s1.fh.free hx)) q1
theorem le_lst (h : LA p O t m) : LE p O (tLst t) (mLst m) := fun F0 H0 F H σ Γ n Q s q Q' k =>
  h F0 H0 F H σ Γ n _ s q _ fun ds vs F1 H1 n1 s1 e1 r1 ⟨l, q1⟩ => by
    refine ⟨by rw [r1.len]; exact lim_line l, fun x hx => ?_⟩
    have g := Gr.new1 (F := F1) s1.fh hx (.lst vs)
    exact k _ _ _ _ n1 (s1.gr g) (e1.trans g.gp) (Rp.new_lst (H := H1) r1 (s1.fh.free hx)) q1
theorem e_tup {x1} (h : RA X p O es t m) : RE X p O (.Tuple es x1 pos) (tTup t) (mTup m) := ⟨pe_tup h.pa, le_tup h.le⟩
theorem e_lst (h : RA X p O es t m) : RE X p O (.List es pos) (tLst t) (mLst m) := ⟨pe_lst h.pa, le_lst h.le⟩
@[reducible] def mCl (f : List D → Option D) (m : MA) : ME := fun Γ n Q => m Γ n fun ds n1 => ∃ d, f ds = some d ∧ Q d n1
theorem le_cl {r : List V → Hp → VK → Prop} {f : List D → Option D} (l : ClL p.K r f) (h : LA p O t m) : LE p O (tCB r t) (mCl f m) := fun F0 H0 F H σ Γ n Q s q Q' k =>
  h F0 H0 F H σ Γ n _ s q _ fun ds vs F1 H1 n1 s1 e1 r1 ⟨d, fe, q1⟩ =>
    l F1 H1 vs ds d s1.fh r1 fe _ fun v F3 H3 g r3 => k d v F3 H3 n1 (s1.gr g) (e1.trans g.gp) r3 q1
theorem e_ix {r : R2} {f : D → D → Option D} (hr : IxR X r) (l : OpL p.K r f) (ha : RE X p O a ta ma) (hb : RE X p O b tb mb) (hs : PlainIx b) : RE X p O (.Subscript a b pos) (tOp r ta tb) (mOp f ma mb) := ⟨pe_ix hr ha.pe hb.pe hs, le_op l ha.le hb.le⟩
end
end RR
end
section
namespace RR
open PySem PySem.Spec L2
open PyProof.Rows hiding St
def dAdd : D → D → Option D
  | .int i, .int j => some (.int (i + j))
  | .list xs, .list ys => if xs.length + ys.length ≤ lim then some (.list (xs ++ ys)) else none
  | .tuple xs, .tuple ys => if xs.length + ys.length ≤ lim then some (.tuple (xs ++ ys)) else none
  | _, _ => none
def dSub : D → D → Option D
  | .int i, .int j => some (.int (i - j))
  | _, _ => none
def dMul : D → D → Option D
  | .int i, .int j => if (-(2 ^ 64) < i ∧ i < 2 ^ 64) ∨ (-(2 ^ 64) < j ∧ j < 2 ^ 64) then some (.int (i * j)) else none
  | .list xs, .int k => if xs.length * k.toNat ≤ lim ∧ -(2 ^ 63) ≤ k ∧ k < 2 ^ 63 then some (.list (List.replicate k.toNat xs).flatten) else none
  | _, _ => none
def dMod : D → D → Option D
  | .int i, .int j => if 0 < j then some (.int (i % j)) else none
  | _, _ => none
def dPow : D → D → Option D
  | .int i, .int j => if 0 ≤ j ∧ j ≤ 1000000 ∧ i.natAbs < 2 ^ 64 then some (.int (i ^ j.toNat)) else none
  | _, _ => none
def dCmp (p : Int → Int → Bool) : D → D → Option D
  | .int i, .int j => some (.bool (p i j))
  | _, _ => none
@[reducible] def dLt := dCmp fun i j => decide (i < j)
@[reducible] def dLe := dCmp fun i j => decide (i ≤ j)
@[reducible] def dGt := dCmp fun i j => decide (j < i)
@[reducible] def dGe := dCmp fun i j => decide (j ≤ i)
def dNeg : D → Option D
  | .int i => some (.int (-i))
  | _ => none
def scalD : D → D → Bool
  | .int _, .int _ => true
  | .str _, .str _ => true
  | .bool _, .bool _ => true
  | _, _ => false
def dEq (x y : D) : Option D := if scalD x y = true ∨ (SeqAt.shaped x = true ∧ SeqAt.shaped y = true) then some (.bool (PyData.eqv x y)) else none
def dNe (x y : D) : Option D := if scalD x y = true ∨ (SeqAt.shaped x = true ∧ SeqAt.shaped y = true) then some (.bool (!PyData.eqv x y)) else none
/-- is None -/
def isNone : D → Bool
  | .none => true
  | _ => false
def dIsN : D → D → Option D
  | x, .none => some (.bool (isNone x))
  | _, _ => none
/-- of a dict -/
def keyOf : D → Option Key
  | .int i => some (.inl i)
  | .str x => some (.inr x)
  | _ => none
def dLook (kvs : List (D × D)) (k : D) : Option D := (kvs.find? fun q => PyData.eqv q.1 k).map (·.2)
def isKey (d : D) : Bool := (keyOf d).isSome
def flatD : D → Bool
  | .none => true
  | .bool _ => true
  | .int _ => true
  | .str _ => true
  | _ => false
def anyEq (x : D) (xs : List D) : Bool := xs.any fun y => PyData.eqv y x
def dIn (x : D) : D → Option D
  | .list xs => if SeqAt.shaped x = true ∧ SeqAt.shaped (.list xs) = true then some (.bool (anyEq x xs)) else none
  | .tuple xs => if flatD x = true ∧ xs.all flatD = true then some (.bool (anyEq x xs)) else none
  | .dict kvs => if isKey x = true then some (.bool (dLook kvs x).isSome) else none
  | _ => none
def dNotIn (x : D) : D → Option D
  | .list xs => if SeqAt.shaped x = true ∧ SeqAt.shaped (.list xs) = true then some (.bool (!anyEq x xs)) else none
  | .tuple xs => if flatD x = true ∧ xs.all flatD = true then some (.bool (!anyEq x xs)) else none
  | .dict kvs => if isKey x = true then some (.bool (!(dLook kvs x).isSome)) else none
  | _ => none
def dIx : D → D → Option D
  | .list xs, .int i => atI xs i
  | .tuple xs, .int i => atI xs i
  | .dict kvs, k => if isKey k = true then dLook kvs k else none
  | _, _ => none
section
variable {X : Cx} {K : PySem.W.Frag}
theorem OpL.or {r r' : R2} {f g : D → D → Option D} (l : OpL K r f) (l' : OpL K r' g) {h : D → D → Option D} (e : ∀ x y d, h x y = some d → f x y = some d ∨ g x y = some d) : OpL K (fun x y H Q => r x y H Q ∨ r' x y H Q) h :=
  fun F H x y dx dy d s rx ry fe Q' k => (e _ _ _ fe).elim (fun z => .inl (l F H x y dx dy d s rx ry z Q' k)) fun z => .inr (l' F H x y dx dy d s rx ry z Q' k)
theorem OpL.imp {r : R2} {f h : D → D → Option D} (l : OpL K r f) (e : ∀ x y d, h x y = some d → f x y = some d) : OpL K r h := fun F H x y dx dy d s rx ry fe => l F H x y dx dy d s rx ry (e _ _ _ fe)
/-- ints alone -/
theorem opl_int {C : Int → Int → Prop} {g : Int → Int → V} {f : D → D → Option D} (h : ∀ x y d, f x y = some d → ∃ i j, x = .int i ∧ y = .int j ∧ C i j ∧ ∀ F, Rp K F d (g i j)) : OpL K (rI C g) f :=
  fun F H x y dx dy d s rx ry fe Q' k => by
    obtain ⟨i, j, rfl, rfl, c, w⟩ := h _ _ _ fe
    exact ⟨i, j, rx.int_inv, ry.int_inv, c, k _ F H (.refl s) (w F)⟩
theorem opl_int0 {g : Int → Int → V} {f : D → D → Option D} (h : ∀ x y d, f x y = some d → ∃ i j, x = .int i ∧ y = .int j ∧ ∀ F, Rp K F d (g i j)) : OpL K (rI0 g) f :=
  fun F H x y dx dy d s rx ry fe Q' k => by
    obtain ⟨i, j, rfl, rfl, w⟩ := h _ _ _ fe
    exact ⟨i, j, rx.int_inv, ry.int_inv, k _ F H (.refl s) (w F)⟩
theorem l_addI : OpL K (rI0 fun i j => .int (i + j)) (fun x y => match x, y with | .int i, .int j => some (.int (i + j)) | _, _ => none) := opl_int0 fun x y d e => by
  split at e <;> first | (cases e; exact ⟨_, _, rfl, rfl, fun _ => .int _⟩) | cases e
theorem l_cat : OpL K rCat (fun x y => match x, y with | .list xs, .list ys => if xs.length + ys.length ≤ lim then some (.list (xs ++ ys)) else none | _, _ => none) := fun F H x y dx dy d s rx ry fe Q' k => by
  dsimp only at fe
  split at fe
  · rename_i xs ys
    split at fe
    · rename_i hl
      cases fe
      obtain ⟨a, vs, rfl, e1, r1⟩ := rx.lst_inv
      obtain ⟨b, ws, rfl, e2, r2⟩ := ry.lst_inv
      refine ⟨a, b, vs, ws, rfl, rfl, s _ _ e1, s _ _ e2, by rw [r1.len, r2.len]; exact lim_line hl, fun q hq => ?_⟩
      exact k _ _ _ (Gr.new1 s hq _) (Rp.new_lst (H := H) (r1.append r2) (s.free hq))
    · cases fe
  · cases fe
theorem l_catT : OpL K (rCatA K) (fun x y => match x, y with | .tuple xs, .tuple ys => if xs.length + ys.length ≤ lim then some (.tuple (xs ++ ys)) else none | _, _ => none) := fun F H x y dx dy d s rx ry fe Q' k => by
  dsimp only at fe
  split at fe
  · rename_i xs ys
    split at fe
    · rename_i hl
      cases fe
      obtain ⟨a, vs, rfl, e1, r1⟩ := rx.tup_inv
      obtain ⟨b, ws, rfl, e2, r2⟩ := ry.tup_inv
      refine ⟨a, b, vs, ws, rfl, rfl, Same.sqt s e1, Same.sqt s e2, by rw [r1.len, r2.len]; exact lim_line hl, fun z => ?_, fun _ z => ?_, fun _ _ q hq => ?_⟩
      · subst z
        have : xs = [] := List.length_eq_zero_iff.mp r1.len.symm
        subst this
        exact k _ F H (.refl s) (.of_tup e2 r2)
      · subst z
        have : ys = [] := List.length_eq_zero_iff.mp r2.len.symm
        subst this
        rw [List.append_nil] at k
        exact k _ F H (.refl s) (.of_tup e1 r1)
      · exact k _ _ _ (Gr.new1 s hq _) (Rp.new_tup (H := H) (r1.append r2) (s.free hq))
    · cases fe
  · cases fe
def rAddA (K : PySem.W.Frag) : R2 := fun x y H Q => rI0 (fun i j => .int (i + j)) x y H Q ∨ (fun x y H Q => rCat x y H Q ∨ rCatA K x y H Q) x y H Q
theorem o_add : OpR X (binaryOp .Add) (rAddA X.K) := op_add.or (op_cat.or op_catA)
theorem l_add : OpL K (rAddA K) dAdd := l_addI.or (l_cat.or l_catT (h := fun x y => match x, y with
    | .list xs, .list ys => if xs.length + ys.length ≤ lim then some (.list (xs ++ ys)) else none
    | .tuple xs, .tuple ys => if xs.length + ys.length ≤ lim then some (.tuple (xs ++ ys)) else none
    | _, _ => none) (fun x y d e => by split at e <;> first | exact .inl e | exact .inr e | cases e)) (fun x y d e => by
  unfold dAdd at e
  split at e <;> first | exact .inl e | exact .inr e | cases e)
theorem l_sub : OpL K (rI0 fun i j => .int (i - j)) dSub := opl_int0 fun x y d e => by
  unfold dSub at e
  split at e <;> first | (cases e; exact ⟨_, _, rfl, rfl, fun _ => .int _⟩) | cases e
theorem Rps.rep {F : Hp} {ds : List D} {xs : List V} (h : Rps K F ds xs) : ∀ n, Rps K F (List.replicate n ds).flatten (List.replicate n xs).flatten
  | 0 => .nil
  | n + 1 => by rw [List.replicate_succ, List.replicate_succ]; exact h.append (h.rep n)
theorem l_mulI : OpL K (rI CMul fun i j => .int (i * j)) (fun x y => match x, y with | .int i, .int j => if (-(2 ^ 64) < i ∧ i < 2 ^ 64) ∨ (-(2 ^ 64) < j ∧ j < 2 ^ 64) then some (.int (i * j)) else none | _, _ => none) := opl_int fun x y d e => by
  split at e
  · split at e
    · rename_i h
      cases e
      exact ⟨_, _, rfl, rfl, h, fun _ => .int _⟩
    · cases e
  · cases e
theorem l_mul : OpL K (fun x y H Q => rI CMul (fun i j => .int (i * j)) x y H Q ∨ rRep x y H Q) dMul := l_mulI.or (g := fun x y => match x, y with | .list xs, .int k => if xs.length * k.toNat ≤ lim ∧ -(2 ^ 63) ≤ k ∧ k < 2 ^ 63 then some (.list (List.replicate k.toNat xs).flatten) else none | _, _ => none) (fun F H x y dx dy d s rx ry fe Q' k => by
  dsimp only at fe
  split at fe
  · split at fe
    · rename_i hl
      cases fe
      obtain ⟨a, vs, rfl, e1, r1⟩ := rx.lst_inv
      cases ry.int_inv
      refine ⟨a, _, vs, rfl, rfl, s _ _ e1, hl.2.1, hl.2.2, by rw [r1.len]; exact lim_line hl.1, fun q hq => ?_⟩
      exact k _ _ _ (Gr.new1 s hq _) (Rp.new_lst (H := H) (r1.rep _) (s.free hq))
    · cases fe
  · cases fe) (fun x y d e => by
  unfold dMul at e
  split at e <;> first | exact .inl e | exact .inr e | cases e)
theorem o_mul : OpR X (binaryOp .Mult) (fun x y H Q => rI CMul (fun i j => .int (i * j)) x y H Q ∨ rRep x y H Q) := op_mul.or op_rep
theorem l_mod : OpL K (rI (fun _ j => 0 < j) fun i j => .int (i % j)) dMod := opl_int fun x y d e => by
  unfold dMod at e
  split at e
  · split at e
    · rename_i h
      cases e
      exact ⟨_, _, rfl, rfl, h, fun _ => .int _⟩
    · cases e
  · cases e
theorem l_pow : OpL K (rI CPow fun i j => .int (i ^ j.toNat)) dPow := opl_int fun x y d e => by
  unfold dPow at e
  split at e
  · split at e
    · rename_i h
      cases e
      exact ⟨_, _, rfl, rfl, h, fun _ => .int _⟩
    · cases e
  · cases e
theorem l_cmp {p : Int → Int → Bool} : OpL K (rI0 fun i j => .bl (p i j)) (dCmp p) := opl_int0 fun x y d e => by
  unfold dCmp at e
  split at e <;> first | (cases e; exact ⟨_, _, rfl, rfl, fun _ => .bl _⟩) | cases e
theorem l_neg : UnL K (rU fun i => .int (-i)) dNeg := fun F H x dx d s rx fe Q' k => by
  unfold dNeg at fe
  split at fe
  · cases fe
    exact ⟨_, rx.int_inv, k _ F H (.refl s) (.int _)⟩
  · cases fe
mutual
theorem Rp.dp {F : Hp} : ∀ (d : D) (v : V), d.canLay0 = true → Rp K F d v → Dp K F v d
  | .none, v, _, h => by cases h; exact .non
  | .bool b, v, _, h => by cases h; exact .bl b
  | .int i, v, _, h => by cases h; exact .int i
  | .str x, v, _, h => by cases h; exact .str x
  | .list ds, v, c, h => by
    obtain ⟨a, xs, rfl, e, r⟩ := h.lst_inv
    exact .lst (.of e) (Rp.dps ds xs (by simpa [PyData.canLay0] using c) r)
  | .tuple ds, v, c, h => by
    obtain ⟨a, xs, rfl, e, r⟩ := h.tup_inv
    exact .tup e (Rp.dps ds xs (by simpa [PyData.canLay0] using c) r)
  | .dict _, v, c, h => by simp [PyData.canLay0] at c
theorem Rp.dps {F : Hp} : ∀ (ds : List D) (vs : List V), PyData.canLayAll0 ds = true → Rps K F ds vs → DpAll K F vs ds
  | [], vs, _, h => by rw [h.unnil]; exact .nil
  | d :: ds, vs, c, h => by
    obtain ⟨v, r, rfl, h1, h2⟩ := h.uncons
    rw [PyData.canLayAll0, Bool.and_eq_true] at c
    exact .cons (Rp.dp d v c.1 h1) (Rp.dps ds r c.2 h2)
end
theorem Rp.dpS {F : Hp} {d : D} {v : V} (c : SeqAt.shaped d = true) (h : Rp K F d v) : Dp K F v d := Rp.dp d v (SeqAt.canLay_of_shaped c) h
theorem Rp.scal {F : Hp} {d e : D} {x y : V} (c : scalD d e = true) (h : Rp K F d x) (h' : Rp K F e y) : L2.scal x y = true ∧ decide (x = y) = PyData.eqv d e := by
  cases d <;> cases e <;> (try (exfalso; unfold scalD at c; cases c; done))
  · cases h.bl_inv; cases h'.bl_inv; exact ⟨rfl, by rw [dec_bl]; simp [PyData.eqv]⟩
  · cases h.int_inv; cases h'.int_inv; exact ⟨rfl, by rw [dec_int]; simp [PyData.eqv]⟩
  · cases h.str_inv; cases h'.str_inv; exact ⟨rfl, by rw [dec_str]; simp [PyData.eqv]⟩
def rEqA (K : PySem.W.Frag) : R2 := fun x y H Q => rEq x y H Q ∨ rEqD K x y H Q
def rNeA (K : PySem.W.Frag) : R2 := fun x y H Q => rNe x y H Q ∨ rNeD K x y H Q
theorem o_eq (hu : X.A.units + 64 < cLine) : OpR X (compareOp .Eq) (rEqA X.K) := op_eq.or (op_eqD hu)
theorem o_ne (hu : X.A.units + 64 < cLine) : OpR X (compareOp .NotEq) (rNeA X.K) := op_ne.or (op_neD hu)
theorem l_eq : OpL K (rEqA K) dEq := fun F H x y dx dy d s rx ry fe Q' k => by
  unfold dEq at fe
  split at fe
  · rename_i h
    cases fe
    rcases h with h | h
    · obtain ⟨h1, h2⟩ := rx.scal h ry
      exact .inl ⟨h1, by rw [h2]; exact k _ F H (.refl s) (.bl _)⟩
    · exact .inr ⟨dx, dy, (rx.mono s).dpS h.1, (ry.mono s).dpS h.2, h.1, h.2, k _ F H (.refl s) (.bl _)⟩
  · cases fe
theorem l_ne : OpL K (rNeA K) dNe := fun F H x y dx dy d s rx ry fe Q' k => by
  unfold dNe at fe
  split at fe
  · rename_i h
    cases fe
    rcases h with h | h
    · obtain ⟨h1, h2⟩ := rx.scal h ry
      exact .inl ⟨h1, by rw [h2]; exact k _ F H (.refl s) (.bl _)⟩
    · exact .inr ⟨dx, dy, (rx.mono s).dpS h.1, (ry.mono s).dpS h.2, h.1, h.2, k _ F H (.refl s) (.bl _)⟩
  · cases fe
theorem Rp.isNone {F : Hp} {d : D} {v : V} (h : Rp K F d v) : decide (v = .non) = isNone d := by
  cases h <;> first | rfl | exact decide_eq_false (fun z => by cases z)
theorem l_isN : OpL K (fun x y H Q => y = .non ∧ Q (.bl (decide (x = .non))) H) dIsN := fun F H x y dx dy d s rx ry fe Q' k => by
  unfold dIsN at fe
  split at fe
  · cases fe
    exact ⟨ry.non_inv, k _ F H (.refl s) (by rw [rx.isNone]; exact .bl _)⟩
  · cases fe
theorem Rp.flat {F : Hp} {d : D} {v : V} (f : flatD d = true) (h : Rp K F d v) : flatV v = true := by
  cases h <;> first | rfl | (unfold flatD at f; cases f)
theorem Rp.eqV {F : Hp} {d e : D} {x y : V} (f : flatD d = true) (g : flatD e = true) (h : Rp K F d x) (h' : Rp K F e y) : eqV x y = PyData.eqv d e := by
  cases h <;> (try (unfold flatD at f; cases f)) <;> cases h' <;> (try (unfold flatD at g; cases g)) <;> simp [L2.eqV, PyData.eqv]
theorem Rps.all_flat {F : Hp} : ∀ {ds : List D} {xs : List V}, ds.all flatD = true → Rps K F ds xs → xs.all flatV = true
  | [], xs, _, h => by rw [h.unnil]; rfl
  | d :: ds, xs, f, h => by
    obtain ⟨v, r, rfl, h1, h2⟩ := h.uncons
    rw [List.all_cons, Bool.and_eq_true] at f ⊢
    exact ⟨h1.flat f.1, Rps.all_flat f.2 h2⟩
theorem Rps.anyEq {F : Hp} {d : D} {x : V} (fd : flatD d = true) (rx : Rp K F d x) : ∀ {ds : List D} {xs : List V}, ds.all flatD = true → Rps K F ds xs → inV x xs = anyEq d ds
  | [], xs, _, h => by rw [h.unnil]; rfl
  | e :: ds, xs, f, h => by
    obtain ⟨v, r, rfl, h1, h2⟩ := h.uncons
    rw [List.all_cons, Bool.and_eq_true] at f
    show (eqV v x || inV x r) = (PyData.eqv e d || RR.anyEq d ds)
    rw [Rps.anyEq fd rx f.2 h2, Rp.eqV f.1 fd h1 rx]
/-- a dict's entry -/
theorem keyD_of {F : Hp} {d : D} {v : V} (i : isKey d = true) (h : Rp K F d v) : ∃ k : Key, v = kV k ∧ d = keyD k := by
  cases h <;> first | (exfalso; simp [isKey, keyOf] at i; done) | exact ⟨.inl _, rfl, rfl⟩ | exact ⟨.inr _, rfl, rfl⟩
theorem eqv_key (j k : Key) : PyData.eqv (keyD j) (keyD k) = decide (j = k) := by
  cases j <;> cases k
  · simp only [keyD, PyData.eqv]; rw [key_ll]
  · simp only [keyD, PyData.eqv]; exact (key_lr _ _).symm
  · simp only [keyD, PyData.eqv]; exact (key_rl _ _).symm
  · simp only [keyD, PyData.eqv]; rw [key_rr]; rename_i a b; by_cases e : a = b <;> simp [e]
theorem dct_look {F : Hp} (k : Key) : ∀ {kvs : List (Key × V)} {ds : List (D × D)}, ds.map (·.1) = kvs.map (fun p => keyD p.1) → (∀ (i : Nat) x d, kvs[i]? = some x → ds[i]? = some d → Rp K F d.2 x.2) →
    match dLook ds (keyD k) with | some d => ∃ v, valV kvs k = some v ∧ Rp K F d v | none => valV kvs k = none
  | [], [], _, _ => rfl
  | [], _ :: _, e, _ => by simp at e
  | _ :: _, [], e, _ => by simp at e
  | q :: kvs, d :: ds, e, r => by
    obtain ⟨d1, d2⟩ := d
    simp only [List.map_cons, List.cons.injEq] at e
    obtain ⟨e1, e2⟩ := e
    subst e1
    by_cases hk : q.1 = k
    · have h1 : dLook ((keyD q.1, d2) :: ds) (keyD k) = some d2 := by
        unfold dLook
        rw [List.find?_cons_of_pos (by rw [eqv_key]; exact decide_eq_true hk)]
        rfl
      rw [h1]
      exact ⟨_, valV_pos hk, r 0 q (_, d2) rfl rfl⟩
    · have h1 : dLook ((keyD q.1, d2) :: ds) (keyD k) = dLook ds (keyD k) := by
        unfold dLook
        rw [List.find?_cons_of_neg (by rw [eqv_key, decide_eq_false hk]; decide)]
      rw [h1, valV_neg hk]
      exact dct_look k e2 fun i x d a b => r (i + 1) x d (by simpa using a) (by simpa using b)
theorem dct_get {F : Hp} {ds : List (D × D)} {a : V} {d : D} {y : V} (h : Rp K F (.dict ds) a) (i : isKey d = true) (ry : Rp K F d y) :
    ∃ b o, a = .ref b ∧ DGet F b y o ∧ (match dLook ds d with | some e => ∃ v, o = some v ∧ Rp K F e v | none => o = none) := by
  obtain ⟨k, rfl, rfl⟩ := keyD_of i ry
  cases h with
  | dct h1 h2 h3 =>
    rename_i b kvs
    refine ⟨b, valV kvs k, rfl, .inl ⟨kvs, k, h1, rfl, rfl⟩, ?_⟩
    exact dct_look k h2 h3
def rDIn (neg : Bool) : R2 := fun y x H Q => ∃ a o, x = .ref a ∧ DGet H a y o ∧ Q (.bl (if neg then !o.isSome else o.isSome)) H
theorem op_din (hu : X.A.units + 1 < cLine) : OpR X (compareOp .In) (rDIn false) := fun pins s σ H x y v u Q I rx ry h => by
  obtain ⟨a, o, rfl, g, q⟩ := h
  cases ry
  exact d_in hu I g rx fun s' I' => ⟨.bl o.isSome, H, I', rfl, q⟩
theorem op_dnotin (hu : X.A.units + 1 < cLine) : OpR X (compareOp .NotIn) (rDIn true) := fun pins s σ H x y v u Q I rx ry h => by
  obtain ⟨a, o, rfl, g, q⟩ := h
  cases ry
  exact d_notIn hu I g rx fun s' I' => ⟨.bl (!o.isSome), H, I', rfl, q⟩
theorem l_din {neg : Bool} : OpL K (rDIn neg) (fun x y => match y with | .dict kvs => if isKey x = true then some (.bool (if neg then !(dLook kvs x).isSome else (dLook kvs x).isSome)) else none | _ => none) := fun F H x y dx dy d s rx ry fe Q' k => by
  dsimp only at fe
  split at fe
  · rename_i kvs
    by_cases hk : isKey dx = true
    · rw [if_pos hk] at fe
      cases fe
      obtain ⟨b, o, rfl, g, w⟩ := dct_get (ry.mono s) hk (rx.mono s)
      refine ⟨b, o, rfl, g, k _ F H (.refl s) ?_⟩
      have e : o.isSome = (dLook kvs dx).isSome := by
        split at w
        · rename_i e1
          obtain ⟨v, rfl, _⟩ := w
          rw [e1]; rfl
        · rename_i e1
          rw [w, e1]; rfl
      rw [e]
      exact .bl _
    · rw [if_neg hk] at fe
      cases fe
  · cases fe
def rInA (K : PySem.W.Frag) : R2 := fun x y H Q => rInD K x y H Q ∨ (fun x y H Q => rIn K false x y H Q ∨ rDIn false x y H Q) x y H Q
def rNotInA (K : PySem.W.Frag) : R2 := fun x y H Q => rNotInD K x y H Q ∨ (fun x y H Q => rIn K true x y H Q ∨ rDIn true x y H Q) x y H Q
theorem o_in (hu : X.A.units + 65 < cLine) : OpR X (compareOp .In) (rInA X.K) := (op_inD hu).or (op_in_seq.or (op_din (by omega)))
theorem o_notIn (hu : X.A.units + 65 < cLine) : OpR X (compareOp .NotIn) (rNotInA X.K) := (op_notInD hu).or (op_notIn_seq.or (op_dnotin (by omega)))
theorem l_inD : OpL K (rInD K) (fun x y => match y with | .list xs => if SeqAt.shaped x = true ∧ SeqAt.shaped (.list xs) = true then some (.bool (anyEq x xs)) else none | _ => none) := fun F H x y dx dy d s rx ry fe Q' k => by
  dsimp only at fe
  split at fe
  · split at fe
    · rename_i h
      cases fe
      exact ⟨dx, _, (rx.mono s).dpS h.1, (ry.mono s).dpS h.2, h.1, h.2, k _ F H (.refl s) (.bl _)⟩
    · cases fe
  · cases fe
theorem l_notInD : OpL K (rNotInD K) (fun x y => match y with | .list xs => if SeqAt.shaped x = true ∧ SeqAt.shaped (.list xs) = true then some (.bool (!anyEq x xs)) else none | _ => none) := fun F H x y dx dy d s rx ry fe Q' k => by
  dsimp only at fe
  split at fe
  · split at fe
    · rename_i h
      cases fe
      exact ⟨dx, _, (rx.mono s).dpS h.1, (ry.mono s).dpS h.2, h.1, h.2, k _ F H (.refl s) (.bl _)⟩
    · cases fe
  · cases fe
theorem l_inT {neg : Bool} : OpL K (rIn K neg) (fun x y => match y with | .tuple xs => if flatD x = true ∧ xs.all flatD = true then some (.bool (if neg then !anyEq x xs else anyEq x xs)) else none | _ => none) := fun F H x y dx dy d s rx ry fe Q' k => by
  dsimp only at fe
  split at fe
  · split at fe
    · rename_i h
      cases fe
      obtain ⟨a, vs, rfl, e1, r1⟩ := ry.tup_inv
      refine ⟨a, vs, rfl, .inr (Same.sqt s e1), rx.flat h.1, r1.all_flat h.2, ?_⟩
      rw [Rps.anyEq h.1 rx h.2 r1]
      exact k _ F H (.refl s) (.bl _)
    · cases fe
  · cases fe
theorem l_in : OpL K (rInA K) dIn := l_inD.or (l_inT.or l_din (h := fun x y => match y with
    | .tuple xs => if flatD x = true ∧ xs.all flatD = true then some (.bool (anyEq x xs)) else none
    | .dict kvs => if isKey x = true then some (.bool (dLook kvs x).isSome) else none
    | _ => none) (fun x y d e => by split at e <;> first | exact .inl e | exact .inr e | cases e)) (fun x y d e => by
  unfold dIn at e
  split at e <;> first | exact .inl e | exact .inr e | cases e)
theorem l_notIn : OpL K (rNotInA K) dNotIn := l_notInD.or (l_inT.or l_din (h := fun x y => match y with
    | .tuple xs => if flatD x = true ∧ xs.all flatD = true then some (.bool (!anyEq x xs)) else none
    | .dict kvs => if isKey x = true then some (.bool (!(dLook kvs x).isSome)) else none
    | _ => none) (fun x y d e => by split at e <;> first | exact .inl e | exact .inr e | cases e)) (fun x y d e => by
  unfold dNotIn at e
  split at e <;> first | exact .inl e | exact .inr e | cases e)
theorem ixN_eq {ds : List D} {xs : List V} {F : Hp} (h : Rps K F ds xs) {i : Int} {d : D} (e : atI ds i = some d) : ∃ v, atI xs i = some v ∧ Rp K F d v := by
  unfold atI at e ⊢
  rw [h.len]
  cases q : ixN ds.length i with
  | none => rw [q] at e; cases e
  | some j =>
    rw [q] at e
    exact h.get (by simpa using e)
def rIxD : R2 := fun x y H Q => ∃ a v, x = .ref a ∧ DGet H a y (some v) ∧ Q v H
theorem ix_dict (hu : X.A.units + 1 < cLine) : IxR X rIxD := fun value slice pins s σ H x y v u Q I rx ry h hs => by
  obtain ⟨a, z, rfl, g, q⟩ := h
  cases rx
  exact tail_any (dict_typeIs I g) PySem.F.slot_dict_getitem.lookup (d_getItem hu I g ry fun w' s3 I3 rw' => ⟨z, H, I3, rw', q⟩) hs
end
end RR
end
section
namespace RR
open PySem PySem.Spec L2
open PyProof.Rows hiding St
section
variable {X : Cx} {K : PySem.W.Frag} {p : Pm} {O : List Nat} {a b c e : Expr} {pos : Pos} {ta tb tc te : TE} {ma mb mc me : ME} {es : List Expr} {t : TA} {m : MA}
def rIxA (K : PySem.W.Frag) : R2 := fun x y H Q => rIxL K x y H Q ∨ (fun x y H Q => rIxT K x y H Q ∨ rIxD x y H Q) x y H Q
theorem o_ix (hu : X.A.units + 1 < cLine) : IxR X (rIxA X.K) := ix_list.or (ix_tup.or (ix_dict hu))
theorem l_ixL : OpL K (rIxL K) (fun x y => match x, y with | .list xs, .int i => atI xs i | _, _ => none) := fun F H x y dx dy d s rx ry fe Q' k => by
  dsimp only at fe
  split at fe
  · obtain ⟨a, vs, rfl, e1, r1⟩ := rx.lst_inv
    obtain ⟨v, e2, r2⟩ := ixN_eq r1 fe
    exact ⟨a, vs, _, v, rfl, ry.int_inv, .of (s _ _ e1), e2, k v F H (.refl s) r2⟩
  · cases fe
theorem l_ixT : OpL K (rIxT K) (fun x y => match x, y with | .tuple xs, .int i => atI xs i | _, _ => none) := fun F H x y dx dy d s rx ry fe Q' k => by
  dsimp only at fe
  split at fe
  · obtain ⟨a, vs, rfl, e1, r1⟩ := rx.tup_inv
    obtain ⟨v, e2, r2⟩ := ixN_eq r1 fe
    exact ⟨a, vs, _, v, rfl, ry.int_inv, Same.sqt s e1, e2, k v F H (.refl s) r2⟩
  · cases fe
theorem l_ixD : OpL K rIxD (fun x y => match x with | .dict kvs => if isKey y = true then dLook kvs y else none | _ => none) := fun F H x y dx dy d s rx ry fe Q' k => by
  dsimp only at fe
  split at fe
  · rename_i kvs
    by_cases hk : isKey dy = true
    · rw [if_pos hk] at fe
      obtain ⟨b, o, rfl, g, w⟩ := dct_get rx hk ry
      rw [fe] at w
      obtain ⟨v, rfl, r⟩ := w
      refine ⟨b, v, rfl, ?_, k v F H (.refl s) r⟩
      rcases g with ⟨q1, q2, z1, z2, z3⟩ | ⟨q1, q2, q3, z1, z2, z3, z4⟩
      · exact .inl ⟨q1, q2, Same.rd s z1, z2, z3⟩
      · exact .inr ⟨q1, q2, q3, Same.rd s z1, z2, s _ _ z3, z4⟩
    · rw [if_neg hk] at fe
      cases fe
  · cases fe
theorem l_ix : OpL K (rIxA K) dIx := l_ixL.or (l_ixT.or l_ixD (h := fun x y => match x, y with
    | .tuple xs, .int i => atI xs i
    | .dict kvs, k => if isKey k = true then dLook kvs k else none
    | _, _ => none) (fun x y d e => by split at e <;> first | exact .inl e | exact .inr e | cases e)) (fun x y d e => by
  unfold dIx at e
  split at e <;> first | exact .inl e | exact .inr e | cases e)
def cutD (xs : List D) (lo hi : Option Int) : List D := (xs.drop (HT.sIx xs.length 0 lo)).take (HT.sIx xs.length xs.length hi - HT.sIx xs.length 0 lo)
def dSl (lo hi : Option Int) : D → Option D
  | .list xs => some (.list (cutD xs lo hi))
  | .tuple xs => some (.tuple (cutD xs lo hi))
  | _ => none
abbrev MO := DEnv → Nat → (Option Int → Nat → Prop) → Prop
@[reducible] def mNoPart : MO := fun _ n Q => Q none n
@[reducible] def mPart (m : ME) : MO := fun Γ n Q => m Γ n fun d n1 => ∃ i, d = .int i ∧ Q (some i) n1
def LO (p : Pm) (O : List Nat) (t : TO) (m : MO) : Prop :=
  ∀ F0 H0 F H σ Γ n (Q : Option Int → Nat → Prop), Sep p F0 H0 O F H σ Γ n → m Γ n Q → ∀ Q' : Option Int → Hp → Prop,
    (∀ b F' H' n', Sep p F0 H0 O F' H' σ Γ n' → Gp p F H F' H' → Q b n' → Q' b H') → t σ H Q'
structure RO (X : Cx) (p : Pm) (O : List Nat) (e : Option Expr) (t : TO) (m : MO) : Prop where
  po : PO X e t
  le : LO p O t m
theorem p_none : RO X p O none tNoPart mNoPart := ⟨po_none, fun F0 H0 F H σ Γ n Q s q Q' k => k none F H n s .refl q⟩
theorem p_some (h : RE X p O e te me) : RO X p O (some e) (tPart te) (mPart me) := ⟨po_some h.pe, fun F0 H0 F H σ Γ n Q s q Q' k =>
  h.le F0 H0 F H σ Γ n _ s q _ fun d v F1 H1 n1 s1 e1 r1 ⟨i, ei, q1⟩ => by
    subst ei
    exact ⟨i, r1.int_inv, k _ F1 H1 n1 s1 e1 q1⟩⟩
def rSlX (K : PySem.W.Frag) : V → Option Int → Option Int → Hp → VK → Prop := fun x lo hi H Q => rSlL K x lo hi H Q ∨ rSlA K x lo hi H Q
theorem o_sl : SlR X (rSlX X.K) := sl_list.or sl_tupA
@[reducible] def mSl (me : ME) (ml mh : MO) : ME := fun Γ n Q => me Γ n fun x n1 => ml Γ n1 fun lo n2 => mh Γ n2 fun hi n3 => ∃ d, dSl lo hi x = some d ∧ Q d n3
theorem Rps.cut {F : Hp} {ds : List D} {xs : List V} (h : Rps K F ds xs) (lo hi : Option Int) : Rps K F (cutD ds lo hi) (cutV xs lo hi) := by
  unfold cutD cutV
  rw [h.len]
  exact (h.drop _).take _
theorem cut_whole {ds : List D} {lo hi : Option Int} (h : HT.sIx ds.length 0 lo = 0 ∧ HT.sIx ds.length ds.length hi = ds.length) : cutD ds lo hi = ds := by
  unfold cutD
  rw [h.1, h.2]
  simp
theorem l_sl {F H : Hp} {x : V} {dx d : D} {lo hi : Option Int} (s : Same F H) (rx : Rp K F dx x) (fe : dSl lo hi dx = some d) {Q' : VK} (k : ∀ v F' H', Gr F H F' H' → Rp K F' d v → Q' v H') : rSlX K x lo hi H Q' := by
  unfold dSl at fe
  split at fe
  · cases fe
    obtain ⟨a, vs, rfl, e1, r1⟩ := rx.lst_inv
    refine .inl ⟨a, vs, rfl, .of (s _ _ e1), fun q hq => ?_⟩
    exact k _ _ _ (Gr.new1 s hq _) (Rp.new_lst (H := H) (r1.cut lo hi) (s.free hq))
  · cases fe
    obtain ⟨a, vs, rfl, e1, r1⟩ := rx.tup_inv
    refine .inr ⟨a, vs, rfl, Same.sqt s e1, fun w => ?_, fun _ q hq => ?_⟩
    · rw [r1.len] at w
      rw [cut_whole w] at k
      exact k _ F H (.refl s) rx
    · exact k _ _ _ (Gr.new1 s hq _) (Rp.new_tup (H := H) (r1.cut lo hi) (s.free hq))
  · cases fe
theorem e_sl {lo hi : Option Expr} {tl th : TO} {ml mh : MO} {p2 : Pos} (he : RE X p O e te me) (hl : RO X p O lo tl ml) (hh : RO X p O hi th mh) (hK : p.K = X.K) : RE X p O (.Subscript e (.Slice lo hi none p2) pos) (tSl (rSlX p.K) te tl th) (mSl me ml mh) :=
  ⟨pe_slice (hK ▸ o_sl) he.pe hl.po hh.po, fun F0 H0 F H σ Γ n Q s q Q' k => by
    refine he.le F0 H0 F H σ Γ n _ s q _ fun dx x F1 H1 n1 s1 e1 r1 q1 => ?_
    refine hl.le F0 H0 F1 H1 σ Γ n1 _ s1 q1 _ fun l F2 H2 n2 s2 e2 q2 => ?_
    refine hh.le F0 H0 F2 H2 σ Γ n2 _ s2 q2 _ fun h F3 H3 n3 s3 e3 ⟨d, fe, q3⟩ => ?_
    exact l_sl s3.fh ((r1.mono e2.f).mono e3.f) fe fun v F4 H4 g r4 => k d v F4 H4 n3 (s3.gr g) (((e1.trans e2).trans e3).trans g.gp) r4 q3⟩
def cLen : List D → Option D
  | [.list xs] => some (.int xs.length)
  | [.tuple xs] => some (.int xs.length)
  | _ => none
def rLen (K : PySem.W.Frag) : List V → Hp → VK → Prop := fun xs H Q => ∃ q ys, xs = [.ref q] ∧ (SqL K H q ys ∨ SqT K H q ys) ∧ Q (.int ys.length) H
theorem l_len : ClL K (rLen K) cLen := fun F H xs ds d s r fe Q' k => by
  unfold cLen at fe
  split at fe
  · cases fe
    obtain ⟨v, w, rfl, r1, r2⟩ := r.uncons
    cases r2.unnil
    obtain ⟨a, vs, rfl, e1, r3⟩ := r1.lst_inv
    exact ⟨a, vs, rfl, .inl (.of (s _ _ e1)), k _ F H (.refl s) (by rw [r3.len]; exact .int _)⟩
  · cases fe
    obtain ⟨v, w, rfl, r1, r2⟩ := r.uncons
    cases r2.unnil
    obtain ⟨a, vs, rfl, e1, r3⟩ := r1.tup_inv
    exact ⟨a, vs, rfl, .inr (Same.sqt s e1), k _ F H (.refl s) (by rw [r3.len]; exact .int _)⟩
  · cases fe
def cAbs : List D → Option D
  | [.int i] => some (.int (if i < 0 then -i else i))
  | _ => none
theorem l_abs : ClL K (fun xs H Q => ∃ i, xs = [.int i] ∧ Q (.int (if i < 0 then -i else i)) H) cAbs := fun F H xs ds d s r fe Q' k => by
  unfold cAbs at fe
  split at fe
  · cases fe
    obtain ⟨v, w, rfl, r1, r2⟩ := r.uncons
    cases r2.unnil
    cases r1.int_inv
    exact ⟨_, rfl, k _ F H (.refl s) (.int _)⟩
  · cases fe
def cInt : List D → Option D
  | [.int i] => some (.int i)
  | [.bool b] => some (.int (if b then 1 else 0))
  | _ => none
theorem l_int : ClL K (fun xs H Q => (∃ i, xs = [.int i] ∧ Q (.int i) H) ∨ ∃ k, xs = [.bl k] ∧ Q (.int (if k then 1 else 0)) H) cInt := fun F H xs ds d s r fe Q' k => by
  unfold cInt at fe
  split at fe
  · cases fe
    obtain ⟨v, w, rfl, r1, r2⟩ := r.uncons
    cases r2.unnil
    cases r1.int_inv
    exact .inl ⟨_, rfl, k _ F H (.refl s) (.int _)⟩
  · cases fe
    obtain ⟨v, w, rfl, r1, r2⟩ := r.uncons
    cases r2.unnil
    cases r1.bl_inv
    exact .inr ⟨_, rfl, k _ F H (.refl s) (.int _)⟩
  · cases fe
def cList : List D → Option D
  | [.list xs] => some (.list xs)
  | [.tuple xs] => some (.list xs)
  | _ => none
def rListOf (K : PySem.W.Frag) : List V → Hp → VK → Prop := fun xs H Q => ∃ q ys, xs = [.ref q] ∧ (SqL K H q ys ∨ SqT K H q ys) ∧ ∀ l, H l = none → Q (.ref l) (upd H l (.lst ys))
theorem l_list : ClL K (rListOf K) cList := fun F H xs ds d s r fe Q' k => by
  unfold cList at fe
  split at fe
  · cases fe
    obtain ⟨v, w, rfl, r1, r2⟩ := r.uncons
    cases r2.unnil
    obtain ⟨a, vs, rfl, e1, r3⟩ := r1.lst_inv
    exact ⟨a, vs, rfl, .inl (.of (s _ _ e1)), fun q hq => k _ _ _ (Gr.new1 s hq _) (Rp.new_lst (H := H) r3 (s.free hq))⟩
  · cases fe
    obtain ⟨v, w, rfl, r1, r2⟩ := r.uncons
    cases r2.unnil
    obtain ⟨a, vs, rfl, e1, r3⟩ := r1.tup_inv
    exact ⟨a, vs, rfl, .inr (Same.sqt s e1), fun q hq => k _ _ _ (Gr.new1 s hq _) (Rp.new_lst (H := H) r3 (s.free hq))⟩
  · cases fe
def cTuple : List D → Option D
  | [.list xs] => some (.tuple xs)
  | [.tuple xs] => some (.tuple xs)
  | _ => none
def rTupOf (K : PySem.W.Frag) : List V → Hp → VK → Prop := fun xs H Q => ∃ q ys, xs = [.ref q] ∧ ((SqL K H q ys ∧ ∀ l, H l = none → Q (.ref l) (upd H l (.tup ys))) ∨ (SqT K H q ys ∧ Q (.ref q) H))
theorem l_tuple : ClL K (rTupOf K) cTuple := fun F H xs ds d s r fe Q' k => by
  unfold cTuple at fe
  split at fe
  · cases fe
    obtain ⟨v, w, rfl, r1, r2⟩ := r.uncons
    cases r2.unnil
    obtain ⟨a, vs, rfl, e1, r3⟩ := r1.lst_inv
    exact ⟨a, vs, rfl, .inl ⟨.of (s _ _ e1), fun q hq => k _ _ _ (Gr.new1 s hq _) (Rp.new_tup (H := H) r3 (s.free hq))⟩⟩
  · cases fe
    obtain ⟨v, w, rfl, r1, r2⟩ := r.uncons
    cases r2.unnil
    obtain ⟨a, vs, rfl, e1, r3⟩ := r1.tup_inv
    exact ⟨a, vs, rfl, .inr ⟨Same.sqt s e1, k _ F H (.refl s) r1⟩⟩
  · cases fe
theorem Rps.ints {F : Hp} : ∀ {ns : List Int} {xs : List V}, Rps K F (ns.map .int) xs → xs = ns.map V.int
  | [], xs, h => h.unnil
  | n :: r, xs, h => by
    obtain ⟨v, w, rfl, r1, r2⟩ := h.uncons
    cases r1.int_inv
    rw [Rps.ints r2]
    rfl
def boolsD : List D → Option (List Bool)
  | [] => some []
  | .bool i :: r => (boolsD r).map (i :: ·)
  | _ :: _ => none
theorem boolsD_eq : ∀ {ds : List D} {ns : List Bool}, boolsD ds = some ns → ds = ns.map .bool
  | [], ns, h => by cases h; rfl
  | .bool i :: r, ns, h => by
    unfold boolsD at h
    cases q : boolsD r with
    | none => rw [q] at h; cases h
    | some z =>
      rw [q] at h
      cases h
      rw [boolsD_eq q]
      rfl
  | .none :: _, _, h => by cases h
  | .int _ :: _, _, h => by cases h
  | .str _ :: _, _, h => by cases h
  | .list _ :: _, _, h => by cases h
  | .tuple _ :: _, _, h => by cases h
  | .dict _ :: _, _, h => by cases h
theorem Rps.bools {F : Hp} : ∀ {ns : List Bool} {xs : List V}, Rps K F (ns.map .bool) xs → xs = ns.map V.bl
  | [], xs, h => h.unnil
  | n :: r, xs, h => by
    obtain ⟨v, w, rfl, r1, r2⟩ := h.uncons
    cases r1.bl_inv
    rw [Rps.bools r2]
    rfl
def cAll : List D → Option D
  | [.list xs] => (boolsD xs).map fun bs => .bool (bs.all id)
  | _ => none
theorem l_all : ClL K (rAll K) cAll := fun F H xs ds d s r fe Q' k => by
  unfold cAll at fe
  split at fe
  · rename_i ys
    cases q : boolsD ys with
    | none => rw [q] at fe; cases fe
    | some bs =>
      rw [q] at fe
      cases fe
      obtain ⟨v, w, rfl, r1, r2⟩ := r.uncons
      cases r2.unnil
      obtain ⟨a, vs, rfl, e1, r3⟩ := r1.lst_inv
      rw [boolsD_eq q] at r3
      rw [r3.bools] at e1
      exact ⟨a, bs, rfl, .of (s _ _ e1), k _ F H (.refl s) (.bl _)⟩
  · cases fe
def tyD : D → String
  | .none => "NoneType"
  | .bool _ => "bool"
  | .int _ => "int"
  | .str _ => "str"
  | .list _ => "list"
  | .tuple _ => "tuple"
  | .dict _ => "dict"
theorem Rp.tyX {F : Hp} {d : D} {v : V} (h : Rp K F d v) : TyX K F v (.type (tyD d)) := by
  cases h with
  | non => exact .base .non
  | bl b => exact .base (.bl b)
  | int i => exact .base (.int i)
  | str x => exact .base (.str x)
  | lst h1 => exact .base (.lst h1)
  | tup h1 =>
    rcases h1 with (h1 | ⟨o, h1⟩) | ⟨o, its, n, h1, h2, _⟩
    · exact .base (.tup h1)
    · exact .fTuple h1
    · exact .kTuple h1 h2
  | dct h1 =>
    rcases h1 with h1 | ⟨o, h1⟩
    · exact .base (.dK h1)
    · exact .fDict h1
def isiB (d : D) (T : String) : Bool := tyD d == T || (T == "int" && tyD d == "bool")
/-- the kinds asked here -/
def okTy (T : String) : Bool := T == "int" || T == "bool" || T == "str" || T == "list" || T == "tuple" || T == "dict"
theorem kit_isi : ∀ (d : D) (T : String), okTy T = true → kitB (tyD d) T = some (isiB d T) := by
  have all : ∀ u ∈ ["NoneType", "bool", "int", "str", "list", "tuple", "dict"], ∀ T ∈ ["int", "bool", "str", "list", "tuple", "dict"], kitB u T = some (u == T || (T == "int" && u == "bool")) := by
    decide +kernel
  intro d T h
  refine all _ ?_ T ?_
  · cases d <;> simp [tyD]
  · simp only [okTy, Bool.or_eq_true, beq_iff_eq] at h
    rcases h with ((((h | h) | h) | h) | h) | h <;> subst h <;> simp
@[reducible] def mIsi (T : String) (me : ME) : ME := fun Γ n Q => me Γ n fun d n1 => Q (.bool (isiB d T)) n1
theorem e_isi {T : String} (x : Str) {q q2 : Pos} (hT : okTy T = true) (hK : p.K = X.K) (he : RE X p O e te me) (hg : Gl X "isinstance") (hm : X.mg "isinstance" = none) (hx : PE X (.Name x q2) (tC (.ty T)))
    (h : PE X (.Call (.Name "isinstance" q) [e, .Name x q2] [] pos) (tCB (rIsi X.K) (tCons te (tCons (tC (.ty T)) tNil)))) : RE X p O (.Call (.Name "isinstance" q) [e, .Name x q2] [] pos) (tCB (rIsi p.K) (tCons te (tCons (tC (.ty T)) tNil))) (mIsi T me) :=
  ⟨hK ▸ h, fun F0 H0 F H σ Γ n Q s qq Q' k =>
    he.le F0 H0 F H σ Γ n _ s qq _ fun d v F1 H1 n1 s1 e1 r1 q1 =>
      ⟨v, .ty T, _, _, _, rfl, .ty T, (r1.mono s1.fh).tyX, kit_ty (kit_isi d T hT), k _ _ F1 H1 n1 s1 e1 (.bl _) q1⟩⟩
@[reducible] def mIsi2 (T U : String) (me : ME) : ME := fun Γ n Q => me Γ n fun d n1 => Q (.bool (isiB d T || isiB d U)) n1
end
end RR
end
section
namespace RR
open PySem PySem.Spec L2
open PyProof.Rows hiding St
section
variable {p : Pm} {F0 H0 F H F' H' : Hp} {O O' : List Nat} {σ : St} {Γ : DEnv} {n : Nat}
theorem set_at {α : Type} {l : List α} {i j : Nat} {x : α} : (l.set i x)[j]? = if i = j then (if j < l.length then some x else none) else l[j]? := by
  rw [List.getElem?_set]
  by_cases e : i = j
  · subst e; rfl
  · rw [if_neg e, if_neg e]
/-- a slot gets a shared thing -/
theorem Sep.put (s : Sep p F0 H0 O F H σ Γ n) {i : Nat} {d : D} {v : V} (hi : i ∉ O) (hp : ∀ a j, p.ap = some (a, j) → j ≠ i) (r : Rp p.K F d v) : Sep p F0 H0 O F H (σ.set i (some v)) (Γ.set i (some d)) n where
  f0 := s.f0
  fh := s.fh
  stay := s.stay
  newF := s.newF
  pen := fun a j e => by
    obtain ⟨h1, h2, h3⟩ := s.pen a j e
    exact ⟨h1, by rw [List.getElem?_set_ne (Ne.symm (hp a j e))]; exact h2, h3⟩
  len := by simp [s.len]
  sh := fun j e hj h => by
    by_cases hij : i = j
    · subst hij
      rw [set_at, if_pos rfl] at h
      split at h
      · rename_i hl
        cases h
        refine ⟨v, ?_, r⟩
        rw [set_at, if_pos rfl, if_pos (by rw [s.len]; exact hl)]
      · cases h
    · rw [List.getElem?_set_ne hij] at h ⊢
      exact s.sh j e hj h
  ow := fun j hj e h => by
    have hij : i ≠ j := fun z => hi (z ▸ hj)
    rw [List.getElem?_set_ne hij] at h ⊢
    exact s.ow j hj e h
  dj := fun j hj k hk hjk a dj dk h1 h2 h3 h4 => by
    have e1 : i ≠ j := fun z => hi (z ▸ hj)
    have e2 : i ≠ k := fun z => hi (z ▸ hk)
    rw [List.getElem?_set_ne e1] at h1 h3
    rw [List.getElem?_set_ne e2] at h2 h4
    exact s.dj j hj k hk hjk a dj dk h1 h2 h3 h4
/-- what a new thing of one's own must be -/
structure Free (p : Pm) (H0 : Hp) (O : List Nat) (F H : Hp) (σ : St) (Γ : DEnv) (d : D) (a : Addr) : Prop where
  own : Own p.K F H d a
  f : F a = none
  h0 : H0 a = none
  pen : ¬ p.isPen a
  sl : ∀ j ∈ O, ∀ dj, Γ[j]? = some (some dj) → σ[j]? ≠ some (some (.ref a))
/-- a slot gets a thing of its own -/
theorem Sep.putOwn (s : Sep p F0 H0 O F H σ Γ n) {i : Nat} {d : D} {a : Addr} (hp : ∀ b j, p.ap = some (b, j) → j ≠ i) (w : Free p H0 O F H σ Γ d a) : Sep p F0 H0 (i :: O) F H (σ.set i (some (.ref a))) (Γ.set i (some d)) n where
  f0 := s.f0
  fh := s.fh
  stay := s.stay
  newF := s.newF
  pen := fun a j e => by
    obtain ⟨h1, h2, h3⟩ := s.pen a j e
    exact ⟨h1, by rw [List.getElem?_set_ne (Ne.symm (hp a j e))]; exact h2, h3⟩
  len := by simp [s.len]
  sh := fun j e hj h => by
    have hij : i ≠ j := fun z => hj (by rw [z]; exact List.mem_cons_self ..)
    rw [List.getElem?_set_ne hij] at h ⊢
    exact s.sh j e (fun z => hj (List.mem_cons_of_mem _ z)) h
  ow := fun j hj e h => by
    by_cases hij : i = j
    · subst hij
      rw [set_at, if_pos rfl] at h
      split at h
      · rename_i hl
        cases h
        refine ⟨a, ?_, w.own, w.f, w.h0, w.pen⟩
        rw [set_at, if_pos rfl, if_pos (by rw [s.len]; exact hl)]
      · cases h
    · rw [List.getElem?_set_ne hij] at h ⊢
      rcases List.mem_cons.mp hj with z | z
      · exact absurd z.symm hij
      · exact s.ow j z e h
  dj := fun j hj k hk hjk b dj dk h1 h2 h3 h4 => by
    have hl : ∀ {m : Nat} {e : D}, i = m → (Γ.set i (some d))[m]? = some (some e) → m < σ.length := fun {m e} z h => by
      subst z
      rw [set_at, if_pos rfl] at h
      split at h
      · rename_i hl; rw [s.len]; exact hl
      · cases h
    by_cases e1 : i = j
    · by_cases e2 : i = k
      · exact hjk (e1.symm.trans e2)
      · rw [List.getElem?_set_ne e2] at h2 h4
        have q := hl e1 h1
        subst e1
        rw [set_at, if_pos rfl, if_pos q] at h3
        cases h3
        rcases List.mem_cons.mp hk with z | z
        · exact e2 z.symm
        · exact w.sl k z dk h2 h4
    · rw [List.getElem?_set_ne e1] at h1 h3
      have hj' : j ∈ O := (List.mem_cons.mp hj).elim (fun z => absurd z.symm e1) id
      by_cases e2 : i = k
      · have q := hl e2 h2
        subst e2
        rw [set_at, if_pos rfl, if_pos q] at h4
        cases h4
        exact w.sl j hj' dj h1 h3
      · rw [List.getElem?_set_ne e2] at h2 h4
        have hk' : k ∈ O := (List.mem_cons.mp hk).elim (fun z => absurd z.symm e2) id
        exact s.dj j hj' k hk' hjk b dj dk h1 h2 h3 h4
/-- a free thing is frozen -/
theorem Sep.freeze0 (s : Sep p F0 H0 O F H σ Γ n) {d : D} {a : Addr} (w : Free p H0 O F H σ Γ d a) : ∃ F', Sep p F0 H0 O F' H σ Γ n ∧ Same F F' ∧ Gp p F H F' H = Gp p F H F' H ∧ Rp p.K F' d (.ref a) ∧ (∀ b o, F' b = some o → F b = some o ∨ b = a) := by
  obtain ⟨o, e⟩ := w.own.at
  have sm : Same F (upd F a o) := same_up w.f
  have nw : ∀ b u, (upd F a o) b = some u → F b = some u ∨ b = a := fun b u q => by
    by_cases hb : b = a
    · exact .inr hb
    · rw [upd_ne hb] at q; exact .inl q
  refine ⟨upd F a o, ⟨s.f0.trans sm, fun b u q => ?_, s.stay, fun b u q => ?_, fun b j q => ?_, s.len, fun j e hj h => ?_, fun j hj e h => ?_, s.dj⟩, sm, rfl, ?_, nw⟩
  · rcases nw b u q with z | z
    · exact s.fh _ _ z
    · subst z
      rw [upd_same] at q
      cases q
      exact e
  · rcases nw b u q with z | z
    · exact s.newF _ _ z
    · subst z; exact .inr w.h0
  · obtain ⟨h1, h2, ⟨x, l, xs, z1, z2, z3⟩, zt⟩ := s.pen b j q
    have hb : b ≠ a := fun z => w.pen ⟨b, j, q, .inl z.symm⟩
    exact ⟨by rw [upd_ne hb]; exact h1, h2, ⟨x, l, xs, z1, sm _ _ z2, z3⟩, zt.up sm (fun y hy => by rw [upd_ne fun z => w.pen ⟨b, j, q, .inr ⟨y, hy, z⟩⟩]; exact (zt y hy).1) (fun _ _ _ h => h)⟩
  · obtain ⟨v, q, r⟩ := s.sh j e hj h
    exact ⟨v, q, r.mono sm⟩
  · obtain ⟨b, q, r, z1, z2, z3⟩ := s.ow j hj e h
    have hb : b ≠ a := fun z => w.sl j hj e h (z ▸ q)
    refine ⟨b, q, ?_, by rw [upd_ne hb]; exact z1, z2, z3⟩
    cases r with
    | lst q1 q2 => exact .lst q1 (q2.mono sm)
    | dct q1 q2 q3 => exact .dct q1 q2 fun i x d a b => (q3 i x d a b).mono sm
  · have hw := w.own
    cases hw with
    | lst q1 q2 =>
      rw [e] at q1
      cases q1
      exact .of_lst upd_same (q2.mono sm)
    | dct q1 q2 q3 =>
      rw [e] at q1
      cases q1
      exact .dct (.inl upd_same) q2 fun i x d a b => (q3 i x d a b).mono sm
/-- an own slot's thing -/
theorem Sep.at_own (s : Sep p F0 H0 O F H σ Γ n) {i : Nat} (hi : i ∈ O) {d : D} (e : Γ[i]? = some (some d)) : ∃ a, σ[i]? = some (some (.ref a)) ∧ Free p H0 (O.filter (· ≠ i)) F H σ Γ d a := by
  obtain ⟨a, q, r, z1, z2, z3⟩ := s.ow i hi d e
  refine ⟨a, q, r, z1, z2, z3, fun j hj dj h z => ?_⟩
  obtain ⟨h1, h2⟩ := List.mem_filter.mp hj
  exact s.dj i hi j h1 (fun w => by simp [w] at h2) a d dj e h q z
/-- forgetting that a slot's thing is its own: for an unset slot nothing is to be done -/
theorem Sep.fewer (s : Sep p F0 H0 O F H σ Γ n) {i : Nat} (h : ∀ d, Γ[i]? ≠ some (some d)) : Sep p F0 H0 (O.filter (· ≠ i)) F H σ Γ n :=
  ⟨s.f0, s.fh, s.stay, s.newF, s.pen, s.len, fun j d hj e => by
    by_cases q : j = i
    · subst q; exact absurd e (h d)
    · exact s.sh j d (fun z => hj (List.mem_filter.mpr ⟨z, by simpa using q⟩)) e, fun j hj => s.ow j (List.mem_filter.mp hj).1, fun j hj k hk => s.dj j (List.mem_filter.mp hj).1 k (List.mem_filter.mp hk).1⟩
theorem Sep.freeze (s : Sep p F0 H0 O F H σ Γ n) (i : Nat) : ∃ F', Same F F' ∧ Sep p F0 H0 (O.filter (· ≠ i)) F' H σ Γ n := by
  by_cases hi : i ∈ O
  · cases e : Γ[i]? with
    | none => exact ⟨F, .refl _, s.fewer fun d z => by rw [e] at z; cases z⟩
    | some o =>
      cases o with
      | none => exact ⟨F, .refl _, s.fewer fun d z => by rw [e] at z; cases z⟩
      | some d =>
        obtain ⟨a, q, w⟩ := s.at_own hi e
        -- first out of O, then frozen
        obtain ⟨o, ho⟩ := w.own.at
        have s1 : Sep p F0 H0 (O.filter (· ≠ i)) F H σ (Γ.set i none) n := by
          have gi : ∀ j, j ≠ i → (Γ.set i none)[j]? = Γ[j]? := fun j hj => List.getElem?_set_ne (Ne.symm hj)
          refine ⟨s.f0, s.fh, s.stay, s.newF, s.pen, by simp [s.len], fun j d' hj h => ?_, fun j hj d' h => ?_, fun j hj k hk hjk a' dj dk h1 h2 h3 h4 => ?_⟩
          · by_cases z : j = i
            · subst z
              rw [set_at, if_pos rfl] at h
              split at h <;> cases h
            · rw [gi j z] at h
              exact s.sh j d' (fun z' => hj (List.mem_filter.mpr ⟨z', by simpa using z⟩)) h
          · have z : j ≠ i := by simpa using (List.mem_filter.mp hj).2
            rw [gi j z] at h
            exact s.ow j (List.mem_filter.mp hj).1 d' h
          · have z1 : j ≠ i := by simpa using (List.mem_filter.mp hj).2
            have z2 : k ≠ i := by simpa using (List.mem_filter.mp hk).2
            rw [gi j z1] at h1
            rw [gi k z2] at h2
            exact s.dj j (List.mem_filter.mp hj).1 k (List.mem_filter.mp hk).1 hjk a' dj dk h1 h2 h3 h4
        have w1 : Free p H0 (O.filter (· ≠ i)) F H σ (Γ.set i none) d a := ⟨w.own, w.f, w.h0, w.pen, fun j hj dj h => by
          have z : j ≠ i := by simpa using (List.mem_filter.mp hj).2
          rw [List.getElem?_set_ne (Ne.symm z)] at h
          exact w.sl j hj dj h⟩
        obtain ⟨F1, s2, sm, _, r, _⟩ := s1.freeze0 w1
        refine ⟨F1, sm, ⟨s2.f0, s2.fh, s2.stay, s2.newF, s2.pen, s.len, fun j d' hj h => ?_, fun j hj d' h => ?_, fun j hj k hk hjk a' dj dk h1 h2 h3 h4 => ?_⟩⟩
        · by_cases z : j = i
          · subst z
            rw [e] at h
            cases h
            exact ⟨_, q, r⟩
          · exact s2.sh j d' hj (by rw [List.getElem?_set_ne (Ne.symm z)]; exact h)
        · have z : j ≠ i := by simpa using (List.mem_filter.mp hj).2
          exact s2.ow j hj d' (by rw [List.getElem?_set_ne (Ne.symm z)]; exact h)
        · have z1 : j ≠ i := by simpa using (List.mem_filter.mp hj).2
          have z2 : k ≠ i := by simpa using (List.mem_filter.mp hk).2
          exact s2.dj j hj k hk hjk a' dj dk (by rw [List.getElem?_set_ne (Ne.symm z1)]; exact h1) (by rw [List.getElem?_set_ne (Ne.symm z2)]; exact h2) h3 h4
  · refine ⟨F, .refl _, ?_⟩
    have e : O.filter (· ≠ i) = O := List.filter_eq_self.mpr fun j hj => by simpa using fun z : j = i => hi (z ▸ hj)
    rw [e]
    exact s
theorem Sep.congr (s : Sep p F0 H0 O F H σ Γ n) (h : ∀ i, i ∈ O ↔ i ∈ O') : Sep p F0 H0 O' F H σ Γ n :=
  ⟨s.f0, s.fh, s.stay, s.newF, s.pen, s.len, fun j d hj => s.sh j d fun z => hj ((h j).mp z), fun j hj => s.ow j ((h j).mpr hj), fun j hj k hk => s.dj j ((h j).mpr hj) k ((h k).mpr hk)⟩
theorem Sep.weak (s : Sep p F0 H0 O F H σ Γ n) (h : ∀ i ∈ O', i ∈ O) : ∃ F', Same F F' ∧ Sep p F0 H0 O' F' H σ Γ n := by
  have go : ∀ (R : List Nat) (O : List Nat) (F : Hp), Sep p F0 H0 O F H σ Γ n → ∃ F', Same F F' ∧ Sep p F0 H0 (O.filter fun i => decide (i ∉ R)) F' H σ Γ n := by
    intro R
    induction R with
    | nil => intro O F s; exact ⟨F, .refl _, s.congr fun i => by simp⟩
    | cons r R ih =>
      intro O F s
      obtain ⟨F1, e1, s1⟩ := s.freeze r
      obtain ⟨F2, e2, s2⟩ := ih _ _ s1
      refine ⟨F2, e1.trans e2, s2.congr fun i => ?_⟩
      simp only [List.mem_filter, List.mem_cons, decide_eq_true_eq, not_or, ne_eq]
      constructor
      · rintro ⟨⟨a, b⟩, c⟩; exact ⟨a, b, c⟩
      · rintro ⟨a, b, c⟩; exact ⟨⟨a, b⟩, c⟩
  obtain ⟨F1, e1, s1⟩ := go (O.filter fun i => decide (i ∉ O')) O F s
  refine ⟨F1, e1, s1.congr fun i => ?_⟩
  simp only [List.mem_filter, decide_eq_true_eq, not_and, Decidable.not_not]
  constructor
  · rintro ⟨a, b⟩; exact b a
  · intro a; exact ⟨h i a, fun _ => a⟩
end
section
variable {X : Cx} {p : Pm} {Ob O O1 O2 O' : List Nat} {a b c e : Expr} {pos : Pos} {te : TE} {me : ME} {tA : TT} {mA : MT} {st : Stmt} {sts : List Stmt} {t u : TS} {m mu : MS}
@[reducible] def mNext : MS := fun E Γ n => E.nx Γ n
@[reducible] def mSeq (t u : MS) : MS := fun E Γ n => t { E with nx := u E } Γ n
theorem ls_weak {Ox : List Nat} (h : LS p Ob O O' t m) (k : ∀ i ∈ Ox, i ∈ O') : LS p Ob O Ox t m := fun F0 H0 F H σ Γ n E s q E' hn hr hb hc =>
  h F0 H0 F H σ Γ n E s q E' (fun F1 H1 σ1 Γ1 n1 s1 e1 q1 => let ⟨F2, e2, s2⟩ := s1.weak k; hn F2 H1 σ1 Γ1 n1 s2 (e1.trans e2) q1) hr hb hc
/-- a step that is none: what a slot holds is its own no more -/
theorem ls_pre {Ox : List Nat} (h : LS p Ob O O' t m) (k : ∀ i ∈ O, i ∈ Ox) : LS p Ob Ox O' t m := fun F0 H0 F H σ Γ n E s q E' hn hr hb hc => by
  obtain ⟨F1, e1, s1⟩ := s.weak k
  exact h F0 H0 F1 H σ Γ n E s1 q E' (fun F2 H2 σ2 Γ2 n2 s2 e2 q2 => hn F2 H2 σ2 Γ2 n2 s2 (e1.trans e2) q2) hr (fun F2 H2 σ2 Γ2 n2 s2 e2 q2 => hb F2 H2 σ2 Γ2 n2 s2 (e1.trans e2) q2) (fun F2 H2 σ2 Γ2 n2 s2 e2 q2 => hc F2 H2 σ2 Γ2 n2 s2 (e1.trans e2) q2)
theorem RSs.weak {Ox : List Nat} (h : RSs X p Ob O O' sts t m) (k : ∀ i ∈ Ox, i ∈ O') : RSs X p Ob O Ox sts t m := ⟨h.ps, ls_weak h.le k⟩
theorem RSs.pre {Ox : List Nat} (h : RSs X p Ob O O' sts t m) (k : ∀ i ∈ O, i ∈ Ox) : RSs X p Ob Ox O' sts t m := ⟨h.ps, ls_pre h.le k⟩
theorem ss_nil : RSs X p Ob O O [] tNext mNext := ⟨pss_nil, fun F0 H0 F H σ Γ n E s q E' hn _ _ _ => hn F H σ Γ n s (.refl _) q⟩
theorem ls_seq (h1 : LS p Ob O O1 t m) (h2 : LS p Ob O1 O' u mu) : LS p Ob O O' (tSeq t u) (mSeq m mu) := fun F0 H0 F H σ Γ n E s q E' hn hr hb hc =>
  h1 F0 H0 F H σ Γ n _ s q _ (fun F1 H1 σ1 Γ1 n1 s1 e1 q1 => h2 F0 H0 F1 H1 σ1 Γ1 n1 E s1 q1 E' (fun F2 H2 σ2 Γ2 n2 s2 e2 q2 => hn F2 H2 σ2 Γ2 n2 s2 (e1.trans e2) q2) hr
    (fun F2 H2 σ2 Γ2 n2 s2 e2 q2 => hb F2 H2 σ2 Γ2 n2 s2 (e1.trans e2) q2) (fun F2 H2 σ2 Γ2 n2 s2 e2 q2 => hc F2 H2 σ2 Γ2 n2 s2 (e1.trans e2) q2)) hr hb hc
theorem ss_cons (h1 : RS X p Ob O O1 st t m) (h2 : RSs X p Ob O1 O' sts u mu) : RSs X p Ob O O' (st :: sts) (tSeq t u) (mSeq m mu) := ⟨pss_cons h1.ps h2.ps, ls_seq h1.le h2.le⟩
theorem ss_one (h1 : RS X p Ob O O' st t m) : RSs X p Ob O O' [st] t m := ⟨pss_one h1.ps, h1.le⟩
/-- never reached -/
@[reducible] def mNever : MS := fun _ _ _ => False
theorem s_never : RS X p Ob O O' st tNever mNever := ⟨ps_never, fun F0 H0 F H σ Γ n E s q => q.elim⟩
@[reducible] def mDrop (me : ME) : MS := fun E Γ n => me Γ n fun _ n1 => E.nx Γ n1
theorem s_expr (he : RE X p O e te me) (h : PS X (.Expr e pos) (tDrop te)) : RS X p Ob O O (.Expr e pos) (tDrop te) (mDrop me) := ⟨h, fun F0 H0 F H σ Γ n E s q E' hn _ _ _ =>
  he.le F0 H0 F H σ Γ n _ s q _ fun d v F1 H1 n1 s1 e1 r1 q1 => hn F1 H1 σ Γ n1 s1 e1.f q1⟩
@[reducible] def mRet (me : ME) : MS := fun E Γ n => me Γ n E.rt
theorem s_ret (he : RE X p O e te me) : RS X p Ob O O' (.Return (some e) pos) (tRet te) (mRet me) := ⟨ps_ret he.pe, fun F0 H0 F H σ Γ n E s q E' _ hr _ _ =>
  he.le F0 H0 F H σ Γ n _ s q _ fun d v F1 H1 n1 s1 e1 r1 q1 => hr d v F1 H1 n1 s1.fin r1 q1⟩
@[reducible] def mIfS (c : MT) (t u : MS) : MS := fun E Γ n => c Γ n fun b n1 => if b = true then t E Γ n1 else u E Γ n1
theorem s_if {x y : List Stmt} (hc : RT X p O c tA mA) (ha : RSs X p Ob O O' x t m) (hb : RSs X p Ob O O' y u mu) : RS X p Ob O O' (.If c x y pos) (tIfS tA t u) (mIfS mA m mu) := ⟨ps_if hc.pt ha.ps hb.ps, fun F0 H0 F H σ Γ n E s q E' hn hr hb' hc' =>
  hc.le F0 H0 F H σ Γ n _ s q _ fun d F1 H1 n1 s1 e1 q1 => by
    cases d with
    | true =>
      rw [if_pos rfl] at q1 ⊢
      exact ha.le F0 H0 F1 H1 σ Γ n1 E s1 q1 E' (fun F2 H2 σ2 Γ2 n2 s2 e2 q2 => hn F2 H2 σ2 Γ2 n2 s2 (e1.f.trans e2) q2) hr (fun F2 H2 σ2 Γ2 n2 s2 e2 q2 => hb' F2 H2 σ2 Γ2 n2 s2 (e1.f.trans e2) q2) (fun F2 H2 σ2 Γ2 n2 s2 e2 q2 => hc' F2 H2 σ2 Γ2 n2 s2 (e1.f.trans e2) q2)
    | false =>
      rw [if_neg (by decide)] at q1 ⊢
      exact hb.le F0 H0 F1 H1 σ Γ n1 E s1 q1 E' (fun F2 H2 σ2 Γ2 n2 s2 e2 q2 => hn F2 H2 σ2 Γ2 n2 s2 (e1.f.trans e2) q2) hr (fun F2 H2 σ2 Γ2 n2 s2 e2 q2 => hb' F2 H2 σ2 Γ2 n2 s2 (e1.f.trans e2) q2) (fun F2 H2 σ2 Γ2 n2 s2 e2 q2 => hc' F2 H2 σ2 Γ2 n2 s2 (e1.f.trans e2) q2)⟩
@[reducible] def mSet (i : Nat) (me : ME) : MS := fun E Γ n => me Γ n fun d n1 => E.nx (Γ.set i (some d)) n1
def Pm.off (p : Pm) (i : Nat) : Prop := ∀ a j, p.ap = some (a, j) → j ≠ i
theorem s_set {tg : Expr} {i : Nat} (he : RE X p O e te me) (hi : i ∉ O) (hp : p.off i) (h : PS X (.Assign [tg] e pos) (tAsg te (gName i))) : RS X p Ob O O (.Assign [tg] e pos) (tAsg te (gName i)) (mSet i me) := ⟨h, fun F0 H0 F H σ Γ n E s q E' hn _ _ _ =>
  he.le F0 H0 F H σ Γ n _ s q _ fun d v F1 H1 n1 s1 e1 r1 q1 => hn F1 H1 _ _ n1 (s1.put hi hp r1) e1.f q1⟩
end
end RR
end
section
namespace RR
open PySem PySem.Spec L2
open PyProof.Rows hiding St
def Agree (is : List Nat) (σ σ' : St) : Prop := σ'.length = σ.length ∧ ∀ j, j ∉ is → σ'[j]? = σ[j]?
def LG (p : Pm) (O : List Nat) (is : List Nat) (g : TG) (mg : MG) : Prop := ∀ F0 H0 F H σ Γ n d v, Sep p F0 H0 O F H σ Γ n → Rp p.K F d v → ∀ (Q : DEnv → Prop) (Q' : St → Hp → Prop), mg d Γ Q →
  (∀ σ' Γ', Sep p F0 H0 O F H σ' Γ' n → Agree is σ σ' → Q Γ' → Q' σ' H) → g v σ H Q'
def LGs (p : Pm) (O : List Nat) (is : List Nat) (g : TGs) (mg : List D → DEnv → (DEnv → Prop) → Prop) : Prop := ∀ F0 H0 F H σ Γ n ds vs, Sep p F0 H0 O F H σ Γ n → Rps p.K F ds vs → ∀ (Q : DEnv → Prop) (Q' : St → Hp → Prop), mg ds Γ Q →
  (∀ σ' Γ', Sep p F0 H0 O F H σ' Γ' n → Agree is σ σ' → Q Γ' → Q' σ' H) → g vs σ H Q'
structure RG (X : Cx) (p : Pm) (O : List Nat) (is : List Nat) (tg : Expr) (g : TG) (mg : MG) : Prop where
  pg : PG X tg g
  le : LG p O is g mg
structure RGs (X : Cx) (p : Pm) (O : List Nat) (is : List Nat) (tg : List Expr) (g : TGs) (mg : List D → DEnv → (DEnv → Prop) → Prop) : Prop where
  pg : PGs X tg g
  le : LGs p O is g mg
@[reducible] def mgName (i : Nat) : MG := fun d Γ Q => Q (Γ.set i (some d))
@[reducible] def mgNil : List D → DEnv → (DEnv → Prop) → Prop := fun ds Γ Q => ds = [] ∧ Q Γ
@[reducible] def mgCons (g : MG) (u : List D → DEnv → (DEnv → Prop) → Prop) : List D → DEnv → (DEnv → Prop) → Prop := fun ds Γ Q => ∃ d r, ds = d :: r ∧ g d Γ fun Γ1 => u r Γ1 Q
@[reducible] def mgTup (n : Nat) (u : List D → DEnv → (DEnv → Prop) → Prop) : MG := fun d Γ Q => ∃ ds, d = .tuple ds ∧ ds.length = n ∧ u ds Γ Q
section
variable {X : Cx} {p : Pm} {O is js : List Nat} {tg : Expr} {tgs : List Expr} {g : TG} {gs : TGs} {mg : MG} {mgs : List D → DEnv → (DEnv → Prop) → Prop} {pos : Pos}
theorem g_name {x : Str} {i : Nat} (h : PG X (.Name x pos) (gName i)) (hi : i ∉ O) (hp : p.off i) : RG X p O [i] (.Name x pos) (gName i) (mgName i) := ⟨h, fun F0 H0 F H σ Γ n d v s r Q Q' q k => by
  refine k _ _ (s.put hi hp r) ⟨by simp, fun j hj => ?_⟩ q
  exact List.getElem?_set_ne fun z => hj (by simp [z])⟩
theorem gs_nil : RGs X p O [] [] gNil mgNil := ⟨pgs_nil, fun F0 H0 F H σ Γ n ds vs s r Q Q' ⟨e, q⟩ k => by
  subst e
  exact ⟨r.unnil, k σ Γ s ⟨rfl, fun _ _ => rfl⟩ q⟩⟩
theorem gs_cons (h1 : RG X p O is tg g mg) (h2 : RGs X p O js tgs gs mgs) (h : PGs X (tg :: tgs) (gCons g gs)) : RGs X p O (is ++ js) (tg :: tgs) (gCons g gs) (mgCons mg mgs) := ⟨h, fun F0 H0 F H σ Γ n ds vs s r Q Q' ⟨d, w, e, q⟩ k => by
  subst e
  obtain ⟨v, x, rfl, r1, r2⟩ := r.uncons
  refine ⟨v, x, rfl, h1.le F0 H0 F H σ Γ n d v s r1 _ _ q fun σ1 Γ1 s1 a1 q1 => ?_⟩
  refine h2.le F0 H0 F H σ1 Γ1 n w x s1 r2 _ _ q1 fun σ2 Γ2 s2 a2 q2 => ?_
  refine k σ2 Γ2 s2 ⟨a2.1.trans a1.1, fun j hj => ?_⟩ q2
  exact (a2.2 j fun z => hj (List.mem_append_right _ z)).trans (a1.2 j fun z => hj (List.mem_append_left _ z))⟩
theorem g_tup {k n : Nat} {K : PySem.W.Frag} (hK : p.K = K) (h1 : RGs X p O is tgs gs mgs) (h : PG X (.Tuple tgs k pos) (gTup K n gs)) : RG X p O is (.Tuple tgs k pos) (gTup K n gs) (mgTup n mgs) := ⟨h, fun F0 H0 F H σ Γ m d v s r Q Q' ⟨ds, e, hn, q⟩ k => by
  subst e hK
  obtain ⟨a, xs, rfl, h1', r1⟩ := r.tup_inv
  exact ⟨a, xs, rfl, Same.sqt s.fh h1', by rw [r1.len]; exact hn, h1.le F0 H0 F H σ Γ m ds xs s r1 Q Q' q k⟩⟩
end
structure Feeds (K : PySem.W.Frag) (J : It) (ds : List D) (F : Hp) : Prop where
  stop : ∀ F' H', Same F F' → Same F' H' → J.stop ds.length H'
  go : ∀ (i : Nat) d F' H', ds[i]? = some d → Same F F' → Same F' H' → J.go i H' ∧ ∀ x H2, J.yld i H' x H2 → ∃ F2, Gr F' H' F2 H2 ∧ Rp K F2 d x
abbrev MI := DEnv → Nat → (List D → Nat → Prop) → Prop
def LI (p : Pm) (O : List Nat) (wi : TI) (mi : MI) : Prop := ∀ F0 H0 F H σ Γ n (R : List D → Nat → Prop), Sep p F0 H0 O F H σ Γ n → mi Γ n R → ∀ R' : It → Hp → Prop,
  (∀ J ds F' H' n', Sep p F0 H0 O F' H' σ Γ n' → Gp p F H F' H' → Feeds p.K J ds F' → R ds n' → R' J H') → wi σ H R'
structure RI (X : Cx) (p : Pm) (O : List Nat) (tg iter : Expr) (wi : TI) (mi : MI) : Prop where
  pi : PI X tg iter wi
  le : LI p O wi mi
section
variable {X : Cx} {K : PySem.W.Frag} {p : Pm} {O : List Nat} {tg e : Expr} {te : TE} {me : ME} {ta : TA} {ma : MA} {pos : Pos}
theorem feeds_list {F : Hp} {a : Addr} {xs : List V} {ds : List D} (h : F a = some (.lst xs)) (r : Rps K F ds xs) : Feeds K (Itl K a) ds F where
  stop := fun F' H' e e' => ⟨xs, .of (e' _ _ (e _ _ h)), Nat.le_of_eq r.len⟩
  go := fun i d F' H' hd e e' => by
    have hq : SqL K H' a xs := .of (e' _ _ (e _ _ h))
    obtain ⟨v, e1, r1⟩ := r.get hd
    refine ⟨⟨xs, v, hq, e1⟩, fun x H2 ⟨h2, y⟩ => ?_⟩
    subst h2
    have := y xs hq
    rw [e1] at this
    cases this
    exact ⟨F', .refl e', r1.mono e⟩
theorem feeds_tup {F : Hp} {a : Addr} {xs : List V} {ds : List D} (h : SqT K F a xs) (r : Rps K F ds xs) : Feeds K (Itt K a) ds F where
  stop := fun F' H' e e' => ⟨xs, Same.sqt e' (Same.sqt e h), Nat.le_of_eq r.len⟩
  go := fun i d F' H' hd e e' => by
    have hq : SqT K H' a xs := Same.sqt e' (Same.sqt e h)
    obtain ⟨v, e1, r1⟩ := r.get hd
    refine ⟨⟨xs, v, hq, e1⟩, fun x H2 ⟨h2, y⟩ => ?_⟩
    subst h2
    have := y xs hq
    rw [e1] at this
    cases this
    exact ⟨F', .refl e', r1.mono e⟩
/-- lo, lo + 1, .. -/
def rangeD (lo : Int) : Nat → List D
  | 0 => []
  | n + 1 => .int lo :: rangeD (lo + 1) n
theorem rangeD_len (lo : Int) (n : Nat) : (rangeD lo n).length = n := by
  induction n generalizing lo with
  | zero => rfl
  | succ n ih => show (rangeD (lo + 1) n).length + 1 = n + 1; rw [ih]
theorem rangeD_get {lo : Int} {n i : Nat} {d : D} (h : (rangeD lo n)[i]? = some d) : d = .int (lo + i) ∧ i < n := by
  induction n generalizing lo i with
  | zero => simp [rangeD] at h
  | succ n ih =>
    cases i with
    | zero =>
      have : some (PyData.int lo) = some d := h
      cases this
      exact ⟨by simp, Nat.succ_pos n⟩
    | succ i =>
      obtain ⟨h1, h2⟩ := ih (lo := lo + 1) (i := i) h
      exact ⟨by rw [h1]; congr 1; omega, Nat.succ_lt_succ h2⟩
theorem feeds_range {F : Hp} (lo : Int) (n : Nat) : Feeds K (Itr lo n) (rangeD lo n) F where
  stop := fun F' H' e e' => Nat.le_of_eq (rangeD_len lo n).symm
  go := fun i d F' H' hd e e' => by
    obtain ⟨h1, h2⟩ := rangeD_get hd
    refine ⟨h2, fun x H2 ⟨h3, h4⟩ => ?_⟩
    subst h1 h3 h4
    exact ⟨F', .refl e', .int _⟩
def okR (i : Int) : Prop := -(2 ^ 62) ≤ i ∧ i < 2 ^ 62
@[reducible] def mIR1 (ma : MA) : MI := fun Γ n Q => ma Γ n fun ds n1 => ∃ j, ds = [.int j] ∧ okR j ∧ Q (rangeD 0 j.toNat) n1
@[reducible] def mIR2 (ma : MA) : MI := fun Γ n Q => ma Γ n fun ds n1 => ∃ i j, ds = [.int i, .int j] ∧ okR i ∧ okR j ∧ Q (rangeD i (j - i).toNat) n1
theorem i_range1 {a : Expr} {q : Pos} (ha : RA X p O [a] ta ma) (h : PI X tg (.Call (.Name "range" q) [a] [] pos) (iRng1 ta)) : RI X p O tg (.Call (.Name "range" q) [a] [] pos) (iRng1 ta) (mIR1 ma) := ⟨h, fun F0 H0 F H σ Γ n R s q R' k =>
  ha.le F0 H0 F H σ Γ n _ s q _ fun ds vs F1 H1 n1 s1 e1 r1 ⟨j, ed, o, q1⟩ => by
    subst ed
    obtain ⟨v, w, rfl, r2, r3⟩ := r1.uncons
    cases r3.unnil
    cases r2.int_inv
    exact ⟨j, rfl, o.1, o.2, k _ _ F1 H1 n1 s1 e1 (feeds_range 0 _) q1⟩⟩
/-- enumerate of a list -/
def enumD (i : Int) : List D → List D
  | [] => []
  | d :: r => .tuple [.int i, d] :: enumD (i + 1) r
theorem enumD_len (i : Int) (ds : List D) : (enumD i ds).length = ds.length := by
  induction ds generalizing i with
  | nil => rfl
  | cons d r ih => show (enumD (i + 1) r).length + 1 = r.length + 1; rw [ih]
theorem enumD_get {lo : Int} {ds : List D} {i : Nat} {d : D} (h : (enumD lo ds)[i]? = some d) : ∃ x, ds[i]? = some x ∧ d = .tuple [.int (lo + i), x] := by
  induction ds generalizing lo i with
  | nil => simp [enumD] at h
  | cons y r ih =>
    cases i with
    | zero =>
      have : some (PyData.tuple [.int lo, y]) = some d := h
      cases this
      exact ⟨y, rfl, by simp⟩
    | succ i =>
      obtain ⟨x, h1, h2⟩ := ih (lo := lo + 1) (i := i) h
      exact ⟨x, h1, by rw [h2]; congr 3; omega⟩
theorem Rp.pair {F' H' : Hp} {T : Addr} {d e : D} {x y : V} (h : H' T = none) (s : Same F' H') (r1 : Rp K F' d x) (r2 : Rp K F' e y) : Rp K (upd F' T (.tup [x, y])) (.tuple [d, e]) (.ref T) := Rp.new_tup (H := H') (.cons r1 (.cons r2 .nil)) (s.free h)
theorem feeds_enum {F : Hp} {a : Addr} {xs : List V} {ds : List D} (h : F a = some (.lst xs)) (r : Rps K F ds xs) : Feeds K (Ite K a) (enumD 0 ds) F where
  stop := fun F' H' e e' => ⟨xs, .of (e' _ _ (e _ _ h)), by rw [enumD_len]; exact Nat.le_of_eq r.len⟩
  go := fun i d F' H' hd e e' => by
    have hq : SqL K H' a xs := .of (e' _ _ (e _ _ h))
    obtain ⟨y, hy, rfl⟩ := enumD_get hd
    obtain ⟨v, e1, r1⟩ := r.get hy
    refine ⟨⟨xs, v, hq, e1⟩, fun x H2 ⟨T, w, h1, h2, h3, h4⟩ => ?_⟩
    have := h4 xs hq
    rw [e1] at this
    cases this
    subst h1 h3
    exact ⟨_, .new1 e' h2 _, Rp.pair h2 e' (by rw [Int.zero_add]; exact .int _) (r1.mono e)⟩
/-- zip -/
def zipD : List D → List D → List D
  | x :: xs, y :: ys => .tuple [x, y] :: zipD xs ys
  | _, _ => []
theorem zipD_len : ∀ xs ys : List D, (zipD xs ys).length = min xs.length ys.length
  | [], [] => rfl
  | [], _ :: _ => by simp [zipD]
  | _ :: _, [] => by simp [zipD]
  | x :: xs, y :: ys => by
    show (zipD xs ys).length + 1 = _
    rw [zipD_len xs ys, List.length_cons, List.length_cons]
    omega
theorem zipD_get : ∀ {xs ys : List D} {i : Nat} {d : D}, (zipD xs ys)[i]? = some d → ∃ x y, xs[i]? = some x ∧ ys[i]? = some y ∧ d = .tuple [x, y]
  | [], [], i, d, h => by simp [zipD] at h
  | [], _ :: _, i, d, h => by simp [zipD] at h
  | _ :: _, [], i, d, h => by simp [zipD] at h
  | x :: xs, y :: ys, 0, d, h => by
    have : some (PyData.tuple [x, y]) = some d := h
    cases this
    exact ⟨x, y, rfl, rfl, rfl⟩
  | x :: xs, y :: ys, i + 1, d, h => zipD_get (xs := xs) (ys := ys) (i := i) h
theorem feeds_zipL {F : Hp} {a b : Addr} {xs ys : List V} {ds es : List D} (h : F a = some (.lst xs)) (r : Rps K F ds xs) (h' : F b = some (.lst ys)) (r' : Rps K F es ys) : Feeds K (Itz K a b) (zipD ds es) F where
  stop := fun F' H' e e' => by
    refine ⟨xs, ys, .of (e' _ _ (e _ _ h)), .of (e' _ _ (e _ _ h')), ?_⟩
    rw [zipD_len, ← r.len, ← r'.len]
    omega
  go := fun i d F' H' hd e e' => by
    have hq : SqL K H' a xs := .of (e' _ _ (e _ _ h))
    have hq' : SqL K H' b ys := .of (e' _ _ (e _ _ h'))
    obtain ⟨x, y, hx, hy, rfl⟩ := zipD_get hd
    obtain ⟨v, e1, r1⟩ := r.get hx
    obtain ⟨u, e2, r2⟩ := r'.get hy
    refine ⟨⟨xs, ys, v, u, hq, hq', e1, e2⟩, fun w H2 ⟨T, x1, y1, h1, h2, h3, h4, h5⟩ => ?_⟩
    have t1 := h4 xs hq
    have t2 := h5 ys hq'
    rw [e1] at t1
    rw [e2] at t2
    cases t1
    cases t2
    subst h1 h3
    exact ⟨_, .new1 e' h2 _, Rp.pair h2 e' (r1.mono e) (r2.mono e)⟩
theorem feeds_zipT {F : Hp} {a b : Addr} {xs ys : List V} {ds es : List D} (h : SqT K F a xs) (r : Rps K F ds xs) (h' : SqT K F b ys) (r' : Rps K F es ys) : Feeds K (RZ.ItzT K a b) (zipD ds es) F where
  stop := fun F' H' e e' => by
    refine ⟨xs, ys, Same.sqt e' (Same.sqt e h), Same.sqt e' (Same.sqt e h'), ?_⟩
    rw [zipD_len, ← r.len, ← r'.len]
    omega
  go := fun i d F' H' hd e e' => by
    have hq : SqT K H' a xs := Same.sqt e' (Same.sqt e h)
    have hq' : SqT K H' b ys := Same.sqt e' (Same.sqt e h')
    obtain ⟨x, y, hx, hy, rfl⟩ := zipD_get hd
    obtain ⟨v, e1, r1⟩ := r.get hx
    obtain ⟨u, e2, r2⟩ := r'.get hy
    refine ⟨⟨xs, ys, v, u, hq, hq', e1, e2⟩, fun w H2 ⟨T, x1, y1, h1, h2, h3, h4, h5⟩ => ?_⟩
    have t1 := h4 xs hq
    have t2 := h5 ys hq'
    rw [e1] at t1
    rw [e2] at t2
    cases t1
    cases t2
    subst h1 h3
    exact ⟨_, .new1 e' h2 _, Rp.pair h2 e' (r1.mono e) (r2.mono e)⟩
@[reducible] def mIZ (ma : MA) : MI := fun Γ n Q => ma Γ n fun ds n1 => (∃ xs ys, ds = [.list xs, .list ys] ∧ Q (zipD xs ys) n1) ∨ ∃ xs ys, ds = [.tuple xs, .tuple ys] ∧ Q (zipD xs ys) n1
theorem i_zip {e2 : Expr} {q : Pos} (hK : p.K = X.K) (ha : RA X p O [e, e2] ta ma) (h : PI X tg (.Call (.Name "zip" q) [e, e2] [] pos) (RZ.iZipA X.K ta)) : RI X p O tg (.Call (.Name "zip" q) [e, e2] [] pos) (RZ.iZipA p.K ta) (mIZ ma) := ⟨hK ▸ h, fun F0 H0 F H σ Γ n R s q R' k =>
  ha.le F0 H0 F H σ Γ n _ s q _ fun ds vs F1 H1 n1 s1 e1 r1 q1 => by
    rcases q1 with ⟨xs, ys, ed, q1⟩ | ⟨xs, ys, ed, q1⟩
    · subst ed
      obtain ⟨v, w, rfl, r2, r3⟩ := r1.uncons
      obtain ⟨v', w', rfl, r4, r5⟩ := r3.uncons
      cases r5.unnil
      obtain ⟨a, zs, rfl, h1, r6⟩ := r2.lst_inv
      obtain ⟨b, us, rfl, h2, r7⟩ := r4.lst_inv
      exact ⟨a, b, zs, us, rfl, .inl ⟨.of (s1.fh _ _ h1), .of (s1.fh _ _ h2), k _ _ F1 H1 n1 s1 e1 (feeds_zipL h1 r6 h2 r7) q1⟩⟩
    · subst ed
      obtain ⟨v, w, rfl, r2, r3⟩ := r1.uncons
      obtain ⟨v', w', rfl, r4, r5⟩ := r3.uncons
      cases r5.unnil
      obtain ⟨a, zs, rfl, h1, r6⟩ := r2.tup_inv
      obtain ⟨b, us, rfl, h2, r7⟩ := r4.tup_inv
      exact ⟨a, b, zs, us, rfl, .inr ⟨Same.sqt s1.fh h1, Same.sqt s1.fh h2, k _ _ F1 H1 n1 s1 e1 (feeds_zipT h1 r6 h2 r7) q1⟩⟩⟩
end
def forW (g : MG) (tb : MS) (E : EndsD) : List D → DEnv → Nat → Prop
  | [], Γ, n => E.nx Γ n
  | d :: ds, Γ, n => g d Γ fun Γ1 => tb { E with nx := forW g tb E ds, ct := forW g tb E ds, bk := E.nx } Γ1 n
@[reducible] def mFor (mi : MI) (g : MG) (tb : MS) : MS := fun E Γ n => mi Γ n fun ds n1 => forW g tb E ds Γ n1
@[reducible] def mWhile (c : MT) (tb : MS) : MS := fun E Γ n => ∃ W : Nat → DEnv → Nat → Prop, (∃ m, W m Γ n) ∧ ∀ m Γ n, W m Γ n →
  c Γ n fun b n1 => if b = true then tb { E with nx := fun Γ' n' => ∃ m', m' < m ∧ W m' Γ' n', ct := fun Γ' n' => ∃ m', m' < m ∧ W m' Γ' n', bk := E.nx } Γ n1 else E.nx Γ n1
section
variable {X : Cx} {p : Pm} {Ob O O' is : List Nat} {tg iter c : Expr} {body : List Stmt} {pos : Pos} {wi : TI} {mi : MI} {g : TG} {mg : MG} {tb : TS} {mb : MS} {tc : TT} {mc : MT}
theorem ls_for (hi : LI p O wi mi) (hg : LG p O is g mg) (hb : LS p O O O tb mb) : LS p Ob O O (tFor wi g tb) (mFor mi mg mb) := fun F0 H0 F H σ Γ n E s q E' hn hr hb' hc' =>
  hi F0 H0 F H σ Γ n _ s q _ fun J ds F1 H1 n1 s1 g1 fd q1 => by
    refine ⟨fun i m σ H => m = ds.length - i ∧ i ≤ ds.length ∧ ∃ F Γ n, Same F1 F ∧ Sep p F0 H0 O F H σ Γ n ∧ forW mg mb E (ds.drop i) Γ n, ⟨ds.length, by simp, Nat.zero_le _, F1, Γ, n1, .refl _, s1, q1⟩, ?_⟩
    rintro i m σ2 H2 ⟨rfl, hi, F2, Γ2, n2, e2, s2, q2⟩
    by_cases hlt : i < ds.length
    · obtain ⟨d, hd⟩ : ∃ d, ds[i]? = some d := ⟨ds[i], by simp [hlt]⟩
      obtain ⟨go, yl⟩ := fd.go i d F2 H2 hd e2 s2.fh
      have hdr : ds.drop i = d :: ds.drop (i + 1) := by
        rw [List.drop_eq_getElem_cons hlt]
        congr 1
        simpa [hlt] using hd
      rw [hdr] at q2
      refine .inr ⟨go, fun σ' H' => ∃ F Γ n, Same F1 F ∧ Sep p F0 H0 O F H' σ' Γ n ∧ forW mg mb E (ds.drop (i + 1)) Γ n, fun σ' H' w => ⟨ds.length - (i + 1), by omega, rfl, hlt, w⟩, fun x H3 y => ?_⟩
      obtain ⟨F3, g3, r3⟩ := yl x H3 y
      refine hg F0 H0 F3 H3 σ2 Γ2 n2 d x (s2.gr g3) r3 _ _ q2 fun σ4 Γ4 s4 _ q4 => ?_
      refine hb F0 H0 F3 H3 σ4 Γ4 n2 _ s4 q4 _ (fun F5 H5 σ5 Γ5 n5 s5 e5 q5 => ⟨F5, Γ5, n5, (e2.trans g3.f).trans e5, s5, q5⟩) hr (fun F5 H5 σ5 Γ5 n5 s5 e5 q5 => hn F5 H5 σ5 Γ5 n5 s5 (((g1.f.trans e2).trans g3.f).trans e5) q5) fun F5 H5 σ5 Γ5 n5 s5 e5 q5 => ⟨F5, Γ5, n5, (e2.trans g3.f).trans e5, s5, q5⟩
    · have e : i = ds.length := by omega
      subst e
      rw [List.drop_length] at q2
      exact .inl ⟨fd.stop F2 H2 e2 s2.fh, hn F2 H2 σ2 Γ2 n2 s2 (g1.f.trans e2) q2⟩
theorem s_for (hi : RI X p O tg iter wi mi) (hg : RG X p O is tg g mg) (hb : RSs X p O O O body tb mb) (h : PS X (.For tg iter body [] pos) (tFor wi g tb)) : RS X p Ob O O (.For tg iter body [] pos) (tFor wi g tb) (mFor mi mg mb) := ⟨h, ls_for hi.le hg.le hb.le⟩
theorem s_while (hc : RT X p O c tc mc) (hb : RSs X p O O O body tb mb) (h : PS X (.While c body [] pos) (tWhile tc tb)) : RS X p Ob O O (.While c body [] pos) (tWhile tc tb) (mWhile mc mb) := ⟨h, fun F0 H0 F H σ Γ n E s ⟨W, ⟨m0, w0⟩, turn⟩ E' hn hr hb' hc' => by
  refine ⟨fun m σ H => ∃ F1 Γ n, Same F F1 ∧ Sep p F0 H0 O F1 H σ Γ n ∧ W m Γ n, ⟨m0, F, Γ, n, .refl _, s, w0⟩, ?_⟩
  rintro m σ1 H1 ⟨F1, Γ1, n1, e1, s1, w1⟩
  refine hc.le F0 H0 F1 H1 σ1 Γ1 n1 _ s1 (turn m Γ1 n1 w1) _ fun b F2 H2 n2 s2 g2 q2 => ?_
  cases b with
  | true =>
    rw [if_pos rfl] at q2 ⊢
    refine ⟨fun σ' H' => ∃ F1 Γ n, Same F F1 ∧ Sep p F0 H0 O F1 H' σ' Γ n ∧ ∃ m', m' < m ∧ W m' Γ n, fun σ' H' ⟨F3, Γ3, n3, e3, s3, m', hm, w3⟩ => ⟨m', hm, F3, Γ3, n3, e3, s3, w3⟩, ?_⟩
    exact hb.le F0 H0 F2 H2 σ1 Γ1 n2 _ s2 q2 _ (fun F5 H5 σ5 Γ5 n5 s5 e5 q5 => ⟨F5, Γ5, n5, (e1.trans g2.f).trans e5, s5, q5⟩) hr (fun F5 H5 σ5 Γ5 n5 s5 e5 q5 => hn F5 H5 σ5 Γ5 n5 s5 ((e1.trans g2.f).trans e5) q5) fun F5 H5 σ5 Γ5 n5 s5 e5 q5 => ⟨F5, Γ5, n5, (e1.trans g2.f).trans e5, s5, q5⟩
  | false =>
    rw [if_neg (by decide)] at q2 ⊢
    exact hn F2 H2 σ1 Γ1 n2 s2 (e1.trans g2.f) q2⟩
end
end RR
end
section
namespace RR
open PySem PySem.Spec L2
open PyProof.Rows hiding St
def wipeD (Γ : DEnv) : List Nat → DEnv
  | [] => Γ
  | v :: vs => (wipeD Γ vs).set v none
def compW (g : MG) (t : MT) (e : ME) (Γ : DEnv) : List D → Nat → (List D → Nat → Prop) → Prop
  | [], n, Q => Q [] n
  | d :: ds, n, Q => g d Γ fun Γ2 => t Γ2 n fun b n1 => if b = true then e Γ2 n1 fun y n2 => compW g t e Γ ds n2 fun r n3 => Q (y :: r) n3 else compW g t e Γ ds n1 Q
@[reducible] def mLc (mi : MI) (g : MG) (t : MT) (e : ME) (vs : List Nat) : ME := fun Γ n Q => mi Γ n fun ds n1 => ds.length ≤ lim ∧ compW g t e (wipeD Γ vs) ds n1 fun r n2 => Q (.list r) n2
@[reducible] def mYes : MT := fun _ n Q => Q true n
section
theorem wipe_at {σ : St} {i : Nat} : ∀ {vs : List Nat}, (wipe σ vs)[i]? = if i ∈ vs then (if i < σ.length then some none else none) else σ[i]?
  | [] => by simp [wipe]
  | v :: vs => by
    unfold wipe
    rw [set_at, wipe_length, wipe_at (vs := vs)]
    by_cases h : v = i
    · subst h; simp
    · rw [if_neg h]
      have : (i ∈ v :: vs) ↔ i ∈ vs := by simp [Ne.symm h]
      by_cases q : i ∈ vs
      · rw [if_pos q, if_pos (this.mpr q)]
      · rw [if_neg q, if_neg fun z => q (this.mp z)]
theorem wipeD_at {Γ : DEnv} {i : Nat} : ∀ {vs : List Nat}, (wipeD Γ vs)[i]? = if i ∈ vs then (if i < Γ.length then some none else none) else Γ[i]?
  | [] => by simp [wipeD]
  | v :: vs => by
    have hl : (wipeD Γ vs).length = Γ.length := by
      have go : ∀ vs : List Nat, (wipeD Γ vs).length = Γ.length := fun vs => by
        induction vs with
        | nil => rfl
        | cons v vs ih => unfold wipeD; rw [List.length_set, ih]
      exact go vs
    unfold wipeD
    rw [set_at, hl, wipeD_at (vs := vs)]
    by_cases h : v = i
    · subst h; simp
    · rw [if_neg h]
      have : (i ∈ v :: vs) ↔ i ∈ vs := by simp [Ne.symm h]
      by_cases q : i ∈ vs
      · rw [if_pos q, if_pos (this.mpr q)]
      · rw [if_neg q, if_neg fun z => q (this.mp z)]
theorem wipeD_len {Γ : DEnv} : ∀ vs : List Nat, (wipeD Γ vs).length = Γ.length
  | [] => rfl
  | v :: vs => by unfold wipeD; rw [List.length_set, wipeD_len vs]
theorem wipe_agree {σ σ' : St} {vs is : List Nat} (h : Agree is (wipe σ vs) σ') (k : ∀ i ∈ is, i ∈ vs) : wipe σ' vs = wipe σ vs := by
  apply List.ext_getElem?
  intro i
  have hl : σ'.length = σ.length := by rw [h.1, wipe_length]
  rw [wipe_at, wipe_at, hl]
  by_cases q : i ∈ vs
  · rw [if_pos q, if_pos q]
  · rw [if_neg q, if_neg q, h.2 i fun z => q (k i z), wipe_at, if_neg q]
variable {p : Pm} {F0 H0 F H : Hp} {O : List Nat} {σ : St} {Γ : DEnv} {n : Nat}
theorem Sep.wipe (s : Sep p F0 H0 O F H σ Γ n) {vs : List Nat} (hp : ∀ v ∈ vs, p.off v) : Sep p F0 H0 O F H (wipe σ vs) (wipeD Γ vs) n := by
  have gd : ∀ {j : Nat} {d : D}, (wipeD Γ vs)[j]? = some (some d) → j ∉ vs ∧ Γ[j]? = some (some d) := fun {j d} e => by
    rw [wipeD_at] at e
    by_cases q : j ∈ vs
    · rw [if_pos q] at e
      split at e <;> cases e
    · rw [if_neg q] at e
      exact ⟨q, e⟩
  refine ⟨s.f0, s.fh, s.stay, s.newF, fun a j e => ?_, by rw [wipe_length, wipeD_len]; exact s.len, fun j d hj e => ?_, fun j hj d e => ?_, fun j hj k hk hjk a dj dk h1 h2 h3 h4 => ?_⟩
  · obtain ⟨h1, h2, h3⟩ := s.pen a j e
    exact ⟨h1, by rw [wipe_at, if_neg fun z => hp j z a j e rfl]; exact h2, h3⟩
  · obtain ⟨q, e⟩ := gd e
    rw [wipe_at, if_neg q]
    exact s.sh j d hj e
  · obtain ⟨q, e⟩ := gd e
    rw [wipe_at, if_neg q]
    exact s.ow j hj d e
  · obtain ⟨q1, h1⟩ := gd h1
    obtain ⟨q2, h2⟩ := gd h2
    rw [wipe_at, if_neg q1] at h3
    rw [wipe_at, if_neg q2] at h4
    exact s.dj j hj k hk hjk a dj dk h1 h2 h3 h4
/-- the slots again, as they were -/
theorem Sep.back {F' H' : Hp} {σ' : St} {Γ' : DEnv} {n' : Nat} (s : Sep p F0 H0 O F H σ Γ n) (s' : Sep p F0 H0 O F' H' σ' Γ' n') (g : Gp p F H F' H') : Sep p F0 H0 O F' H' σ Γ n' := by
  refine ⟨s'.f0, s'.fh, s'.stay, s'.newF, fun a j e => ⟨(s'.pen a j e).1, (s.pen a j e).2.1, (s'.pen a j e).2.2⟩, s.len, fun j d hj e => ?_, fun j hj d e => ?_, s.dj⟩
  · obtain ⟨v, h1, r⟩ := s.sh j d hj e
    exact ⟨v, h1, r.mono g.f⟩
  · obtain ⟨a, h1, r, z1, z2, z3⟩ := s.ow j hj d e
    refine ⟨a, h1, ?_, ?_, z2, z3⟩
    · cases r with
      | lst q1 q2 => exact .lst (g.h _ _ q1 z3) (q2.mono g.f)
      | dct q1 q2 q3 => exact .dct (g.h _ _ q1 z3) q2 fun i x d a b => (q3 i x d a b).mono g.f
    · cases w : F' a with
      | none => rfl
      | some o =>
        obtain ⟨u, hu⟩ := r.at
        rcases g.new a o w with q | q | q
        · rw [z1] at q; cases q
        · rw [hu] at q; cases q
        · exact absurd q z3
end
section
variable {X : Cx} {p : Pm} {O is vs : List Nat} {tg iter elt : Expr} {ifs : List Expr} {pos : Pos} {wi : TI} {mi : MI} {g : TG} {mg : MG} {tt : TT} {mt : MT} {te : TE} {me : ME}
/-- a fresh thing: t tells m, and what it gives is nobody's yet -/
def LF (p : Pm) (O : List Nat) (t : TE) (m : ME) : Prop :=
  ∀ F0 H0 F H σ Γ n (Q : D → Nat → Prop), Sep p F0 H0 O F H σ Γ n → m Γ n Q → ∀ Q' : VK,
    (∀ d a F' H' n', Sep p F0 H0 O F' H' σ Γ n' → Gp p F H F' H' → Own p.K F' H' d a → F' a = none → H a = none → Q d n' → Q' (.ref a) H') → t σ H Q'
structure RF (X : Cx) (p : Pm) (O : List Nat) (e : Expr) (t : TE) (m : ME) : Prop where
  pe : PE X e t
  le : LF p O t m
theorem Sep.h0 {F0 H0 F H : Hp} {σ : St} {Γ : DEnv} {n : Nat} (s : Sep p F0 H0 O F H σ Γ n) {a : Addr} (h : H a = none) : H0 a = none ∧ ¬ p.isPen a := by
  have hp : ¬ p.isPen a := fun ⟨b, i, e, hb⟩ => by
    rcases hb with rfl | ⟨y, hy, rfl⟩
    · obtain ⟨o, q⟩ := (s.pen a i e).2.2.1.at
      rw [h] at q; cases q
    · obtain ⟨_, ps, q, _⟩ := (s.pen b i e).2.2.2 y hy
      rw [h] at q; cases q
  refine ⟨?_, hp⟩
  cases q : H0 a with
  | none => rfl
  | some o =>
    have := s.stay a o q hp
    rw [h] at this; cases this
/-- a thing that is new since H is free -/
theorem Sep.isFree {F0 H0 F H F' H' : Hp} {σ : St} {Γ : DEnv} {n : Nat} (s : Sep p F0 H0 O F H σ Γ n) {d : D} {a : Addr} (h : H a = none) (w : Own p.K F' H' d a) (f : F' a = none) : Free p H0 O F' H' σ Γ d a :=
  ⟨w, f, (s.h0 h).1, (s.h0 h).2, fun j hj dj e q => by
    obtain ⟨b, e1, r, _⟩ := s.ow j hj dj e
    rw [q] at e1
    cases e1
    obtain ⟨o, e2⟩ := r.at
    rw [h] at e2; cases e2⟩
theorem LF.toLE {t : TE} {m : ME} (h : LF p O t m) : LE p O t m := fun F0 H0 F H σ Γ n Q s q Q' k =>
  h F0 H0 F H σ Γ n Q s q Q' fun d a F1 H1 n1 s1 g1 w f ha q1 => by
    have fr := s.isFree ha w f
    obtain ⟨F2, s2, e2, _, r, nw⟩ := s1.freeze0 fr
    refine k d _ F2 H1 n1 s2 ⟨g1.f.trans e2, g1.h, fun b o e => ?_⟩ r q1
    rcases nw b o e with z | z
    · exact g1.new b o z
    · subst z; exact .inr (.inl ha)
theorem RF.e {ex : Expr} {t : TE} {m : ME} (h : RF X p O ex t m) : RE X p O ex t m := ⟨h.pe, h.le.toLE⟩
/-- an object that nobody here knows is written -/
theorem Sep.poke {F0 H0 F H : Hp} {σ : St} {Γ : DEnv} {n : Nat} (s : Sep p F0 H0 O F H σ Γ n) {a : Addr} {o : HO} (f : F a = none) (h0 : H0 a = none) (hp : ¬ p.isPen a) (sl : ∀ j ∈ O, ∀ dj, Γ[j]? = some (some dj) → σ[j]? ≠ some (some (.ref a))) : Sep p F0 H0 O F (upd H a o) σ Γ n := by
  have ne : ∀ {b : Addr} {u : HO}, F b = some u → b ≠ a := fun e z => by rw [z, f] at e; cases e
  refine ⟨s.f0, fun b u e => by rw [upd_ne (ne e)]; exact s.fh _ _ e, fun b u e q => ?_, s.newF, fun b j e => ?_, s.len, s.sh, fun j hj d e => ?_, s.dj⟩
  · rw [upd_ne fun z => by rw [z, h0] at e; cases e]
    exact s.stay b u e q
  · obtain ⟨h1, h2, ⟨w, l, xs, z1, z2, z3⟩, zt⟩ := s.pen b j e
    refine ⟨h1, h2, ⟨w, l, xs, ?_, z2, z3⟩, zt.up (.refl _) (fun y hy => (zt y hy).1) fun y hy o h => by rw [upd_ne fun z => hp ⟨b, j, e, .inr ⟨y, hy, z⟩⟩]; exact h⟩
    rw [upd_ne fun z : b = a => hp ⟨b, j, e, .inl z.symm⟩]
    exact z1
  · obtain ⟨b, h1, r, z1, z2, z3⟩ := s.ow j hj d e
    have hb : b ≠ a := fun z => sl j hj d e (z ▸ h1)
    refine ⟨b, h1, ?_, z1, z2, z3⟩
    cases r with
    | lst q1 q2 => exact .lst (by rw [upd_ne hb]; exact q1) q2
    | dct q1 q2 q3 => exact .dct (by rw [upd_ne hb]; exact q1) q2 q3
theorem Gp.none {F H F' H' : Hp} {a : Addr} {o : HO} (g : Gp p F H F' H') (f : F a = none) (h : H a = some o) (hp : ¬ p.isPen a) : F' a = none := by
  cases w : F' a with
  | none => rfl
  | some u =>
    rcases g.new a u w with q | q | q
    · rw [f] at q; cases q
    · rw [h] at q; cases q
    · exact absurd q hp
theorem lf_lc (hi : LI p O wi mi) (hg : LG p O is g mg) (ht : LT p O tt mt) (he : LE p O te me) (his : ∀ i ∈ is, i ∈ vs) (hp : ∀ v ∈ vs, p.off v) : LF p O (tLc wi g tt te vs) (mLc mi mg mt me vs) := fun F0 H0 F H σ Γ n Q s q Q' k =>
  hi F0 H0 F H σ Γ n _ s q _ fun J ds F1 H1 n1 s1 g1 fd ⟨hl, q1⟩ => fun Dd hD => by
    have hD0 : H Dd = none := by
      cases w : H Dd with
      | none => rfl
      | some o => rw [g1.h Dd o w (s1.h0 hD).2] at hD; cases hD
    have hp0 := (s1.h0 hD).2
    have hH0 := (s1.h0 hD).1
    have hF1 : F1 Dd = none := s1.fh.free hD
    have sl1 : ∀ j ∈ O, ∀ dj, Γ[j]? = some (some dj) → σ[j]? ≠ some (some (.ref Dd)) := fun j hj dj e w => by
      obtain ⟨b, e1, r, _⟩ := s1.ow j hj dj e
      rw [w] at e1
      cases e1
      obtain ⟨o, e2⟩ := r.at
      rw [hD] at e2; cases e2
    refine ⟨fun i m H => m = ds.length - i ∧ i ≤ ds.length ∧ ∃ F n acc accV, Gp p F1 H1 F H ∧ Sep p F0 H0 O F H σ Γ n ∧ F Dd = none ∧ H Dd = some (.lst accV) ∧ Rps p.K F acc accV ∧ acc.length ≤ i ∧ compW mg mt me (wipeD Γ vs) (ds.drop i) n (fun r n' => Q (.list (acc ++ r)) n'),
      ⟨ds.length, by simp, Nat.zero_le _, F1, n1, [], [], (Gr.new0 s1.fh hD _).gp, s1.gr (Gr.new0 s1.fh hD _), hF1, upd_same, .nil, Nat.zero_le _, by simpa using q1⟩, ?_⟩
    rintro i m H2 ⟨rfl, hi', F2, n2, acc, accV, g2, s2, f2, hD2, ra, hla, c2⟩
    by_cases hlt : i < ds.length
    · obtain ⟨d, hd⟩ : ∃ d, ds[i]? = some d := ⟨ds[i], by simp [hlt]⟩
      obtain ⟨go, yl⟩ := fd.go i d F2 H2 hd g2.f s2.fh
      have hdr : ds.drop i = d :: ds.drop (i + 1) := by
        rw [List.drop_eq_getElem_cons hlt]
        congr 1
        simpa [hlt] using hd
      rw [hdr] at c2
      refine .inr ⟨go, fun H => ∃ F n acc accV, Gp p F1 H1 F H ∧ Sep p F0 H0 O F H σ Γ n ∧ F Dd = none ∧ H Dd = some (.lst accV) ∧ Rps p.K F acc accV ∧ acc.length ≤ i + 1 ∧ compW mg mt me (wipeD Γ vs) (ds.drop (i + 1)) n (fun r n' => Q (.list (acc ++ r)) n'),
        fun H' w => ⟨ds.length - (i + 1), by omega, rfl, hlt, w⟩, fun x H3 y => ?_⟩
      obtain ⟨F3, g3, r3⟩ := yl x H3 y
      have s3 := s2.gr g3
      refine hg F0 H0 F3 H3 _ _ n2 d x (s3.wipe hp) r3 _ _ c2 fun σ4 Γ4 s4 a4 q4 => ?_
      refine ⟨wipe_agree a4 his, ?_⟩
      refine ht F0 H0 F3 H3 σ4 Γ4 n2 _ s4 q4 _ fun b F5 H5 n5 s5 g5 q5 => ?_
      have hD3 : H3 Dd = some (.lst accV) := g3.h _ _ hD2
      have f3 : F3 Dd = none := g3.none f2 ⟨_, hD2⟩
      have hD5 : H5 Dd = some (.lst accV) := g5.h _ _ hD3 hp0
      have f5 : F5 Dd = none := g5.none f3 hD3 hp0
      have g25 : Gp p F2 H2 F5 H5 := g3.gp.trans g5
      cases b with
      | true =>
        rw [if_pos rfl] at q5 ⊢
        refine he F0 H0 F5 H5 σ4 Γ4 n5 _ s5 q5 _ fun y v F6 H6 n6 s6 g6 r6 q6 => ?_
        have hD6 : H6 Dd = some (.lst accV) := g6.h _ _ hD5 hp0
        have f6 : F6 Dd = none := g6.none f5 hD5 hp0
        have g26 : Gp p F2 H2 F6 H6 := g25.trans g6
        refine ⟨accV, hD6, ?_, F6, n6, acc ++ [y], accV ++ [v], ?_, ((s2.back s6 g26).poke f6 hH0 hp0 sl1), f6, upd_same, (ra.mono g26.f).append (.cons r6 .nil), by rw [List.length_append, List.length_singleton]; omega, ?_⟩
        · rw [ra.len]
          exact lim_lt (by omega)
        · have g16 := g2.trans g26
          refine ⟨g16.f, fun a o e hp => ?_, g16.new⟩
          rw [upd_ne fun z => by rw [z, hD] at e; cases e]
          exact g16.h a o e hp
        · simpa using q6
      | false =>
        rw [if_neg (by decide)] at q5 ⊢
        exact ⟨F5, n5, acc, accV, g2.trans g25, s2.back s5 g25, f5, hD5, ra.mono g25.f, by omega, q5⟩
    · have e : i = ds.length := by omega
      subst e
      rw [List.drop_length] at c2
      refine .inl ⟨fd.stop F2 H2 g2.f s2.fh, k (.list acc) Dd F2 H2 n2 s2 (g1.trans g2) (.lst hD2 ra) f2 hD0 ?_⟩
      have c3 : Q (.list (acc ++ [])) n2 := c2
      rwa [List.append_nil] at c3
theorem lt_yes : LT p O tYes mYes := fun F0 H0 F H σ Γ n Q s q Q' k => k true F H n s .refl q
theorem lf_lst {t : TA} {m : MA} (h : LA p O t m) : LF p O (tLst t) (mLst m) := fun F0 H0 F H σ Γ n Q s q Q' k =>
  h F0 H0 F H σ Γ n _ s q _ fun ds us F1 H1 n1 s1 g1 r1 ⟨l, q1⟩ => by
    refine ⟨by rw [r1.len]; exact lim_line l, fun x hx => ?_⟩
    have hx0 : H x = none := by
      cases w : H x with
      | none => rfl
      | some o => rw [g1.h x o w (s1.h0 hx).2] at hx; cases hx
    exact k _ _ F1 _ n1 (s1.gr (Gr.new0 s1.fh hx _)) (g1.trans (Gr.new0 s1.fh hx _).gp) (.lst upd_same r1) (s1.fh.free hx) hx0 q1
theorem f_lst {es : List Expr} {t : TA} {m : MA} (h : RA X p O es t m) : RF X p O (.List es pos) (tLst t) (mLst m) := ⟨pe_lst h.pa, lf_lst h.le⟩
@[reducible] def mDict0 : ME := fun _ n Q => Q (.dict []) n
theorem f_dict0 : RF X p O (.Dict [] [] pos) tDNewK mDict0 := ⟨pe_dnewK, fun F0 H0 F H σ Γ n Q s q Q' k x hx =>
  k _ _ F _ n (s.gr (Gr.new0 s.fh hx _)) (Gr.new0 s.fh hx _).gp (.dct upd_same rfl fun i x d a => by simp at a) (s.fh.free hx) hx q⟩
/-- x = a fresh thing, kept as one's own -/
theorem s_own {Ob : List Nat} {tg' e : Expr} {i : Nat} (he : RF X p O e te me) (hi : i ∉ O) (hp : p.off i) (h : PS X (.Assign [tg'] e pos) (tAsg te (gName i))) : RS X p Ob O (i :: O) (.Assign [tg'] e pos) (tAsg te (gName i)) (mSet i me) := ⟨h, fun F0 H0 F H σ Γ n E s q E' hn _ _ _ =>
  he.le F0 H0 F H σ Γ n _ s q _ fun d a F1 H1 n1 s1 g1 w f ha q1 => hn F1 H1 _ _ n1 (s1.putOwn hp (s.isFree ha w f)) g1.f q1⟩
/-- xs.append(e) -/
@[reducible] def mAppend (i : Nat) (me : ME) : MS := fun E Γ n => ∃ ds, Γ[i]? = some (some (.list ds)) ∧ me Γ n fun d n1 => ds.length < lim ∧ E.nx (Γ.set i (some (.list (ds ++ [d])))) n1
theorem s_append {Ob : List Nat} {e : Expr} {st : Stmt} {i : Nat} (he : RE X p O e te me) (hi : i ∈ O) (hK : p.K = X.K) (h : PS X st (tDrop (tBM X.K "list" rAppend (tVar i) (tCons te tNil)))) : RS X p Ob O O st (tDrop (tBM p.K "list" rAppend (tVar i) (tCons te tNil))) (mAppend i me) := ⟨hK ▸ h, fun F0 H0 F H σ Γ n E s ⟨ds, ei, q⟩ E' hn _ _ _ => by
  obtain ⟨a, e1, w, z1, z2, z3⟩ := s.ow i hi _ ei
  cases w with
  | lst w1 w2 =>
    rename_i xs
    refine ⟨.ref a, e1, .inl ⟨rfl, xs, .of w1⟩, ?_⟩
    refine he.le F0 H0 F H σ Γ n _ s q _ fun d v F1 H1 n1 s1 g1 r1 ⟨l, q1⟩ => ?_
    have w1' := g1.h _ _ w1 z3
    have f1 := g1.none z1 w1 z3
    refine ⟨a, xs, v, rfl, rfl, w1', by rw [w2.len]; exact lim_lt (by omega), ?_⟩
    refine hn F1 _ σ _ n1 ?_ g1.f q1
    -- the state behind the append
    have sg : ∀ {j : Nat} {dj : D}, (Γ.set i (some (.list (ds ++ [d]))))[j]? = some (some dj) → (j = i ∧ dj = .list (ds ++ [d])) ∨ (j ≠ i ∧ Γ[j]? = some (some dj)) := fun {j dj} e => by
      by_cases hj : i = j
      · subst hj
        rw [set_at, if_pos rfl] at e
        split at e
        · cases e; exact .inl ⟨rfl, rfl⟩
        · cases e
      · rw [List.getElem?_set_ne hj] at e
        exact .inr ⟨Ne.symm hj, e⟩
    have hu : ∀ {b : Addr} {u : HO}, F1 b = some u → b ≠ a := fun e z => by rw [z, f1] at e; cases e
    refine ⟨s1.f0, fun b u e => by rw [upd_ne (hu e)]; exact s1.fh _ _ e, fun b u e q => ?_, s1.newF, fun b j e => ?_, by simp [s1.len], fun j dj hj e => ?_, fun j hj dj e => ?_, fun j hj k hk hjk b dj dk h1 h2 h3 h4 => ?_⟩
    · rw [upd_ne fun z => by rw [z, z2] at e; cases e]
      exact s1.stay b u e q
    · obtain ⟨h1, h2, ⟨w, l, ys, y1, y2, y3⟩, zt⟩ := s1.pen b j e
      refine ⟨h1, h2, ⟨w, l, ys, ?_, y2, y3⟩, zt.up (.refl _) (fun y hy => (zt y hy).1) fun y hy o h => by rw [upd_ne fun z => z3 ⟨b, j, e, .inr ⟨y, hy, z⟩⟩]; exact h⟩
      rw [upd_ne fun z : b = a => z3 ⟨b, j, e, .inl z.symm⟩]
      exact y1
    · rcases sg e with ⟨rfl, _⟩ | ⟨_, e⟩
      · exact absurd hi hj
      · exact s1.sh j dj hj e
    · rcases sg e with ⟨rfl, rfl⟩ | ⟨hne, e⟩
      · exact ⟨a, e1, .lst upd_same ((w2.mono g1.f).append (.cons r1 .nil)), f1, z2, z3⟩
      · obtain ⟨b, h1, r, y1, y2, y3⟩ := s1.ow j hj dj e
        have hb : b ≠ a := fun z => s1.dj j hj i hi hne a dj _ e ei (z ▸ h1) e1
        refine ⟨b, h1, ?_, y1, y2, y3⟩
        cases r with
        | lst q1 q2 => exact .lst (by rw [upd_ne hb]; exact q1) q2
        | dct q1 q2 q3 => exact .dct (by rw [upd_ne hb]; exact q1) q2 q3
    · have gj : ∃ d', Γ[j]? = some (some d') := by
        rcases sg h1 with ⟨rfl, _⟩ | ⟨_, e⟩
        · exact ⟨_, ei⟩
        · exact ⟨_, e⟩
      have gk : ∃ d', Γ[k]? = some (some d') := by
        rcases sg h2 with ⟨rfl, _⟩ | ⟨_, e⟩
        · exact ⟨_, ei⟩
        · exact ⟨_, e⟩
      obtain ⟨d1, g1'⟩ := gj
      obtain ⟨d2, g2'⟩ := gk
      exact s1.dj j hj k hk hjk b d1 d2 g1' g2' h3 h4⟩
end
end RR
end
section
namespace RR
open PySem PySem.Spec L2
open PyProof.Rows hiding St
abbrev GB (k : Nat) (A : Around) : Prop := 100 ≤ k → A.guards = some []
theorem GB.le {j k : Nat} {A : Around} (g : GB k A) (h : j ≤ k) : GB j A := fun z => g (Nat.le_trans z h)
structure FnG (P : Program) (w : World) (K : PySem.W.Frag) (mg : Str → Option Value) (base : Heap) (k : Nat) (f : Addr) (fd : FuncData) (ps : List Str) (sp : Sp) : Prop where
  len : ∀ vs H Q E, sp vs H Q E → vs.length = ps.length
  run : ∀ (A : Around) (outer : List Env) (s : Shared) (H : Hp) (args : Args) (us : List Value) (vs : List V) (Q : VK) (E : XK), Room k A → GB k A →
    Env0 P w K mg base A outer s H → BindsTo s fd args (ps.zip us) → Vals vs us → sp vs H Q E → codeAny (model P w) A (.call (.ref f) args) (CR CX0 outer P w H s Q E) s
section
variable {P : Program} {w : World} {K : PySem.W.Frag} {mg : Str → Option Value} {base : Heap}
theorem FnG.mono {j k : Nat} {f : Addr} {fd : FuncData} {ps : List Str} {sp : Sp} (F : FnG P w K mg base j f fd ps sp) (h : j ≤ k) : FnG P w K mg base k f fd ps sp :=
  ⟨F.len, fun A o s H a us vs Q E hr g => F.run A o s H a us vs Q E (hr.mono h) (g.le h)⟩
theorem FnG.imp {k : Nat} {f : Addr} {fd : FuncData} {ps : List Str} {sp sp' : Sp} (F : FnG P w K mg base k f fd ps sp) (h : ∀ vs H Q E, sp' vs H Q E → sp vs H Q E) : FnG P w K mg base k f fd ps sp' :=
  ⟨fun vs H Q E q => F.len vs H Q E (h _ _ _ _ q), fun A o s H a us vs Q E r g e b v q => F.run A o s H a us vs Q E r g e b v (h _ _ _ _ q)⟩
abbrev bodyCx (P : Program) (w : World) (K : PySem.W.Frag) (mg : Str → Option Value) (base : Heap) (N : List Str) (qual : Str) (scope : Scope) (f : Addr) (cdv : Value) (A : Around) (outer : List Env) (s : Shared) (H : Hp) (E : XK) : Cx :=
  (cxOf CX0 P w K mg base N qual scope f cdv A outer s H E).nox
theorem FnG.mk' {x qual : Str} {st : Stmt} {f : Addr} {fd : FuncData} {N ps : List Str} {k : Nat} {sp : Sp} (F : Fun K x qual st f fd) (S : FnScope N ps (defScope st)) (len : ∀ vs H Q E, sp vs H Q E → vs.length = ps.length)
    (hbody : ∀ (cdv : Value) (A : Around) (outer : List Env) (s : Shared) (H : Hp) (vs : List V) (Q : VK) (E : XK), Room k (A.deeper (envOfC qual (defScope st) s.heap.objs.size f cdv)) → GB (k + 1) A → sp vs H Q E →
      ∃ t, PSs (bodyCx P w K mg base N qual (defScope st) f cdv A outer s H E) (defBody st) t ∧ t { nx := fun _ H' => Q .non H', rt := Q } (start N vs) H) : FnG P w K mg base (k + 1) f fd ps sp := by
  obtain ⟨oc, od, kV, doc, pm, an, cdv, ct, osl, rfl, lk, hcd⟩ := F.ex
  refine ⟨len, ?_⟩
  intro A outer s H args us vs Q E hr hg e0 hb r hsp
  have hl : vs.length = ps.length := len _ _ _ _ hsp
  have KX : K.In s.heap := e0.mod.kin.keeps fun b o z => (e0.bs b o z).1
  have lim := e0.mod.nolimit.keeps (h' := s.heap) fun b o z => (e0.bs b o z).1
  have kinds : ∀ y ∈ ps.zip us, (defScope st).names.lookup y.1 = some .local ∨ ((defScope st).names.lookup y.1 = some .cell ∧ ((cellsFrom (s.heap.objs.size + 1) (defScope st).names []).lookup y.1).isSome = true) := by
    rintro ⟨n, v⟩ hy
    exact (S.par n (List.of_mem_zip hy).1).imp id fun q => ⟨q, PySem.W.cellsFrom_some _ _ _ (.inl q)⟩
  refine codeAny_call_function hr.depth (KX _ _ lk) rfl S.co S.gen rfl (PySem.W.codeRec_of KX hcd) (hb _ _ _ _ (wpAny_newFunctionEnv_cells S.kind kinds ?_))
  intro env he s1 x1
  subst he
  refine ⟨lim.keeps x1.toInCall.keep, codeAny_func ?_⟩
  obtain ⟨t, ht, hq⟩ := hbody cdv A outer s H vs Q E (hr.deeper _) hg hsp
  have I := inv_start (CX := CX0) (P := P) (w := w) (K := K) (mg := mg) (E := E) S hr.hd e0 hl r x1
  refine wpAny_mono (ht.nox.run [] s1 (start N vs) H _ I hq) ?_ fun e s' z => z
  intro fl s' hs
  cases fl with
  | ret u =>
    obtain ⟨v, σ', H', J, rv, q⟩ := hs
    exact ⟨v, H', J.os, J.bare, J.base, J.hok, rv, q⟩
  | next =>
    obtain ⟨σ', H', J, q⟩ := hs
    exact ⟨V.non, H', J.os, J.bare, J.base, J.hok, rfl, q⟩
  | brk => exact hs.elim fun _ z => z.elim fun _ z => z.2.elim
  | cont => exact hs.elim fun _ z => z.elim fun _ z => z.2.elim
end
section
variable {X : Cx} {k : Nat} {f : Addr} {fd : FuncData} {ps : List Str} {sp : Sp}
theorem run_g {pins : List (Addr × Obj)} {σ : St} {H : Hp} {s : Shared} {Q : VK} {us : List Value} {vs : List V} (F : FnG X.prog X.w X.K X.mg X.base k f fd ps sp) (hr : Room k X.A) (hg : GB k X.A) (hb : Binds X.K fd ps []) (I : Inv X pins σ H s) (r : Vals vs us) (h : sp vs H Q E0) :
    wpAny (model X.prog X.w) X.A (call (.ref f) us) (EP X pins σ Q) X.xe s := by
  have hl : us.length = ps.length := r.length.symm.trans (F.len _ _ _ _ h)
  have b0 : BindsTo s fd ⟨us, []⟩ (ps.zip us) := by
    have z := hb s us I.kIn (by rw [List.append_nil]; exact hl)
    rwa [List.append_nil] at z
  refine wpAny_call (codeAny_mono (F.run X.A X.stack s H ⟨us, []⟩ us vs Q E0 hr hg I.env0 b0 r h) ?_)
  intro res s' hq
  match res, hq with
  | .ok (.ret u), hq => exact I.after hq
/-- f(e, ..) -/
theorem pe_callG {x : Str} {p pos : Pos} {e : Expr} {es : List Expr} {t : TA} (F : FnG X.prog X.w X.K X.mg X.base k f fd ps sp) (hr : Room k X.A) (hg : GB k X.A) (hgl : Gl X x) (hm : X.mg x = some (.ref f)) (hk : PySem.W.keepIn X.K (.ref f) = true) (hb : Binds X.K fd ps [])
    (ha : PA X (e :: es) t) (hdb : (x == ("__debug__" : Str)) = false := by decide) (he : starEach (e :: es) X.env = (false, eval e X.env) :: starEach es X.env := by rfl) (hpl : (backTo pos (starEach es X.env)).any (·.1) = false := by rfl) :
    PE X (.Call (.Name x p) (e :: es) [] pos) (tCall sp [] E0 t) := ⟨fun pins s σ H Q I h =>
  wpAny_Call_Name_kw (ld_glob I hgl hm (PySem.W.callWith_K (h₀ := X.base) I.ok.mod.kin hk (thn (ha.run pos pins s σ H _ I h) fun us s1 w => by
    obtain ⟨vs, H1, I1, r, q⟩ := w
    rw [List.append_nil] at q
    exact ⟨I1.kIn, run_g F hr hg hb I1 r q⟩) he hpl) hdb)⟩
end
abbrev MP := List D → (D → Prop) → Prop
/-- a def that leaves all as it is -/
def spF (K : PySem.W.Frag) (m : MP) : Sp := fun vs H Q _ => ∃ (F : Hp) (ds : List D) (R : D → Prop), Same F H ∧ Rps K F ds vs ∧ m ds R ∧ ∀ d v F' H', Gr F H F' H' → Rp K F' d v → R d → Q v H'
/-- a def that draws: its first argument is the drawing list -/
def spP (K : PySem.W.Frag) (m : MF) : Sp := fun vs H Q _ => ∃ (a dr : Addr) (ws : List V) (F : Hp) (ds : List D) (n : Nat) (R : D → Nat → Prop), vs = .ref a :: ws ∧ Same F H ∧ F a = none ∧ PenAt dr F H a n ∧ Rps K F ds ws ∧ m ds n R ∧
  ∀ d n' v F' H', Same F F' → Same F' H' → (∀ b o, H b = some o → b ≠ a → H' b = some o) → (∀ b o, F' b = some o → F b = some o ∨ H b = none) → F' a = none → PenAt dr F' H' a n' → Rp K F' d v → R d n' → Q v H'
def startD (N : List Str) (ds : List (Option D)) : DEnv := ds ++ List.replicate (N.length - ds.length) none
@[reducible] def mEnds (R : D → Nat → Prop) : EndsD := { nx := fun _ n => R .none n, rt := R }
/-- what a def's body means -/
@[reducible] def mFun (N : List Str) (np : Nat) (mb : MS) : MP := fun ds R => ds.length = np ∧ mb (mEnds fun d _ => R d) (startD N (ds.map some)) 0
@[reducible] def mFunP (N : List Str) (np : Nat) (mb : MS) : MF := fun ds n R => ds.length = np ∧ mb (mEnds R) (startD N (none :: ds.map some)) n
section
variable {P : Program} {w : World} {K : PySem.W.Frag} {mg : Str → Option Value} {base : Heap}
theorem start_get {N : List Str} {vs : List V} {i : Nat} (h : i < vs.length) : (start N vs)[i]? = some (some vs[i]) := by
  unfold L2.start
  rw [List.getElem?_append_left (by simpa using h), List.getElem?_map, List.getElem?_eq_getElem h]
  rfl
theorem startD_get {N : List Str} {ds : List (Option D)} {i : Nat} {d : D} (h : (startD N ds)[i]? = some (some d)) : ds[i]? = some (some d) := by
  unfold startD at h
  by_cases hi : i < ds.length
  · rwa [List.getElem?_append_left hi] at h
  · rw [List.getElem?_append_right (by omega), List.getElem?_replicate] at h
    split at h <;> cases h
theorem sep_start {N : List Str} {F H : Hp} {ds : List D} {vs : List V} {n : Nat} (s : Same F H) (r : Rps K F ds vs) (hl : vs.length ≤ N.length) : Sep ⟨K, none, 0⟩ F H [] F H (start N vs) (startD N (ds.map some)) n where
  f0 := .refl _
  fh := s
  stay := fun _ _ e _ => e
  newF := fun _ _ e => .inl e
  pen := fun _ _ e => nomatch e
  len := by simp [L2.start, startD, r.len]
  sh := fun i d _ e => by
    have e1 : ds[i]? = some d := by
      have := startD_get e
      rw [List.getElem?_map] at this
      cases q : ds[i]? with
      | none => rw [q] at this; cases this
      | some x => rw [q] at this; cases this; rfl
    obtain ⟨v, e2, rv⟩ := r.get e1
    have hi := (List.getElem?_eq_some_iff.mp e2).1
    refine ⟨v, ?_, rv⟩
    rw [start_get hi]
    rw [List.getElem?_eq_getElem hi] at e2
    cases e2
    rfl
  ow := fun i h => nomatch h
  dj := fun i h => nomatch h
theorem sep_startP {N : List Str} {F H : Hp} {a dr : Addr} {ds : List D} {vs : List V} {n : Nat} (s : Same F H) (fa : F a = none) (pa : PenAt dr F H a n) (r : Rps K F ds vs) (hl : vs.length + 1 ≤ N.length) : Sep ⟨K, some (a, 0), ⟨dr, []⟩⟩ F H [] F H (start N (.ref a :: vs)) (startD N (none :: ds.map some)) n where
  f0 := .refl _
  fh := s
  stay := fun _ _ e _ => e
  newF := fun _ _ e => .inl e
  pen := fun b j e => by
    cases e
    exact ⟨fa, rfl, pa, .nil⟩
  len := by simp [L2.start, startD, r.len]
  sh := fun i d _ e => by
    have e0 := startD_get e
    cases i with
    | zero => cases e0
    | succ i =>
      have e1 : ds[i]? = some d := by
        rw [List.getElem?_cons_succ, List.getElem?_map] at e0
        cases q : ds[i]? with
        | none => rw [q] at e0; cases e0
        | some x => rw [q] at e0; cases e0; rfl
      obtain ⟨v, e2, rv⟩ := r.get e1
      have hi := (List.getElem?_eq_some_iff.mp e2).1
      refine ⟨v, ?_, rv⟩
      rw [start_get (by simpa using hi)]
      rw [List.getElem?_eq_getElem hi] at e2
      cases e2
      rfl
  ow := fun i h => nomatch h
  dj := fun i h => nomatch h
/-- a def by its body's derivation -/
theorem FnG.pure {x qual : Str} {st : Stmt} {f : Addr} {fd : FuncData} {N ps : List Str} {k : Nat} {mb : MS} (F : Fun K x qual st f fd) (S : FnScope N ps (defScope st))
    (body : ∀ (cdv : Value) (A : Around) (outer : List Env) (s : Shared) (H : Hp) (E : XK), Room k (A.deeper (envOfC qual (defScope st) s.heap.objs.size f cdv)) → GB (k + 1) A →
      ∃ t O', RSs (bodyCx P w K mg base N qual (defScope st) f cdv A outer s H E) ⟨K, none, 0⟩ [] [] O' (defBody st) t mb) : FnG P w K mg base (k + 1) f fd ps (spF K (mFun N ps.length mb)) := by
  refine FnG.mk' F S (fun vs H Q E ⟨Fz, ds, R, s, r, ⟨hl, _⟩, _⟩ => r.len.trans hl) fun cdv A outer s H vs Q E hr hg ⟨Fz, ds, R, sm, r, ⟨hl, q⟩, fin⟩ => ?_
  obtain ⟨t, O', B⟩ := body cdv A outer s H E hr hg
  have hN : vs.length ≤ N.length := by
    rw [r.len, hl]
    have := congrArg List.length S.pre
    rw [List.length_take] at this
    omega
  refine ⟨t, B.ps, B.le Fz H Fz H _ _ 0 _ (sep_start sm r hN) q _ (fun F' H' σ' Γ' n' s' _ q' => ?_) (fun d v F' H' n' s' r' q' => ?_) (fun _ _ _ _ _ _ _ z => z.elim) (fun _ _ _ _ _ _ _ z => z.elim)⟩
  · exact fin .none .non F' H' ⟨s'.f0, s'.fh, fun a o e => s'.stay a o e (fun ⟨_, _, z, _⟩ => nomatch z), s'.newF⟩ .non q'
  · exact fin d v F' H' ⟨s'.f0, s'.fh, fun a o e => s'.stay a o e (fun ⟨_, _, z, _⟩ => nomatch z), s'.newF⟩ r' q'
theorem FnG.pen {x qual : Str} {st : Stmt} {f : Addr} {fd : FuncData} {N ps : List Str} {x0 : Str} {k : Nat} {mb : MS} (F : Fun K x qual st f fd) (S : FnScope N (x0 :: ps) (defScope st))
    (body : ∀ (a dr : Addr) (cdv : Value) (A : Around) (outer : List Env) (s : Shared) (H : Hp) (E : XK), Room k (A.deeper (envOfC qual (defScope st) s.heap.objs.size f cdv)) → GB (k + 1) A →
      ∃ t O', RSs (bodyCx P w K mg base N qual (defScope st) f cdv A outer s H E) ⟨K, some (a, 0), ⟨dr, []⟩⟩ [] [] O' (defBody st) t mb) : FnG P w K mg base (k + 1) f fd (x0 :: ps) (spP K (mFunP N ps.length mb)) := by
  refine FnG.mk' F S (fun vs H Q E h => ?_) fun cdv A outer s H vs Q E hr hg h => ?_
  · obtain ⟨a, dr, ws, Fz, ds, n, R, rfl, sm, fa, pa, r, ⟨hl, _⟩, _⟩ := h
    rw [List.length_cons, List.length_cons, r.len, hl]
  · obtain ⟨a, dr, ws, Fz, ds, n, R, rfl, sm, fa, pa, r, ⟨hl, q⟩, fin⟩ := h
    obtain ⟨t, O', B⟩ := body a dr cdv A outer s H E hr hg
    have hN : ws.length + 1 ≤ N.length := by
      rw [r.len, hl]
      have := congrArg List.length S.pre
      rw [List.length_take, List.length_cons] at this
      omega
    have isP : ∀ b, (Pm.mk K (some (a, 0)) ⟨dr, []⟩).isPen b → b = a := fun b ⟨c, j, e, hb⟩ => by
      cases e
      rcases hb with h | ⟨y, hy, _⟩
      · exact h
      · cases hy
    have fin' : ∀ {d : D} {v : V} {F' H' : Hp} {n' : Nat}, Fin0 ⟨K, some (a, 0), ⟨dr, []⟩⟩ Fz H F' H' n' → Rp K F' d v → R d n' → Q v H' := fun {d v F' H' n'} s' r' q' =>
      fin d n' v F' H' s'.f0 s'.fh (fun b o e hb => s'.stay b o e fun z => hb (isP b z)) s'.newF (s'.pen a 0 rfl).1 (s'.pen a 0 rfl).2.1 r' q'
    refine ⟨t, B.ps, B.le Fz H Fz H _ _ n _ (sep_startP sm fa pa r hN) q _ (fun F' H' σ' Γ' n' s' _ q' => fin' s'.fin .non q') (fun d v F' H' n' s' r' q' => fin' s' r' q') (fun _ _ _ _ _ _ _ z => z.elim) (fun _ _ _ _ _ _ _ z => z.elim)⟩
end
@[reducible] def mCall (mf : MP) (ma : MA) : ME := fun Γ n Q => ma Γ n fun ds n1 => mf ds fun d => Q d n1
@[reducible] def mCallP (mf : MF) (ma : MA) : ME := fun Γ n Q => ma Γ n fun ds n1 => mf ds n1 Q
section
variable {X : Cx} {p : Pm} {O : List Nat} {k : Nat} {f : Addr} {fd : FuncData} {ps : List Str} {x : Str} {q pos : Pos} {e : Expr} {es : List Expr} {t : TA} {ma : MA}
theorem le_call {mf : MP} (h : LA p O t ma) : LE p O (tCall (spF p.K mf) [] E0 t) (mCall mf ma) := fun F0 H0 F H σ Γ n Q s q Q' k =>
  h F0 H0 F H σ Γ n _ s q _ fun ds vs F1 H1 n1 s1 g1 r1 q1 =>
    ⟨F1, ds, _, s1.fh, by rw [List.append_nil]; exact r1, q1, fun d v F2 H2 g2 r2 q2 => k d v F2 H2 n1 (s1.gr g2) (g1.trans g2.gp) r2 q2⟩
/-- the drawing list's state anew -/
theorem Sep.drew {F0 H0 F H F' H' : Hp} {σ : St} {Γ : DEnv} {n n' : Nat} {a : Addr} {i : Nat} (s : Sep p F0 H0 O F H σ Γ n) (hp : p.ap = some (a, i)) (ff : Same F F') (fh : Same F' H') (st : ∀ b o, H b = some o → b ≠ a → H' b = some o) (nw : ∀ b o, F' b = some o → F b = some o ∨ H b = none) (fa : F' a = none) (pa : PenAt p.dr.ad F' H' a n') :
    Sep p F0 H0 O F' H' σ Γ n' ∧ Gp p F H F' H' := by
  have g : Gp p F H F' H' := ⟨ff, fun b o e hb => st b o e fun z => hb ⟨a, i, hp, .inl z⟩, fun b o e => (nw b o e).imp id .inl⟩
  have zt := (s.pen a i hp).2.2.2
  have tabs : TabF p.dr.tb F' H' := zt.up ff (fun y hy => by
    obtain ⟨h1, ps, h2, _⟩ := zt y hy
    cases q : F' y.1 with
    | none => rfl
    | some o =>
      rcases nw _ _ q with z | z
      · rw [h1] at z; cases z
      · rw [h2] at z; cases z) fun y hy o h => st _ _ h fun z => by
    obtain ⟨h1, ps, h2, _⟩ := zt y hy
    obtain ⟨_, _, _, e1, _⟩ := (s.pen a i hp).2.2.1
    rw [z, e1] at h2
    cases h2
  refine ⟨⟨s.f0.trans ff, fh, fun b o e hb => g.h b o (s.stay b o e hb) hb, fun b o e => ?_, fun b j e => ?_, s.len, fun j d hj e => ?_, fun j hj d e => ?_, s.dj⟩, g⟩
  · rcases nw b o e with z | z
    · exact s.newF b o z
    · exact .inr (s.h0 z).1
  · rw [hp] at e
    cases e
    exact ⟨fa, (s.pen a i hp).2.1, pa, tabs⟩
  · obtain ⟨v, h1, r⟩ := s.sh j d hj e
    exact ⟨v, h1, r.mono ff⟩
  · obtain ⟨b, h1, r, z1, z2, z3⟩ := s.ow j hj d e
    obtain ⟨o, ho⟩ := r.at
    refine ⟨b, h1, ?_, g.none z1 ho z3, z2, z3⟩
    cases r with
    | lst q1 q2 => exact .lst (g.h _ _ q1 z3) (q2.mono ff)
    | dct q1 q2 q3 => exact .dct (g.h _ _ q1 z3) q2 fun i x d a b => (q3 i x d a b).mono ff
/-- f(pen, e, ..): the drawing list stands in slot i -/
theorem le_callP {mf : MF} {a : Addr} {i : Nat} (hp : p.ap = some (a, i)) (h : LA p O t ma) : LE p O (tCall (spP p.K mf) [] E0 (tCons (tVar i) t)) (mCallP mf ma) := fun F0 H0 F H σ Γ n Q s q Q' k => by
  refine ⟨.ref a, (s.pen a i hp).2.1, ?_⟩
  refine h F0 H0 F H σ Γ n _ s q _ fun ds vs F1 H1 n1 s1 g1 r1 q1 => ?_
  obtain ⟨h1, _, h3, _⟩ := s1.pen a i hp
  refine ⟨a, p.dr.ad, vs, F1, ds, n1, _, by rw [List.append_nil], s1.fh, h1, h3, r1, q1, fun d n2 v F2 H2 e1 e2 e3 e4 e5 e6 e7 e8 => ?_⟩
  obtain ⟨s2, g2⟩ := s1.drew hp e1 e2 e3 e4 e5 e6
  exact k d v F2 H2 n2 s2 (g1.trans g2) e7 e8
end
end RR
end
section
namespace RR
open PySem PySem.Spec L2
open PyProof.Rows hiding St
/-- the tuple at a, each item in a new pair with its place -/
def ItE (K : PySem.W.Frag) (a : Addr) : It :=
  ⟨fun j H => ∃ (zs : List V) (z : V), SqT K H a zs ∧ zs[j]? = some z, fun j H r H' => ∃ T z, r = .ref T ∧ H T = none ∧ H' = upd H T (.tup [.int (j : Nat), z]) ∧ ∀ zs, SqT K H a zs → zs[j]? = some z, fun j H => ∃ zs : List V, SqT K H a zs ∧ zs.length ≤ j⟩
theorem isTuple_of {h : Heap} {a : Addr} {its : Array Value} (p : IsTup h a its) : h.IsTuple a its := p
theorem turn_etup {P : Program} {w : World} {K : PySem.W.Frag} {els : List Expr} {kk : Nat} {tp : Pos} (a e it : Addr) (hea : e ≠ a) (hai : a ≠ it) :
    Turn P w K (.Tuple els kk tp) (ItE K a) [e, it] e (fun j h => (∃ old, IsEnum h e it ((j : Nat) : Int) old) ∧ h.IsTupleIter it a j ∧ e ≠ it) where
  mem := List.mem_cons_self ..
  obj := by
    rintro j h ⟨⟨old, he⟩, ⟨o, ho, hcl, hda⟩, _⟩ b hb
    rcases List.mem_cons.mp hb with rfl | hb
    · exact ⟨_, he, fun v z => nomatch z⟩
    · obtain rfl : b = it := by simpa using hb
      exact ⟨o, ho, fun v z => by rw [hda] at z; cases z⟩
  keep := by
    rintro j h h' ⟨⟨old, he⟩, hi, hne⟩ kp
    exact ⟨⟨old, kp e (by simp) _ he⟩, hi.at fun o z => kp it (by simp) o z, hne⟩
  item := by
    intro X hP hw hK hc j pins s σ H E I hf st hg
    subst hP hw hK
    obtain ⟨⟨old, he⟩, hit, hne⟩ := st
    obtain ⟨zs, z, hq, hz⟩ := hg
    obtain ⟨its, rv, pt, _⟩ := I.tuple hq
    obtain ⟨u, hu, ru⟩ := rv.get hz
    have le : e < s.heap.objs.size := Heap.lt_size he
    have li : it < s.heap.objs.size := by
      obtain ⟨_, q, _⟩ := hit
      exact Heap.lt_size q
    have hj : j < its.toArray.size := by
      have := (List.getElem?_eq_some_iff.mp hu).1
      simpa using this
    have Dr := Draws.tuple (prog := X.prog) (w := X.w) (A := X.A.in1) (I.ok.hd hc) it a hai its.toArray
    refine wpAny_pyNext_enum_itemD Dr he ⟨hit, isTuple_of pt⟩ hj hne (by simp [hne, hea]) fun y h' tk hy ho hst hT hsz hk => ?_
    obtain rfl : u = y := by
      have h1 : its.toArray[j]? = some y := hy
      have h2 : its.toArray[j]? = some u := by simpa using hu
      exact Option.some.inj (h2.symm.trans h1)
    refine ⟨_, rfl, wpAny_letOwnedTupleGo_enum (s := { s with heap := h', toks := tk + 1 }) ho fun h2 he2 sb => ?_⟩
    have hT2 : h2.get? s.heap.objs.size = some { cls := .type "tuple", data := .seq #[.int j tk, u] } := (sb.2 _ (Nat.ne_of_gt le)).trans hT
    have nw : ObjOk X.prog X.w (upd H s.heap.objs.size (.tup [.int (j : Nat), z])) h2 s.heap.objs.size (.tup [.int (j : Nat), z]) :=
      ⟨by show 2 ≤ sizeLine; decide, [.int j tk, u], .cons ⟨_, rfl⟩ (.cons ru .nil), _, hT2, rfl, _, rfl⟩
    have J : Inv X pins σ (upd H s.heap.objs.size (.tup [.int (j : Nat), z])) { s with heap := h2, toks := tk + 1 } :=
      I.turnedNew (ch := [e, it]) (fun b ob hb q => (sb.2 b fun w => hb (by simp [w])).trans (hk b ob (fun w => hb (by simp [w])) (fun w => hb (by simp [w])) q)) hf (Nat.le_refl _) nw
    refine ⟨.ref s.heap.objs.size, _, J, rfl, ⟨_, z, rfl, I.hok.fresh (Nat.le_refl _), rfl, fun ys hy => by rw [I.tuple_inj hy hq]; exact hz⟩, ⟨⟨u, ?_⟩, hst.1.at fun o q => (sb.2 it (Ne.symm hne)).trans q, hne⟩, fun b hb => ?_⟩
    · rw [show ((j + 1 : Nat) : Int) = (j : Int) + 1 by omega]
      exact he2
    · have lb : b < s.heap.objs.size := by
        rcases List.mem_cons.mp hb with q | q
        · rw [q]; exact le
        · obtain rfl : b = it := by simpa using q
          exact li
      rw [upd_ne (Nat.ne_of_lt lb)]
      exact (hf b hb).1
  done := by
    intro X hP hw hK hc j pins s σ H E I hf st hg
    subst hP hw hK
    obtain ⟨⟨old, he⟩, hit, hne⟩ := st
    obtain ⟨zs, hq, hz⟩ := hg
    obtain ⟨its, rv, pt, _⟩ := I.tuple hq
    obtain ⟨f0, f1, f2, f3, f4, f5⟩ := hf it (by simp)
    have hl := rv.length
    have Dr := Draws.tuple (prog := X.prog) (w := X.w) (A := X.A.in1) (I.ok.hd hc) it a hai its.toArray
    -- the iterator stands at or behind the end: at the end as it draws
    unfold pyNext
    have hT : s.TypeIs (.ref e) "enumerate" := ⟨_, he, rfl⟩
    refine wpAny_bind (wpAny_attempt (wpAny_callSpecial?_slot (name := Str.ofString "__next__") hT PySem.F.slot_enumerate_next
      (wpAny_call_entry PySem.F.slot_enumerate_next hT PySem.F.entry_enumerate_next ?_ (PySem.F.args_enumerate_next_1 _))))
    show wpAny _ _ (field (.ref e) 2 >>= _) _ _ _
    refine wpAny_bind (wpAny_field he rfl (x := .ref it) rfl ?_)
    refine wpAny_bind (wpAny_nextOf_tuple_end (A := X.A.in1) (I.ok.hd hc) hit (isTuple_of pt) (by simp; omega) fun h' x he' hx' => ?_)
    obtain ⟨o, ho, hcl⟩ := hx'
    refine wpAny_bind (wpAny_isInstance (T := "StopIteration") (b := true) ⟨o, ho, hcl⟩ isSubtype_stop ?_)
    exact wpAny_pure ⟨rfl, I.turned (t' := s.toks) (fun b o hb q => he' b o hb q) f0 f1 f3 f4 f5⟩
  self := fun A j s Q E st h => let ⟨⟨_, he⟩, _⟩ := st; wpAny_pyIter_enum he h
theorem meets_enum1 {v : Value} {o : Obj} {H : Heap → Prop} (B : Begins v o H) :
    Meets (Builtin.«enumerate.__new__» ⟨[.type "enumerate", v], []⟩) (fun _ R s => H s.heap ∧
      R (.ok (.ret (.ref (s.heap.push o).objs.size))) { s with heap := (s.heap.push o).push { cls := .type "enumerate", data := .fields #[.none, .bool false, .ref s.heap.objs.size, rawInt 0, .none, .none] } }) :=
  .of_wp fun prog w A R s h => by
    obtain ⟨hp, g, d, tk, os⟩ := s
    obtain ⟨h1, h⟩ := h
    have sube := sub_enumerate
    have it1 : ∀ {A' : Around} {E : Value → Shared → Prop} {Q : Value → Shared → Prop}, Q (.ref hp.objs.size) ⟨hp.push o, g, d, tk, os⟩ → wpAny (model prog w) A' (pyIter v) Q E ⟨hp, g, d, tk, os⟩ :=
      fun z => B.iter prog w _ _ ⟨hp, g, d, tk, os⟩ _ h1 z
    wp_walk using it1
    refine wpAny_stack_any fun st => wpAny_pure ?_
    split
    · rename_i c _ _ _ _ _
      cases (c == Value.type "enumerate") <;> (wp_walk using it1; exact ⟨_, rfl, h⟩)
    · wp_walk using it1
      exact ⟨_, rfl, h⟩
theorem call_enum1 {prog : Program} {w : World} {A : Around} {E : Value → Shared → Prop} {s : Shared} {v : Value} {o : Obj} {H : Heap → Prop} {Q : Value → Shared → Prop} (B : Begins v o H) (h1 : H s.heap)
    (h : ∀ h', IsEnum h' (s.heap.objs.size + 1) s.heap.objs.size 0 .none → h'.get? s.heap.objs.size = some o → h'.objs.size = s.heap.objs.size + 2 → (∀ b o, s.heap.get? b = some o → h'.get? b = some o) → Q (.ref (s.heap.objs.size + 1)) { s with heap := h' }) :
    wpAny (model prog w) A (call (.type "enumerate") [v]) Q E s := by
  refine callType_new PySem.F.called_enumerate (by decide) (PySem.F.typeCall_enumerate_1 _) (PySem.F.newCall_enumerate_1 _) (fun obj => PySem.F.args_object_init_2 obj _) PySem.F.entry_enumerate_new (meets_enum1 B) ⟨h1, ?_⟩
  have hz : (s.heap.push o).objs.size = s.heap.objs.size + 1 := Heap.size_push ..
  show _ ∧ _
  rw [hz]
  have he : IsEnum ((s.heap.push o).push { cls := .type "enumerate", data := .fields #[.none, .bool false, .ref s.heap.objs.size, rawInt 0, .none, .none] }) (s.heap.objs.size + 1) s.heap.objs.size 0 .none := by
    have z := Heap.get?_push_size (s.heap.push o) (o := { cls := .type "enumerate", data := .fields #[.none, .bool false, .ref s.heap.objs.size, rawInt 0, .none, .none] }) rfl
    rw [hz] at z
    exact z
  exact ⟨⟨_, he, rfl⟩, h _ he (Heap.get?_push_of_some _ (Heap.get?_push_size _ B.free)) (by rw [Heap.size_push, hz]) fun b o x => Heap.get?_push_of_some _ (Heap.get?_push_of_some _ x)⟩
/-- enumerate of a list or a tuple -/
def iEnumA (K : PySem.W.Frag) (ta : TA) : TI := fun σ H R => ta σ H fun vs H1 => ∃ a xs, vs = [.ref a] ∧ ((SqL K H1 a xs ∧ R (Ite K a) H1) ∨ (SqT K H1 a xs ∧ R (ItE K a) H1))
theorem pi_enumA {X : Cx} {e : Expr} {ta : TA} {p pos tpos : Pos} {elts : List Expr} {kk : Nat} (hg : Gl X "enumerate") (hm : X.mg "enumerate" = none) (ha : PA X [e] ta) (hs : starEach [e] X.env = [(false, eval e X.env)] := by rfl) :
    PI X (.Tuple elts kk tpos) (.Call (.Name "enumerate" p) [e] [] pos) (iEnumA X.K ta) := ⟨fun pins s σ H R I h => by
  refine Call_ (ld_blt I hg hm boot_enumerate (callWith_type1 (thn (ha.run pos pins s σ H _ I h) fun us s1 w => ?_) hs rfl))
  obtain ⟨vs, H1, I1, r1, a, xs, ex, q⟩ := w
  subst ex
  obtain ⟨u, rfl, ru⟩ := r1.one
  cases ru
  have tail : ∀ (h' : Heap) (J : It), (∀ b o, s1.heap.get? b = some o → h'.get? b = some o) → ∀ tn, Turn X.prog X.w X.K (.Tuple elts kk tpos) J [s1.heap.objs.size + 1, s1.heap.objs.size] (s1.heap.objs.size + 1) tn → tn 0 h' → R J H1 →
      PIE X pins σ (.Tuple elts kk tpos) R (.ref (s1.heap.objs.size + 1)) { s1 with heap := h' } := fun h' J hk tn T t0 q => by
    refine ⟨s1.heap.objs.size + 1, _, tn, J, H1, rfl, I1.kept (t' := s1.toks) hk, T, t0, fun b hb => ?_, q⟩
    have hle : s1.heap.objs.size ≤ b := by
      rcases List.mem_cons.mp hb with z | z
      · rw [z]; exact Nat.le_succ _
      · rw [show b = s1.heap.objs.size by simpa using z]; exact Nat.le_refl _
    exact I1.fpOk hle (I1.hok.fresh hle)
  rcases q with ⟨hq, q⟩ | ⟨hq, q⟩
  · obtain ⟨its, rv, pl, _⟩ := I1.list hq
    exact call_enumerate_list pl.isList fun h' he hit hsz hk => wpAny_pyIter_enum he (tail h' _ hk _ (turn_enum a _ _) ⟨⟨.none, he⟩, hit, Nat.succ_ne_self _⟩ q)
  · obtain ⟨its, rv, pt, _⟩ := I1.tuple hq
    have la : a < s1.heap.objs.size := by
      obtain ⟨o, ho, _⟩ := pt
      exact Heap.lt_size ho
    refine call_enum1 (begins_tuple a its.toArray) (isTuple_of pt) fun h' he hit hsz hk => wpAny_pyIter_enum he (tail h' _ hk _ (turn_etup a _ _ (Nat.ne_of_gt (Nat.lt_succ_of_lt la)) (Nat.ne_of_lt la)) ⟨⟨.none, he⟩, ⟨_, hit, rfl, rfl⟩, Nat.succ_ne_self _⟩ q)⟩
section
variable {X : Cx} {K : PySem.W.Frag} {p : Pm} {O : List Nat} {tg e : Expr} {te : TE} {me : ME} {ta : TA} {ma : MA} {pos : Pos}
theorem feeds_enumT {F : Hp} {a : Addr} {xs : List V} {ds : List D} (h : SqT K F a xs) (r : Rps K F ds xs) : Feeds K (ItE K a) (enumD 0 ds) F where
  stop := fun F' H' e e' => ⟨xs, Same.sqt e' (Same.sqt e h), by rw [enumD_len]; exact Nat.le_of_eq r.len⟩
  go := fun i d F' H' hd e e' => by
    have hq : SqT K H' a xs := Same.sqt e' (Same.sqt e h)
    obtain ⟨y, hy, rfl⟩ := enumD_get hd
    obtain ⟨v, e1, r1⟩ := r.get hy
    refine ⟨⟨xs, v, hq, e1⟩, fun x H2 ⟨T, w, h1, h2, h3, h4⟩ => ?_⟩
    have := h4 xs hq
    rw [e1] at this
    cases this
    subst h1 h3
    exact ⟨_, .new1 e' h2 _, Rp.pair h2 e' (by rw [Int.zero_add]; exact .int _) (r1.mono e)⟩
/-- the items of a list or a tuple -/
def seqD : D → Option (List D)
  | .list xs => some xs
  | .tuple xs => some xs
  | _ => none
@[reducible] def mIEn (ma : MA) : MI := fun Γ n Q => ma Γ n fun ds n1 => ∃ d xs, ds = [d] ∧ seqD d = some xs ∧ Q (enumD 0 xs) n1
theorem i_enum {q : Pos} (hK : p.K = X.K) (ha : RA X p O [e] ta ma) (h : PI X tg (.Call (.Name "enumerate" q) [e] [] pos) (iEnumA X.K ta)) : RI X p O tg (.Call (.Name "enumerate" q) [e] [] pos) (iEnumA p.K ta) (mIEn ma) := ⟨hK ▸ h, fun F0 H0 F H σ Γ n R s q R' k =>
  ha.le F0 H0 F H σ Γ n _ s q _ fun ds vs F1 H1 n1 s1 e1 r1 ⟨d, xs, ed, sd, q1⟩ => by
    subst ed
    obtain ⟨v, w, rfl, r2, r3⟩ := r1.uncons
    cases r3.unnil
    unfold seqD at sd
    split at sd
    · cases sd
      obtain ⟨a, ys, rfl, h, r⟩ := r2.lst_inv
      exact ⟨a, ys, rfl, .inl ⟨.of (s1.fh _ _ h), k _ _ F1 H1 n1 s1 e1 (feeds_enum h r) q1⟩⟩
    · cases sd
      obtain ⟨a, ys, rfl, h, r⟩ := r2.tup_inv
      exact ⟨a, ys, rfl, .inr ⟨Same.sqt s1.fh h, k _ _ F1 H1 n1 s1 e1 (feeds_enumT h r) q1⟩⟩
    · cases sd⟩
/-- a list or a tuple, walked -/
def iSeq (K : PySem.W.Frag) (tl : TE) : TI := fun σ H R => tl σ H fun x H1 => ∃ a, x = .ref a ∧ (((∃ xs, SqL K H1 a xs) ∧ R (Itl K a) H1) ∨ ((∃ xs, SqT K H1 a xs) ∧ R (Itt K a) H1))
theorem pi_seq {l : Expr} {tl : TE} (hl : PE X l tl) : PI X tg l (iSeq X.K tl) := ⟨fun pins s σ H R I h => thn (hl.run pins s σ H _ I h) fun v s1 w => by
  obtain ⟨x, H1, I1, r1, a, rfl, q⟩ := w
  cases r1
  have fin : ∀ b ∈ [s1.heap.objs.size], FpOk X pins H1 b := fun b hb => by
    obtain rfl : b = s1.heap.objs.size := by simpa using hb
    exact I1.fpOk (Nat.le_refl _) (I1.hok.fresh (Nat.le_refl _))
  rcases q with ⟨⟨xs, hq⟩, q⟩ | ⟨⟨xs, hq⟩, q⟩
  · obtain ⟨its, rv, pl, _⟩ := I1.list hq
    exact wpAny_pyIter_list pl.isList ⟨_, _, _, _, H1, rfl, I1.kept (t' := s1.toks) fun b o z => Heap.get?_push_of_some _ z, turn_list a _, ⟨_, Heap.get?_push_size _ rfl, rfl, rfl⟩, fin, q⟩
  · obtain ⟨its, rv, pt, _⟩ := I1.tuple hq
    exact wpAny_pyIter_tuple (isTuple_of pt) ⟨_, _, _, _, H1, rfl, I1.kept (t' := s1.toks) fun b o z => Heap.get?_push_of_some _ z, turn_tuple a _, ⟨_, Heap.get?_push_size _ rfl, rfl, rfl⟩, fin, q⟩⟩
@[reducible] def mISeq (me : ME) : MI := fun Γ n Q => me Γ n fun d n1 => ∃ xs, seqD d = some xs ∧ Q xs n1
theorem i_seq (hK : p.K = X.K) (he : RE X p O e te me) : RI X p O tg e (iSeq p.K te) (mISeq me) := ⟨hK ▸ pi_seq he.pe, fun F0 H0 F H σ Γ n R s q R' k =>
  he.le F0 H0 F H σ Γ n _ s q _ fun d v F1 H1 n1 s1 e1 r1 ⟨ds, sd, q1⟩ => by
    unfold seqD at sd
    split at sd
    · cases sd
      obtain ⟨a, xs, rfl, h, r⟩ := r1.lst_inv
      exact ⟨a, rfl, .inl ⟨⟨xs, .of (s1.fh _ _ h)⟩, k _ _ F1 H1 n1 s1 e1 (feeds_list h r) q1⟩⟩
    · cases sd
      obtain ⟨a, xs, rfl, h, r⟩ := r1.tup_inv
      exact ⟨a, rfl, .inr ⟨⟨xs, Same.sqt s1.fh h⟩, k _ _ F1 H1 n1 s1 e1 (feeds_tup h r) q1⟩⟩
    · cases sd⟩
end
end RR
end
section
namespace RR
open PySem PySem.Spec L2
open PyProof.Rows hiding St
inductive Mx (p : Pm) (H F' H' : Hp) : List Bool → List D → List V → List Addr → Prop
  | nil : Mx p H F' H' [] [] [] []
  | sh {fl ds vs as d v} : Rp p.K F' d v → Mx p H F' H' fl ds vs as → Mx p H F' H' (false :: fl) (d :: ds) (v :: vs) as
  | ow {fl ds vs as d a} : Own p.K F' H' d a → F' a = none → H a = none → a ∉ as → Mx p H F' H' fl ds vs as → Mx p H F' H' (true :: fl) (d :: ds) (.ref a :: vs) (a :: as)
def LX (p : Pm) (O : List Nat) (fl : List Bool) (t : TA) (m : MA) : Prop :=
  ∀ F0 H0 F H σ Γ n (Q : List D → Nat → Prop), Sep p F0 H0 O F H σ Γ n → m Γ n Q → ∀ Q' : List V → Hp → Prop,
    (∀ ds vs as F' H' n', Sep p F0 H0 O F' H' σ Γ n' → Gp p F H F' H' → Mx p H F' H' fl ds vs as → Q ds n' → Q' vs H') → t σ H Q'
structure RX (X : Cx) (p : Pm) (O : List Nat) (fl : List Bool) (es : List Expr) (t : TA) (m : MA) : Prop where
  pa : PA X es t
  le : LX p O fl t m
section
variable {X : Cx} {p : Pm} {O : List Nat} {fl : List Bool} {e : Expr} {es : List Expr} {te : TE} {me : ME} {t : TA} {m : MA} {F0 H0 F H F' H' : Hp} {σ : St} {Γ : DEnv} {n : Nat}
theorem Mx.since {H1 F' H' : Hp} {ds : List D} {vs : List V} {as : List Addr} (h : Mx p H1 F' H' fl ds vs as) (k : ∀ a, H1 a = none → H a = none) : Mx p H F' H' fl ds vs as := by
  induction h with
  | nil => exact .nil
  | sh r _ ih => exact .sh r ih
  | ow w f z q _ ih => exact .ow w f (k _ z) q ih
theorem Mx.news {ds : List D} {vs : List V} {as : List Addr} (h : Mx p H F' H' fl ds vs as) : ∀ a ∈ as, H a = none := by
  induction h with
  | nil => intro a h; cases h
  | sh _ _ ih => exact ih
  | ow w f z q _ ih =>
    intro b hb
    rcases List.mem_cons.mp hb with rfl | hb
    · exact z
    · exact ih b hb
theorem Sep.since (s : Sep p F0 H0 O F H σ Γ n) (s1 : Sep p F0 H0 O F' H' σ Γ n) (g : Gp p F H F' H') {a : Addr} (h : H' a = none) : H a = none := by
  cases w : H a with
  | none => rfl
  | some o =>
    have := g.h a o w (s1.h0 h).2
    rw [h] at this; cases this
theorem x_nil : RX X p O [] [] tNil mNil := ⟨pa_nil, fun F0 H0 F H σ Γ n Q s q Q' k => k [] [] [] F H n s .refl .nil q⟩
theorem lx_sh (ha : LE p O te me) (hr : LX p O fl t m) : LX p O (false :: fl) (tCons te t) (mCons me m) := fun F0 H0 F H σ Γ n Q s q Q' k =>
  ha F0 H0 F H σ Γ n _ s q _ fun d v F1 H1 n1 s1 g1 r1 q1 =>
    hr F0 H0 F1 H1 σ Γ n1 _ s1 q1 _ fun ds vs as F2 H2 n2 s2 g2 m2 q2 =>
      k (d :: ds) (v :: vs) as F2 H2 n2 s2 (g1.trans g2) (.sh (r1.mono g2.f) (m2.since fun a h => by
        cases w : H a with
        | none => rfl
        | some o => rw [g1.h a o w (s1.h0 h).2] at h; cases h)) q2
theorem Own.gp {d : D} {a : Addr} (h : Own p.K F H d a) (g : Gp p F H F' H') (hp : ¬ p.isPen a) : Own p.K F' H' d a := by
  cases h with
  | lst q1 q2 => exact .lst (g.h _ _ q1 hp) (q2.mono g.f)
  | dct q1 q2 q3 => exact .dct (g.h _ _ q1 hp) q2 fun i x d a b => (q3 i x d a b).mono g.f
theorem x_sh (ha : RE X p O e te me) (hr : RX X p O fl es t m) (hs : starEach (e :: es) X.env = (false, eval e X.env) :: starEach es X.env := by rfl) : RX X p O (false :: fl) (e :: es) (tCons te t) (mCons me m) := ⟨pa_cons ha.pe hr.pa hs, lx_sh ha.le hr.le⟩
/-- slots set one after the other -/
def setsD (Γ : DEnv) : List Nat → List D → DEnv
  | i :: is, d :: ds => setsD (Γ.set i (some d)) is ds
  | _, _ => Γ
def setsV (σ : St) : List Nat → List V → St
  | i :: is, d :: ds => setsV (σ.set i (some d)) is ds
  | _, _ => σ
def owns : List Nat → List Bool → List Nat → List Nat
  | i :: is, true :: fl, O => owns is fl (i :: O)
  | _ :: is, false :: fl, O => owns is fl O
  | _, _, O => O
theorem Sep.puts {Hs : Hp} {ds : List D} {vs : List V} {as : List Addr} (h : Mx p Hs F H fl ds vs as) (hh : ∀ a, Hs a = none → H0 a = none ∧ ¬ p.isPen a) : ∀ (is O : List Nat) (σ : St) (Γ : DEnv), Sep p F0 H0 O F H σ Γ n → is.Nodup → (∀ i ∈ is, i ∉ O ∧ p.off i) →
    (∀ a ∈ as, ∀ j ∈ O, ∀ dj, Γ[j]? = some (some dj) → σ[j]? ≠ some (some (.ref a))) → is.length = ds.length → Sep p F0 H0 (owns is fl O) F H (setsV σ is vs) (setsD Γ is ds) n := by
  induction h with
  | nil =>
    intro is O σ Γ s _ _ _ hl
    obtain rfl : is = [] := List.length_eq_zero_iff.mp hl
    exact s
  | sh r m ih =>
    rename_i d v
    intro is O σ Γ s nd ho ha hl
    match is, nd, ho, hl with
    | [], _, _, hl => simp at hl
    | i :: is, nd, ho, hl =>
      obtain ⟨h1, h2⟩ := List.nodup_cons.mp nd
      obtain ⟨h3, h4⟩ := ho i (List.mem_cons_self ..)
      refine ih is O _ _ (s.put h3 h4 r) h2 (fun j hj => ho j (List.mem_cons_of_mem _ hj)) (fun a hm j hj dj e => ?_) (by simpa using hl)
      have hij : i ≠ j := fun z => h3 (z ▸ hj)
      rw [List.getElem?_set_ne hij] at e ⊢
      exact ha a hm j hj dj e
  | ow w f z q m ih =>
    rename_i d a
    intro is O σ Γ s nd ho ha hl
    match is, nd, ho, hl with
    | [], _, _, hl => simp at hl
    | i :: is, nd, ho, hl =>
      obtain ⟨h1, h2⟩ := List.nodup_cons.mp nd
      obtain ⟨h3, h4⟩ := ho i (List.mem_cons_self ..)
      have fr : Free p H0 O F H σ Γ d a := ⟨w, f, (hh a z).1, (hh a z).2, ha a (List.mem_cons_self ..)⟩
      refine ih is (i :: O) _ _ (s.putOwn h4 fr) h2 (fun j hj => ⟨fun hm => ?_, (ho j (List.mem_cons_of_mem _ hj)).2⟩) (fun b hm j hj dj e => ?_) (by simpa using hl)
      · rcases List.mem_cons.mp hm with rfl | hm
        · exact h1 hj
        · exact (ho j (List.mem_cons_of_mem _ hj)).1 hm
      · by_cases hij : i = j
        · subst hij
          rw [set_at, if_pos rfl] at e ⊢
          split at e
          · rename_i hi
            rw [if_pos (by rw [s.len]; exact hi)]
            intro z'
            cases z'
            exact q hm
          · cases e
        · rw [List.getElem?_set_ne hij] at e ⊢
          rcases List.mem_cons.mp hj with z' | z'
          · exact absurd z'.symm hij
          · exact ha b (List.mem_cons_of_mem _ hm) j z' dj e
theorem Mx.gr {Hs F2 H2 : Hp} {ds : List D} {vs : List V} {as : List Addr} (h : Mx p Hs F H fl ds vs as) (g : Gr F H F2 H2) : Mx p Hs F2 H2 fl ds vs as := by
  induction h with
  | nil => exact .nil
  | sh r _ ih => exact .sh (r.mono g.f) ih
  | ow w f z q _ ih => exact .ow (w.gr g) (g.none f w.at) z q ih
theorem Mx.len {ds : List D} {vs : List V} {as : List Addr} (h : Mx p H F' H' fl ds vs as) : vs.length = ds.length := by
  induction h with
  | nil => rfl
  | sh _ _ ih => simp [ih]
  | ow _ _ _ _ _ ih => simp [ih]
@[reducible] def mPar (is : List Nat) (m : MA) : MS := fun E Γ n => m Γ n fun ds n1 => ds.length = is.length ∧ E.nx (setsD Γ is ds) n1
/-- the state behind a parallel assignment -/
theorem LX.par {is : List Nat} {Ob : List Nat} {T : TS} (h : LX p O fl t m) (nd : is.Nodup) (ho : ∀ i ∈ is, i ∉ O ∧ p.off i)
    (hT : ∀ (E' : Ends) σ H, t σ H (fun vs H1 => vs.length = is.length ∧ E'.nx (setsV σ is vs) H1) → T E' σ H) : LS p Ob O (owns is fl O) T (mPar is m) := fun F0 H0 F H σ Γ n E s q E' hn _ _ _ => by
  refine hT E' σ H (h F0 H0 F H σ Γ n _ s q _ fun ds vs as F1 H1 n1 s1 g1 m1 ⟨hl, q1⟩ => ⟨m1.len.trans hl, ?_⟩)
  refine hn F1 H1 _ _ n1 (Sep.puts m1 (fun a z => s.h0 z) is O σ Γ s1 nd ho (fun a hm j hj dj e q => ?_) hl.symm) g1.f q1
  obtain ⟨b, e1, r, _⟩ := s.ow j hj dj e
  rw [q] at e1
  cases e1
  obtain ⟨o, e2⟩ := r.at
  rw [m1.news _ hm] at e2; cases e2
theorem s_par2 {Ob : List Nat} {i j : Nat} {a b : Expr} {st : Stmt} (h : RX X p O fl [a, b] t m) (nd : [i, j].Nodup) (ho : ∀ k ∈ [i, j], k ∉ O ∧ p.off k) (hS : PS X st (tPar i j t)) : RS X p Ob O (owns [i, j] fl O) st (tPar i j t) (mPar [i, j] m) := ⟨hS, h.le.par nd ho fun E' σ H q => by
  have mono : ∀ Q : List V → Hp → Prop, t σ H Q → t σ H Q := fun _ z => z
  revert q
  unfold tPar
  intro q
  exact (show (fun vs H1 => vs.length = [i, j].length ∧ E'.nx (setsV σ [i, j] vs) H1) = (fun vs H1 => ∃ v w, vs = [v, w] ∧ E'.nx ((σ.set i (some v)).set j (some w)) H1) from by
    funext vs H1
    apply propext
    constructor
    · rintro ⟨hl, q⟩
      match vs, hl with
      | [v, w], _ => exact ⟨v, w, rfl, q⟩
    · rintro ⟨v, w, rfl, q⟩
      exact ⟨rfl, q⟩) ▸ q⟩
theorem s_par3 {Ob : List Nat} {i j l : Nat} {a b c : Expr} {st : Stmt} (h : RX X p O fl [a, b, c] t m) (nd : [i, j, l].Nodup) (ho : ∀ k ∈ [i, j, l], k ∉ O ∧ p.off k) (hS : PS X st (tPar3 i j l t)) : RS X p Ob O (owns [i, j, l] fl O) st (tPar3 i j l t) (mPar [i, j, l] m) := ⟨hS, h.le.par nd ho fun E' σ H q => by
  unfold tPar3
  exact (show (fun vs H1 => vs.length = [i, j, l].length ∧ E'.nx (setsV σ [i, j, l] vs) H1) = (fun vs H1 => ∃ u v w, vs = [u, v, w] ∧ E'.nx (((σ.set i (some u)).set j (some v)).set l (some w)) H1) from by
    funext vs H1
    apply propext
    constructor
    · rintro ⟨hl, q⟩
      match vs, hl with
      | [u, v, w], _ => exact ⟨u, v, w, rfl, q⟩
    · rintro ⟨u, v, w, rfl, q⟩
      exact ⟨rfl, q⟩) ▸ q⟩
/-- names as targets, one by one -/
def gNames : List Nat → TGs
  | [] => gNil
  | i :: is => gCons (gName i) (gNames is)
theorem gNames_of : ∀ {is : List Nat} {vs : List V} {σ : St} {H : Hp} {Q : St → Hp → Prop}, vs.length = is.length → Q (setsV σ is vs) H → gNames is vs σ H Q
  | [], [], σ, H, Q, _, q => ⟨rfl, q⟩
  | [], _ :: _, σ, H, Q, hl, q => by simp at hl
  | _ :: _, [], σ, H, Q, hl, q => by simp at hl
  | i :: is, v :: vs, σ, H, Q, hl, q => ⟨v, vs, rfl, gNames_of (by simpa using hl) q⟩
/-- .. where a tuple is made: its object is nobody's -/
theorem s_parT {Ob : List Nat} {is : List Nat} {es : List Expr} {st : Stmt} {k : Nat} {K : PySem.W.Frag} (h : RX X p O fl es t m) (nd : is.Nodup) (ho : ∀ k ∈ is, k ∉ O ∧ p.off k) (hk : is.length = k ∧ k ≤ lim) (hS : PS X st (tAsg (tTup t) (gTup K k (gNames is)))) : RS X p Ob O (owns is fl O) st (tAsg (tTup t) (gTup K k (gNames is))) (mPar is m) := ⟨hS, fun F0 H0 F H σ Γ n E s q E' hn _ _ _ => by
  refine h.le F0 H0 F H σ Γ n _ s q _ fun ds vs as F1 H1 n1 s1 g1 m1 ⟨hl, q1⟩ => ⟨by rw [m1.len, hl, hk.1]; exact lim_line hk.2, fun x hx => ?_⟩
  have s2 := s1.gr (Gr.new0 s1.fh hx (.tup vs))
  have m2 : Mx p H F1 (upd H1 x (.tup vs)) fl ds vs as := m1.gr (Gr.new0 s1.fh hx _)
  refine ⟨x, vs, rfl, .inl (.inl upd_same), by rw [m1.len, hl, hk.1], gNames_of (m1.len.trans hl) ?_⟩
  refine hn F1 _ _ _ n1 (Sep.puts m2 (fun a z => s.h0 z) is O σ Γ s2 nd ho (fun a hm j hj dj e q => ?_) hl.symm) g1.f q1
  obtain ⟨b, e1, r, _⟩ := s.ow j hj dj e
  rw [q] at e1
  cases e1
  obtain ⟨o, e2⟩ := r.at
  rw [m1.news _ hm] at e2; cases e2⟩
/-- a, b = e: a tuple taken apart -/
@[reducible] def mAsg (me : ME) (mg : MG) : MS := fun E Γ n => me Γ n fun d n1 => mg d Γ fun Γ1 => E.nx Γ1 n1
end
section
variable {X : Cx} {K : PySem.W.Frag} {p : Pm} {O : List Nat} {e : Expr} {te : TE} {me : ME} {pos : Pos}
/-- a value's truth -/
def truD : D → Option Bool
  | .none => some false
  | .bool b => some b
  | .int i => some (i != 0)
  | .list xs => some (!xs.isEmpty)
  | .tuple xs => some (!xs.isEmpty)
  | _ => none
@[reducible] def mTru (me : ME) : MT := fun Γ n Q => me Γ n fun d n1 => ∃ b, truD d = some b ∧ Q b n1
theorem Rps.empty {F : Hp} {ds : List D} {xs : List V} (h : Rps K F ds xs) : (!ds.isEmpty) = !xs.isEmpty := by
  cases ds with
  | nil => rw [h.unnil]; rfl
  | cons d ds => obtain ⟨v, r, rfl, _⟩ := h.uncons; rfl
theorem t_truth {t : TT} (hK : p.K = X.K) (he : RE X p O e te me) (h : PT X e (fun σ H Q => te σ H fun x H1 => ∃ k, TruV X.K x H1 k ∧ Q k H1)) : RT X p O e (fun σ H Q => te σ H fun x H1 => ∃ k, TruV p.K x H1 k ∧ Q k H1) (mTru me) := ⟨hK ▸ h, fun F0 H0 F H σ Γ n Q s q Q' k =>
  he.le F0 H0 F H σ Γ n _ s q _ fun d v F1 H1 n1 s1 g1 r1 ⟨b, tb, q1⟩ => by
    refine ⟨b, ?_, k b F1 H1 n1 s1 g1 q1⟩
    unfold truD at tb
    split at tb <;> (try (cases tb; done))
    · cases tb; cases r1; rfl
    · cases tb; cases r1; rfl
    · cases tb; cases r1; rfl
    · cases tb
      obtain ⟨a, xs, rfl, h1, r2⟩ := r1.lst_inv
      exact .inl ⟨xs, .of (s1.fh _ _ h1), r2.empty⟩
    · cases tb
      obtain ⟨a, xs, rfl, h1, r2⟩ := r1.tup_inv
      exact .inr (.inl ⟨xs, Same.sqt s1.fh h1, r2.empty⟩)⟩
end
end RR
end
section
namespace RR
open PySem PySem.Spec L2
open PyProof.Rows hiding St
theorem off0 {K : PySem.W.Frag} {dr : DrT} {i : Nat} : (Pm.mk K none dr).off i := fun _ _ e => nomatch e
theorem off1 {K : PySem.W.Frag} {a : Addr} {dr : DrT} {i : Nat} (h : 0 ≠ i) : (Pm.mk K (some (a, 0)) dr).off i := fun _ _ e => by cases e; exact h
/-- where a def's data stands -/
def FunL (K : PySem.W.Frag) (f : Addr) (fd : FuncData) : Prop := ∃ oc od sl, K.lookup f = some ⟨oc, od, .func fd, sl⟩
theorem Fun.lk {K : PySem.W.Frag} {x q : Str} {st : Stmt} {f : Addr} {fd : FuncData} (F : Fun K x q st f fd) : FunL K f fd := by
  obtain ⟨oc, od, kV, doc, pm, an, cdv, ct, osl, rfl, lk, hcd⟩ := F.ex
  exact ⟨_, _, _, lk⟩
/-- a def that is known: its promise, its name, how it is called -/
structure FI (P : Program) (w : World) (K : PySem.W.Frag) (mg : Str → Option Value) (base : Heap) (k : Nat) (x : Str) (ps : List Str) (sp : Sp) : Prop where
  ex : ∃ f fd, FnG P w K mg base k f fd ps sp ∧ mg x = some (.ref f) ∧ PySem.W.keepIn K (.ref f) = true ∧ Binds K fd ps [] ∧ FunL K f fd
/-- a def that the top has laid -/
structure FD (K : PySem.W.Frag) (mg : Str → Option Value) (x : Str) (st : Stmt) (ps : List Str) : Prop where
  ex : ∃ f fd, Fun K x x st f fd ∧ mg x = some (.ref f) ∧ Binds K fd ps []
theorem FI.mono {P : Program} {w : World} {K : PySem.W.Frag} {mg : Str → Option Value} {base : Heap} {j k : Nat} {x : Str} {ps : List Str} {sp : Sp} (F : FI P w K mg base j x ps sp) (h : j ≤ k) : FI P w K mg base k x ps sp := by
  obtain ⟨f, fd, a, b, c, d, l⟩ := F.ex
  exact ⟨f, fd, a.mono h, b, c, d, l⟩
section
variable {X : Cx} {p : Pm} {Ob O O' is js vs : List Nat} {a b c e iter elt : Expr} {es : List Expr} {tg : Expr} {tgs : List Expr} {pos q q2 pos' : Pos} {ta tb tc te : TE} {ma mb mc me : ME} {t : TA} {m : MA} {x : Str} {i j l : Nat} {g : TG} {gs : TGs} {mg : MG} {mgs : List D → DEnv → (DEnv → Prop) → Prop} {wi : TI} {mi : MI} {fl : List Bool} {tT : TT} {mT : MT} {body : List Stmt} {tS : TS} {mS : MS}
theorem cB {id : String} {r : List V → Hp → VK → Prop} {f : List D → Option D} (hc : CallR X (.builtin id) r) (l : ClL p.K r f) (hg : Gl X x) (hm : X.mg x = none) (hv : bootBuiltins x = some (.builtin id)) (ha : RA X p O (e :: es) t m) (hn : x ≠ "__name__" := by decide) (hdb : (x == ("__debug__" : Str)) = false := by decide)
    (he : starEach (e :: es) X.env = (false, eval e X.env) :: starEach es X.env := by rfl) (hpl : (backTo pos (starEach es X.env)).any (·.1) = false := by rfl) : RE X p O (.Call (.Name x q) (e :: es) [] pos) (tCB r t) (mCl f m) := ⟨pe_callB hc hg hm hv ha.pa hn hdb he hpl, le_cl l ha.le⟩
theorem cT {T : String} {r : List V → Hp → VK → Prop} {f : List D → Option D} (hc : CallR X (.type T) r) (l : ClL p.K r f) (hg : Gl X x) (hm : X.mg x = none) (hv : bootBuiltins x = some (.type T)) (ha : RA X p O (e :: es) t m) (hn : x ≠ "__name__" := by decide) (hdb : (x == ("__debug__" : Str)) = false := by decide)
    (he : starEach (e :: es) X.env = (false, eval e X.env) :: starEach es X.env := by rfl) (hpl : (backTo pos (starEach es X.env)).any (·.1) = false := by rfl) : RE X p O (.Call (.Name x q) (e :: es) [] pos) (tCB r t) (mCl f m) := ⟨pe_callTy hc hg hm hv ha.pa hn hdb he hpl, le_cl l ha.le⟩
theorem eCh {op op' : CmpOp} {r r' : R2} {f g : D → D → Option D} (ho : OpR X (compareOp op) r) (l : OpL p.K r f) (ho' : OpR X (compareOp op') r') (l' : OpL p.K r' g) (ha : RE X p O a ta ma) (hb : RE X p O b tb mb) (hc : RE X p O c tc mc)
    (hm : lastMarks [op, op'] [b, c] = false := by with_unfolding_all rfl) : RE X p O (.Compare a [op, op'] [b, c] pos) (tChain r r' ta tb tc) (mChain f g ma mb mc) := e_chain ho l ho' l' ha hb hc (pe_chain ho ho' ha.pe hb.pe hc.pe hm)
theorem tCh {op op' : CmpOp} {r r' : R2} {f g : D → D → Option D} (ho : OpR X (compareOp op) r) (l : OpL p.K r f) (ho' : OpR X (compareOp op') r') (l' : OpL p.K r' g) (ha : RE X p O a ta ma) (hb : RE X p O b tb mb) (hc : RE X p O c tc mc)
    (hm : lastMarks [op, op'] [b, c] = false := by with_unfolding_all rfl) : RT X p O (.Compare a [op, op'] [b, c] pos) (tTest (tChain r r' ta tb tc)) (mTest (mChain f g ma mb mc)) := t_chain ho l ho' l' ha hb hc (pt_chain ho ho' ha.pe hb.pe hc.pe hm)
theorem tTru (hK : p.K = X.K) (he : RE X p O e te me) (h : ∀ whole, isTrue e X.env whole = (do let v ← whole; standAt e.pos; holding [v] (truthy v)) := by intro _; rfl) : RT X p O e (fun σ H Q => te σ H fun x H1 => ∃ k, TruV p.K x H1 k ∧ Q k H1) (mTru me) := t_truth (t := fun σ H Q => te σ H fun x H1 => ∃ k, TruV X.K x H1 k ∧ Q k H1) hK he (pt_truth he.pe h)
theorem eIsi {T : String} {y : Str} (hT : okTy T = true) (hK : p.K = X.K) (he : RE X p O e te me) (hg : Gl X "isinstance") (hm : X.mg "isinstance" = none) (hgy : Gl X y) (hmy : X.mg y = none) (hv : bootBuiltins y = some (.type T)) (hn : y ≠ "__name__" := by decide) (hdb : (y == ("__debug__" : Str)) = false := by decide)
    (h1 : starEach [e, .Name y q2] X.env = (false, eval e X.env) :: starEach [.Name y q2] X.env := by rfl) (h2 : starEach [.Name y q2] X.env = (false, eval (.Name y q2) X.env) :: starEach [] X.env := by rfl) (hpl : (backTo pos (starEach [.Name y q2] X.env)).any (·.1) = false := by rfl) :
    RE X p O (.Call (.Name "isinstance" q) [e, .Name y q2] [] pos) (tCB (rIsi p.K) (tCons te (tCons (tC (.ty T)) tNil))) (mIsi T me) :=
  have hx : PE X (.Name y q2) (tC (.ty T)) := pe_bltn hgy hmy hv rfl hn hdb
  e_isi y hT hK he hg hm hx (pe_callB call_isi hg hm (by decide +kernel) (pa_cons he.pe (pa_cons hx pa_nil h2) h1) (by decide) (by decide) h1 hpl)
theorem eF {k : Nat} {ps : List Str} {mf : MP} (F : FI X.prog X.w X.K X.mg X.base k x ps (spF X.K mf)) {lv : Nat} (hr : Room k X.A) (hg : GB lv X.A) (hK : p.K = X.K) (hgl : Gl X x) (ha : RA X p O (e :: es) t m)
    (hdb : (x == ("__debug__" : Str)) = false := by decide) (he : starEach (e :: es) X.env = (false, eval e X.env) :: starEach es X.env := by rfl) (hpl : (backTo pos (starEach es X.env)).any (·.1) = false := by rfl) (hkm : k ≤ lv := by first | decide | omega) :
    RE X p O (.Call (.Name x q) (e :: es) [] pos) (tCall (spF p.K mf) [] E0 t) (mCall mf m) := by
  obtain ⟨f, fd, G, h1, h2, h3, _⟩ := F.ex
  exact ⟨hK ▸ pe_callG G hr (hg.le hkm) hgl h1 h2 h3 ha.pa hdb he hpl, le_call ha.le⟩
theorem eP {k : Nat} {ps : List Str} {mf : MF} {ad : Addr} {xp : Str} {pp : Pos} (F : FI X.prog X.w X.K X.mg X.base k x ps (spP X.K mf)) {lv : Nat} (hr : Room k X.A) (hg : GB lv X.A) (hK : p.K = X.K) (hp : p.ap = some (ad, i)) (hgl : Gl X x) (h0 : PE X (.Name xp pp) (tVar i)) (ha : RA X p O es t m)
    (hs : starEach (.Name xp pp :: es) X.env = (false, eval (.Name xp pp) X.env) :: starEach es X.env := by rfl)
    (hdb : (x == ("__debug__" : Str)) = false := by decide) (hpl : (backTo pos (starEach es X.env)).any (·.1) = false := by rfl) (hkm : k ≤ lv := by first | decide | omega) :
    RE X p O (.Call (.Name x q) (.Name xp pp :: es) [] pos) (tCall (spP p.K mf) [] E0 (tCons (tVar i) t)) (mCallP mf m) := by
  obtain ⟨f, fd, G, h1, h2, h3, _⟩ := F.ex
  exact ⟨hK ▸ pe_callG G hr (hg.le hkm) hgl h1 h2 h3 (pa_cons h0 ha.pa hs) hdb hs hpl, le_callP hp ha.le⟩
section
variable {K : PySem.W.Frag}
theorem oEq (hK : K = X.K) (hu : X.A.units + 64 < cLine) : OpR X (compareOp .Eq) (rEqA K) := hK ▸ o_eq hu
theorem oNe (hK : K = X.K) (hu : X.A.units + 64 < cLine) : OpR X (compareOp .NotEq) (rNeA K) := hK ▸ o_ne hu
theorem oIn (hK : K = X.K) (hu : X.A.units + 65 < cLine) : OpR X (compareOp .In) (rInA K) := hK ▸ o_in hu
theorem oNotIn (hK : K = X.K) (hu : X.A.units + 65 < cLine) : OpR X (compareOp .NotIn) (rNotInA K) := hK ▸ o_notIn hu
theorem oAdd (hK : K = X.K) : OpR X (binaryOp .Add) (rAddA K) := hK ▸ o_add
theorem oIx (hK : K = X.K) (hu : X.A.units + 1 < cLine) : IxR X (rIxA K) := hK ▸ o_ix hu
theorem fnLen (hK : K = X.K) : CallR X (.builtin "len") (rLen K) := hK ▸ call_len_seq
theorem fnList (hK : K = X.K) : CallR X (.type "list") (rListOf K) := hK ▸ call_list_of
theorem fnTuple (hK : K = X.K) : CallR X (.type "tuple") (rTupOf K) := hK ▸ call_tuple_of
theorem fnAll (hK : K = X.K) (hc : X.calm = true) : CallR X (.builtin "all") (rAll K) := hK ▸ cr_all hc
end
theorem gN (i : Nat) (hN : X.N.Nodup) (hi : X.N[i]? = some x) (hx : Loc X.env.scope x) (hO : i ∉ O) (hp : p.off i) (hf : X.fn x = true ∨ X.env.scope.names.lookup x = some .local := by first | exact .inl rfl | exact .inr rfl) : RG X p O [i] (.Name x pos) (gName i) (mgName i) := g_name (pg_name hN hi hx hf) hO hp
theorem gC (h1 : RG X p O is tg g mg) (h2 : RGs X p O js tgs gs mgs) (hs : (assignEach (tg :: tgs) X.env).map (·.2) = assign tg X.env :: (assignEach tgs X.env).map (·.2) := by rfl) : RGs X p O (is ++ js) (tg :: tgs) (gCons g gs) (mgCons mg mgs) := gs_cons h1 h2 (pgs_cons h1.pg h2.pg hs)
theorem gT {k : Nat} (n : Nat) (hK : p.K = X.K) (hc : X.calm = true) (h : RGs X p O is tgs gs mgs) (hn : (assignEach tgs X.env).length = n := by rfl) (hst : (assignEach tgs X.env).findIdx? (·.1) = none := by rfl) : RG X p O is (.Tuple tgs k pos) (gTup p.K n gs) (mgTup n mgs) := g_tup rfl h (hK ▸ pg_tup hc h.pg hn hst)
theorem iR1 (hg : Gl X "range") (hm : X.mg "range" = none) (ha : RA X p O [a] t m) (hs : starEach [a] X.env = [(false, eval a X.env)] := by rfl) : RI X p O tg (.Call (.Name "range" q) [a] [] pos) (iRng1 t) (mIR1 m) := i_range1 ha (pi_range1 hg hm ha.pa hs)
theorem iEn {k : Nat} (hK : p.K = X.K) (hg : Gl X "enumerate") (hm : X.mg "enumerate" = none) (ha : RA X p O [a] t m) (hs : starEach [a] X.env = [(false, eval a X.env)] := by rfl) : RI X p O (.Tuple tgs k pos') (.Call (.Name "enumerate" q) [a] [] pos) (iEnumA p.K t) (mIEn m) := i_enum hK ha (pi_enumA hg hm ha.pa hs)
theorem iZi {k : Nat} (hK : p.K = X.K) (hg : Gl X "zip") (hm : X.mg "zip" = none) (ha : RA X p O [a, b] t m) (hs : starEach [a, b] X.env = (false, eval a X.env) :: starEach [b] X.env := by rfl) (hpl : (backTo pos (starEach [b] X.env)).any (·.1) = false := by rfl) : RI X p O (.Tuple tgs k pos') (.Call (.Name "zip" q) [a, b] [] pos) (RZ.iZipA p.K t) (mIZ m) := i_zip hK ha (RZ.pi_zipA hg hm ha.pa hs hpl)
theorem fLc {scope : Scope} {own : List (Str × Nat)} (hc : X.calm = true) (hN : X.N.Nodup) (hi : RI X p O tg iter wi mi) (ok : BlkOk X.N X.env.scope scope own)
    (hg : ∀ (s : Shared) (H : Hp) (C : Addr) (cl : List (Str × Addr)) (fp : List Addr), RG (X.blk s H scope (compEnvC scope cl C X.env) fp) p O is tg g mg) (he : ∀ (s : Shared) (H : Hp) (C : Addr) (cl : List (Str × Addr)) (fp : List Addr), RE (X.blk s H scope (compEnvC scope cl C X.env) fp) p O elt te me)
    (his : ∀ i ∈ is, i ∈ own.map (·.2)) (hp : ∀ v ∈ own.map (·.2), p.off v) (hs : ∀ x, foldedSetIterable iter X.env x = pure x := by intro _; rfl) :
    RF X p O (.ListComp elt [⟨tg, iter, [], 0⟩] scope pos) (tLc wi g tYes te (own.map (·.2))) (mLc mi mg mYes me (own.map (·.2))) :=
  ⟨pe_lc hc hN hi.pi ok (fun s H C cl fp => (hg s H C cl fp).pg) (fun _ _ _ _ _ => pts_nil) (fun s H C cl fp => (he s H C cl fp).pe) hs,
    lf_lc hi.le (hg X.s_0 X.H_0 0 [] []).le lt_yes (he X.s_0 X.H_0 0 [] []).le his hp⟩
theorem fLcIf {scope : Scope} {own : List (Str × Nat)} (hc : X.calm = true) (hN : X.N.Nodup) (hi : RI X p O tg iter wi mi) (ok : BlkOk X.N X.env.scope scope own)
    (hg : ∀ (s : Shared) (H : Hp) (C : Addr) (cl : List (Str × Addr)) (fp : List Addr), RG (X.blk s H scope (compEnvC scope cl C X.env) fp) p O is tg g mg) (ht : ∀ (s : Shared) (H : Hp) (C : Addr) (cl : List (Str × Addr)) (fp : List Addr), RT (X.blk s H scope (compEnvC scope cl C X.env) fp) p O c tT mT)
    (he : ∀ (s : Shared) (H : Hp) (C : Addr) (cl : List (Str × Addr)) (fp : List Addr), RE (X.blk s H scope (compEnvC scope cl C X.env) fp) p O elt te me)
    (his : ∀ i ∈ is, i ∈ own.map (·.2)) (hp : ∀ v ∈ own.map (·.2), p.off v) (hs : ∀ x, foldedSetIterable iter X.env x = pure x := by intro _; rfl) :
    RF X p O (.ListComp elt [⟨tg, iter, [c], 0⟩] scope pos) (tLc wi g tT te (own.map (·.2))) (mLc mi mg mT me (own.map (·.2))) :=
  ⟨pe_lc hc hN hi.pi ok (fun s H C cl fp => (hg s H C cl fp).pg) (fun s H C cl fp => pts_one (ht s H C cl fp).pt) (fun s H C cl fp => (he s H C cl fp).pe) hs,
    lf_lc hi.le (hg X.s_0 X.H_0 0 [] []).le (ht X.s_0 X.H_0 0 [] []).le (he X.s_0 X.H_0 0 [] []).le his hp⟩
/-- y = [..]: the same parts, the target stored within the comprehension's frame -/
theorem sLc {scope : Scope} {own : List (Str × Nat)} (y : Nat) {yn : Str} {spos : Pos} (hc : X.calm = true) (hN : X.N.Nodup) (hy : X.N[y]? = some yn) (hyl : X.env.scope.names.lookup yn = some .local) (hsw : swapsWith (.ListComp elt [⟨tg, iter, [], 0⟩] scope pos) (some (.Name yn q)) spos.line X.env = pure true) (hi : RI X p O tg iter wi mi) (ok : BlkOk X.N X.env.scope scope own)
    (hg : ∀ (s : Shared) (H : Hp) (C : Addr) (cl : List (Str × Addr)) (fp : List Addr), RG (X.blk s H scope (compEnvC scope cl C X.env) fp) p O is tg g mg) (he : ∀ (s : Shared) (H : Hp) (C : Addr) (cl : List (Str × Addr)) (fp : List Addr), RE (X.blk s H scope (compEnvC scope cl C X.env) fp) p O elt te me)
    (his : ∀ i ∈ is, i ∈ own.map (·.2)) (hp : ∀ v ∈ own.map (·.2), p.off v) (hO : y ∉ O) (hpy : p.off y) (hs : ∀ x, foldedSetIterable iter X.env x = pure x := by intro _; rfl) :
    RS X p Ob O (y :: O) (.Assign [.Name yn q] (.ListComp elt [⟨tg, iter, [], 0⟩] scope pos) spos) (tAsg (tLc wi g tYes te (own.map (·.2))) (gName y)) (mSet y (mLc mi mg mYes me (own.map (·.2)))) :=
  s_own (fLc hc hN hi ok hg he his hp hs) hO hpy (ps_setLc hc hN hy hyl hsw hi.pi ok (fun s H C cl fp => (hg s H C cl fp).pg) (fun _ _ _ _ _ => pts_nil) (fun s H C cl fp => (he s H C cl fp).pe) hs)
theorem sLcIf {scope : Scope} {own : List (Str × Nat)} (y : Nat) {yn : Str} {spos : Pos} (hc : X.calm = true) (hN : X.N.Nodup) (hy : X.N[y]? = some yn) (hyl : X.env.scope.names.lookup yn = some .local) (hsw : swapsWith (.ListComp elt [⟨tg, iter, [c], 0⟩] scope pos) (some (.Name yn q)) spos.line X.env = pure true) (hi : RI X p O tg iter wi mi) (ok : BlkOk X.N X.env.scope scope own)
    (hg : ∀ (s : Shared) (H : Hp) (C : Addr) (cl : List (Str × Addr)) (fp : List Addr), RG (X.blk s H scope (compEnvC scope cl C X.env) fp) p O is tg g mg) (ht : ∀ (s : Shared) (H : Hp) (C : Addr) (cl : List (Str × Addr)) (fp : List Addr), RT (X.blk s H scope (compEnvC scope cl C X.env) fp) p O c tT mT)
    (he : ∀ (s : Shared) (H : Hp) (C : Addr) (cl : List (Str × Addr)) (fp : List Addr), RE (X.blk s H scope (compEnvC scope cl C X.env) fp) p O elt te me)
    (his : ∀ i ∈ is, i ∈ own.map (·.2)) (hp : ∀ v ∈ own.map (·.2), p.off v) (hO : y ∉ O) (hpy : p.off y) (hs : ∀ x, foldedSetIterable iter X.env x = pure x := by intro _; rfl) :
    RS X p Ob O (y :: O) (.Assign [.Name yn q] (.ListComp elt [⟨tg, iter, [c], 0⟩] scope pos) spos) (tAsg (tLc wi g tT te (own.map (·.2))) (gName y)) (mSet y (mLc mi mg mT me (own.map (·.2)))) :=
  s_own (fLcIf hc hN hi ok hg ht he his hp hs) hO hpy (ps_setLc hc hN hy hyl hsw hi.pi ok (fun s H C cl fp => (hg s H C cl fp).pg) (fun s H C cl fp => pts_one (ht s H C cl fp).pt) (fun s H C cl fp => (he s H C cl fp).pe) hs)
theorem sSet (i : Nat) (hN : X.N.Nodup) (hi : X.N[i]? = some x) (hx : Loc X.env.scope x) (he : RE X p O e te me) (hO : i ∉ O) (hp : p.off i) (hs : swapsWith e (some (.Name x q)) pos.line X.env = pure false := by rfl) (hf : X.fn x = true ∨ X.env.scope.names.lookup x = some .local := by first | exact .inl rfl | exact .inr rfl) :
    RS X p Ob O O (.Assign [.Name x q] e pos) (tAsg te (gName i)) (mSet i me) := s_set he hO hp (ps_set hN hi hx he.pe hs hf)
theorem sOwn (i : Nat) (hN : X.N.Nodup) (hi : X.N[i]? = some x) (hx : Loc X.env.scope x) (he : RF X p O e te me) (hO : i ∉ O) (hp : p.off i) (hs : swapsWith e (some (.Name x q)) pos.line X.env = pure false := by rfl) (hf : X.fn x = true ∨ X.env.scope.names.lookup x = some .local := by first | exact .inl rfl | exact .inr rfl) :
    RS X p Ob O (i :: O) (.Assign [.Name x q] e pos) (tAsg te (gName i)) (mSet i me) := s_own he hO hp (ps_set hN hi hx he.pe hs hf)
theorem sExpr (he : RE X p O e te me) (hs : swapsWith e none pos.line X.env = pure false := by rfl) : RS X p Ob O O (.Expr e pos) (tDrop te) (mDrop me) := s_expr he (ps_expr he.pe hs)
theorem sPar2 (i j : Nat) {x y : Str} {px py pt pt2 : Pos} {kt k2 : Nat} (hc : X.calm = true) (hN : X.N.Nodup) (hi : X.N[i]? = some x) (hj : X.N[j]? = some y) (hij : i ≠ j) (hx : X.env.scope.names.lookup x = some .local) (hy : X.env.scope.names.lookup y = some .local) (ha : RX X p O fl [a, b] t m) (ho : ∀ k ∈ [i, j], k ∉ O ∧ p.off k)
    (hw : swappedStores [.Tuple [.Name x px, .Name y py] kt pt] (.Tuple [a, b] k2 pt2) X.env = pure (some [x, y]))
    (hs : swapsWithSole [.Tuple [.Name x px, .Name y py] kt pt] (.Tuple [a, b] k2 pt2) pos.line X.env = pure false := by rfl) :
    RS X p Ob O (owns [i, j] fl O) (.Assign [.Tuple [.Name x px, .Name y py] kt pt] (.Tuple [a, b] k2 pt2) pos) (tPar i j t) (mPar [i, j] m) := s_par2 ha (by simpa using hij) ho (ps_par hc hN hi hj hij hx hy ha.pa hw hs)
theorem sPar3 (i j l : Nat) {x y z : Str} {px py pz pt pt2 : Pos} {kt k2 : Nat} (hc : X.calm = true) (hN : X.N.Nodup) (hi : X.N[i]? = some x) (hj : X.N[j]? = some y) (hl : X.N[l]? = some z) (hij : i ≠ j) (hil : i ≠ l) (hjl : j ≠ l) (hx : X.env.scope.names.lookup x = some .local) (hy : X.env.scope.names.lookup y = some .local) (hz : X.env.scope.names.lookup z = some .local) (ha : RX X p O fl [a, b, c] t m) (ho : ∀ k ∈ [i, j, l], k ∉ O ∧ p.off k)
    (hw : swappedStores [.Tuple [.Name x px, .Name y py, .Name z pz] kt pt] (.Tuple [a, b, c] k2 pt2) X.env = pure (some [x, y, z]))
    (hs : swapsWithSole [.Tuple [.Name x px, .Name y py, .Name z pz] kt pt] (.Tuple [a, b, c] k2 pt2) pos.line X.env = pure false := by rfl) :
    RS X p Ob O (owns [i, j, l] fl O) (.Assign [.Tuple [.Name x px, .Name y py, .Name z pz] kt pt] (.Tuple [a, b, c] k2 pt2) pos) (tPar3 i j l t) (mPar [i, j, l] m) := s_par3 ha (by simpa using ⟨⟨hij, hil⟩, hjl⟩) ho (ps_par3 hc hN hi hj hl hij hil hjl hx hy hz ha.pa hw hs)
theorem sParT (is : List Nat) {tp k2p : Pos} {kt k2 k : Nat} (ha : RX X p O fl es t m) (nd : is.Nodup) (ho : ∀ k ∈ is, k ∉ O ∧ p.off k) (hk : is.length = k ∧ k ≤ lim) (hg : PG X (.Tuple tgs kt tp) (gTup X.K k (gNames is))) (hs : swapsWithSole [.Tuple tgs kt tp] (.Tuple es k2 k2p) pos.line X.env = pure false := by rfl) (hw : swappedStores [.Tuple tgs kt tp] (.Tuple es k2 k2p) X.env = pure none := by rfl) (h1 : (assignEach [.Tuple tgs kt tp] X.env).map (·.2) = [assign (.Tuple tgs kt tp) X.env] := by rfl) :
    RS X p Ob O (owns is fl O) (.Assign [.Tuple tgs kt tp] (.Tuple es k2 k2p) pos) (tAsg (tTup t) (gTup X.K k (gNames is))) (mPar is m) := s_parT ha nd ho hk (ps_asg (pe_tup ha.pa) hg hs hw h1)
theorem sFor (hp : PassesOwn (model X.prog X.w) X.A X.env X.xe) (hc : X.calm = true) (hi : RI X p O tg iter wi mi) (hg : RG X p O is tg g mg) (hb : RSs X p O O O' body tS mS) (hO : ∀ i ∈ O, i ∈ O') (hs : ∀ x, foldedSetIterable iter X.env x = pure x := by intro _; rfl) : RS X p Ob O O (.For tg iter body [] pos) (tFor wi g tS) (mFor mi mg mS) := s_for hi hg (hb.weak hO) (ps_for hp hc hi.pi hg.pg hb.ps hs)
theorem sWhile (hp : PassesOwn (model X.prog X.w) X.A X.env X.xe) (hc : RT X p O c tT mT) (hb : RSs X p O O O' body tS mS) (hO : ∀ i ∈ O, i ∈ O') : RS X p Ob O O (.While c body [] pos) (tWhile tT tS) (mWhile mT mS) := s_while hc (hb.weak hO) (ps_while hp hc.pt hb.ps)
theorem sIf {Oa Obx : List Nat} {xs ys : List Stmt} {ta' tb' : TS} {ma' mb' : MS} (hc : RT X p O c tT mT) (ha : RSs X p Ob O Oa xs ta' ma') (hb : RSs X p Ob O Obx ys tb' mb') (k1 : ∀ i ∈ O', i ∈ Oa) (k2 : ∀ i ∈ O', i ∈ Obx) : RS X p Ob O O' (.If c xs ys pos) (tIfS tT ta' tb') (mIfS mT ma' mb') := s_if hc (ha.weak k1) (hb.weak k2)
theorem sApp (i : Nat) {ap : Pos} (hK : p.K = X.K) (hv : PE X (.Name x q) (tVar i)) (he : RE X p O e te me) (hi : i ∈ O)
    (hbase : attributeBase (.Name x q) "append" X.env (eval (.Name x q) X.env) = eval (.Name x q) X.env := by rfl)
    (hfew : ((backTo q2 (starEach [e] X.env)).all (fun x => !x.1) && (backToKw q2 (keywordEach [] X.env)).all (fun x => x.1.isSome) && decide ([e].length + ([] : List Keyword).length + (if ([] : List Keyword).isEmpty then 0 else 1) < 30)) = true := by rfl)
    (hline : (ap.endLine == q2.line) = true := by rfl) (h1 : starEach [e] X.env = (false, eval e X.env) :: starEach [] X.env := by rfl) (hpl : (backTo q2 (starEach [] X.env)).any (·.1) = false := by rfl)
    (hs : swapsWith (.Call (.Attribute (.Name x q) "append" ap) [e] [] q2) none pos.line X.env = pure false := by rfl) :
    RS X p Ob O O (.Expr (.Call (.Attribute (.Name x q) "append" ap) [e] [] q2) pos) (tDrop (tBM p.K "list" rAppend (tVar i) (tCons te tNil))) (mAppend i me) :=
  s_append he hi hK (ps_expr (pe_bm PySem.F.plainAttrs_list PySem.F.slot_list_append PySem.F.type_list_append mt_append hv (pa_cons he.pe pa_nil h1) hbase hfew hline h1 hpl) hs)
end
end RR
end
section
namespace RR
open PySem PySem.Spec L2
open PyProof.Rows hiding St
section
variable {X : Cx} {p : Pm} {O : List Nat} {e : Expr} {te : TE} {me : ME} {tT : TT} {mT : MT}
theorem Rp.flat_any {K : PySem.W.Frag} {F G : Hp} {d : D} {v : V} (f : flatD d = true) (h : Rp K F d v) : Rp K G d v := by
  cases h <;> first | (exfalso; unfold flatD at f; cases f; done) | exact .non | exact .bl _ | exact .int _ | exact .str _
/-- out of a look: the frozen thing is one's own again -/
theorem Sep.unlook {F0 H0 F H F1 F2 H2 : Hp} {σ : St} {Γ : DEnv} {n n2 : Nat} {i : Nat} (s : Sep p F0 H0 O F H σ Γ n) (e1 : Same F F1) (hn : ∀ b o, F1 b = some o → F b = some o ∨ (i ∈ O ∧ σ[i]? = some (some (.ref b)) ∧ ∃ d, Γ[i]? = some (some d)))
    (s2 : Sep p F0 H0 (O.filter (· ≠ i)) F2 H2 σ Γ n2) (g : Gp p F1 H F2 H2) : ∃ F3, Sep p F0 H0 O F3 H2 σ Γ n2 ∧ Gp p F H F3 H2 := by
  by_cases hi : i ∈ O ∧ ∃ d, Γ[i]? = some (some d)
  · obtain ⟨hi, d, ed⟩ := hi
    obtain ⟨a, ea, w, fa, h0a, pa⟩ := s.ow i hi d ed
    have key : ∀ b o, F1 b = some o → b ≠ a → F b = some o := fun b o h hb => by
      rcases hn b o h with z | ⟨_, z, _⟩
      · exact z
      · rw [ea] at z; cases z; exact absurd rfl hb
    have nf : ∀ {b : Addr} {o : HO}, F b = some o → b ≠ a := fun h z => by rw [z, fa] at h; cases h
    have f3 : ∀ b o, F b = some o → (fun b => if b = a then none else F2 b) b = some o := fun b o h => by
      show (if b = a then none else F2 b) = some o
      rw [if_neg (nf h)]
      exact g.f _ _ (e1 _ _ h)
    have f32 : ∀ b o, (fun b => if b = a then none else F2 b) b = some o → b ≠ a ∧ F2 b = some o := fun b o h => by
      have h' : (if b = a then none else F2 b) = some o := h
      by_cases z : b = a
      · rw [if_pos z] at h'; cases h'
      · rw [if_neg z] at h'; exact ⟨z, h'⟩
    obtain ⟨oa, hoa⟩ := w.at
    have ha2 : ∀ {u : HO}, H a = some u → H2 a = some u := fun h => g.h a _ h pa
    refine ⟨fun b => if b = a then none else F2 b, ⟨fun b o h => f3 b o (s.f0 b o h), fun b o h => s2.fh _ _ (f32 b o h).2, s2.stay, fun b o h => s2.newF b o (f32 b o h).2, fun b j h => ?_, s.len, fun j dj hj h => ?_, fun j hj dj h => ?_, s.dj⟩, ⟨fun b o h => f3 b o h, g.h, fun b o h => ?_⟩⟩
    · obtain ⟨h1, h2, ⟨x, l, xs, z1, z2, z3⟩, zt⟩ := s2.pen b j h
      obtain ⟨_, _, ⟨_, _, ys, _, y2, _⟩, _⟩ := s.pen b j h
      have hb : b ≠ a := fun z => pa ⟨b, j, h, .inl z.symm⟩
      have hd : p.dr.ad ≠ a := nf y2
      refine ⟨?_, h2, ⟨x, l, xs, z1, ?_, z3⟩, fun y hy => ?_⟩
      · show (if b = a then none else F2 b) = none
        rw [if_neg hb]; exact h1
      · show (if p.dr.ad = a then none else F2 p.dr.ad) = some _
        rw [if_neg hd]; exact z2
      · obtain ⟨t1, ps, t2, t3, t4⟩ := zt y hy
        refine ⟨?_, ps, t2, t3, fun pos cv hc => ?_⟩
        · show (if y.1 = a then none else F2 y.1) = none
          split
          · rfl
          · exact t1
        · obtain ⟨c, e1, e2⟩ := t4 pos cv hc
          refine ⟨c, e1, ?_⟩
          show (if c = a then none else F2 c) = some _
          rw [if_neg fun z => ?_]
          · exact e2
          · have h3 := s2.fh _ _ e2
            have h4 := g.h a _ hoa pa
            rw [z, h4] at h3
            exact w.notCode hoa _ (Option.some.inj h3)
    · obtain ⟨v, h1, r⟩ := s.sh j dj hj h
      exact ⟨v, h1, r.mono f3⟩
    · obtain ⟨b, h1, r, z1, z2, z3⟩ := s.ow j hj dj h
      have hb3 : (fun b => if b = a then none else F2 b) b = none := by
        show (if b = a then none else F2 b) = none
        by_cases z : b = a
        · rw [if_pos z]
        · rw [if_neg z]
          by_cases hji : j = i
          · subst hji
            rw [ea] at h1
            cases h1
            exact absurd rfl z
          · obtain ⟨b', h1', _, z1', _⟩ := s2.ow j (List.mem_filter.mpr ⟨hj, by simpa using hji⟩) dj h
            rw [h1] at h1'
            cases h1'
            exact z1'
      refine ⟨b, h1, ?_, hb3, z2, z3⟩
      cases r with
      | lst q1 q2 => exact .lst (g.h _ _ q1 z3) (q2.mono f3)
      | dct q1 q2 q3 => exact .dct (g.h _ _ q1 z3) q2 fun i x d a b => (q3 i x d a b).mono f3
    · obtain ⟨h1, h2⟩ := f32 b o h
      rcases g.new b o h2 with z | z | z
      · exact .inl (key b o z h1)
      · exact .inr (.inl z)
      · exact .inr (.inr z)
  · have hF : F1 = F := by
      funext b
      cases h : F1 b with
      | none => cases q : F b with
        | none => rfl
        | some o => rw [e1 _ _ q] at h; cases h
      | some o =>
        rcases hn b o h with z | ⟨z1, _, z2⟩
        · exact z.symm
        · exact absurd ⟨z1, z2⟩ hi
    subst hF
    refine ⟨F2, ⟨s2.f0, s2.fh, s2.stay, s2.newF, s2.pen, s.len, fun j dj hj h => s2.sh j dj (fun z => hj (List.mem_filter.mp z).1) h, fun j hj dj h => ?_, s.dj⟩, g⟩
    exact s2.ow j (List.mem_filter.mpr ⟨hj, by
      simp only [ne_eq, decide_not, Bool.not_eq_eq_eq_not, Bool.not_true, decide_eq_false_iff_not]
      intro z
      subst z
      exact hi ⟨hj, dj, h⟩⟩) dj h
theorem Sep.look {F0 H0 F H : Hp} {σ : St} {Γ : DEnv} {n : Nat} (s : Sep p F0 H0 O F H σ Γ n) (i : Nat) : ∃ F1, Same F F1 ∧ Sep p F0 H0 (O.filter (· ≠ i)) F1 H σ Γ n ∧ ∀ b o, F1 b = some o → F b = some o ∨ (i ∈ O ∧ σ[i]? = some (some (.ref b)) ∧ ∃ d, Γ[i]? = some (some d)) := by
  by_cases hi : i ∈ O ∧ ∃ d, Γ[i]? = some (some d)
  · obtain ⟨hi, d, ed⟩ := hi
    obtain ⟨F1, e1, s1⟩ := s.freeze i
    -- the frozen heap, cut to what is needed
    obtain ⟨a, ea, w, fa, h0a, pa⟩ := s.ow i hi d ed
    obtain ⟨oa, hoa⟩ := w.at
    have hfa : F1 a = some oa := by
      obtain ⟨v, h1, r⟩ := s1.sh i d (by simp) ed
      rw [ea] at h1
      cases h1
      have : ∃ o, F1 a = some o := by
        cases w with
        | lst q1 q2 => obtain ⟨b, xs, e, h, _⟩ := r.lst_inv; cases e; exact ⟨_, h⟩
        | dct q1 q2 q3 =>
          cases r with
          | dct h1 h2 h3 => exact h1.elim (fun z => ⟨_, z⟩) fun ⟨_, z⟩ => ⟨_, z⟩
      obtain ⟨o, ho⟩ := this
      have := s1.fh _ _ ho
      rw [hoa] at this
      cases this
      exact ho
    have e2 : Same F (upd F a oa) := same_up fa
    have e3 : Same (upd F a oa) F1 := fun b o h => by
      by_cases z : b = a
      · subst z; rw [upd_same] at h; cases h; exact hfa
      · rw [upd_ne z] at h; exact e1 _ _ h
    have nw : ∀ b o, (upd F a oa) b = some o → F b = some o ∨ b = a := fun b u q => by
      by_cases hb : b = a
      · exact .inr hb
      · rw [upd_ne hb] at q; exact .inl q
    refine ⟨upd F a oa, e2, ⟨s.f0.trans e2, e3.trans s1.fh, s.stay, fun b o h => s1.newF b o (e3 _ _ h), fun b j h => ?_, s.len, fun j dj hj h => ?_, fun j hj dj h => ?_, s1.dj⟩, fun b o h => ?_⟩
    · obtain ⟨h1, h2, ⟨x, l, xs, z1, z2, z3⟩, zt⟩ := s.pen b j h
      have hb : b ≠ a := fun z => pa ⟨b, j, h, .inl z.symm⟩
      exact ⟨by rw [upd_ne hb]; exact h1, h2, ⟨x, l, xs, z1, e2 _ _ z2, z3⟩, zt.up e2 (fun y hy => by rw [upd_ne fun z => pa ⟨b, j, h, .inr ⟨y, hy, z⟩⟩]; exact (zt y hy).1) (fun _ _ _ h => h)⟩
    · by_cases hji : j = i
      · subst hji
        rw [ed] at h
        cases h
        refine ⟨_, ea, ?_⟩
        cases w with
        | lst q1 q2 =>
          rw [hoa] at q1
          cases q1
          exact .of_lst upd_same (q2.mono e2)
        | dct q1 q2 q3 =>
          rw [hoa] at q1
          cases q1
          exact .dct (.inl upd_same) q2 fun i x d a b => (q3 i x d a b).mono e2
      · obtain ⟨v, h1, r⟩ := s.sh j dj (fun z => hj (List.mem_filter.mpr ⟨z, by simpa using hji⟩)) h
        exact ⟨v, h1, r.mono e2⟩
    · obtain ⟨b, h1, r, z1, z2, z3⟩ := s.ow j (List.mem_filter.mp hj).1 dj h
      have hji : j ≠ i := by simpa using (List.mem_filter.mp hj).2
      have hb : b ≠ a := fun z => s.dj j (List.mem_filter.mp hj).1 i hi hji a dj d h ed (z ▸ h1) ea
      refine ⟨b, h1, ?_, by rw [upd_ne hb]; exact z1, z2, z3⟩
      cases r with
      | lst q1 q2 => exact .lst q1 (q2.mono e2)
      | dct q1 q2 q3 => exact .dct q1 q2 fun i x d a b => (q3 i x d a b).mono e2
    · rcases nw b o h with z | z
      · exact .inl z
      · subst z; exact .inr ⟨hi, ea, d, ed⟩
  · exact ⟨F, .refl _, by
      refine ⟨s.f0, s.fh, s.stay, s.newF, s.pen, s.len, fun j dj hj h => s.sh j dj (fun z => hj (List.mem_filter.mpr ⟨z, ?_⟩)) h, fun j hj => s.ow j (List.mem_filter.mp hj).1, fun j hj k hk => s.dj j (List.mem_filter.mp hj).1 k (List.mem_filter.mp hk).1⟩
      simp only [ne_eq, decide_not, Bool.not_eq_eq_eq_not, Bool.not_true, decide_eq_false_iff_not]
      intro w
      subst w
      exact hi ⟨z, dj, h⟩, fun b o h => .inl h⟩
@[reducible] def mLook (me : ME) : ME := fun Γ n Q => me Γ n fun d n1 => flatD d = true ∧ Q d n1
theorem le_look (i : Nat) (h : LE p (O.filter (· ≠ i)) te me) : LE p O te (mLook me) := fun F0 H0 F H σ Γ n Q s q Q' k => by
  obtain ⟨F1, e1, s1, hn⟩ := s.look i
  refine h F0 H0 F1 H σ Γ n _ s1 q _ fun d v F2 H2 n2 s2 g2 r2 ⟨f, q2⟩ => ?_
  obtain ⟨F3, s3, g3⟩ := s.unlook e1 hn s2 g2
  exact k d v F3 H2 n2 s3 g3 (r2.flat_any f) q2
theorem lt_look (i : Nat) (h : LT p (O.filter (· ≠ i)) tT mT) : LT p O tT mT := fun F0 H0 F H σ Γ n Q s q Q' k => by
  obtain ⟨F1, e1, s1, hn⟩ := s.look i
  refine h F0 H0 F1 H σ Γ n _ s1 q _ fun b F2 H2 n2 s2 g2 q2 => ?_
  obtain ⟨F3, s3, g3⟩ := s.unlook e1 hn s2 g2
  exact k b F3 H2 n2 s3 g3 q2
theorem eLook (i : Nat) {O' : List Nat} (h : RE X p O' e te me) (k : O' = O.filter (· ≠ i)) : RE X p O e te (mLook me) := ⟨h.pe, le_look i (k ▸ h.le)⟩
theorem tLook (i : Nat) {O' : List Nat} (h : RT X p O' e tT mT) (k : O' = O.filter (· ≠ i)) : RT X p O e tT mT := ⟨h.pt, lt_look i (k ▸ h.le)⟩
end
end RR
end
section
namespace RR
open PySem PySem.Spec L2
open PyProof.Rows hiding St
theorem hv_of {A : Around} {k : Nat} (hr : Room k A) : A.units + 65 < cLine := by have := hr.un; omega
theorem hx_of {A : Around} {k : Nat} (hr : Room k A) : A.units + 66 < cLine := by have := hr.un; omega
theorem offs0 {K : PySem.W.Frag} {dr : DrT} {l : List Nat} : ∀ v ∈ l, (Pm.mk K none dr).off v := fun _ _ => off0
theorem offsO0 {K : PySem.W.Frag} {dr : DrT} {l O : List Nat} (h : ∀ v ∈ l, v ∉ O) : ∀ v ∈ l, v ∉ O ∧ (Pm.mk K none dr).off v := fun v hv => ⟨h v hv, off0⟩
theorem offsO1 {K : PySem.W.Frag} {a : Addr} {dr : DrT} {l O : List Nat} (h : ∀ v ∈ l, v ∉ O ∧ 0 ≠ v) : ∀ v ∈ l, v ∉ O ∧ (Pm.mk K (some (a, 0)) dr).off v := fun v hv => ⟨(h v hv).1, off1 (h v hv).2⟩
/-- a constant of the module -/
structure CI (K : PySem.W.Frag) (mg : Str → Option Value) (x : Str) (d : D) (v : V) : Prop where
  ex : ∃ u, mg x = some u ∧ RelV v u
  rp : ∀ F, Rp K F d v
theorem CI.e {X : Cx} {p : Pm} {O : List Nat} {x : Str} {d : D} {v : V} {pos : Pos} (h : CI X.K X.mg x d v) (hg : Gl X x) (hK : p.K = X.K) (hd : (x == ("__debug__" : Str)) = false := by decide) : RE X p O (.Name x pos) (tC v) (mC d) := by
  obtain ⟨u, h1, h2⟩ := h.ex
  exact e_glob hg h1 h2 (fun F => hK ▸ h.rp F) hd
end RR
end
section
namespace RR
open PySem PySem.Spec L2
open PyProof.Rows hiding St
/-- a promise of the law's def -/
abbrev spLaw (K : PySem.W.Frag) : Sp := fun vs H Q _ => ∃ (a : Addr) (ns : List Int), vs = [.ref a] ∧ SqL K H a (ns.map V.int) ∧ ns.length ≤ 63 ∧ ∀ H', Q (.bl true) H'
section
variable {P : Program} {w : World} {K : PySem.W.Frag} {mg mb : Str → Option Value} {k : Nat} {fa a : Addr} {fd : FuncData} {x : Str} {s1 : Shared} {vs : List Value} {ns : List Int}
abbrev Ended (s1 : Shared) : Result → Shared → Prop := fun r s' => r = .ok (.ret (.bool true)) ∧ OldK s1.heap s'.heap ∧ s'.os = s1.os ∧ AllBare s'.gens
/-- .. from an abstract heap that tracks the script at most -/
theorem law_from (KX : K.In s1.heap) (hns : s1.heap.Ns mainGlobals mg) (hb : s1.heap.Ns builtinsNs mb) (hbb : ∀ x : Str, x ≠ "__name__" → mb x = bootBuiltins x) (hlim : s1.heap.NoLimit) (hg : s1.gens = #[])
    (ha : s1.heap.get? a = some { cls := .type "list", data := .seq vs.toArray }) (hl : ns.length ≤ 63) (hr : Room k callerA)
    (hsy : ∃ mm, s1.heap.Ns sysModules mm) (F : ∀ base : Heap, K.In base → base.Ns mainGlobals mg → (∃ mm, base.Ns sysModules mm) → FnG P w K mg base k fa fd [x] (spLaw K)) (hbind : ∀ (s : Shared) (u : Value), BindsTo s fd ⟨[u], []⟩ [(x, u)])
    (H : Hp) (hO : Only H) (hS : SqL K H a (ns.map V.int)) (hok : HOk P w H s1.heap) (hA : ∀ b, H b ≠ none → b = a) (hK : H a ≠ none → K.lookup a = none) :
    codeAny (model P w) callerA (.call (.ref fa) ⟨[.ref a], []⟩) (Ended s1) s1 := by
  have only : ∀ {b : Addr} {u : HO}, H b = some u → b = a := fun e => hA _ fun z => by rw [e] at z; cases z
  have below : ∀ {b : Addr} {m : Str → Option Value}, s1.heap.Ns b m → (hidT s1.heap H).Ns b m := by
    rintro b m ⟨o, es, ep, e, d, r⟩
    refine ⟨o, es, ep, hidT_get e ?_, d, r⟩
    cases q : H b with
    | none => rfl
    | some u =>
      obtain rfl := only q
      rw [ha] at e
      cases e
      exact absurd (show Data.seq vs.toArray _ = Data.dict es ep from d) (by intro z; cases z)
  have kb : K.In (hidT s1.heap H) := by
    intro b o e
    refine hidT_get (KX b o e) ?_
    cases q : H b with
    | none => rfl
    | some u =>
      obtain rfl := only q
      rw [hK (by rw [q]; intro z; cases z)] at e
      cases e
  obtain ⟨mc, c1, c2⟩ := hlim
  have e0 : Env0 P w K mg (hidT s1.heap H) callerA [] s1 H :=
    { frames := rfl, mod := ⟨kb, below hns, ⟨mb, below hb, hbb⟩, ⟨mc, below c1, c2⟩⟩, bs := fun b o e => of_hidT e, bsz := Nat.le_of_eq (hidT_size _ _), funs := trivial, frf := (fun b hb => nomatch hb), hok := hok, bare := .of_eq hg }
  refine codeAny_mono ((F _ kb (below hns) (hsy.elim fun _ z => ⟨_, below z⟩)).run callerA [] s1 H ⟨[.ref a], []⟩ [.ref a] [.ref a] (fun v _ => v = .bl true) (fun _ _ _ => False) hr (fun _ => rfl) e0 (hbind s1 (.ref a)) (.cons rfl .nil) ⟨a, ns, rfl, hS, hl, fun _ => rfl⟩) ?_
  intro r s' h
  match r, h with
  | .ok (.ret u), h =>
    obtain ⟨v, H', os, bare, un, hok', rv, q⟩ := h
    subst q
    cases rv
    refine ⟨rfl, OldK.of_keep fun b o e => ?_, os, bare⟩
    cases q : H b with
    | none => exact un.keep b o e q (fun z => nomatch z) (fun z => nomatch z)
    | some u =>
      rcases hO b with z | ⟨ob, xs, z⟩
      · rw [q] at z; cases z
      · obtain ⟨e1, _⟩ := hok b _ z
        obtain ⟨e2, _⟩ := hok' b _ (un.frzs b ob _ z)
        rw [e] at e1
        cases e1
        exact e2
theorem law_callG (KX : K.In s1.heap) (hns : s1.heap.Ns mainGlobals mg) (hb : s1.heap.Ns builtinsNs mb) (hbb : ∀ x : Str, x ≠ "__name__" → mb x = bootBuiltins x) (hlim : s1.heap.NoLimit) (hg : s1.gens = #[])
    (ha : s1.heap.get? a = some { cls := .type "list", data := .seq vs.toArray }) (hi : IntsAre vs ns) (hl : ns.length ≤ 63) (hr : Room k callerA)
    (hsy : ∃ mm, s1.heap.Ns sysModules mm) (F : ∀ base : Heap, K.In base → base.Ns mainGlobals mg → (∃ mm, base.Ns sysModules mm) → FnG P w K mg base k fa fd [x] (spLaw K)) (hbind : ∀ (s : Shared) (u : Value), BindsTo s fd ⟨[u], []⟩ [(x, u)]) :
    codeAny (model P w) callerA (.call (.ref fa) ⟨[.ref a], []⟩) (Ended s1) s1 := by
  have rv : Vals (ns.map V.int) vs := vals_ints hi
  have ln : (ns.map V.int).length ≤ sizeLine := by rw [List.length_map]; exact lim_line (Nat.le_trans hl (by decide))
  cases hk : K.lookup a with
  | some o =>
    have e := KX a o hk
    rw [ha] at e
    cases e
    refine law_from KX hns hb hbb hlim hg ha hl hr hsy F hbind (fun _ => none) (fun _ => .inl rfl) (.inr ⟨_, vs.toArray, _, hk, rfl, rfl, rfl, ?_, by simpa using rv⟩) (fun b u z => ?_) (fun b z => absurd rfl z) (fun z => absurd rfl z)
    · rw [List.size_toArray, ← rv.length]; exact ln
    · cases (show (none : Option HO) = some u from z)
  | none =>
    let H : Hp := fun b => if b = a then some (.frz { cls := .type "list", data := .seq vs.toArray } (.lst (ns.map V.int))) else none
    have at_a : ∀ {b : Addr} {u : HO}, H b = some u → b = a ∧ u = .frz { cls := .type "list", data := .seq vs.toArray } (.lst (ns.map V.int)) := fun {b u} z => by
      by_cases q : b = a
      · rw [show H b = _ from if_pos q] at z
        cases z
        exact ⟨q, rfl⟩
      · rw [show H b = none from if_neg q] at z
        cases z
    refine law_from KX hns hb hbb hlim hg ha hl hr hsy F hbind H (fun b => ?_) (.inl (.inr ⟨_, if_pos rfl⟩)) (fun b u z => ?_) (fun b z => ?_) (fun _ => hk)
    · by_cases q : b = a
      · exact .inr ⟨_, _, if_pos q⟩
      · exact .inl (if_neg q)
    · obtain ⟨rfl, rfl⟩ := at_a z
      exact ⟨ha, ln, vs, _, rv, ha⟩
    · by_cases q : b = a
      · exact q
      · exact absurd (if_neg q) z
end
theorem walkG {l : PySem.W.OpenLaw} {k : Nat} {q : Program} {loose : List Str} {XP : (Str → Option Value) → Heap → Prop} {YP : World → Heap → Prop} {d : DefRec} {K : Params → PySem.W.Frag} {x : Str}
    (hip : importsNone q = true) (hn : l.most = some 63) (hdf : d.params.defaults = []) (hr : Room k callerA) (hY : ∀ (w : World) (h : Heap), YP w h → (K w.params).In h)
    (F : ∀ (w : World) (mg : Str → Option Value) (fa : Addr) (h : Heap), (K w.params).In h → h.Ns mainGlobals mg → mg d.name = some (.ref fa) →
      ∃ fd : FuncData, (∀ (s : Shared) (u : Value), BindsTo s fd ⟨[u], []⟩ [(x, u)]) ∧ ∀ base : Heap, (K w.params).In base → base.Ns mainGlobals mg → (∃ mm, base.Ns sysModules mm) → FnG l.prog w (K w.params) mg base k fa fd [x] (spLaw (K w.params))) :
    PySem.W.WalkO q loose XP YP l.row.toRowW d [] (fun f vs => PySem.call f vs) :=
  Att.attach_call hn hdf fun w s0 s1 mg mb fa o pm cd doc a vs ns G Y _ _ _ hmg hobj hints hlen hg => by
    obtain ⟨fd, hb, hF⟩ := F w mg fa _ (hY w _ Y) G.T.g hmg
    exact law_callG (hY w _ Y) G.T.g G.T.b G.T.builtins G.T.nolimit hg hobj hints hlen hr (let ⟨mm, z, _⟩ := (G.T.seer hip).mods; ⟨mm, z⟩) hF hb
end RR
end
section
namespace RR
open PySem PySem.Spec L2
open PyProof.Rows hiding St
/-- a draw below an amount -/
def m_take : MF := fun ds n R => ∃ m : Int, ds = [.int m] ∧ 1 ≤ m ∧ m < 1073741824 ∧ n < 1048576 ∧ ∀ x : Int, 0 ≤ x → x < m → R (.int x) (n + 1)
/-- the drawing list is made out of the script -/
def spOpen (K : PySem.W.Frag) : Sp := fun vs H Q _ => ∃ (a : Addr) (ns : List Int), vs = [.ref a] ∧ SqL K H a (ns.map V.int) ∧ ns.length ≤ 63 ∧
  ∀ H' p dr (xs : List Int), H' p = some (.lst [.ref dr, .int 0, .int 0]) → H' dr = some (.lst (xs.map V.int)) → p ≠ dr → Q (.ref p) H'
/-- what a spread cell is: an int from 0 on -/
def SpreadOk (m : MP) : Prop := ∀ (c w : Int) (R : D → Prop), 0 ≤ w → w < 1048576 → (∀ z : Int, 0 ≤ z → R (.int z)) → m [.int c, .int w] R
end RR
end
section
namespace RR
open PySem PySem.Spec L2
open PyProof.Rows hiding St
def compI (g1 : MG) (t1 : MT) (e : ME) (Γ : DEnv) : List D → Nat → List D → (List D → Nat → Prop) → Prop
  | [], n, acc, Q => Q acc n
  | d :: ds, n, acc, Q => g1 d Γ fun Γ2 => t1 Γ2 n fun b n1 => if b = true then e Γ2 n1 fun y n2 => acc.length < lim ∧ compI g1 t1 e Γ ds n2 (acc ++ [y]) Q else compI g1 t1 e Γ ds n1 acc Q
def compO (g : MG) (t : MT) (mi1 : MI) (g1 : MG) (t1 : MT) (e : ME) (vs1 : List Nat) (Γ : DEnv) : List D → Nat → List D → (List D → Nat → Prop) → Prop
  | [], n, acc, Q => Q acc n
  | d :: ds, n, acc, Q => g d Γ fun Γ2 => t Γ2 n fun b n1 => if b = true then mi1 Γ2 n1 fun es n2 => compI g1 t1 e (wipeD Γ2 vs1) es n2 acc fun acc' n3 => compO g t mi1 g1 t1 e vs1 Γ ds n3 acc' Q else compO g t mi1 g1 t1 e vs1 Γ ds n1 acc Q
@[reducible] def mLc2 (mi : MI) (g : MG) (t : MT) (mi1 : MI) (g1 : MG) (t1 : MT) (e : ME) (vs vs1 : List Nat) : ME := fun Γ n Q => mi Γ n fun ds n1 => compO g t mi1 g1 t1 e vs1 (wipeD Γ vs) ds n1 [] fun r n2 => Q (.list r) n2
/-- a target changes its own slots only -/
def KG (is : List Nat) (g : MG) : Prop := ∀ d Γ (Q Q' : DEnv → Prop), (∀ Γ', Q Γ' → (∀ j, j ∉ is → Γ'[j]? = Γ[j]?) → Q' Γ') → g d Γ Q → g d Γ Q'
def KGs (is : List Nat) (u : List D → DEnv → (DEnv → Prop) → Prop) : Prop := ∀ ds Γ (Q Q' : DEnv → Prop), (∀ Γ', Q Γ' → (∀ j, j ∉ is → Γ'[j]? = Γ[j]?) → Q' Γ') → u ds Γ Q → u ds Γ Q'
theorem KG.on {is : List Nat} {g : MG} (h : KG is g) {d : D} {Γ : DEnv} {Q : DEnv → Prop} (q : g d Γ Q) : g d Γ fun Γ' => Q Γ' ∧ ∀ j, j ∉ is → Γ'[j]? = Γ[j]? := h _ _ _ _ (fun _ a b => ⟨a, b⟩) q
theorem kg_name {i : Nat} : KG [i] (mgName i) := fun d Γ Q Q' k q => k _ q fun j hj => List.getElem?_set_ne fun z => hj (by simp [z])
theorem kgs_nil : KGs [] mgNil := fun ds Γ Q Q' k ⟨e, q⟩ => ⟨e, k _ q fun _ _ => rfl⟩
theorem kgs_cons {is js : List Nat} {g : MG} {u : List D → DEnv → (DEnv → Prop) → Prop} (h1 : KG is g) (h2 : KGs js u) : KGs (is ++ js) (mgCons g u) := fun ds Γ Q Q' k ⟨d, r, e, q⟩ =>
  ⟨d, r, e, h1 _ _ _ _ (fun Γ1 q1 a1 => h2 _ _ _ _ (fun Γ2 q2 a2 => k Γ2 q2 fun j hj => (a2 j fun z => hj (List.mem_append_right _ z)).trans (a1 j fun z => hj (List.mem_append_left _ z))) q1) q⟩
theorem kg_tup {is : List Nat} {n : Nat} {u : List D → DEnv → (DEnv → Prop) → Prop} (h : KGs is u) : KG is (mgTup n u) := fun d Γ Q Q' k ⟨ds, e, l, q⟩ => ⟨ds, e, l, h _ _ _ _ k q⟩
section
variable {X : Cx} {p : Pm} {O is is1 vs vs1 : List Nat} {wi wi1 : TI} {mi mi1 : MI} {g g1 : TG} {mg mg1 : MG} {tt tt1 : TT} {mt mt1 : MT} {te : TE} {me : ME}
theorem drop_at {α : Type} {l : List α} {i : Nat} (h : i < l.length) : ∃ d, l[i]? = some d ∧ l.drop i = d :: l.drop (i + 1) := ⟨l[i], by simp [h], by rw [List.drop_eq_getElem_cons h]⟩
/-- what is known of the list that is being made -/
structure Mk2 (p : Pm) (Dd : Addr) (F0 H0 F1 H1 : Hp) (O : List Nat) (σ : St) (Γ : DEnv) (F H : Hp) (n : Nat) (acc : List D) (accV : List V) : Prop where
  g : Gp p F1 H1 F H
  s : Sep p F0 H0 O F H σ Γ n
  f : F Dd = none
  h : H Dd = some (.lst accV)
  r : Rps p.K F acc accV
theorem lf_lc2 (hi : LI p O wi mi) (hg : LG p O is g mg) (kg : KG is mg) (ht : LT p O tt mt) (hi1 : LI p O wi1 mi1) (hg1 : LG p O is1 g1 mg1) (ht1 : LT p O tt1 mt1) (he : LE p O te me) (his : ∀ i ∈ is, i ∈ vs) (hO : ∀ i ∈ is, i ∉ O) (his1 : ∀ i ∈ is1, i ∈ vs1) (hp : ∀ v ∈ vs, p.off v) (hp1 : ∀ v ∈ vs1, p.off v) :
    LF p O (tLc2 wi g tt wi1 g1 tt1 te vs vs1) (mLc2 mi mg mt mi1 mg1 mt1 me vs vs1) := fun F0 H0 F H σ Γ n Q s q Q' k =>
  hi F0 H0 F H σ Γ n _ s q _ fun J ds F1 H1 n1 s1 g1' fd q1 => fun Dd hD => by
    have hD0 : H Dd = none := by
      cases w : H Dd with
      | none => rfl
      | some o => rw [g1'.h Dd o w (s1.h0 hD).2] at hD; cases hD
    have hp0 := (s1.h0 hD).2
    have hH0 := (s1.h0 hD).1
    have hF1 : F1 Dd = none := s1.fh.free hD
    have sl1 : ∀ j ∈ O, ∀ dj, Γ[j]? = some (some dj) → σ[j]? ≠ some (some (.ref Dd)) := fun j hj dj e w => by
      obtain ⟨b, e1, r, _⟩ := s1.ow j hj dj e
      rw [w] at e1
      cases e1
      obtain ⟨o, e2⟩ := r.at
      rw [hD] at e2; cases e2
    have keep : ∀ {F2 H2 F3 H3 : Hp} {n2 n3 : Nat} {σ' : St} {Γ' : DEnv} {acc : List D} {accV : List V}, Mk2 p Dd F0 H0 F1 H1 O σ Γ F2 H2 n2 acc accV → Gp p F2 H2 F3 H3 → Sep p F0 H0 O F3 H3 σ' Γ' n3 → Mk2 p Dd F0 H0 F1 H1 O σ Γ F3 H3 n3 acc accV :=
      fun m g s' => ⟨m.g.trans g, m.s.back s' g, g.none m.f m.h hp0, g.h _ _ m.h hp0, m.r.mono g.f⟩
    refine ⟨fun i m H => m = ds.length - i ∧ i ≤ ds.length ∧ ∃ F n acc accV, Mk2 p Dd F0 H0 F1 H1 O σ Γ F H n acc accV ∧ compO mg mt mi1 mg1 mt1 me vs1 (wipeD Γ vs) (ds.drop i) n acc (fun r n' => Q (.list r) n'),
      ⟨ds.length, by simp, Nat.zero_le _, F1, n1, [], [], ⟨(Gr.new0 s1.fh hD _).gp, s1.gr (Gr.new0 s1.fh hD _), hF1, upd_same, .nil⟩, by simpa using q1⟩, ?_⟩
    rintro i m H2 ⟨rfl, hi', F2, n2, acc, accV, m2, c2⟩
    by_cases hlt : i < ds.length
    · obtain ⟨d, hd, hdr⟩ := drop_at hlt
      obtain ⟨go, yl⟩ := fd.go i d F2 H2 hd m2.g.f m2.s.fh
      rw [hdr] at c2
      refine .inr ⟨go, fun H => ∃ F n acc accV, Mk2 p Dd F0 H0 F1 H1 O σ Γ F H n acc accV ∧ compO mg mt mi1 mg1 mt1 me vs1 (wipeD Γ vs) (ds.drop (i + 1)) n acc (fun r n' => Q (.list r) n'),
        fun H' w => ⟨ds.length - (i + 1), by omega, rfl, hlt, w⟩, fun x H3 y => ?_⟩
      obtain ⟨F3, g3, r3⟩ := yl x H3 y
      have s3 := m2.s.gr g3
      refine hg F0 H0 F3 H3 _ _ n2 d x (s3.wipe hp) r3 _ _ (kg.on c2) fun σ4 Γ4 s4 a4 ⟨q4, b4⟩ => ?_
      refine ⟨wipe_agree a4 his, ?_⟩
      have sl4 : ∀ j ∈ O, ∀ dj, Γ4[j]? = some (some dj) → σ4[j]? ≠ some (some (.ref Dd)) := fun j hj dj e => by
        have nj : j ∉ is := fun z => hO j z hj
        rw [b4 j nj, wipeD_at] at e
        rw [a4.2 j nj, wipe_at]
        by_cases z : j ∈ vs
        · rw [if_pos z] at e
          split at e <;> cases e
        · rw [if_neg z] at e ⊢
          exact sl1 j hj dj e
      refine ht F0 H0 F3 H3 σ4 Γ4 n2 _ s4 q4 _ fun b F5 H5 n5 s5 g5 q5 => ?_
      have g25 : Gp p F2 H2 F5 H5 := g3.gp.trans g5
      cases b with
      | false =>
        rw [if_neg (by decide)] at q5 ⊢
        exact ⟨F5, n5, acc, accV, keep m2 g25 s5, q5⟩
      | true =>
        rw [if_pos rfl] at q5 ⊢
        refine hi1 F0 H0 F5 H5 σ4 Γ4 n5 _ s5 q5 _ fun J1 es F6 H6 n6 s6 g6 fd1 q6 => ?_
        have g26 : Gp p F2 H2 F6 H6 := g25.trans g6
        refine ⟨fun j m H => m = es.length - j ∧ j ≤ es.length ∧ ∃ F n acc accV, Mk2 p Dd F0 H0 F1 H1 O σ Γ F H n acc accV ∧ Sep p F0 H0 O F H σ4 Γ4 n ∧ Same F6 F ∧ compI mg1 mt1 me (wipeD Γ4 vs1) (es.drop j) n acc (fun r n' => compO mg mt mi1 mg1 mt1 me vs1 (wipeD Γ vs) (ds.drop (i + 1)) n' r (fun r n' => Q (.list r) n')),
          ⟨es.length, by simp, Nat.zero_le _, F6, n6, acc, accV, keep m2 g26 s6, s6, .refl _, by simpa using q6⟩, ?_⟩
        rintro j m7 H7 ⟨rfl, hj', F7, n7, acc7, accV7, m7', s7, sm7, c7⟩
        by_cases hlt1 : j < es.length
        · obtain ⟨d1, hd1, hdr1⟩ := drop_at hlt1
          obtain ⟨go1, yl1⟩ := fd1.go j d1 F7 H7 hd1 sm7 s7.fh
          rw [hdr1] at c7
          refine .inr ⟨go1, fun H => ∃ F n acc accV, Mk2 p Dd F0 H0 F1 H1 O σ Γ F H n acc accV ∧ Sep p F0 H0 O F H σ4 Γ4 n ∧ Same F6 F ∧ compI mg1 mt1 me (wipeD Γ4 vs1) (es.drop (j + 1)) n acc (fun r n' => compO mg mt mi1 mg1 mt1 me vs1 (wipeD Γ vs) (ds.drop (i + 1)) n' r (fun r n' => Q (.list r) n')),
            fun H' w => ⟨es.length - (j + 1), by omega, rfl, hlt1, w⟩, fun x8 H8 y8 => ?_⟩
          obtain ⟨F8, g8, r8⟩ := yl1 x8 H8 y8
          have s8 := s7.gr g8
          refine hg1 F0 H0 F8 H8 _ _ n7 d1 x8 (s8.wipe hp1) r8 _ _ c7 fun σ9 Γ9 s9 a9 q9 => ?_
          refine ⟨wipe_agree a9 his1, ?_⟩
          refine ht1 F0 H0 F8 H8 σ9 Γ9 n7 _ s9 q9 _ fun b F10 H10 n10 s10 g10 q10 => ?_
          have g710 : Gp p F7 H7 F10 H10 := g8.gp.trans g10
          cases b with
          | false =>
            rw [if_neg (by decide)] at q10 ⊢
            exact ⟨F10, n10, acc7, accV7, keep m7' g710 s10, s7.back s10 g710, sm7.trans g710.f, q10⟩
          | true =>
            rw [if_pos rfl] at q10 ⊢
            refine he F0 H0 F10 H10 σ9 Γ9 n10 _ s10 q10 _ fun y v F11 H11 n11 s11 g11 r11 ⟨hl, q11⟩ => ?_
            have g711 := g710.trans g11
            have m11 := keep m7' g711 s11
            refine ⟨accV7, m11.h, by rw [m11.r.len]; exact lim_lt (by omega), F11, n11, acc7 ++ [y], accV7 ++ [v], ⟨?_, m11.s.poke m11.f hH0 hp0 sl1, m11.f, upd_same, m11.r.append (.cons r11 .nil)⟩, (s7.back s11 g711).poke m11.f hH0 hp0 sl4, sm7.trans g711.f, q11⟩
            refine ⟨m11.g.f, fun a o e hp => ?_, m11.g.new⟩
            rw [upd_ne fun z => by rw [z, hD] at e; cases e]
            exact m11.g.h a o e hp
        · have e : j = es.length := by omega
          subst e
          rw [List.drop_length] at c7
          exact .inl ⟨fd1.stop F7 H7 sm7 s7.fh, F7, n7, acc7, accV7, m7', c7⟩
    · have e : i = ds.length := by omega
      subst e
      rw [List.drop_length] at c2
      exact .inl ⟨fd.stop F2 H2 m2.g.f m2.s.fh, k (.list acc) Dd F2 H2 n2 m2.s (g1'.trans m2.g) (.lst m2.h m2.r) m2.f hD0 c2⟩
end
end RR
end
section
namespace RR
open PySem PySem.Spec L2
open PyProof.Rows hiding St
structure RTs (X : Cx) (p : Pm) (O : List Nat) (es : List Expr) (t : TT) (m : MT) : Prop where
  pt : PTs X es t
  le : LT p O t m
section
variable {X : Cx} {p : Pm} {O Ob is is1 vs1 : List Nat} {wi wi1 : TI} {mi mi1 : MI} {g g1 : TG} {mg mg1 : MG} {tt tt1 : TT} {mt mt1 : MT} {te : TE} {me : ME} {tg iter tg1 iter1 elt c : Expr} {ifs ifs1 : List Expr} {pos spos q : Pos}
theorem rts_nil : RTs X p O [] tYes mYes := ⟨pts_nil, lt_yes⟩
theorem fLc2 {scope : Scope} {own : List (Str × Nat)} (vs1 : List Nat) (hc : X.calm = true) (hN : X.N.Nodup) (hi : RI X p O tg iter wi mi) (ok : BlkOk X.N X.env.scope scope own) (hv : ∀ i ∈ vs1, i ∈ own.map (·.2)) (kg : KG is mg)
    (hg : ∀ (s : Shared) (H : Hp) (C : Addr) (cl : List (Str × Addr)) (fp : List Addr), RG (X.blk s H scope (compEnvC scope cl C X.env) fp) p O is tg g mg) (ht : ∀ (s : Shared) (H : Hp) (C : Addr) (cl : List (Str × Addr)) (fp : List Addr), RTs (X.blk s H scope (compEnvC scope cl C X.env) fp) p O ifs tt mt)
    (hi1 : ∀ (s : Shared) (H : Hp) (C : Addr) (cl : List (Str × Addr)) (fp : List Addr), RI (X.blk s H scope (compEnvC scope cl C X.env) fp) p O tg1 iter1 wi1 mi1)
    (hg1 : ∀ (s : Shared) (H : Hp) (C : Addr) (cl : List (Str × Addr)) (fp : List Addr), RG (X.blk s H scope (compEnvC scope cl C X.env) fp) p O is1 tg1 g1 mg1) (ht1 : ∀ (s : Shared) (H : Hp) (C : Addr) (cl : List (Str × Addr)) (fp : List Addr), RTs (X.blk s H scope (compEnvC scope cl C X.env) fp) p O ifs1 tt1 mt1)
    (he : ∀ (s : Shared) (H : Hp) (C : Addr) (cl : List (Str × Addr)) (fp : List Addr), RE (X.blk s H scope (compEnvC scope cl C X.env) fp) p O elt te me)
    (his : ∀ i ∈ is, i ∈ own.map (·.2)) (hO : ∀ i ∈ is, i ∉ O) (his1 : ∀ i ∈ is1, i ∈ vs1) (hp : ∀ v ∈ own.map (·.2), p.off v) (hs : ∀ x, foldedSetIterable iter X.env x = pure x := by intro _; rfl) (hs1 : ∀ (env : Env) x, foldedSetIterable iter1 env x = pure x := by intro _ _; rfl) :
    RF X p O (.ListComp elt [⟨tg, iter, ifs, 0⟩, ⟨tg1, iter1, ifs1, 0⟩] scope pos) (tLc2 wi g tt wi1 g1 tt1 te (own.map (·.2)) vs1) (mLc2 mi mg mt mi1 mg1 mt1 me (own.map (·.2)) vs1) :=
  ⟨pe_lc2 hc hN hi.pi ok hv (fun s H C cl fp => (hg s H C cl fp).pg) (fun s H C cl fp => (ht s H C cl fp).pt) (fun s H C cl fp => (hi1 s H C cl fp).pi) (fun s H C cl fp => (hg1 s H C cl fp).pg) (fun s H C cl fp => (ht1 s H C cl fp).pt) (fun s H C cl fp => (he s H C cl fp).pe) hs hs1,
    lf_lc2 hi.le (hg X.s_0 X.H_0 0 [] []).le kg (ht X.s_0 X.H_0 0 [] []).le (hi1 X.s_0 X.H_0 0 [] []).le (hg1 X.s_0 X.H_0 0 [] []).le (ht1 X.s_0 X.H_0 0 [] []).le (he X.s_0 X.H_0 0 [] []).le his hO his1 hp fun v h => hp v (hv v h)⟩
end
end RR
end
section
namespace RR
open PySem PySem.Spec L2
open PyProof.Rows hiding St
/-- a promise that is asked nowhere -/
theorem FnG.never {P : Program} {w : World} {K : PySem.W.Frag} {mg : Str → Option Value} {base : Heap} {k : Nat} {f : Addr} {fd : FuncData} {ps : List Str} : FnG P w K mg base k f fd ps (spF K fun _ _ => False) :=
  ⟨fun vs H Q E ⟨_, _, _, _, _, q, _⟩ => q.elim, fun A o s H a us vs Q E _ _ _ _ _ ⟨_, _, _, _, _, q, _⟩ => q.elim⟩
end RR
end
section
namespace RR
open PySem PySem.Spec L2
open PyProof.Rows hiding St
theorem rd_new {H : Hp} {a p : Addr} {o u : HO} (h : Rd H a o) (hp : H p = none) : Rd (upd H p u) a o := by
  have ne : ∀ {x : HO}, H a = some x → a ≠ p := fun e z => by rw [z, hp] at e; cases e
  rcases h with h | ⟨ob, h⟩
  · exact .inl (by rw [upd_ne (ne h)]; exact h)
  · exact .inr ⟨ob, by rw [upd_ne (ne h)]; exact h⟩
theorem sql_new {K : PySem.W.Frag} {H : Hp} {a p : Addr} {xs : List V} {u : HO} (h : SqL K H a xs) (hp : H p = none) : SqL K (upd H p u) a xs := h.imp (fun r => rd_new r hp) id
theorem cut_int (ns : List Int) (lo hi : Option Int) : ∃ ms : List Int, cutV (ns.map V.int) lo hi = ms.map V.int := by
  unfold cutV
  exact ⟨_, by rw [← List.map_drop, ← List.map_take]⟩
theorem cut_low (ns : List Int) : (cutV (ns.map V.int) none (some 12)).length = min 12 ns.length := by
  unfold cutV
  have h1 : HT.sIx (ns.map V.int).length 0 none = 0 := by simp [HT.sIx]
  have h2 : HT.sIx (ns.map V.int).length (ns.map V.int).length (some 12) = min 12 ns.length := by simp [HT.sIx]
  rw [h1, h2]; simp
theorem cut_high (ns : List Int) (h : (cutV (ns.map V.int) (some 12) (some 63)).length ≠ 0) : 12 < ns.length := by
  apply Classical.byContradiction
  intro hn
  apply h
  unfold cutV
  have h1 : HT.sIx (ns.map V.int).length 0 (some 12) = min 12 ns.length := by simp [HT.sIx]
  rw [h1, List.length_take, List.length_drop, List.length_map]
  omega
end RR
end
section
namespace RR
open PySem PySem.Spec L2
open PyProof.Rows hiding St
theorem offp {K : PySem.W.Frag} {a : Addr} {dr : DrT} {s i : Nat} (h : s ≠ i) : (Pm.mk K (some (a, s)) dr).off i := fun _ _ e => by cases e; exact h
theorem offsp {K : PySem.W.Frag} {a : Addr} {dr : DrT} {s : Nat} {l : List Nat} (h : ∀ v ∈ l, s ≠ v) : ∀ v ∈ l, (Pm.mk K (some (a, s)) dr).off v := fun v hv => offp (h v hv)
theorem offsOp {K : PySem.W.Frag} {a : Addr} {dr : DrT} {s : Nat} {l O : List Nat} (h : ∀ v ∈ l, v ∉ O ∧ s ≠ v) : ∀ v ∈ l, v ∉ O ∧ (Pm.mk K (some (a, s)) dr).off v := fun v hv => ⟨(h v hv).1, offp (h v hv).2⟩
theorem pss_ex {X : Cx} {sts : List Stmt} {ι : Type} {t : ι → TS} (h : ∀ x, PSs X sts (t x)) : PSs X sts fun D σ H => ∃ x, t x D σ H := ⟨fun pins s σ H D I ⟨x, q⟩ => (h x).run pins s σ H D I q⟩
/-- the law holds: what it returns is True -/
@[reducible] def mTrue : EndsD := { nx := fun _ _ => False, rt := fun d _ => d = .bool true }
section
variable {P : Program} {w : World} {K : PySem.W.Frag} {mg : Str → Option Value} {base : Heap}
theorem FnG.law {x qual : Str} {st : Stmt} {f : Addr} {fd : FuncData} {N : List Str} {x0 : Str} {k : Nat} {mb : MS} (i : Nat) (F : Fun K x qual st f fd) (S : FnScope N [x0] (defScope st)) (hi : 0 < i ∧ i < N.length) (st1 : Stmt) (rest : List Stmt) (hst : defBody st = st1 :: rest)
    (body : ∀ (cdv : Value) (A : Around) (outer : List Env) (s : Shared) (H : Hp) (E : XK), Room k (A.deeper (envOfC qual (defScope st) s.heap.objs.size f cdv)) → GB (k + 1) A →
      PS (bodyCx P w K mg base N qual (defScope st) f cdv A outer s H E) st1 (tAsg (tCall (spOpen K) [] E0 (tCons (tVar 0) tNil)) (gName i)) ∧
      ∀ a dr, ∃ t O', RSs (bodyCx P w K mg base N qual (defScope st) f cdv A outer s H E) ⟨K, some (a, i), ⟨dr, []⟩⟩ [] [] O' rest t mb)
    (h : mb mTrue (List.replicate N.length none) 0) : FnG P w K mg base (k + 1) f fd [x0] (spLaw K) := by
  refine FnG.mk' F S (fun vs H Q E ⟨a, ns, e, _⟩ => by rw [e]; rfl) fun cdv A outer s H vs Q E hr hg ⟨a, ns, e, hs, hl, fin⟩ => ?_
  subst e
  obtain ⟨h1, h2⟩ := body cdv A outer s H E hr hg
  let t : Addr × Addr → TS := fun q => Classical.choose (h2 q.1 q.2)
  have ht : ∀ q : Addr × Addr, ∃ O', RSs (bodyCx P w K mg base N qual (defScope st) f cdv A outer s H E) ⟨K, some (q.1, i), ⟨q.2, []⟩⟩ [] [] O' rest (t q) mb := fun q => Classical.choose_spec (h2 q.1 q.2)
  refine ⟨_, hst ▸ pss_cons h1 (pss_ex fun q => (ht q).elim fun _ z => z.ps), ?_⟩
  have hlen : (start N [V.ref a]).length = N.length := by unfold L2.start; simp; omega
  refine ⟨.ref a, start_get (vs := [V.ref a]) (i := 0) (show 0 < 1 from Nat.one_pos), a, ns, rfl, hs, hl, fun H' b dr xs hb hdr hne => ⟨(b, dr), ?_⟩⟩
  obtain ⟨O', B⟩ := ht (b, dr)
  let F1 : Hp := fun c => if c = dr then some (.lst (xs.map V.int)) else none
  have f1 : ∀ {c : Addr} {o : HO}, F1 c = some o → c = dr ∧ o = .lst (xs.map V.int) := fun {c o} e => by
    by_cases z : c = dr
    · rw [show F1 c = _ from if_pos z] at e; cases e; exact ⟨z, rfl⟩
    · rw [show F1 c = none from if_neg z] at e; cases e
  have sp : Sep ⟨K, some (b, i), ⟨dr, []⟩⟩ F1 (fun _ => none) [] F1 H' ((start N [V.ref a]).set i (some (.ref b))) (List.replicate N.length none) 0 := by
    refine ⟨.refl _, fun c o e => ?_, fun c o e => (nomatch e), fun c o e => .inl e, fun c j e => ?_, by rw [List.length_set, hlen, List.length_replicate], fun j d _ e => ?_, fun j hj => (nomatch hj), fun j hj => (nomatch hj)⟩
    · obtain ⟨rfl, rfl⟩ := f1 e; exact hdr
    · cases e
      refine ⟨if_neg hne, ?_, ⟨0, 0, xs, hb, if_pos rfl, Int.le_refl _, Int.le_refl _, Int.le_refl _⟩, .nil⟩
      rw [set_at, if_pos rfl, if_pos (by rw [hlen]; exact hi.2)]
    · rw [List.getElem?_replicate] at e
      split at e <;> cases e
  exact B.le F1 (fun _ => none) F1 H' _ _ 0 mTrue sp h _ (fun _ _ _ _ _ _ _ z => z.elim) (fun d v F' H'' n' _ r z => by subst z; cases r; exact fin _) (fun _ _ _ _ _ _ _ z => z.elim) (fun _ _ _ _ _ _ _ z => z.elim)
end
end RR
end
section
namespace RR
open PySem PySem.Spec L2
open PyProof.Rows hiding St
/-- one def as the head finds it -/
theorem fd_mk {K : PySem.W.Frag} {h : Heap} {mg : Str → Option Value} {x : Str} {st : Stmt} {ps : List Str} {f : Addr} {oc : Value} {od an : Option Addr} {sl : Array (Option Value)} {kV doc pm cdv ct : Value} (X : K.In h) (G : h.Ns mainGlobals mg)
    (a : PySem.W.nsIn K mainGlobals x = some (some (.ref f))) (l : K.lookup f = some ⟨oc, od, .func (PySem.W.fnOf x x (defArgs st) (defBody st) (defScope st) .none kV doc pm an cdv ct), sl⟩) (c : PySem.W.codeIn K cdv x = true) (k : PySem.W.keepIn K (.ref f) = true)
    (hb : ∀ (kV doc pm : Value) (an : Option Addr) (cdv ct : Value) (us : List Value), us.length = ps.length → bindArgs (PySem.W.fnOf x x (defArgs st) (defBody st) (defScope st) .none kV doc pm an cdv ct) { pos := us } = pure (ps.zip us)) : FD K mg x st ps :=
  have F := fun_mk (st := st) l c k
  ⟨f, _, F, PySem.W.mg_of X G a, F.binds hb⟩
/-- a number of the module -/
theorem ci_int {K : PySem.W.Frag} {h : Heap} {mg : Str → Option Value} {x : Str} {i : Int} {u : Value} (X : K.In h) (G : h.Ns mainGlobals mg) (a : PySem.W.nsIn K mainGlobals x = some (some u)) (r : RelV (.int i) u) : CI K mg x (.int i) (.int i) :=
  ⟨⟨_, PySem.W.mg_of X G a, r⟩, fun F => .int i⟩
/-- a tuple of the module, as the head finds it, its items told one by one -/
theorem rp_tup {K : PySem.W.Frag} {f : Addr} {ds : List D} {xs : List V} {od : Option Addr} {its : Array Value} {n : Nat} {sl : Array (Option Value)} (l : K.lookup f = some ⟨.type "tuple", od, .seq its n, sl⟩) (z : its.size ≤ sizeLine) (v : Vals xs its.toList) (F : Hp) (r : Rps K F ds xs) : Rp K F (.tuple ds) (.ref f) :=
  .of_tup (.inr ⟨_, its, n, l, rfl, rfl, z, v⟩) r
theorem ci_ref {K : PySem.W.Frag} {h : Heap} {mg : Str → Option Value} {x : Str} {f : Addr} {d : D} (X : K.In h) (G : h.Ns mainGlobals mg) (a : PySem.W.nsIn K mainGlobals x = some (some (.ref f))) (r : ∀ F : Hp, Rp K F d (.ref f)) : CI K mg x d (.ref f) :=
  ⟨⟨_, PySem.W.mg_of X G a, rfl⟩, r⟩
theorem ci_tup {K : PySem.W.Frag} {h : Heap} {mg : Str → Option Value} {x : Str} {f : Addr} {ds : List D} {xs : List V} {od : Option Addr} {its : Array Value} {n : Nat} {sl : Array (Option Value)} (X : K.In h) (G : h.Ns mainGlobals mg) (a : PySem.W.nsIn K mainGlobals x = some (some (.ref f))) (l : K.lookup f = some ⟨.type "tuple", od, .seq its n, sl⟩) (z : its.size ≤ sizeLine) (r : ∀ F : Hp, Rps K F ds xs) (v : Vals xs its.toList) : CI K mg x (.tuple ds) (.ref f) :=
  ci_ref X G a fun F => rp_tup l z v F (r F)
end RR
end
section
namespace RR
open PySem PySem.Spec L2
open PyProof.Rows hiding St
structure DK (K : PySem.W.Frag) (w : World) (mg : Str → Option Value) (x : Str) (kvs : List (D × D)) (a : Addr) : Prop where
  nm : mg x = some (.ref a)
  kd : ∃ es n, KDict K w a es n
  at_ : ∀ z d, dLook kvs (.str z) = some d → ∃ u v, PySem.W.nsIn K a z = some (some u) ∧ RelV v u ∧ ∀ F, Rp K F d v
  no : ∀ z, dLook kvs (.str z) = none → PySem.W.nsIn K a z = some none
def kIn (kvs : List (D × D)) : D → Option D
  | .str z => some (.bool (dLook kvs (.str z)).isSome)
  | _ => none
def kNin (kvs : List (D × D)) : D → Option D
  | .str z => some (.bool (!(dLook kvs (.str z)).isSome))
  | _ => none
def kIx (kvs : List (D × D)) : D → Option D
  | .str z => dLook kvs (.str z)
  | _ => none
section
variable {X : Cx} {p : Pm} {O : List Nat} {e : Expr} {te : TE} {me : ME} {pos q : Pos} {x : Str} {kvs : List (D × D)} {a : Addr}
theorem DK.pe (h : DK X.K X.w X.mg x kvs a) (hg : Gl X x) (hd : (x == ("__debug__" : Str)) = false := by decide) : PE X (.Name x q) (tC (.ref a)) := pe_glob hg h.nm rfl hd
theorem DK.some_of (h : DK X.K X.w X.mg x kvs a) (z : Str) : ∃ r, PySem.W.nsIn X.K a z = some r ∧ r.isSome = (dLook kvs (.str z)).isSome := by
  cases e : dLook kvs (.str z) with
  | none => exact ⟨_, h.no z e, rfl⟩
  | some d =>
    obtain ⟨u, v, e1, _⟩ := h.at_ z d e
    exact ⟨_, e1, rfl⟩
theorem e_ninK (h : DK X.K X.w X.mg x kvs a) (hK : p.K = X.K) (hg : Gl X x) (he : RE X p O e te me) (hd : (x == ("__debug__" : Str)) = false := by decide) (hm : behindInMarks .NotIn (.Name x q) = false := by with_unfolding_all rfl) :
    RE X p O (.Compare e [.NotIn] [.Name x q] pos) (tUn (fun x H Q => ∃ z r, x = V.str z ∧ V.ref a = V.ref a ∧ PySem.W.nsIn X.K a z = some r ∧ Q (V.bl !r.isSome) H) te) (mUn (kNin kvs) me) := by
  obtain ⟨es, n, D0⟩ := h.kd
  refine ⟨pe_cmpR (op_notIn_kd D0) he.pe (h.pe hg hd) hm, le_un (fun F H x dx d s rx fe Q' k => ?_) he.le⟩
  unfold kNin at fe
  split at fe
  · cases fe
    rename_i z
    obtain ⟨r, e1, e2⟩ := h.some_of z
    exact ⟨z, r, rx.str_inv, rfl, e1, e2 ▸ k _ F H (.refl s) (.bl _)⟩
  · cases fe
theorem e_ixK (h : DK X.K X.w X.mg x kvs a) (hK : p.K = X.K) (hg : Gl X x) (he : RE X p O e te me) (hs : PlainIx e) (hd : (x == ("__debug__" : Str)) = false := by decide) :
    RE X p O (.Subscript (.Name x q) e pos) (tUn (fun y H Q => L2.rIxD X.K X.w (.ref a) y H Q) te) (mUn (kIx kvs) me) := by
  obtain ⟨es, n, D0⟩ := h.kd
  refine ⟨pe_ix ix_kdict (h.pe hg hd) he.pe hs, le_un (fun F H x dx d s rx fe Q' k => ?_) he.le⟩
  unfold kIx at fe
  split at fe
  · rename_i z
    obtain ⟨u, v, e1, e2, e3⟩ := h.at_ z d fe
    exact ⟨a, z, v, rfl, rx.str_inv, ⟨es, n, u, D0.at_, D0.lit, e1, e2⟩, k v F H (.refl s) (hK ▸ e3 F)⟩
  · cases fe
theorem t_ninK (h : DK X.K X.w X.mg x kvs a) (hK : p.K = X.K) (hg : Gl X x) (he : RE X p O e te me) (hd : (x == ("__debug__" : Str)) = false := by decide) (hm : behindInMarks .NotIn (.Name x q) = false := by with_unfolding_all rfl) :
    RT X p O (.Compare e [.NotIn] [.Name x q] pos) (tTest (tUn (fun x H Q => ∃ z r, x = V.str z ∧ V.ref a = V.ref a ∧ PySem.W.nsIn X.K a z = some r ∧ Q (V.bl !r.isSome) H) te)) (mTest (mUn (kNin kvs) me)) :=
  ⟨h.kd.elim fun _ z => z.elim fun _ D0 => pt_cmpR (op_notIn_kd D0) he.pe (h.pe hg hd) hm, lt_test (e_ninK (pos := pos) (q := q) h hK hg he hd hm).le⟩
end
end RR
end
section
namespace RR
open PySem PySem.Spec L2
open PyProof.Rows hiding St
inductive EsRel (K : PySem.W.Frag) : List (D × D) → List DictEntry → Prop
  | nil : EsRel K [] []
  | cons {z : Str} {t : Nat} {hs : Int} {u : Value} {v : V} {d : D} {kvs : List (D × D)} {es : List DictEntry} : RelV v u → (∀ F, Rp K F d v) → EsRel K kvs es → EsRel K ((.str z, d) :: kvs) (⟨hs, .str z t, u⟩ :: es)
theorem isStr_str (z y : Str) (t : Nat) : (Value.str z t).isStr y = decide (z = y) := by
  show (z == y) = decide (z = y)
  by_cases e : z = y
  · subst e; simp
  · rw [decide_eq_false e]; simp [e]
theorem eqv_str (z y : Str) : PyData.eqv (.str z) (.str y) = decide (z = y) := by
  simp only [PyData.eqv]
  by_cases e : z = y
  · subst e; simp
  · rw [decide_eq_false e]; simp [e]
theorem EsRel.look {K : PySem.W.Frag} {kvs : List (D × D)} {es : List DictEntry} (h : EsRel K kvs es) (z : Str) :
    (∀ d, dLook kvs (.str z) = some d → ∃ e v, es.find? (fun x => x.key.isStr z) = some e ∧ RelV v e.val ∧ ∀ F, Rp K F d v) ∧ (dLook kvs (.str z) = none → es.find? (fun x => x.key.isStr z) = none) ∧ es.any (fun x => x.refKey) = false := by
  induction h with
  | nil => exact ⟨fun d e => (by cases e), fun _ => rfl, rfl⟩
  | @cons y t hs u v d kvs es r q h ih =>
    obtain ⟨i1, i2, i3⟩ := ih
    unfold dLook at i1 i2 ⊢
    by_cases e : y = z
    · refine ⟨fun d' w => ?_, fun w => ?_, ?_⟩
      · rw [List.find?_cons_of_pos (by rw [eqv_str]; exact decide_eq_true e)] at w
        cases w
        exact ⟨_, v, List.find?_cons_of_pos (by rw [isStr_str]; exact decide_eq_true e), r, q⟩
      · rw [List.find?_cons_of_pos (by rw [eqv_str]; exact decide_eq_true e)] at w
        cases w
      · rw [List.any_cons, i3]; rfl
    · refine ⟨fun d' w => ?_, fun w => ?_, ?_⟩
      · rw [List.find?_cons_of_neg (by rw [eqv_str, decide_eq_false e]; decide)] at w
        rw [List.find?_cons_of_neg (by rw [isStr_str, decide_eq_false e]; decide)]
        exact i1 d' w
      · rw [List.find?_cons_of_neg (by rw [eqv_str, decide_eq_false e]; decide)] at w
        rw [List.find?_cons_of_neg (by rw [isStr_str, decide_eq_false e]; decide)]
        exact i2 w
      · rw [List.any_cons, i3]; rfl
theorem dk_mk {K : PySem.W.Frag} {w : World} {h : Heap} {mg : Str → Option Value} {x : Str} {a : Addr} {kvs : List (D × D)} {es : Array DictEntry} {n : Nat} (X : K.In h) (G : h.Ns mainGlobals mg) (nm : PySem.W.nsIn K mainGlobals x = some (some (.ref a))) (l : K.lookup a = some { cls := .type "dict", data := .dict es n }) (lit : PySem.W.KeysLit w.params es.toList) (low : (a == sysModules) = false)
    (r : EsRel K kvs es.toList) : DK K w mg x kvs a := by
  refine ⟨PySem.W.mg_of X G nm, ⟨es, n, l, lit, low⟩, fun z d e => ?_, fun z e => ?_⟩
  · obtain ⟨en, v, e1, e2, e3⟩ := (r.look z).1 d e
    refine ⟨en.val, v, ?_, e2, e3⟩
    unfold PySem.W.nsIn
    rw [l]
    simp only [e1]
  · have e1 := (r.look z).2.1 e
    have e2 := (r.look z).2.2
    unfold PySem.W.nsIn
    rw [l]
    simp only [e1, e2]
    rfl
end RR
end
section
namespace RR
open PySem PySem.Spec L2
open PyProof.Rows hiding St
/-- the law's def as the head finds it, its promise told of any base: what walkG asks -/
theorem fin_mk {l : PySem.W.OpenLaw} {w : World} {K : PySem.W.Frag} {h : Heap} {mg : Str → Option Value} {fa f : Addr} {st : Stmt} {k : Nat} {oc : Value} {od an : Option Addr} {sl : Array (Option Value)} {kV doc pm cdv ct : Value} (X : K.In h) (G : h.Ns mainGlobals mg) (hfa : mg "law" = some (.ref fa))
    (a : PySem.W.nsIn K mainGlobals "law" = some (some (.ref f))) (lk : K.lookup f = some ⟨oc, od, .func (PySem.W.fnOf "law" "law" (defArgs st) (defBody st) (defScope st) .none kV doc pm an cdv ct), sl⟩) (c : PySem.W.codeIn K cdv "law" = true) (kp : PySem.W.keepIn K (.ref f) = true)
    (hb : ∀ (s : Shared) (v : Value), BindsTo s (PySem.W.fnOf "law" "law" (defArgs st) (defBody st) (defScope st) .none kV doc pm an cdv ct) ⟨[v], []⟩ [("script", v)])
    (hF : ∀ (base : Heap) (fd : FuncData), (∃ mm, base.Ns sysModules mm) → Fun K "law" "law" st f fd → FnG l.prog w K mg base k f fd ["script"] (spLaw K)) :
    ∃ fd : FuncData, (∀ (s : Shared) (v : Value), BindsTo s fd ⟨[v], []⟩ [("script", v)]) ∧ ∀ base : Heap, K.In base → base.Ns mainGlobals mg → (∃ mm, base.Ns sysModules mm) → FnG l.prog w K mg base k fa fd ["script"] (spLaw K) := by
  have e := hfa.symm.trans (PySem.W.mg_of X G a)
  cases e
  exact ⟨_, hb, fun base _ _ sy => hF base _ sy (fun_mk (st := st) lk c kp)⟩
end RR
end
section
namespace RR
open PySem PySem.Spec L2
open PyProof.Rows hiding St
section
variable {K : PySem.W.Frag} {d : D} {v : V} {ds : List D} {xs : List V}
theorem rq_int {i : Int} : ∀ F : Hp, Rp K F (.int i) (.int i) := fun _ => .int i
theorem rq_str {x : Str} : ∀ F : Hp, Rp K F (.str x) (.str x) := fun _ => .str x
theorem rqs_nil : ∀ F : Hp, Rps K F [] [] := fun _ => .nil
theorem rqs_cons (h : ∀ F : Hp, Rp K F d v) (t : ∀ F : Hp, Rps K F ds xs) : ∀ F : Hp, Rps K F (d :: ds) (v :: xs) := fun F => .cons (h F) (t F)
theorem rq_tup {f : Addr} {od : Option Addr} {its : Array Value} {n : Nat} {sl : Array (Option Value)} (l : K.lookup f = some ⟨.type "tuple", od, .seq its n, sl⟩) (z : its.size ≤ sizeLine) (r : ∀ F : Hp, Rps K F ds xs) (v : Vals xs its.toList) : ∀ F : Hp, Rp K F (.tuple ds) (.ref f) := fun F => rp_tup l z v F (r F)
end
end RR
end
section
namespace RR
open PySem PySem.Spec L2
open PyProof.Rows hiding St
open PySem.W (alike dataLt minD maxD)
def permL {α : Type} (is : List Nat) (xs : List α) : List α := is.filterMap fun i => xs[i]?
theorem permL_vals {is : List Nat} {vs : List V} {us : List Value} (r : Vals vs us) : Vals (permL is vs) (permL is us) := by
  induction is with
  | nil => exact .nil
  | cons i is ih =>
    unfold permL at ih ⊢
    rw [List.filterMap_cons, List.filterMap_cons]
    have hl := r.length
    by_cases hi : i < vs.length
    · have hu : i < us.length := by omega
      rw [List.getElem?_eq_getElem hi, List.getElem?_eq_getElem hu]
      obtain ⟨u, e1, e2⟩ := r.get (List.getElem?_eq_getElem hi)
      rw [List.getElem?_eq_getElem hu] at e1
      cases e1
      exact .cons e2 ih
    · rw [List.getElem?_eq_none (by omega), List.getElem?_eq_none (by omega)]
      exact ih
theorem permL_rps {K : PySem.W.Frag} {F : Hp} {is : List Nat} {ds : List D} {vs : List V} (r : Rps K F ds vs) : Rps K F (permL is ds) (permL is vs) := by
  induction is with
  | nil => exact .nil
  | cons i is ih =>
    unfold permL at ih ⊢
    rw [List.filterMap_cons, List.filterMap_cons]
    have hl := r.len
    by_cases hi : i < ds.length
    · have hu : i < vs.length := by omega
      rw [List.getElem?_eq_getElem hi, List.getElem?_eq_getElem hu]
      exact .cons (r.at_ i _ _ (List.getElem?_eq_getElem hu) (List.getElem?_eq_getElem hi)) ih
    · rw [List.getElem?_eq_none (by omega), List.getElem?_eq_none (by omega)]
      exact ih
def tKw (sp : Sp) (is : List Nat) (E : XK) (t : TA) : TE := fun σ H Q => t σ H fun zs H2 => zs.length = is.length ∧ sp (permL is zs) H2 Q E
@[reducible] def mCallK (mf : MP) (is : List Nat) (ma : MA) : ME := fun Γ n Q => ma Γ n fun ds n1 => ds.length = is.length ∧ mf (permL is ds) fun d => Q d n1
structure RK (X : Cx) (p : Pm) (O : List Nat) (kws : List Keyword) (t : TA) (m : MA) : Prop where
  pk : PK X kws t
  le : LA p O t m
section
variable {X : Cx} {p : Pm} {O : List Nat} {k : Nat} {f : Addr} {fd : FuncData} {ps ks : List Str} {x : Str} {q pos kpos : Pos} {e : Expr} {kws : List Keyword} {t : TA} {m : MA} {te : TE} {me : ME} {nm : Option Str} {is : List Nat} {sp : Sp}
theorem k_nil : RK X p O [] tNil mNil := ⟨pk_nil, fun F0 H0 F H σ Γ n Q s q Q' k => k [] [] F H n s .refl .nil q⟩
theorem k_cons (ha : RE X p O e te me) (hr : RK X p O kws t m) : RK X p O (⟨nm, e, kpos⟩ :: kws) (tCons te t) (mCons me m) := ⟨pk_cons ha.pe hr.pk, la_cons ha.le hr.le⟩
theorem run_gk {pins : List (Addr × Obj)} {σ : St} {H : Hp} {s : Shared} {Q : VK} {ws : List Value} {zs : List V} (F : FnG X.prog X.w X.K X.mg X.base k f fd ps sp) (hr : Room k X.A) (hg : GB k X.A)
    (hb : ∀ (s : Shared) (ws : List Value), ws.length = is.length → BindsTo s fd ⟨[], ks.zip ws⟩ (ps.zip (permL is ws))) (I : Inv X pins σ H s) (r : Vals zs ws) (hl : zs.length = is.length) (h : sp (permL is zs) H Q E0) :
    wpAny (model X.prog X.w) X.A (call (.ref f) [] (ks.zip ws)) (EP X pins σ Q) X.xe s := by
  refine wpAny_call (codeAny_mono (F.run X.A X.stack s H ⟨[], ks.zip ws⟩ (permL is ws) (permL is zs) Q E0 hr hg I.env0 (hb s ws (r.length.symm.trans hl)) (permL_vals r) h) ?_)
  intro res s' hq
  match res, hq with
  | .ok (.ret u), hq => exact I.after hq
theorem pe_callGK (F : FnG X.prog X.w X.K X.mg X.base k f fd ps sp) (hr : Room k X.A) (hg : GB k X.A) (hgl : Gl X x) (hm : X.mg x = some (.ref f)) (hk : PySem.W.keepIn X.K (.ref f) = true)
    (hb : ∀ (s : Shared) (ws : List Value), ws.length = is.length → BindsTo s fd ⟨[], ks.zip ws⟩ (ps.zip (permL is ws))) (hkw : PK X kws t)
    (hall : (backToKw pos (keywordEach kws X.env)).all (·.1.isSome) = true := by rfl) (hks : (backToKw pos (keywordEach kws X.env)).filterMap (·.1) = ks := by rfl) (hdb : (x == ("__debug__" : Str)) = false := by decide)
    (hpl : ((backTo pos (starEach [] X.env)).any (·.1) || (backToKw pos (keywordEach kws X.env)).any (·.1.isNone)) = false := by rfl) :
    PE X (.Call (.Name x q) [] kws pos) (tKw sp is E0 t) := by
  refine ⟨fun pins s σ H Q I h => ?_⟩
  refine wpAny_Call_Name_kw (ld_glob I hgl hm ?_ hdb)
  refine PySem.W.callWith_KW0 (h₀ := X.base) I.ok.mod.kin hk hall ?_ hpl
  refine thn (hkw.run pos pins s σ H _ I h) fun ws s2 ⟨zs, H2, I2, rz, l1, q2⟩ => ⟨I2.kIn, ?_⟩
  rw [hks]
  exact run_gk F hr hg hb I2 rz l1 q2
theorem le_callK {mf : MP} (h : LA p O t m) : LE p O (tKw (spF p.K mf) is E0 t) (mCallK mf is m) := fun F0 H0 F H σ Γ n Q s q Q' k =>
  h F0 H0 F H σ Γ n _ s q _ fun ds vs F1 H1 n1 s1 g1 r1 ⟨l1, q1⟩ =>
    ⟨by rw [r1.len]; exact l1, F1, permL is ds, _, s1.fh, permL_rps r1, q1, fun d v F2 H2 g2 r2 q2 => k d v F2 H2 n1 (s1.gr g2) (g1.trans g2.gp) r2 q2⟩
/-- f(k = v, ..): all by names -/
theorem eFK {mf : MP} {st : Stmt} (F : FI X.prog X.w X.K X.mg X.base k x ps (spF X.K mf)) (T : FD X.K X.mg x st ps) (is : List Nat) (ks : List Str) {lv : Nat} (hr : Room k X.A) (hg : GB lv X.A) (hK : p.K = X.K) (hgl : Gl X x)
    (hb : ∀ (kV doc pm : Value) (an : Option Addr) (cdv ct : Value) (ws : List Value), ws.length = is.length → bindArgs (PySem.W.fnOf x x (defArgs st) (defBody st) (defScope st) .none kV doc pm an cdv ct) ⟨[], ks.zip ws⟩ = pure (ps.zip (permL is ws)))
    (ha : RK X p O kws t m) (hall : (backToKw pos (keywordEach kws X.env)).all (·.1.isSome) = true := by rfl) (hks : (backToKw pos (keywordEach kws X.env)).filterMap (·.1) = ks := by rfl) (hdb : (x == ("__debug__" : Str)) = false := by decide)
    (hpl : ((backTo pos (starEach [] X.env)).any (·.1) || (backToKw pos (keywordEach kws X.env)).any (·.1.isNone)) = false := by rfl) (hkm : k ≤ lv := by first | decide | omega) :
    RE X p O (.Call (.Name x q) [] kws pos) (tKw (spF p.K mf) is E0 t) (mCallK mf is m) := by
  obtain ⟨f, fd, G, h1, h2, h3, oc, od, sl, lk⟩ := F.ex
  obtain ⟨f2, fd2, FF, g1, _⟩ := T.ex
  rw [h1] at g1
  cases g1
  obtain ⟨oc2, od2, kV, doc, pm, an, cdv, ct, osl, rfl, lk2, hcd⟩ := FF.ex
  rw [lk] at lk2
  cases lk2
  exact ⟨hK ▸ pe_callGK G hr (hg.le hkm) hgl h1 h2 (fun s ws hl => BindsTo.of_eq (hb _ _ _ _ _ _ ws hl)) ha.pk hall hks hdb hpl, le_callK ha.le⟩
end
theorem ifs' {α : Type} {c : Prop} [Decidable c] {x y : α} (h : (if c then some x else none) = some y) : c ∧ x = y := by
  by_cases k : c
  · rw [if_pos k] at h; cases h; exact ⟨k, rfl⟩
  · rw [if_neg k] at h; cases h
def notNone : D → Bool
  | .none => false
  | _ => true
def alikeB (xs : List D) : Bool := xs.all (fun x => xs.all fun y => alike x y) && xs.all notNone
theorem alikeB_all {xs : List D} (h : alikeB xs = true) : PySem.W.AlikeAll xs := by
  unfold alikeB at h
  rw [Bool.and_eq_true, List.all_eq_true, List.all_eq_true] at h
  refine ⟨fun x hx y hy => List.all_eq_true.mp (h.1 x hx) y hy, fun x hx e => ?_⟩
  have := h.2 x hx
  rw [e] at this
  cases this
def okMin (xs : List D) : Bool := alikeB xs && PyData.canLayAll0 xs && decide (PyData.depthAll xs ≤ 60)
def cMinD : List D → Option D
  | [.list (x :: xs)] => if okMin (x :: xs) = true then some (minD x xs) else none
  | _ => none
def cMaxD : List D → Option D
  | [.list (x :: xs)] => if okMin (x :: xs) = true then some (maxD x xs) else none
  | _ => none
section
variable {X : Cx} {K : PySem.W.Frag}
def rMinD (K : PySem.W.Frag) (g : D → List D → D) : List V → Hp → VK → Prop := fun args H Q => ∃ (a : Addr) (vs : List V) (x : D) (xs : List D), args = [.ref a] ∧ SqL K H a vs ∧ DpAll K H vs (x :: xs) ∧ okMin (x :: xs) = true ∧ ∀ (i : Nat) v, vs[i]? = some v → (x :: xs)[i]? = some (g x xs) → Q v H
theorem canLay_at : ∀ {xs : List D} {i : Nat} {d : D}, PyData.canLayAll0 xs = true → xs[i]? = some d → d.canLay0 = true
  | x :: xs, 0, d, h, e => by
    rw [PyData.canLayAll0, Bool.and_eq_true] at h
    cases e
    exact h.1
  | x :: xs, i + 1, d, h, e => by
    rw [PyData.canLayAll0, Bool.and_eq_true] at h
    exact canLay_at (i := i) h.2 (by simpa using e)
theorem call_minD (hc : X.calm = true) (hw : X.A.units + 66 < cLine) : CallR X (.builtin "min") (rMinD X.K minD) := fun pins s σ H args us Q I r h => by
  obtain ⟨a, vs, x, xs, rfl, hs, hd, ok, q⟩ := h
  obtain ⟨its, rv, hl, _⟩ := I.list hs
  rw [Vals.ref1 r]
  obtain ⟨as, rd⟩ := Dp.readsAll I _ _ its hd rv
  unfold okMin at ok
  rw [Bool.and_eq_true, Bool.and_eq_true, decide_eq_true_eq] at ok
  obtain ⟨⟨o1, o2⟩, o3⟩ := ok
  refine PySem.W.min_list_data (I.ok.hd hc) hl.isList (by simpa using rd) (alikeB_all o1) (by omega) fun i v h' tk bs hv hr hk => ?_
  have hv' : its[i]? = some v := by simpa using hv
  obtain ⟨cs, r2, hi, _, _⟩ := PySem.W.readsAll_at (vs := its) rd i v hv'
  have e : (x :: xs)[i]? = some ((x :: xs).getD i .none) := by
    rw [List.getD_eq_getElem?_getD, List.getElem?_eq_getElem hi]; rfl
  have eq : (x :: xs).getD i .none = minD x xs := SeqAt.Reads.unique _ _ v cs bs (canLay_at o2 e) (PyProof.Rows.Reads.keeps hk r2) hr
  rw [eq] at e
  have hlen := rv.length
  have hi2 : i < vs.length := by have := (List.getElem?_eq_some_iff.mp hv').1; omega
  obtain ⟨u, e1, e2⟩ := rv.get (List.getElem?_eq_getElem hi2)
  rw [hv'] at e1
  cases e1
  exact ⟨vs[i], H, I.kept (t' := tk) hk, e2, q i _ (List.getElem?_eq_getElem hi2) e⟩
theorem l_minD : ClL K (rMinD K minD) cMinD := fun F H args ds d s r fe Q' k => by
  unfold cMinD at fe
  split at fe
  · rename_i x xs
    obtain ⟨ok, rfl⟩ := ifs' fe
    obtain ⟨v, w, rfl, r1, r2⟩ := r.uncons
    cases r2.unnil
    obtain ⟨a, vs, rfl, h1, h2⟩ := r1.lst_inv
    have hcl : PyData.canLayAll0 (x :: xs) = true := by
      unfold okMin at ok
      rw [Bool.and_eq_true, Bool.and_eq_true] at ok
      exact ok.1.2
    exact ⟨a, vs, x, xs, rfl, .of (s _ _ h1), Rp.dps _ _ hcl (h2.mono s), ok, fun i v e1 e2 => k v F H (.refl s) (h2.at_ i v _ e1 e2)⟩
  · cases fe
end
end RR
end
section
namespace RR
open PySem PySem.Spec L2
open PyProof.Rows hiding St
open PySem.W (alike dataLt minD maxD)
theorem keyOf_D (k : Key) : keyOf (keyD k) = some k := by cases k <;> rfl
def putD (kvs : List (D × D)) (k : Key) (d : D) : List (D × D) :=
  if (kvs.any fun q => decide (keyOf q.1 = some k)) = true then kvs.map (fun q => if keyOf q.1 = some k then (q.1, d) else q) else kvs ++ [(keyD k, d)]
inductive RKs (K : PySem.W.Frag) (F : Hp) : List (D × D) → List (Key × V) → Prop
  | nil : RKs K F [] []
  | cons {k : Key} {d : D} {v : V} {ds : List (D × D)} {kvs : List (Key × V)} : Rp K F d v → RKs K F ds kvs → RKs K F ((keyD k, d) :: ds) ((k, v) :: kvs)
section
variable {K : PySem.W.Frag} {F F' : Hp}
theorem RKs.mono {ds : List (D × D)} {kvs : List (Key × V)} (h : RKs K F ds kvs) (e : Same F F') : RKs K F' ds kvs := by
  induction h with
  | nil => exact .nil
  | cons r _ ih => exact .cons (r.mono e) ih
theorem RKs.keys {ds : List (D × D)} {kvs : List (Key × V)} (h : RKs K F ds kvs) : ds.map (·.1) = kvs.map (fun p => keyD p.1) := by
  induction h with
  | nil => rfl
  | cons r _ ih => rw [List.map_cons, List.map_cons, ih]
theorem RKs.at_ {ds : List (D × D)} {kvs : List (Key × V)} (h : RKs K F ds kvs) : ∀ (i : Nat) x d, kvs[i]? = some x → ds[i]? = some d → Rp K F d.2 x.2 := by
  induction h with
  | nil => intro i x d e; simp at e
  | cons r _ ih =>
    intro i x d e1 e2
    cases i with
    | zero => simp at e1 e2; subst e1 e2; exact r
    | succ i => exact ih i x d (by simpa using e1) (by simpa using e2)
theorem RKs.len {ds : List (D × D)} {kvs : List (Key × V)} (h : RKs K F ds kvs) : ds.length = kvs.length := by
  induction h with
  | nil => rfl
  | cons r _ ih => rw [List.length_cons, List.length_cons, ih]
theorem RKs.append {ds es : List (D × D)} {kvs lvs : List (Key × V)} (h : RKs K F ds kvs) (t : RKs K F es lvs) : RKs K F (ds ++ es) (kvs ++ lvs) := by
  induction h with
  | nil => exact t
  | cons r _ ih => exact .cons r ih
theorem RKs.any {ds : List (D × D)} {kvs : List (Key × V)} (h : RKs K F ds kvs) (k : Key) : (ds.any fun q => decide (keyOf q.1 = some k)) = kvs.any fun kv => decide (kv.1 = k) := by
  induction h with
  | nil => rfl
  | cons r _ ih =>
    rw [List.any_cons, List.any_cons, ih, keyOf_D]
    congr 1
    exact decide_eq_decide.mpr ⟨fun e => Option.some.inj e, fun e => congrArg some e⟩
theorem RKs.map {ds : List (D × D)} {kvs : List (Key × V)} (h : RKs K F ds kvs) (k : Key) {d : D} {v : V} (r : Rp K F d v) : RKs K F (ds.map fun q => if keyOf q.1 = some k then (q.1, d) else q) (kvs.map fun kv => if kv.1 = k then (kv.1, v) else kv) := by
  induction h with
  | nil => exact .nil
  | @cons k' d' v' _ _ r' _ ih =>
    rw [List.map_cons, List.map_cons]
    by_cases e : k' = k
    · rw [if_pos (show keyOf (keyD k') = some k by rw [keyOf_D, e]), if_pos (show k' = k from e)]
      exact .cons r ih
    · rw [if_neg (show ¬ keyOf (keyD k') = some k by rw [keyOf_D]; exact fun z => e (Option.some.inj z)), if_neg (show ¬ k' = k from e)]
      exact .cons r' ih
theorem RKs.put {ds : List (D × D)} {kvs : List (Key × V)} (h : RKs K F ds kvs) (k : Key) {d : D} {v : V} (r : Rp K F d v) : RKs K F (putD ds k d) (putK kvs k v) := by
  unfold putD putK
  rw [h.any k]
  split
  · exact h.map k r
  · exact h.append (.cons r .nil)
end
def dcompW (g : MG) (t : MT) (ek ev : ME) (Γ : DEnv) : List D → Nat → List (D × D) → (List (D × D) → Nat → Prop) → Prop
  | [], n, acc, Q => Q acc n
  | d :: ds, n, acc, Q => g d Γ fun Γ2 => t Γ2 n fun b n1 => if b = true then ek Γ2 n1 fun kd n2 => ev Γ2 n2 fun y n3 => ∃ k, keyOf kd = some k ∧ dcompW g t ek ev Γ ds n3 (putD acc k y) Q else dcompW g t ek ev Γ ds n1 acc Q
@[reducible] def mDc (mi : MI) (g : MG) (t : MT) (ek ev : ME) (vs : List Nat) : ME := fun Γ n Q => mi Γ n fun ds n1 => ds.length ≤ lim ∧ dcompW g t ek ev (wipeD Γ vs) ds n1 [] fun r n2 => Q (.dict r) n2
theorem Rp.key {K : PySem.W.Frag} {F : Hp} {d : D} {v : V} {k : Key} (r : Rp K F d v) (h : keyOf d = some k) : v = kV k := by
  cases r <;> (unfold keyOf at h; first | (cases h; done) | (cases h; rfl))
section
variable {X : Cx} {p : Pm} {O is vs : List Nat} {tg iter kx vx c : Expr} {pos : Pos} {wi : TI} {mi : MI} {g : TG} {mg : MG} {tt : TT} {mt : MT} {tk tv : TE} {mk mv : ME}
theorem lf_dc (hi : LI p O wi mi) (hg : LG p O is g mg) (ht : LT p O tt mt) (hk : LE p O tk mk) (he : LE p O tv mv) (his : ∀ i ∈ is, i ∈ vs) (hp : ∀ v ∈ vs, p.off v) : LF p O (tDc wi g tt tk tv vs) (mDc mi mg mt mk mv vs) := fun F0 H0 F H σ Γ n Q s q Q' k =>
  hi F0 H0 F H σ Γ n _ s q _ fun J ds F1 H1 n1 s1 g1 fd ⟨hl, q1⟩ => fun Dd hD => by
    have hD0 : H Dd = none := by
      cases w : H Dd with
      | none => rfl
      | some o => rw [g1.h Dd o w (s1.h0 hD).2] at hD; cases hD
    have hp0 := (s1.h0 hD).2
    have hH0 := (s1.h0 hD).1
    have hF1 : F1 Dd = none := s1.fh.free hD
    have sl1 : ∀ j ∈ O, ∀ dj, Γ[j]? = some (some dj) → σ[j]? ≠ some (some (.ref Dd)) := fun j hj dj e w => by
      obtain ⟨b, e1, r, _⟩ := s1.ow j hj dj e
      rw [w] at e1
      cases e1
      obtain ⟨o, e2⟩ := r.at
      rw [hD] at e2; cases e2
    refine ⟨fun i m H => m = ds.length - i ∧ i ≤ ds.length ∧ ∃ F n acc accV, Gp p F1 H1 F H ∧ Sep p F0 H0 O F H σ Γ n ∧ F Dd = none ∧ H Dd = some (.dK accV) ∧ RKs p.K F acc accV ∧ accV.length ≤ i ∧ dcompW mg mt mk mv (wipeD Γ vs) (ds.drop i) n acc (fun r n' => Q (.dict r) n'),
      ⟨ds.length, by simp, Nat.zero_le _, F1, n1, [], [], (Gr.new0 s1.fh hD _).gp, s1.gr (Gr.new0 s1.fh hD _), hF1, upd_same, .nil, Nat.zero_le _, by simpa using q1⟩, ?_⟩
    rintro i m H2 ⟨rfl, hi', F2, n2, acc, accV, g2, s2, f2, hD2, ra, hla, c2⟩
    by_cases hlt : i < ds.length
    · obtain ⟨d, hd⟩ : ∃ d, ds[i]? = some d := ⟨ds[i], by simp [hlt]⟩
      obtain ⟨go, yl⟩ := fd.go i d F2 H2 hd g2.f s2.fh
      have hdr : ds.drop i = d :: ds.drop (i + 1) := by
        rw [List.drop_eq_getElem_cons hlt]
        congr 1
        simpa [hlt] using hd
      rw [hdr] at c2
      refine .inr ⟨go, fun H => ∃ F n acc accV, Gp p F1 H1 F H ∧ Sep p F0 H0 O F H σ Γ n ∧ F Dd = none ∧ H Dd = some (.dK accV) ∧ RKs p.K F acc accV ∧ accV.length ≤ i + 1 ∧ dcompW mg mt mk mv (wipeD Γ vs) (ds.drop (i + 1)) n acc (fun r n' => Q (.dict r) n'),
        fun H' w => ⟨ds.length - (i + 1), by omega, rfl, hlt, w⟩, fun x H3 y => ?_⟩
      obtain ⟨F3, g3, r3⟩ := yl x H3 y
      have s3 := s2.gr g3
      refine hg F0 H0 F3 H3 _ _ n2 d x (s3.wipe hp) r3 _ _ c2 fun σ4 Γ4 s4 a4 q4 => ?_
      refine ⟨wipe_agree a4 his, ?_⟩
      refine ht F0 H0 F3 H3 σ4 Γ4 n2 _ s4 q4 _ fun b F5 H5 n5 s5 g5 q5 => ?_
      have hD3 : H3 Dd = some (.dK accV) := g3.h _ _ hD2
      have f3 : F3 Dd = none := g3.none f2 ⟨_, hD2⟩
      have hD5 : H5 Dd = some (.dK accV) := g5.h _ _ hD3 hp0
      have f5 : F5 Dd = none := g5.none f3 hD3 hp0
      have g25 : Gp p F2 H2 F5 H5 := g3.gp.trans g5
      cases b with
      | true =>
        rw [if_pos rfl] at q5 ⊢
        refine hk F0 H0 F5 H5 σ4 Γ4 n5 _ s5 q5 _ fun kd kv F6 H6 n6 s6 g6 r6 q6 => ?_
        refine he F0 H0 F6 H6 σ4 Γ4 n6 _ s6 q6 _ fun y v F7 H7 n7 s7 g7 r7 ⟨key, hkey, q7⟩ => ?_
        have hD6 : H6 Dd = some (.dK accV) := g6.h _ _ hD5 hp0
        have f6 : F6 Dd = none := g6.none f5 hD5 hp0
        have hD7 : H7 Dd = some (.dK accV) := g7.h _ _ hD6 hp0
        have f7 : F7 Dd = none := g7.none f6 hD6 hp0
        have g27 : Gp p F2 H2 F7 H7 := (g25.trans g6).trans g7
        refine ⟨accV, key, r6.key hkey, hD7, lim_lt (by omega), F7, n7, putD acc key y, putK accV key v, ?_, ((s2.back s7 g27).poke f7 hH0 hp0 sl1), f7, upd_same, (ra.mono g27.f).put key r7, Nat.le_trans (length_putK _ _ _) (by omega), ?_⟩
        · have g17 := g2.trans g27
          refine ⟨g17.f, fun a o e hp => ?_, g17.new⟩
          rw [upd_ne fun z => by rw [z, hD] at e; cases e]
          exact g17.h a o e hp
        · simpa using q7
      | false =>
        rw [if_neg (by decide)] at q5 ⊢
        exact ⟨F5, n5, acc, accV, g2.trans g25, s2.back s5 g25, f5, hD5, ra.mono g25.f, by omega, q5⟩
    · have e : i = ds.length := by omega
      subst e
      rw [List.drop_length] at c2
      exact .inl ⟨fd.stop F2 H2 g2.f s2.fh, k (.dict acc) Dd F2 H2 n2 s2 (g1.trans g2) (.dct hD2 ra.keys ra.at_) f2 hD0 c2⟩
theorem fDcIf {scope : Scope} {own : List (Str × Nat)} (hc : X.calm = true) (hN : X.N.Nodup) (hi : RI X p O tg iter wi mi) (ok : BlkOk X.N X.env.scope scope own)
    (hg : ∀ (s : Shared) (H : Hp) (C : Addr) (cl : List (Str × Addr)) (fp : List Addr), RG (X.blk s H scope (compEnvC scope cl C X.env) fp) p O is tg g mg) (ht : ∀ (s : Shared) (H : Hp) (C : Addr) (cl : List (Str × Addr)) (fp : List Addr), RT (X.blk s H scope (compEnvC scope cl C X.env) fp) p O c tt mt)
    (hk : ∀ (s : Shared) (H : Hp) (C : Addr) (cl : List (Str × Addr)) (fp : List Addr), RE (X.blk s H scope (compEnvC scope cl C X.env) fp) p O kx tk mk)
    (he : ∀ (s : Shared) (H : Hp) (C : Addr) (cl : List (Str × Addr)) (fp : List Addr), RE (X.blk s H scope (compEnvC scope cl C X.env) fp) p O vx tv mv)
    (his : ∀ i ∈ is, i ∈ own.map (·.2)) (hp : ∀ v ∈ own.map (·.2), p.off v) (hs : ∀ x, foldedSetIterable iter X.env x = pure x := by intro _; rfl) :
    RF X p O (.DictComp kx vx [⟨tg, iter, [c], 0⟩] scope pos) (tDc wi g tt tk tv (own.map (·.2))) (mDc mi mg mt mk mv (own.map (·.2))) :=
  ⟨pe_dc hc hN hi.pi ok (fun s H C cl fp => (hg s H C cl fp).pg) (fun s H C cl fp => pts_one (ht s H C cl fp).pt) (fun s H C cl fp => (hk s H C cl fp).pe) (fun s H C cl fp => (he s H C cl fp).pe) hs,
    lf_dc hi.le (hg X.s_0 X.H_0 0 [] []).le (ht X.s_0 X.H_0 0 [] []).le (hk X.s_0 X.H_0 0 [] []).le (he X.s_0 X.H_0 0 [] []).le his hp⟩
end
def scalSame : D → D → Bool
  | .none, .none => true
  | .int _, .int _ => true
  | .str _, .str _ => true
  | .bool _, .bool _ => true
  | _, _ => false
def sameOne (es : List (D × D)) (q : D × D) : Bool := match dLook es q.1 with | some d => PyData.eqv d q.2 && scalSame d q.2 | none => false
def sameDict (ds es : List (D × D)) : Bool := decide (ds.length = es.length) && ds.all (sameOne es)
/-- two dicts that hold the same, also such as are walked -/
def rDR (c : Bool) : R2 := fun x y H Q => ∃ p q l m, x = .ref p ∧ y = .ref q ∧ Rd H p (.dK l) ∧ Rd H q (.dK m) ∧ l.length = m.length ∧ (∀ z ∈ l, valV m z.1 = some z.2 ∧ flatB z.2 = true) ∧ Q (.bl c) H
theorem op_neR {X : Cx} (hu : X.A.units < cLine) : OpR X (compareOp .NotEq) (rDR false) := fun pins s σ H x y v u Q I rx ry w => by
  obtain ⟨p, q, l, m, rfl, rfl, r1, r2, sz, hz, fin⟩ := w
  cases rx
  cases ry
  obtain ⟨-, n1, v1, k1, d1⟩ := dk_rd I.hok r1
  obtain ⟨-, n2, v2, k2, d2⟩ := dk_rd I.hok r2
  have e : v1.length = v2.length := k1.length.symm.trans (sz.trans k2.length)
  exact PySem.W.keq_ne (r := true) n1 n2 d1 d2 hu (fun _ => hits_all k2 k1 hz) (fin_bl I fin (by simp [e]))
def dNeX (x y : D) : Option D := match x, y with
  | .dict ds, .dict es => if sameDict ds es = true then some (.bool false) else none
  | x, y => dNe x y
section
variable {K : PySem.W.Frag} {F : Hp}
theorem scal_same {d e : D} {v u : V} (h : scalSame d e = true) (q : PyData.eqv d e = true) (r : Rp K F d v) (r2 : Rp K F e u) : v = u ∧ flatB u = true := by
  cases d <;> cases e <;> (try (cases h; done)) <;> cases r <;> cases r2
  · exact ⟨rfl, rfl⟩
  · rw [PyData.eqv] at q; rw [eq_of_beq q]; exact ⟨rfl, rfl⟩
  · rw [PyData.eqv] at q; rw [eq_of_beq q]; exact ⟨rfl, rfl⟩
  · rw [PyData.eqv] at q; rw [eq_of_beq q]; exact ⟨rfl, rfl⟩
theorem same_dict {ds es : List (D × D)} {ks ls : List (Key × V)} (h : sameDict ds es = true) (k1 : ds.map (·.1) = ks.map (fun p => keyD p.1)) (r1 : ∀ (i : Nat) x d, ks[i]? = some x → ds[i]? = some d → Rp K F d.2 x.2)
    (k2 : es.map (·.1) = ls.map (fun p => keyD p.1)) (r2 : ∀ (i : Nat) x d, ls[i]? = some x → es[i]? = some d → Rp K F d.2 x.2) : ks.length = ls.length ∧ ∀ p ∈ ks, valV ls p.1 = some p.2 ∧ flatB p.2 = true := by
  unfold sameDict at h
  rw [Bool.and_eq_true, decide_eq_true_eq] at h
  have l1 := congrArg List.length k1
  have l2 := congrArg List.length k2
  rw [List.length_map, List.length_map] at l1 l2
  refine ⟨by omega, fun p hp => ?_⟩
  obtain ⟨i, hi, rfl⟩ := List.getElem_of_mem hp
  have hd : i < ds.length := by omega
  have e1 : ds[i].1 = keyD ks[i].1 := by
    have := congrArg (fun l => l[i]?) k1
    simp only [List.getElem?_map, List.getElem?_eq_getElem hd, List.getElem?_eq_getElem hi, Option.map_some] at this
    exact Option.some.inj this
  have hq := List.all_eq_true.mp h.2 ds[i] (List.getElem_mem hd)
  unfold sameOne at hq
  rw [e1] at hq
  have lk := dct_look ks[i].1 k2 r2
  split at hq
  · rename_i d hd2
    rw [Bool.and_eq_true] at hq
    rw [hd2] at lk
    obtain ⟨v, e2, rv⟩ := lk
    obtain ⟨e3, e4⟩ := scal_same hq.2 hq.1 rv (r1 i _ _ (List.getElem?_eq_getElem hi) (List.getElem?_eq_getElem hd))
    exact ⟨by rw [e2, e3], e4⟩
  · cases hq
theorem l_neX : OpL K (fun x y H Q => rNeA K x y H Q ∨ rDR false x y H Q) dNeX := fun F H x y dx dy d s rx ry fe Q' k => by
  unfold dNeX at fe
  split at fe
  · obtain ⟨h, rfl⟩ := ifs' fe
    cases rx with
    | dct a1 a2 a3 =>
      cases ry with
      | dct b1 b2 b3 =>
        obtain ⟨w1, w2⟩ := same_dict h a2 a3 b2 b3
        exact .inr ⟨_, _, _, _, rfl, rfl, Same.rd s a1, Same.rd s b1, w1, w2, k _ F H (.refl s) (.bl _)⟩
  · exact .inl (l_ne F H x y _ _ d s rx ry fe Q' k)
end
theorem oNeX {X : Cx} {K : PySem.W.Frag} (hK : K = X.K) (hu : X.A.units + 64 < cLine) : OpR X (compareOp .NotEq) (fun x y H Q => rNeA K x y H Q ∨ rDR false x y H Q) := hK ▸ (o_ne hu).or (op_neR (by omega))
theorem fnMinD {X : Cx} {K : PySem.W.Frag} (hK : K = X.K) (hc : X.calm = true) (hx : X.A.units + 66 < cLine) : CallR X (.builtin "min") (rMinD K minD) := hK ▸ call_minD hc hx
end RR
end
section
namespace RR
open PySem PySem.Spec L2
open PyProof.Rows hiding St
section
variable {X : Cx} {K : PySem.W.Frag} {p : Pm} {O : List Nat} {e : Expr} {pos : Pos} {te : TE} {me : ME}
def dRev : D → Option D
  | .list xs => some (.list xs.reverse)
  | .tuple xs => some (.tuple xs.reverse)
  | _ => none
@[reducible] def mRev (me : ME) : ME := fun Γ n Q => me Γ n fun x n1 => ∃ d, dRev x = some d ∧ Q d n1
end
end RR
end
section
namespace RR
open PySem PySem.Spec L2
open PyProof.Rows hiding St
abbrev MPs := DEnv → Nat → (List (D × D) → Nat → Prop) → Prop
@[reducible] def mpNil : MPs := fun _ n Q => Q [] n
@[reducible] def mpCons (mk mv : ME) (r : MPs) : MPs := fun Γ n Q => mk Γ n fun kd n1 => mv Γ n1 fun d n2 => r Γ n2 fun ps n3 => Q ((kd, d) :: ps) n3
section
variable {X : Cx} {p : Pm} {O : List Nat} {pos : Pos} {k v e : Expr} {ks : List (Option Expr)} {vs : List Expr} {tk tv te : TE} {mk mv me : ME} {t : List (TE × TE)} {m : MPs}
def keysD : List (D × D) → Option (List (Key × D))
  | [] => some []
  | (kd, d) :: r => (keyOf kd).bind fun k => (keysD r).bind fun l => some ((k, d) :: l)
def mergeD (acc : List (D × D)) (l : List (Key × D)) : List (D × D) := l.foldl (fun a q => putD a q.1 q.2) acc
def dispD (ps : List (D × D)) : Option D := (keysD ps).bind fun l => if l.length ≤ 15 then some (.dict (mergeD [] l)) else none
@[reducible] def mDisp (m : MPs) : ME := fun Γ n Q => m Γ n fun ps n1 => ∃ d, dispD ps = some d ∧ Q d n1
end
end RR
end
section
namespace RR
open PySem PySem.Spec L2
open PyProof.Rows hiding St
open PySem.W (alike dataLt dataLe EachIs)
def fullTup : D → Bool
  | .tuple (_ :: _) => true
  | _ => false
def otherKind : D → Bool
  | .none => false
  | .tuple _ => false
  | _ => true
def okSort (xs : List D) : Bool := xs.all (fun x => xs.all fun y => alike x y) && (xs.all fullTup || xs.all otherKind) && PyData.canLayAll0 xs && decide (PyData.depthAll xs ≤ 60)
def sortD (xs : List D) : List D := xs.mergeSort (dataLe false id)
def cSorted : List D → Option D
  | [.list xs] => if okSort xs = true then some (.list (sortD xs)) else none
  | _ => none
theorem okSort_alike {xs : List D} (h : xs.all (fun x => xs.all fun y => alike x y) = true) : PySem.W.AllAlike xs := by
  rw [List.all_eq_true] at h
  exact fun x hx y hy => List.all_eq_true.mp (h x hx) y hy
theorem okSort_kind {xs : List D} (h : (xs.all fullTup || xs.all otherKind) = true) : PySem.W.Sortable xs := by
  rw [Bool.or_eq_true, List.all_eq_true, List.all_eq_true] at h
  rcases h with h | h
  · refine .inl fun d hd => ?_
    have := h d hd
    cases d <;> try (cases this; done)
    rename_i ys
    cases ys with
    | nil => cases this
    | cons y ys => exact ⟨y, ys, rfl⟩
  · refine .inr fun d hd => ?_
    have := h d hd
    cases d <;> first | (cases this; done) | exact ⟨(fun e => nomatch e), (fun ys e => nomatch e)⟩
theorem depth_at : ∀ {xs : List D} {d : D}, d ∈ xs → d.depth ≤ PyData.depthAll xs
  | x :: xs, d, h => by
    rw [PyData.depthAll]
    rcases List.mem_cons.mp h with rfl | h
    · exact Nat.le_max_left _ _
    · exact Nat.le_trans (depth_at h) (Nat.le_max_right _ _)
theorem zip_snd : ∀ (vs : List V) (xs : List D), vs.length = xs.length → (vs.zip xs).map Prod.snd = xs
  | [], [], _ => rfl
  | v :: vs, x :: xs, h => by
    rw [List.zip_cons_cons, List.map_cons, zip_snd vs xs (by simpa using h)]
  | [], _ :: _, h => by simp at h
  | _ :: _, [], h => by simp at h
theorem each_zip : ∀ {vs : List V} {its : List Value} {xs : List D}, Vals vs its → vs.length = xs.length → EachIs (fun v (b : V × D) => RelV b.1 v) its (vs.zip xs)
  | _, _, [], .nil, _ => .nil
  | _, _, x :: xs, .cons r rs, h => .cons r (each_zip rs (by simpa using h))
  | _, _, _ :: _, .nil, h => by simp at h
  | _, _, [], .cons _ _, h => by simp at h
theorem each_reads {h : Heap} : ∀ {its : List Value} {xs : List D} {as : List Addr} (vs : List V), ReadsAll h its xs as → vs.length = xs.length → EachIs (fun v (b : V × D) => ∃ as, Reads h v b.2 as) its (vs.zip xs)
  | _, _, _, [], .nil, _ => .nil
  | _, _, _, v :: vs, .cons r rs, h => .cons ⟨_, r⟩ (each_reads vs rs (by simpa using h))
  | _, _, _, _ :: _, .nil, h => by simp at h
  | _, _, _, [], .cons _ _, h => by simp at h
section
variable {X : Cx} {K : PySem.W.Frag}
def rSortD (K : PySem.W.Frag) : List V → Hp → VK → Prop := fun args H Q => ∃ (a : Addr) (vs : List V) (xs : List D), args = [.ref a] ∧ SqL K H a vs ∧ DpAll K H vs xs ∧ vs.length = xs.length ∧ okSort xs = true ∧
  ∀ (p : Addr) (bs : List (V × D)), bs.map Prod.snd = sortD xs → (∀ b ∈ bs, b ∈ vs.zip xs) → H p = none → Q (.ref p) (upd H p (.lst (bs.map Prod.fst)))
theorem each_fst : ∀ {out : List Value} {bs : List (V × D)}, EachIs (fun v (b : V × D) => RelV b.1 v) out bs → Vals (bs.map Prod.fst) out
  | _, _, .nil => .nil
  | _, _, .cons r rs => .cons r (each_fst rs)
theorem call_sortD (hc : X.calm = true) (hw : X.A.units + 66 < cLine) : CallR X (.builtin "sorted") (rSortD X.K) := fun pins s σ H args us Q I r h => by
  obtain ⟨a, vs, xs, rfl, hs, hd, hln, ok, q⟩ := h
  obtain ⟨its, rv, hl, hz⟩ := I.list hs
  rw [Vals.ref1 r]
  obtain ⟨as, rd⟩ := Dp.readsAll I _ _ its hd rv
  unfold okSort at ok
  rw [Bool.and_eq_true, Bool.and_eq_true, Bool.and_eq_true, decide_eq_true_eq] at ok
  obtain ⟨⟨⟨o1, o2⟩, o3⟩, o4⟩ := ok
  have ez := zip_snd vs xs hln
  have lz : (vs.zip xs).length = xs.length := by rw [List.length_zip]; omega
  refine PySem.W.sorted_data (bs := vs.zip xs) (enc := Prod.snd) (R := fun v b => RelV b.1 v) hl.isList (each_zip rv hln) (each_reads vs rd hln) (by rw [ez]; exact okSort_alike o1) (by rw [ez]; exact okSort_kind o2) (by omega) (fun b hb => ?_) fun out ho eo => ?_
  · have : b.2 ∈ xs := by rw [← ez]; exact List.mem_map_of_mem hb
    have := depth_at this
    omega
  · obtain ⟨ep, he'⟩ := PyProof.Rows.sortedAll_at s.heap its out.toArray
    have hlen : (((vs.zip xs).mergeSort (dataLe false Prod.snd)).map Prod.fst).length ≤ sizeLine := by
      rw [List.length_map, List.length_mergeSort]
      omega
    refine ⟨.ref _, upd H (s.heap.objs.size + 1) (.lst (((vs.zip xs).mergeSort (dataLe false Prod.snd)).map Prod.fst)), I.laid (t' := s.toks) (fun _ _ => PyProof.Rows.sortedAll_old) (Nat.le_succ _) ⟨hlen, out, ep, each_fst eo, he'⟩, rfl, q _ _ ?_ ?_ (I.hok.fresh (Nat.le_succ _))⟩
    · have hm : ((vs.zip xs).mergeSort (dataLe false Prod.snd)).map Prod.snd = ((vs.zip xs).map Prod.snd).mergeSort (dataLe false id) := List.map_mergeSort (fun a _ b _ => rfl)
      rw [hm, ez]
      rfl
    · intro b hb
      exact List.mem_mergeSort.mp hb
theorem zip_rp {F : Hp} {xs : List D} {vs : List V} (r : Rps K F xs vs) {b : V × D} (h : b ∈ vs.zip xs) : Rp K F b.2 b.1 := by
  obtain ⟨i, hi, rfl⟩ := List.getElem_of_mem h
  rw [List.length_zip] at hi
  rw [List.getElem_zip]
  exact r.at_ i _ _ (List.getElem?_eq_getElem (by omega)) (List.getElem?_eq_getElem (by omega))
theorem rps_of {F : Hp} : ∀ {bs : List (V × D)}, (∀ b ∈ bs, Rp K F b.2 b.1) → Rps K F (bs.map Prod.snd) (bs.map Prod.fst)
  | [], _ => .nil
  | b :: bs, h => .cons (h b (List.mem_cons_self ..)) (rps_of fun c hc => h c (List.mem_cons_of_mem _ hc))
theorem l_sorted : ClL K (rSortD K) cSorted := fun F H args ds d s r fe Q' k => by
  unfold cSorted at fe
  split at fe
  · rename_i xs
    obtain ⟨ok, rfl⟩ := ifs' fe
    obtain ⟨v, w, rfl, r1, r2⟩ := r.uncons
    cases r2.unnil
    obtain ⟨a, vs, rfl, h1, h2⟩ := r1.lst_inv
    have hcl : PyData.canLayAll0 xs = true := by
      unfold okSort at ok
      rw [Bool.and_eq_true, Bool.and_eq_true] at ok
      exact ok.1.2
    refine ⟨a, vs, xs, rfl, .of (s _ _ h1), Rp.dps _ _ hcl (h2.mono s), h2.len, ok, fun p bs e1 e2 hp => ?_⟩
    have rr := rps_of (K := K) (F := F) fun b hb => zip_rp h2 (e2 b hb)
    rw [e1] at rr
    exact k _ _ _ (Gr.new1 s hp _) (Rp.new_lst (H := H) rr (s.free hp))
  · cases fe
end
theorem fnSorted {X : Cx} {K : PySem.W.Frag} (hK : K = X.K) (hc : X.calm = true) (hx : X.A.units + 66 < cLine) : CallR X (.builtin "sorted") (rSortD K) := hK ▸ call_sortD hc hx
end RR
end
section
namespace RR
open PySem PySem.Spec L2
open PyProof.Rows hiding St
section
variable {X : Cx} {K : PySem.W.Frag} {pins : List (Addr × Obj)} {σ : St} {H : Hp} {s : Shared}
theorem Inv.noSys (I : L2.Inv X pins σ H s) (hs : ∃ mm, X.base.Ns sysModules mm) : H sysModules = none := by
  obtain ⟨mm, o, es, ep, e, _⟩ := hs
  exact (I.bs _ _ e).2
theorem readsAll_mk {h : Heap} : ∀ {us : List Value} {ds : List D}, us.length = ds.length → (∀ (i : Nat) u d, us[i]? = some u → ds[i]? = some d → ∃ as, Reads h u d as ∧ sysModules ∉ as) → ∃ as, ReadsAll h us ds as ∧ sysModules ∉ as
  | [], [], _, _ => ⟨[], .nil, fun h => nomatch h⟩
  | u :: us, d :: ds, hl, g => by
    obtain ⟨as, r, n⟩ := g 0 u d rfl rfl
    obtain ⟨bs, rs, ns⟩ := readsAll_mk (us := us) (ds := ds) (by simpa using hl) fun i u d a b => g (i + 1) u d (by simpa using a) (by simpa using b)
    exact ⟨as ++ bs, .cons r rs, fun h => (List.mem_append.mp h).elim n ns⟩
  | [], _ :: _, hl, _ => by simp at hl
  | _ :: _, [], hl, _ => by simp at hl
theorem key_reads {h : Heap} {k : Key} {u : Value} (i : keyIs k u = true) : Reads h u (keyD k) [] := by
  rcases keyIs_shape i with ⟨j, t, rfl, rfl⟩ | ⟨x, t, rfl, rfl⟩
  · exact .int j t
  · exact .str x t
theorem dict_reads {P : Program} {w : World} {h : Heap} : ∀ {kvs : List (Key × V)} {vs : List (Key × Value)} {es : List DictEntry} {ds : List (D × D)}, KV kvs vs → Pairs (mixKind P w) es vs → ds.map (·.1) = kvs.map (fun p => keyD p.1) →
    (∀ (i : Nat) x d u, kvs[i]? = some x → ds[i]? = some d → RelV x.2 u → ∃ as, Reads h u d.2 as ∧ sysModules ∉ as) →
    (∃ as, ReadsAll h (es.map (·.key)) (ds.map (·.1)) as ∧ sysModules ∉ as) ∧ ∃ bs, ReadsAll h (es.map (·.val)) (ds.map (·.2)) bs ∧ sysModules ∉ bs
  | [], _, _, [], .nil, .nil, _, _ => ⟨⟨[], .nil, fun h => nomatch h⟩, [], .nil, fun h => nomatch h⟩
  | x :: kvs, _, _, d :: ds, .cons r rs, .cons i1 i2 ps, hk, g => by
    rw [List.map_cons, List.map_cons] at hk
    injection hk with hk1 hk2
    obtain ⟨⟨as, a1, a2⟩, bs, b1, b2⟩ := dict_reads rs ps hk2 fun i x d u e1 e2 => g (i + 1) x d u (by simpa using e1) (by simpa using e2)
    obtain ⟨cs, c1, c2⟩ := g 0 x d _ rfl rfl r.2
    refine ⟨⟨[] ++ as, .cons ?_ a1, by simpa using a2⟩, cs ++ bs, .cons (by dsimp only; rw [i2]; exact c1) b1, fun h => (List.mem_append.mp h).elim c2 b2⟩
    dsimp only
    rw [hk1, r.1]
    exact key_reads i1
  | [], _, _, _ :: _, .nil, _, hk, _ => by simp at hk
  | _ :: _, _, _, [], .cons _ _, _, hk, _ => by simp at hk
theorem Rp.reads {F : Hp} {d : D} {v : V} (r : Rp K F d v) : F = H → K = X.K → ∀ (I : L2.Inv X pins σ H s) (hs : ∃ mm, X.base.Ns sysModules mm) (u : Value), RelV v u → ∃ as, Reads s.heap u d as ∧ sysModules ∉ as := by
  induction r with
  | non => intro _ _ I hs u ru; cases ru; exact ⟨_, .none, fun h => nomatch h⟩
  | bl b => intro _ _ I hs u ru; cases ru; exact ⟨_, .bool b, fun h => nomatch h⟩
  | int i => intro _ _ I hs u ru; obtain ⟨t, rfl⟩ := ru; exact ⟨_, .int i t, fun h => nomatch h⟩
  | str x => intro _ _ I hs u ru; obtain ⟨t, rfl⟩ := ru; exact ⟨_, .str x t, fun h => nomatch h⟩
  | @lst a xs ds h1 h2 h3 ih =>
    intro eF eK I hs u ru
    subst eF eK
    cases ru
    obtain ⟨its, rv, ⟨o, n, ho, hc, _, hd⟩, _⟩ := I.list (.of h1)
    have hl := rv.length
    obtain ⟨as, ra, na⟩ := readsAll_mk (h := s.heap) (us := its) (ds := ds) (by omega) fun i u d e1 e2 => by
      have hi : i < xs.length := by have := (List.getElem?_eq_some_iff.mp e1).1; omega
      obtain ⟨w, e3, e4⟩ := rv.get (List.getElem?_eq_getElem hi)
      rw [e1] at e3
      cases e3
      exact ih i _ d (List.getElem?_eq_getElem hi) e2 rfl rfl I hs u e4
    refine ⟨_, .list ho hc hd ra, fun h => ?_⟩
    rcases List.mem_cons.mp h with rfl | h
    · rw [Inv.noSys I hs] at h1; cases h1
    · exact na h
  | @tup a xs ds h1 h2 h3 ih =>
    intro eF eK I hs u ru
    subst eF eK
    cases ru
    obtain ⟨its, rv, ⟨o, ho, hc, n, hd⟩, _⟩ := I.tuple h1
    have hl := rv.length
    obtain ⟨as, ra, na⟩ := readsAll_mk (h := s.heap) (us := its) (ds := ds) (by omega) fun i u d e1 e2 => by
      have hi : i < xs.length := by have := (List.getElem?_eq_some_iff.mp e1).1; omega
      obtain ⟨w, e3, e4⟩ := rv.get (List.getElem?_eq_getElem hi)
      rw [e1] at e3
      cases e3
      exact ih i _ d (List.getElem?_eq_getElem hi) e2 rfl rfl I hs u e4
    exact ⟨_, .tuple ho hc hd ra, na⟩
  | @dct a kvs ds h1 h2 h3 ih =>
    intro eF eK I hs u ru
    subst eF eK
    cases ru
    obtain ⟨z, hd, vs, rel, o, es, ep, ho, he, hdat, hks, hps, hnd⟩ := dk_rd I.hok h1
    obtain ⟨⟨as, a1, a2⟩, bs, b1, b2⟩ := dict_reads (h := s.heap) rel hps h2 fun i x d u e1 e2 ru => ih i x d e1 e2 rfl rfl I hs u ru
    refine ⟨_, .dict ho he.1 hdat a1 b1, fun h => ?_⟩
    rcases List.mem_append.mp h with h | h
    · rcases List.mem_cons.mp h with rfl | h
      · exact absurd hd (by decide)
      · exact a2 h
    · exact b2 h
/-- repr of any data -/
def repOkD (d : D) : Bool := d.showable && decide (d.depth ≤ 64) && decide (d.shown.length ≤ sizeLine)
end
end RR
end
section
namespace RR
open PySem PySem.Spec L2
open PyProof.Rows hiding St
section
variable {X : Cx} {p : Pm} {O : List Nat} {e : Expr} {te : TE} {me : ME} {tT : TT} {mT : MT}
/-- out of a look: the frozen thing is one's own again -/
theorem Sep.unlookN {F0 H0 F H F1 F2 H2 : Hp} {σ : St} {Γ : DEnv} {n n2 : Nat} {i : Nat} (s : Sep p F0 H0 O F H σ Γ n) (e1 : Same F F1) (hn : ∀ b o, F1 b = some o → F b = some o ∨ (i ∈ O ∧ σ[i]? = some (some (.ref b)) ∧ ∃ d, Γ[i]? = some (some d)))
    (s2 : Sep p F0 H0 (O.filter (· ≠ i)) F2 H2 σ Γ n2) (g : Gp p F1 H F2 H2) : ∃ F3, Sep p F0 H0 O F3 H2 σ Γ n2 ∧ Gp p F H F3 H2 ∧ ∀ b, F2 b = none → F3 b = none := by
  by_cases hi : i ∈ O ∧ ∃ d, Γ[i]? = some (some d)
  · obtain ⟨hi, d, ed⟩ := hi
    obtain ⟨a, ea, w, fa, h0a, pa⟩ := s.ow i hi d ed
    have key : ∀ b o, F1 b = some o → b ≠ a → F b = some o := fun b o h hb => by
      rcases hn b o h with z | ⟨_, z, _⟩
      · exact z
      · rw [ea] at z; cases z; exact absurd rfl hb
    have nf : ∀ {b : Addr} {o : HO}, F b = some o → b ≠ a := fun h z => by rw [z, fa] at h; cases h
    have f3 : ∀ b o, F b = some o → (fun b => if b = a then none else F2 b) b = some o := fun b o h => by
      show (if b = a then none else F2 b) = some o
      rw [if_neg (nf h)]
      exact g.f _ _ (e1 _ _ h)
    have f32 : ∀ b o, (fun b => if b = a then none else F2 b) b = some o → b ≠ a ∧ F2 b = some o := fun b o h => by
      have h' : (if b = a then none else F2 b) = some o := h
      by_cases z : b = a
      · rw [if_pos z] at h'; cases h'
      · rw [if_neg z] at h'; exact ⟨z, h'⟩
    obtain ⟨oa, hoa⟩ := w.at
    have ha2 : ∀ {u : HO}, H a = some u → H2 a = some u := fun h => g.h a _ h pa
    refine ⟨fun b => if b = a then none else F2 b, ⟨fun b o h => f3 b o (s.f0 b o h), fun b o h => s2.fh _ _ (f32 b o h).2, s2.stay, fun b o h => s2.newF b o (f32 b o h).2, fun b j h => ?_, s.len, fun j dj hj h => ?_, fun j hj dj h => ?_, s.dj⟩, ⟨fun b o h => f3 b o h, g.h, fun b o h => ?_⟩, fun b hb => by
      show (if b = a then none else F2 b) = none
      split
      · rfl
      · exact hb⟩
    · obtain ⟨h1, h2, ⟨x, l, xs, z1, z2, z3⟩, zt⟩ := s2.pen b j h
      obtain ⟨_, _, ⟨_, _, ys, _, y2, _⟩, _⟩ := s.pen b j h
      have hb : b ≠ a := fun z => pa ⟨b, j, h, .inl z.symm⟩
      have hd : p.dr.ad ≠ a := nf y2
      refine ⟨?_, h2, ⟨x, l, xs, z1, ?_, z3⟩, fun y hy => ?_⟩
      · show (if b = a then none else F2 b) = none
        rw [if_neg hb]; exact h1
      · show (if p.dr.ad = a then none else F2 p.dr.ad) = some _
        rw [if_neg hd]; exact z2
      · obtain ⟨t1, ps, t2, t3, t4⟩ := zt y hy
        refine ⟨?_, ps, t2, t3, fun pos cv hc => ?_⟩
        · show (if y.1 = a then none else F2 y.1) = none
          split
          · rfl
          · exact t1
        · obtain ⟨c, e1, e2⟩ := t4 pos cv hc
          refine ⟨c, e1, ?_⟩
          show (if c = a then none else F2 c) = some _
          rw [if_neg fun z => ?_]
          · exact e2
          · have h3 := s2.fh _ _ e2
            have h4 := g.h a _ hoa pa
            rw [z, h4] at h3
            exact w.notCode hoa _ (Option.some.inj h3)
    · obtain ⟨v, h1, r⟩ := s.sh j dj hj h
      exact ⟨v, h1, r.mono f3⟩
    · obtain ⟨b, h1, r, z1, z2, z3⟩ := s.ow j hj dj h
      have hb3 : (fun b => if b = a then none else F2 b) b = none := by
        show (if b = a then none else F2 b) = none
        by_cases z : b = a
        · rw [if_pos z]
        · rw [if_neg z]
          by_cases hji : j = i
          · subst hji
            rw [ea] at h1
            cases h1
            exact absurd rfl z
          · obtain ⟨b', h1', _, z1', _⟩ := s2.ow j (List.mem_filter.mpr ⟨hj, by simpa using hji⟩) dj h
            rw [h1] at h1'
            cases h1'
            exact z1'
      refine ⟨b, h1, ?_, hb3, z2, z3⟩
      cases r with
      | lst q1 q2 => exact .lst (g.h _ _ q1 z3) (q2.mono f3)
      | dct q1 q2 q3 => exact .dct (g.h _ _ q1 z3) q2 fun i x d a b => (q3 i x d a b).mono f3
    · obtain ⟨h1, h2⟩ := f32 b o h
      rcases g.new b o h2 with z | z | z
      · exact .inl (key b o z h1)
      · exact .inr (.inl z)
      · exact .inr (.inr z)
  · have hF : F1 = F := by
      funext b
      cases h : F1 b with
      | none => cases q : F b with
        | none => rfl
        | some o => rw [e1 _ _ q] at h; cases h
      | some o =>
        rcases hn b o h with z | ⟨z1, _, z2⟩
        · exact z.symm
        · exact absurd ⟨z1, z2⟩ hi
    subst hF
    refine ⟨F2, ⟨s2.f0, s2.fh, s2.stay, s2.newF, s2.pen, s.len, fun j dj hj h => s2.sh j dj (fun z => hj (List.mem_filter.mp z).1) h, fun j hj dj h => ?_, s.dj⟩, g, fun _ h => h⟩
    exact s2.ow j (List.mem_filter.mpr ⟨hj, by
      simp only [ne_eq, decide_not, Bool.not_eq_eq_eq_not, Bool.not_true, decide_eq_false_iff_not]
      intro z
      subst z
      exact hi ⟨hj, dj, h⟩⟩) dj h
def flatL : D → Bool
  | .list xs => xs.all flatD
  | _ => false
@[reducible] def mLookL (me : ME) : ME := fun Γ n Q => me Γ n fun d n1 => flatL d = true ∧ Q d n1
theorem Rps.flat_any {K : PySem.W.Frag} {F G : Hp} {ds : List D} {xs : List V} (f : ds.all flatD = true) (h : Rps K F ds xs) : Rps K G ds xs :=
  ⟨h.len, fun i x d e1 e2 => Rp.flat_any (List.all_eq_true.mp f d (List.mem_of_getElem? e2)) (h.at_ i x d e1 e2)⟩
theorem lf_look (i : Nat) (h : LF p (O.filter (· ≠ i)) te me) : LF p O te (mLookL me) := fun F0 H0 F H σ Γ n Q s q Q' k => by
  obtain ⟨F1, e1, s1, hn⟩ := s.look i
  refine h F0 H0 F1 H σ Γ n _ s1 q _ fun d a F2 H2 n2 s2 g2 w f ha ⟨fl, q2⟩ => ?_
  obtain ⟨F3, s3, g3, z3⟩ := s.unlookN e1 hn s2 g2
  refine k d a F3 H2 n2 s3 g3 ?_ (z3 a f) ha q2
  cases w with
  | lst w1 w2 => exact .lst w1 (w2.flat_any fl)
  | dct _ _ _ => cases fl
theorem fLook (i : Nat) {O' : List Nat} (h : RF X p O' e te me) (k : O' = O.filter (· ≠ i)) : RF X p O e te (mLookL me) := ⟨h.pe, lf_look i (k ▸ h.le)⟩
end
end RR
end
section
namespace RR
open PySem PySem.Spec L2
open PyProof.Rows hiding St
section
variable {K : PySem.W.Frag}
theorem sLcIfLook {O' : List Nat} (j : Nat) (hj : O' = O.filter (· ≠ j)) {scope : Scope} {own : List (Str × Nat)} (y : Nat) {yn : Str} {spos : Pos} (hc : X.calm = true) (hN : X.N.Nodup) (hy : X.N[y]? = some yn) (hyl : X.env.scope.names.lookup yn = some .local) (hsw : swapsWith (.ListComp elt [⟨tg, iter, [c], 0⟩] scope pos) (some (.Name yn q)) spos.line X.env = pure true) (hi : RI X p O' tg iter wi mi) (ok : BlkOk X.N X.env.scope scope own)
    (hg : ∀ (s : Shared) (H : Hp) (C : Addr) (cl : List (Str × Addr)) (fp : List Addr), RG (X.blk s H scope (compEnvC scope cl C X.env) fp) p O' is tg g mg) (ht : ∀ (s : Shared) (H : Hp) (C : Addr) (cl : List (Str × Addr)) (fp : List Addr), RT (X.blk s H scope (compEnvC scope cl C X.env) fp) p O' c tT mT)
    (he : ∀ (s : Shared) (H : Hp) (C : Addr) (cl : List (Str × Addr)) (fp : List Addr), RE (X.blk s H scope (compEnvC scope cl C X.env) fp) p O' elt te me)
    (his : ∀ i ∈ is, i ∈ own.map (·.2)) (hp : ∀ v ∈ own.map (·.2), p.off v) (hO : y ∉ O) (hpy : p.off y) (hs : ∀ x, foldedSetIterable iter X.env x = pure x := by intro _; rfl) :
    RS X p Ob O (y :: O) (.Assign [.Name yn q] (.ListComp elt [⟨tg, iter, [c], 0⟩] scope pos) spos) (tAsg (tLc wi g tT te (own.map (·.2))) (gName y)) (mSet y (mLookL (mLc mi mg mT me (own.map (·.2))))) :=
  s_own (fLook j (fLcIf hc hN hi ok hg ht he his hp hs) hj) hO hpy (ps_setLc hc hN hy hyl hsw hi.pi ok (fun s H C cl fp => (hg s H C cl fp).pg) (fun s H C cl fp => pts_one (ht s H C cl fp).pt) (fun s H C cl fp => (he s H C cl fp).pe) hs)
end
end RR
end
section
namespace RR
open PySem PySem.Spec L2
open PyProof.Rows hiding St
section
variable {p : Pm} {F0 H0 F H F' H' : Hp} {O O' : List Nat} {σ σ' : St} {Γ Γ' : DEnv} {n n' : Nat} {a : Addr} {u w : HO} {kvs : List (Key × V)}
theorem Sep.dict (s : Sep p F0 H0 O F H σ Γ n) {i : Nat} {ds : List (D × D)} (hi : i ∉ O) (e : Γ[i]? = some (some (.dict ds))) : ∃ d kvs, σ[i]? = some (some (.ref d)) ∧ Rd F d (.dK kvs) ∧ ds.map (·.1) = kvs.map (fun p => keyD p.1) ∧ ∀ (i : Nat) x d, kvs[i]? = some x → ds[i]? = some d → Rp p.K F d.2 x.2 := by
  obtain ⟨v, h1, r⟩ := s.sh i _ hi e
  cases r with
  | dct a1 a2 a3 => exact ⟨_, _, h1, a1, a2, a3⟩
def tOrE (t u : TE) : TE := fun σ H Q => t σ H Q ∨ u σ H Q
theorem pe_or {X : Cx} {e : Expr} {t u : TE} (h : PE X e t) (k : PE X e u) : PE X e (tOrE t u) := ⟨fun pins s σ H D I q => q.elim (h.run pins s σ H D I) (k.run pins s σ H D I)⟩
@[reducible] def mIKeys (i : Nat) : MI := fun Γ n Q => ∃ ds, Γ[i]? = some (some (.dict ds)) ∧ Q (ds.map (·.1)) n
@[reducible] def mIVals (i : Nat) : MI := fun Γ n Q => ∃ ds, Γ[i]? = some (some (.dict ds)) ∧ Q (ds.map (·.2)) n
@[reducible] def mIItems (i : Nat) : MI := fun Γ n Q => ∃ ds, Γ[i]? = some (some (.dict ds)) ∧ Q (ds.map fun q => .tuple [q.1, q.2]) n
end
end RR
end
section
namespace RR
open PySem PySem.Spec L2
open PyProof.Rows hiding St
section
variable {X : Cx} {K : PySem.W.Frag}
def rCntD (K : PySem.W.Frag) : V → List V → Hp → VK → Prop := fun x xs H Q => ∃ (a : Addr) (y : V) (d : D) (ds : List D) (vs : List V), x = .ref a ∧ xs = [y] ∧ SqL K H a vs ∧ DpAll K H vs ds ∧ Dp K H y d ∧ PyData.plainAll ds = true ∧ d.plain = true ∧ d.depth ≤ 60 ∧ Q (.int ((ds.countP fun z => PyData.eqv z d : Nat) : Int)) H
theorem mt_cntD (hu : X.A.units + 65 < cLine) : MtR X "list.count" (rCntD X.K) := fun pins s σ H x xs v us Q I rx rxs w => by
  obtain ⟨a, y, d, ds, vs, rfl, rfl, hs, ha, hy, p1, p2, p3, fin⟩ := w
  cases rx
  obtain ⟨u, rfl, ru⟩ := rxs.one
  obtain ⟨its, rv, hl, hz⟩ := I.list hs
  obtain ⟨as, q1⟩ := Dp.readsAll I _ _ its ha rv
  obtain ⟨bs, q2⟩ := Dp.reads I d y u hy ru
  exact SeqAt.count_list_data (vs := its.toArray) hl.isList (by simpa using q1) q2 p1 p2 (by omega) ⟨.int _, H, I.tok _, ⟨s.toks, rfl⟩, fin⟩
def dCnt : D → D → Option D
  | .list xs, d => if PyData.plainAll xs = true ∧ PyData.canLayAll0 xs = true ∧ d.plain = true ∧ SeqAt.shaped d = true ∧ d.depth ≤ 60 then some (.int ((xs.countP fun z => PyData.eqv z d : Nat) : Int)) else none
  | _, _ => none
@[reducible] def mCnt (mo me : ME) : ME := fun Γ n Q => mo Γ n fun x n1 => ∃ xs, x = .list xs ∧ me Γ n1 fun d n2 => ∃ r, dCnt x d = some r ∧ Q r n2
variable {p : Pm} {O : List Nat} {o e f : Expr} {to te tf : TE} {mo me mf : ME} {apos cpos : Pos}
theorem le_cnt (ho : LE p O to mo) (he : LE p O te me) : LE p O (tBM p.K "list" (rCntD p.K) to (tCons te tNil)) (mCnt mo me) := fun F0 H0 F H σ Γ n Q s q Q' k =>
  ho F0 H0 F H σ Γ n _ s q _ fun dx x F1 H1 n1 s1 g1 r1 ⟨xs, ex, q1⟩ => by
    subst ex
    obtain ⟨a, vs, rfl, h1, r⟩ := r1.lst_inv
    refine ⟨.inl ⟨rfl, vs, .of (s1.fh _ _ h1)⟩, ?_⟩
    refine he F0 H0 F1 H1 σ Γ n1 _ s1 q1 _ fun d v F2 H2 n2 s2 g2 r2 ⟨z, fe, q2⟩ => ?_
    unfold dCnt at fe
    dsimp only at fe
    obtain ⟨⟨c1, c2, c3, c4, c5⟩, rfl⟩ := ifs' fe
    have rr := (r.mono g2.f).mono s2.fh
    exact ⟨a, v, d, xs, vs, rfl, rfl, .of (s2.fh _ _ (g2.f _ _ h1)), Rp.dps _ _ c2 rr, (r2.mono s2.fh).dpS c4, c1, c3, c5, k _ _ F2 H2 n2 s2 (g1.trans g2) (.int _) q2⟩
theorem eCnt (hK : p.K = X.K) (hu : X.A.units + 65 < cLine) (ho : RE X p O o to mo) (he : RE X p O e te me)
    (hbase : attributeBase o "count" X.env (eval o X.env) = eval o X.env := by rfl)
    (hfew : ((backTo cpos (starEach [e] X.env)).all (fun x => !x.1) && (backToKw cpos (keywordEach [] X.env)).all (fun x => x.1.isSome) && decide ([e].length + ([] : List Keyword).length + (if ([] : List Keyword).isEmpty then 0 else 1) < 30)) = true := by rfl)
    (hline : (apos.endLine == cpos.line) = true := by rfl) (h1 : starEach [e] X.env = (false, eval e X.env) :: starEach [] X.env := by rfl) (hpl : (backTo cpos (starEach [] X.env)).any (·.1) = false := by rfl) :
    RE X p O (.Call (.Attribute o "count" apos) [e] [] cpos) (tBM p.K "list" (rCntD p.K) to (tCons te tNil)) (mCnt mo me) :=
  ⟨hK ▸ pe_bm PySem.F.plainAttrs_list PySem.F.slot_list_count PySem.F.type_list_count (mt_cntD hu) ho.pe (pa_cons he.pe pa_nil h1) hbase hfew hline h1 hpl, le_cnt ho.le he.le⟩
theorem Rp.isD {F H : Hp} {kvs : List (D × D)} {v : V} (h : Rp K F (.dict kvs) v) (s : Same F H) : ∃ a, v = .ref a ∧ IsD H a := by
  cases h with
  | dct h1 h2 h3 => exact ⟨_, rfl, .inl ⟨_, Same.rd s h1⟩⟩
end
end RR
end
section
namespace RR
open PySem PySem.Spec L2
open PyProof.Rows hiding St
abbrev VE := DEnv → Option D
abbrev VT := DEnv → Option Bool
abbrev VA := DEnv → Option (List D)
abbrev VP := List D → Option D
abbrev VI := DEnv → Option (List D)
abbrev VO := DEnv → Option (Option Int)
abbrev VG := D → DEnv → Option DEnv
abbrev VGs := List D → DEnv → Option DEnv
inductive Rs
  | nx (Γ : DEnv)
  | rt (d : D)
  | bk (Γ : DEnv)
  | ct (Γ : DEnv)
abbrev VS := DEnv → Option Rs
def Rs.to (E : EndsD) (n : Nat) : Rs → Prop
  | .nx Γ => E.nx Γ n
  | .rt d => E.rt d n
  | .bk Γ => E.bk Γ n
  | .ct Γ => E.ct Γ n
def FE (m : ME) (v : VE) : Prop := ∀ Γ n d (Q : D → Nat → Prop), v Γ = some d → Q d n → m Γ n Q
def FT (m : MT) (v : VT) : Prop := ∀ Γ n d (Q : Bool → Nat → Prop), v Γ = some d → Q d n → m Γ n Q
def FA (m : MA) (v : VA) : Prop := ∀ Γ n d (Q : List D → Nat → Prop), v Γ = some d → Q d n → m Γ n Q
def FO (m : MO) (v : VO) : Prop := ∀ Γ n d (Q : Option Int → Nat → Prop), v Γ = some d → Q d n → m Γ n Q
def FS (m : MS) (v : VS) : Prop := ∀ Γ n r (E : EndsD), v Γ = some r → r.to E n → m E Γ n
def FP (m : MP) (v : VP) : Prop := ∀ ds d (R : D → Prop), v ds = some d → R d → m ds R
def FGt (m : MG) (v : VG) : Prop := ∀ d Γ Γ' (Q : DEnv → Prop), v d Γ = some Γ' → Q Γ' → m d Γ Q
def FGs (m : List D → DEnv → (DEnv → Prop) → Prop) (v : VGs) : Prop := ∀ d Γ Γ' (Q : DEnv → Prop), v d Γ = some Γ' → Q Γ' → m d Γ Q
theorem bnd {α β : Type} {x : Option α} {f : α → Option β} {b : β} (h : x.bind f = some b) : ∃ a, x = some a ∧ f a = some b := by
  cases x with
  | none => cases h
  | some a => exact ⟨a, rfl, h⟩
theorem ifs {α : Type} {c : Prop} [Decidable c] {x y : α} (h : (if c then some x else none) = some y) : c ∧ x = y := by
  by_cases k : c
  · rw [if_pos k] at h; cases h; exact ⟨k, rfl⟩
  · rw [if_neg k] at h; cases h
section
variable {ma mb mc me : ME} {a b c e : VE} {f g : D → D → Option D} {u : D → Option D} {mt mu : MT} {t s : VT} {mA : MA} {vA : VA} {mS nS : MS} {vS wS : VS} {mG : MG} {vG : VG} {mGs : List D → DEnv → (DEnv → Prop) → Prop} {vGs : VGs}
def vC (d : D) : VE := fun _ => some d
def vVar (i : Nat) : VE := fun Γ => match Γ[i]? with | some (some d) => some d | _ => none
theorem f_C {d : D} : FE (mC d) (vC d) := fun Γ n d' Q e q => by cases e; exact q
theorem f_Var {i : Nat} : FE (mVar i) (vVar i) := fun Γ n d' Q e q => by
  unfold vVar at e
  split at e
  · cases e; exact ⟨_, by assumption, q⟩
  · cases e
def vOp (f : D → D → Option D) (a b : VE) : VE := fun Γ => (a Γ).bind fun x => (b Γ).bind fun y => f x y
theorem f_Op (ha : FE ma a) (hb : FE mb b) : FE (mOp f ma mb) (vOp f a b) := fun Γ n d Q e q => by
  obtain ⟨x, h1, e⟩ := bnd e
  obtain ⟨y, h2, e⟩ := bnd e
  exact ha Γ n x _ h1 (hb Γ n y _ h2 ⟨d, e, q⟩)
def vUn (f : D → Option D) (a : VE) : VE := fun Γ => (a Γ).bind f
theorem f_Un (ha : FE ma a) : FE (mUn u ma) (vUn u a) := fun Γ n d Q e q => by
  obtain ⟨x, h1, e⟩ := bnd e
  exact ha Γ n x _ h1 ⟨d, e, q⟩
def asB : D → Option Bool
  | .bool b => some b
  | _ => none
theorem asB_eq {d : D} {k : Bool} (h : asB d = some k) : d = .bool k := by
  unfold asB at h
  split at h
  · cases h; rfl
  · cases h
def vTest (a : VE) : VT := fun Γ => (a Γ).bind asB
theorem f_Test (ha : FE ma a) : FT (mTest ma) (vTest a) := fun Γ n d Q e q => by
  obtain ⟨x, h1, e⟩ := bnd e
  exact ha Γ n x _ h1 ⟨d, asB_eq e, q⟩
def vTru (a : VE) : VT := fun Γ => (a Γ).bind truD
theorem f_Tru (ha : FE ma a) : FT (mTru ma) (vTru a) := fun Γ n d Q e q => by
  obtain ⟨x, h1, e⟩ := bnd e
  exact ha Γ n x _ h1 ⟨d, e, q⟩
def vChain (f g : D → D → Option D) (a b c : VE) : VE := fun Γ => (a Γ).bind fun x => (b Γ).bind fun y => (f x y).bind fun r => (asB r).bind fun k => if k = true then (c Γ).bind fun z => g y z else some (.bool false)
theorem f_Chain (ha : FE ma a) (hb : FE mb b) (hc : FE mc c) : FE (mChain f g ma mb mc) (vChain f g a b c) := fun Γ n d Q e q => by
  obtain ⟨x, h1, e⟩ := bnd e
  obtain ⟨y, h2, e⟩ := bnd e
  obtain ⟨r, h3, e⟩ := bnd e
  obtain ⟨k, h4, e⟩ := bnd e
  refine ha Γ n x _ h1 (hb Γ n y _ h2 ⟨k, by rw [h3, asB_eq h4], ?_⟩)
  cases k with
  | true =>
    rw [if_pos rfl] at e ⊢
    obtain ⟨z, h5, e⟩ := bnd e
    exact hc Γ n z _ h5 ⟨d, e, q⟩
  | false =>
    rw [if_neg (by decide)] at e ⊢
    cases e
    exact q
def vAnd (t s : VT) : VT := fun Γ => (t Γ).bind fun k => if k = true then s Γ else some false
def vOr (t s : VT) : VT := fun Γ => (t Γ).bind fun k => if k = true then some true else s Γ
def vNot (t : VT) : VT := fun Γ => (t Γ).bind fun k => some (!k)
theorem f_And (ha : FT mt t) (hb : FT mu s) : FT (mAnd mt mu) (vAnd t s) := fun Γ n d Q e q => by
  obtain ⟨k, h1, e⟩ := bnd e
  refine ha Γ n k _ h1 ?_
  cases k with
  | true => rw [if_pos rfl] at e ⊢; exact hb Γ n d Q e q
  | false => rw [if_neg (by decide)] at e ⊢; cases e; exact q
theorem f_Or (ha : FT mt t) (hb : FT mu s) : FT (mOr mt mu) (vOr t s) := fun Γ n d Q e q => by
  obtain ⟨k, h1, e⟩ := bnd e
  refine ha Γ n k _ h1 ?_
  cases k with
  | true => rw [if_pos rfl] at e ⊢; cases e; exact q
  | false => rw [if_neg (by decide)] at e ⊢; exact hb Γ n d Q e q
theorem f_Not (ha : FT mt t) : FT (mNot mt) (vNot t) := fun Γ n d Q e q => by
  obtain ⟨k, h1, e⟩ := bnd e
  cases e
  exact ha Γ n k _ h1 q
def vAndV (a b : VE) : VE := fun Γ => (a Γ).bind fun x => (asB x).bind fun k => if k = true then b Γ else some (.bool false)
def vOrV (a b : VE) : VE := fun Γ => (a Γ).bind fun x => (asB x).bind fun k => if k = true then some (.bool true) else b Γ
def vNotV (a : VE) : VE := fun Γ => (a Γ).bind fun x => (asB x).bind fun k => some (.bool (!k))
theorem f_AndV (ha : FE ma a) (hb : FE mb b) : FE (mAndV ma mb) (vAndV a b) := fun Γ n d Q e q => by
  obtain ⟨x, h1, e⟩ := bnd e
  obtain ⟨k, h2, e⟩ := bnd e
  refine ha Γ n x _ h1 ⟨k, asB_eq h2, ?_⟩
  cases k with
  | true => rw [if_pos rfl] at e ⊢; exact hb Γ n d Q e q
  | false => rw [if_neg (by decide)] at e ⊢; cases e; exact q
theorem f_OrV (ha : FE ma a) (hb : FE mb b) : FE (mOrV ma mb) (vOrV a b) := fun Γ n d Q e q => by
  obtain ⟨x, h1, e⟩ := bnd e
  obtain ⟨k, h2, e⟩ := bnd e
  refine ha Γ n x _ h1 ⟨k, asB_eq h2, ?_⟩
  cases k with
  | true => rw [if_pos rfl] at e ⊢; cases e; exact q
  | false => rw [if_neg (by decide)] at e ⊢; exact hb Γ n d Q e q
theorem f_NotV (ha : FE ma a) : FE (mNotV ma) (vNotV a) := fun Γ n d Q e q => by
  obtain ⟨x, h1, e⟩ := bnd e
  obtain ⟨k, h2, e⟩ := bnd e
  cases e
  exact ha Γ n x _ h1 ⟨k, asB_eq h2, q⟩
def vIf (t : VT) (a b : VE) : VE := fun Γ => (t Γ).bind fun k => if k = true then a Γ else b Γ
theorem f_If (ht : FT mt t) (ha : FE ma a) (hb : FE mb b) : FE (mIf mt ma mb) (vIf t a b) := fun Γ n d Q e q => by
  obtain ⟨k, h1, e⟩ := bnd e
  refine ht Γ n k _ h1 ?_
  cases k with
  | true => rw [if_pos rfl] at e ⊢; exact ha Γ n d Q e q
  | false => rw [if_neg (by decide)] at e ⊢; exact hb Γ n d Q e q
def vNil : VA := fun _ => some []
def vCons (a : VE) (r : VA) : VA := fun Γ => (a Γ).bind fun x => (r Γ).bind fun xs => some (x :: xs)
theorem f_Nil : FA mNil vNil := fun Γ n d Q e q => by cases e; exact q
theorem f_Cons (ha : FE ma a) (hr : FA mA vA) : FA (mCons ma mA) (vCons a vA) := fun Γ n d Q e q => by
  obtain ⟨x, h1, e⟩ := bnd e
  obtain ⟨xs, h2, e⟩ := bnd e
  cases e
  exact ha Γ n x _ h1 (hr Γ n xs _ h2 q)
def vTup (r : VA) : VE := fun Γ => (r Γ).bind fun xs => if xs.length ≤ lim then some (.tuple xs) else none
def vLst (r : VA) : VE := fun Γ => (r Γ).bind fun xs => if xs.length ≤ lim then some (.list xs) else none
theorem f_Tup (h : FA mA vA) : FE (mTup mA) (vTup vA) := fun Γ n d Q e q => by
  obtain ⟨xs, h1, e⟩ := bnd e
  obtain ⟨h2, rfl⟩ := ifs e
  exact h Γ n xs _ h1 ⟨h2, q⟩
theorem f_Lst (h : FA mA vA) : FE (mLst mA) (vLst vA) := fun Γ n d Q e q => by
  obtain ⟨xs, h1, e⟩ := bnd e
  obtain ⟨h2, rfl⟩ := ifs e
  exact h Γ n xs _ h1 ⟨h2, q⟩
def vDict0 : VE := fun _ => some (.dict [])
theorem f_Dict0 : FE mDict0 vDict0 := fun Γ n d Q e q => by cases e; exact q
def vCl (k : List D → Option D) (r : VA) : VE := fun Γ => (r Γ).bind k
theorem f_Cl {k : List D → Option D} (h : FA mA vA) : FE (mCl k mA) (vCl k vA) := fun Γ n d Q e q => by
  obtain ⟨xs, h1, e⟩ := bnd e
  exact h Γ n xs _ h1 ⟨d, e, q⟩
def vIsi (T : String) (a : VE) : VE := fun Γ => (a Γ).bind fun x => some (.bool (isiB x T))
def vIsi2 (T U : String) (a : VE) : VE := fun Γ => (a Γ).bind fun x => some (.bool (isiB x T || isiB x U))
theorem f_Isi {T : String} (h : FE ma a) : FE (mIsi T ma) (vIsi T a) := fun Γ n d Q e q => by
  obtain ⟨x, h1, e⟩ := bnd e
  cases e
  exact h Γ n x _ h1 q
theorem f_Isi2 {T U : String} (h : FE ma a) : FE (mIsi2 T U ma) (vIsi2 T U a) := fun Γ n d Q e q => by
  obtain ⟨x, h1, e⟩ := bnd e
  cases e
  exact h Γ n x _ h1 q
def vNoPart : VO := fun _ => some none
def asI : D → Option Int
  | .int i => some i
  | _ => none
theorem asI_eq {d : D} {k : Int} (h : asI d = some k) : d = .int k := by
  unfold asI at h
  split at h
  · cases h; rfl
  · cases h
def vPart (a : VE) : VO := fun Γ => (a Γ).bind fun x => (asI x).bind fun i => some (some i)
theorem f_NoPart : FO mNoPart vNoPart := fun Γ n d Q e q => by cases e; exact q
theorem f_Part (h : FE ma a) : FO (mPart ma) (vPart a) := fun Γ n d Q e q => by
  obtain ⟨x, h1, e⟩ := bnd e
  obtain ⟨i, h2, e⟩ := bnd e
  cases e
  exact h Γ n x _ h1 ⟨i, asI_eq h2, q⟩
def vSl (a : VE) (lo hi : VO) : VE := fun Γ => (a Γ).bind fun x => (lo Γ).bind fun l => (hi Γ).bind fun h => dSl l h x
theorem f_Sl {ml mh : MO} {lo hi : VO} (h : FE ma a) (hl : FO ml lo) (hh : FO mh hi) : FE (mSl ma ml mh) (vSl a lo hi) := fun Γ n d Q e q => by
  obtain ⟨x, h1, e⟩ := bnd e
  obtain ⟨l, h2, e⟩ := bnd e
  obtain ⟨k, h3, e⟩ := bnd e
  exact h Γ n x _ h1 (hl Γ n l _ h2 (hh Γ n k _ h3 ⟨d, e, q⟩))
def vCall (f : VP) (r : VA) : VE := fun Γ => (r Γ).bind f
theorem f_Call {mf : MP} {f : VP} (hf : FP mf f) (h : FA mA vA) : FE (mCall mf mA) (vCall f vA) := fun Γ n d Q e q => by
  obtain ⟨xs, h1, e⟩ := bnd e
  exact h Γ n xs _ h1 (hf xs d _ e q)
def vLook (a : VE) : VE := fun Γ => (a Γ).bind fun x => if flatD x = true then some x else none
theorem f_Look (h : FE ma a) : FE (mLook ma) (vLook a) := fun Γ n d Q e q => by
  obtain ⟨x, h1, e⟩ := bnd e
  obtain ⟨h2, rfl⟩ := ifs e
  exact h Γ n x _ h1 ⟨h2, q⟩
def vgName (i : Nat) : VG := fun d Γ => some (Γ.set i (some d))
def vgNil : VGs := fun ds Γ => match ds with | [] => some Γ | _ => none
def vgCons (g : VG) (r : VGs) : VGs := fun ds Γ => match ds with | d :: ds => (g d Γ).bind fun Γ1 => r ds Γ1 | _ => none
def vgTup (k : Nat) (r : VGs) : VG := fun d Γ => match d with | .tuple ds => if ds.length = k then r ds Γ else none | _ => none
theorem f_gName {i : Nat} : FGt (mgName i) (vgName i) := fun d Γ Γ' Q e q => by cases e; exact q
theorem f_gNil : FGs mgNil vgNil := fun d Γ Γ' Q e q => by
  unfold vgNil at e
  split at e
  · cases e; exact ⟨rfl, q⟩
  · cases e
theorem f_gCons (h : FGt mG vG) (hr : FGs mGs vGs) : FGs (mgCons mG mGs) (vgCons vG vGs) := fun d Γ Γ' Q e q => by
  unfold vgCons at e
  split at e
  · obtain ⟨Γ1, h1, e⟩ := bnd e
    exact ⟨_, _, rfl, h _ _ _ _ h1 (hr _ _ _ _ e q)⟩
  · cases e
theorem f_gTup {k : Nat} (hr : FGs mGs vGs) : FGt (mgTup k mGs) (vgTup k vGs) := fun d Γ Γ' Q e q => by
  unfold vgTup at e
  split at e
  · split at e
    · exact ⟨_, rfl, by assumption, hr _ _ _ _ e q⟩
    · cases e
  · cases e
def FI' (m : MI) (v : VI) : Prop := ∀ Γ n d (Q : List D → Nat → Prop), v Γ = some d → Q d n → m Γ n Q
def vISeq (a : VE) : VI := fun Γ => (a Γ).bind seqD
theorem f_ISeq (h : FE ma a) : FI' (mISeq ma) (vISeq a) := fun Γ n d Q e q => by
  obtain ⟨x, h1, e⟩ := bnd e
  exact h Γ n x _ h1 ⟨d, e, q⟩
def enum1 : List D → Option (List D)
  | [d] => (seqD d).bind fun xs => some (enumD 0 xs)
  | _ => none
def vIEn (r : VA) : VI := fun Γ => (r Γ).bind enum1
theorem f_IEn (h : FA mA vA) : FI' (mIEn mA) (vIEn vA) := fun Γ n d Q e q => by
  obtain ⟨xs, h1, e⟩ := bnd e
  unfold enum1 at e
  split at e
  · obtain ⟨ys, h2, e⟩ := bnd e
    cases e
    exact h Γ n _ _ h1 ⟨_, ys, rfl, h2, q⟩
  · cases e
def zip2 : List D → Option (List D)
  | [.list xs, .list ys] => some (zipD xs ys)
  | [.tuple xs, .tuple ys] => some (zipD xs ys)
  | _ => none
def vIZ (r : VA) : VI := fun Γ => (r Γ).bind zip2
theorem f_IZ (h : FA mA vA) : FI' (mIZ mA) (vIZ vA) := fun Γ n d Q e q => by
  obtain ⟨xs, h1, e⟩ := bnd e
  unfold zip2 at e
  split at e
  · cases e; exact h Γ n _ _ h1 (.inl ⟨_, _, rfl, q⟩)
  · cases e; exact h Γ n _ _ h1 (.inr ⟨_, _, rfl, q⟩)
  · cases e
instance (i : Int) : Decidable (okR i) := inferInstanceAs (Decidable (_ ∧ _))
def range1 : List D → Option (List D)
  | [.int j] => if okR j then some (rangeD 0 j.toNat) else none
  | _ => none
def range2 : List D → Option (List D)
  | [.int i, .int j] => if okR i ∧ okR j then some (rangeD i (j - i).toNat) else none
  | _ => none
def vIR1 (r : VA) : VI := fun Γ => (r Γ).bind range1
def vIR2 (r : VA) : VI := fun Γ => (r Γ).bind range2
theorem f_IR1 (h : FA mA vA) : FI' (mIR1 mA) (vIR1 vA) := fun Γ n d Q e q => by
  obtain ⟨xs, h1, e⟩ := bnd e
  unfold range1 at e
  split at e
  · obtain ⟨h2, rfl⟩ := ifs e
    exact h Γ n _ _ h1 ⟨_, rfl, h2, q⟩
  · cases e
theorem f_IR2 (h : FA mA vA) : FI' (mIR2 mA) (vIR2 vA) := fun Γ n d Q e q => by
  obtain ⟨xs, h1, e⟩ := bnd e
  unfold range2 at e
  split at e
  · obtain ⟨h2, rfl⟩ := ifs e
    exact h Γ n _ _ h1 ⟨_, _, rfl, h2.1, h2.2, q⟩
  · cases e
def vcomp (g : VG) (t : VT) (e : VE) (Γ : DEnv) : List D → Option (List D)
  | [] => some []
  | d :: ds => (g d Γ).bind fun Γ2 => (t Γ2).bind fun b => if b = true then (e Γ2).bind fun y => (vcomp g t e Γ ds).bind fun r => some (y :: r) else vcomp g t e Γ ds
def vYes : VT := fun _ => some true
theorem f_Yes : FT mYes vYes := fun Γ n d Q e q => by cases e; exact q
theorem f_comp (hg : FGt mG vG) (ht : FT mt t) (he : FE me e) {Γ : DEnv} : ∀ (ds r : List D) (n : Nat) (Q : List D → Nat → Prop), vcomp vG t e Γ ds = some r → Q r n → compW mG mt me Γ ds n Q
  | [], r, n, Q, h, q => by cases h; exact q
  | d :: ds, r, n, Q, h, q => by
    obtain ⟨Γ2, h1, h⟩ := bnd h
    obtain ⟨k, h2, h⟩ := bnd h
    refine hg _ _ _ _ h1 (ht _ _ _ _ h2 ?_)
    cases k with
    | true =>
      rw [if_pos rfl] at h ⊢
      obtain ⟨y, h3, h⟩ := bnd h
      obtain ⟨r', h4, h⟩ := bnd h
      cases h
      exact he _ _ _ _ h3 (f_comp hg ht he ds r' n _ h4 q)
    | false =>
      rw [if_neg (by decide)] at h ⊢
      exact f_comp hg ht he ds r n _ h q
def vLc (i : VI) (g : VG) (t : VT) (e : VE) (vs : List Nat) : VE := fun Γ => (i Γ).bind fun ds => if ds.length ≤ lim then (vcomp g t e (wipeD Γ vs) ds).bind fun r => some (.list r) else none
theorem f_Lc {mi : MI} {i : VI} {vs : List Nat} (hi : FI' mi i) (hg : FGt mG vG) (ht : FT mt t) (he : FE me e) : FE (mLc mi mG mt me vs) (vLc i vG t e vs) := fun Γ n d Q h q => by
  obtain ⟨ds, h1, h⟩ := bnd h
  split at h
  · obtain ⟨r, h2, h⟩ := bnd h
    cases h
    exact hi _ _ _ _ h1 ⟨by assumption, f_comp hg ht he ds r n _ h2 q⟩
  · cases h
def vcompI (g : VG) (t : VT) (e : VE) (Γ : DEnv) : List D → List D → Option (List D)
  | [], acc => some acc
  | d :: ds, acc => (g d Γ).bind fun Γ2 => (t Γ2).bind fun b => if b = true then (e Γ2).bind fun y => if acc.length < lim then vcompI g t e Γ ds (acc ++ [y]) else none else vcompI g t e Γ ds acc
def vcompO (g : VG) (t : VT) (i1 : VI) (g1 : VG) (t1 : VT) (e : VE) (vs1 : List Nat) (Γ : DEnv) : List D → List D → Option (List D)
  | [], acc => some acc
  | d :: ds, acc => (g d Γ).bind fun Γ2 => (t Γ2).bind fun b => if b = true then (i1 Γ2).bind fun es => (vcompI g1 t1 e (wipeD Γ2 vs1) es acc).bind fun acc' => vcompO g t i1 g1 t1 e vs1 Γ ds acc' else vcompO g t i1 g1 t1 e vs1 Γ ds acc
theorem f_compI (hg : FGt mG vG) (ht : FT mt t) (he : FE me e) {Γ : DEnv} : ∀ (ds acc r : List D) (n : Nat) (Q : List D → Nat → Prop), vcompI vG t e Γ ds acc = some r → Q r n → compI mG mt me Γ ds n acc Q
  | [], acc, r, n, Q, h, q => by cases h; exact q
  | d :: ds, acc, r, n, Q, h, q => by
    obtain ⟨Γ2, h1, h⟩ := bnd h
    obtain ⟨k, h2, h⟩ := bnd h
    refine hg _ _ _ _ h1 (ht _ _ _ _ h2 ?_)
    cases k with
    | true =>
      rw [if_pos rfl] at h ⊢
      obtain ⟨y, h3, h⟩ := bnd h
      refine he _ _ _ _ h3 ?_
      split at h
      · exact ⟨by assumption, f_compI hg ht he ds _ r n _ h q⟩
      · cases h
    | false =>
      rw [if_neg (by decide)] at h ⊢
      exact f_compI hg ht he ds acc r n _ h q
theorem f_compO {mi1 : MI} {i1 : VI} {mG1 : MG} {vG1 : VG} {vs1 : List Nat} (hg : FGt mG vG) (ht : FT mt t) (hi : FI' mi1 i1) (hg1 : FGt mG1 vG1) (ht1 : FT mu s) (he : FE me e) {Γ : DEnv} : ∀ (ds acc r : List D) (n : Nat) (Q : List D → Nat → Prop), vcompO vG t i1 vG1 s e vs1 Γ ds acc = some r → Q r n → compO mG mt mi1 mG1 mu me vs1 Γ ds n acc Q
  | [], acc, r, n, Q, h, q => by cases h; exact q
  | d :: ds, acc, r, n, Q, h, q => by
    obtain ⟨Γ2, h1, h⟩ := bnd h
    obtain ⟨k, h2, h⟩ := bnd h
    refine hg _ _ _ _ h1 (ht _ _ _ _ h2 ?_)
    cases k with
    | true =>
      rw [if_pos rfl] at h ⊢
      obtain ⟨es, h3, h⟩ := bnd h
      obtain ⟨acc', h4, h⟩ := bnd h
      exact hi _ _ _ _ h3 (f_compI hg1 ht1 he es acc acc' n _ h4 (f_compO hg ht hi hg1 ht1 he ds acc' r n Q h q))
    | false =>
      rw [if_neg (by decide)] at h ⊢
      exact f_compO hg ht hi hg1 ht1 he ds acc r n _ h q
def vLc2 (i : VI) (g : VG) (t : VT) (i1 : VI) (g1 : VG) (t1 : VT) (e : VE) (vs vs1 : List Nat) : VE := fun Γ => (i Γ).bind fun ds => (vcompO g t i1 g1 t1 e vs1 (wipeD Γ vs) ds []).bind fun r => some (.list r)
theorem f_Lc2 {mi mi1 : MI} {i i1 : VI} {mG1 : MG} {vG1 : VG} {vs vs1 : List Nat} (hi : FI' mi i) (hg : FGt mG vG) (ht : FT mt t) (hi1 : FI' mi1 i1) (hg1 : FGt mG1 vG1) (ht1 : FT mu s) (he : FE me e) : FE (mLc2 mi mG mt mi1 mG1 mu me vs vs1) (vLc2 i vG t i1 vG1 s e vs vs1) := fun Γ n d Q h q => by
  obtain ⟨ds, h1, h⟩ := bnd h
  obtain ⟨r, h2, h⟩ := bnd h
  cases h
  exact hi _ _ _ _ h1 (f_compO hg ht hi1 hg1 ht1 he ds [] r n _ h2 q)
def vNext : VS := fun Γ => some (.nx Γ)
def vSeqS (t u : VS) : VS := fun Γ => (t Γ).bind fun r => match r with | .nx Γ1 => u Γ1 | r => some r
theorem f_Next : FS mNext vNext := fun Γ n r E e q => by cases e; exact q
theorem f_Seq (h : FS mS vS) (k : FS nS wS) : FS (mSeq mS nS) (vSeqS vS wS) := fun Γ n r E e q => by
  obtain ⟨r1, h1, e⟩ := bnd e
  refine h Γ n r1 _ h1 ?_
  cases r1 with
  | nx Γ1 => exact k Γ1 n r E e q
  | rt d => cases e; exact q
  | bk Γ1 => cases e; exact q
  | ct Γ1 => cases e; exact q
def vNever : VS := fun _ => none
theorem f_Never : FS mNever vNever := fun Γ n r E e q => by cases e
def vDrop (a : VE) : VS := fun Γ => (a Γ).bind fun _ => some (.nx Γ)
theorem f_Drop (h : FE ma a) : FS (mDrop ma) (vDrop a) := fun Γ n r E e q => by
  obtain ⟨x, h1, e⟩ := bnd e
  cases e
  exact h Γ n x _ h1 q
def vRet (a : VE) : VS := fun Γ => (a Γ).bind fun x => some (.rt x)
theorem f_Ret (h : FE ma a) : FS (mRet ma) (vRet a) := fun Γ n r E e q => by
  obtain ⟨x, h1, e⟩ := bnd e
  cases e
  exact h Γ n x _ h1 q
def vIfS (t : VT) (x y : VS) : VS := fun Γ => (t Γ).bind fun k => if k = true then x Γ else y Γ
theorem f_IfS (ht : FT mt t) (h : FS mS vS) (k : FS nS wS) : FS (mIfS mt mS nS) (vIfS t vS wS) := fun Γ n r E e q => by
  obtain ⟨b, h1, e⟩ := bnd e
  refine ht Γ n b _ h1 ?_
  cases b with
  | true => rw [if_pos rfl] at e ⊢; exact h Γ n r E e q
  | false => rw [if_neg (by decide)] at e ⊢; exact k Γ n r E e q
def vSet (i : Nat) (a : VE) : VS := fun Γ => (a Γ).bind fun x => some (.nx (Γ.set i (some x)))
theorem f_Set {i : Nat} (h : FE ma a) : FS (mSet i ma) (vSet i a) := fun Γ n r E e q => by
  obtain ⟨x, h1, e⟩ := bnd e
  cases e
  exact h Γ n x _ h1 q
def vPar (is : List Nat) (r : VA) : VS := fun Γ => (r Γ).bind fun ds => if ds.length = is.length then some (.nx (setsD Γ is ds)) else none
theorem f_Par {is : List Nat} (h : FA mA vA) : FS (mPar is mA) (vPar is vA) := fun Γ n r E e q => by
  obtain ⟨ds, h1, e⟩ := bnd e
  obtain ⟨h2, rfl⟩ := ifs e
  exact h Γ n ds _ h1 ⟨h2, q⟩
def vAsg (a : VE) (g : VG) : VS := fun Γ => (a Γ).bind fun x => (g x Γ).bind fun Γ1 => some (.nx Γ1)
theorem f_Asg (h : FE ma a) (hg : FGt mG vG) : FS (mAsg ma mG) (vAsg a vG) := fun Γ n r E e q => by
  obtain ⟨x, h1, e⟩ := bnd e
  obtain ⟨Γ1, h2, e⟩ := bnd e
  cases e
  exact h Γ n x _ h1 (hg _ _ _ _ h2 q)
def asL : D → Option (List D)
  | .list xs => some xs
  | _ => none
def vAppend (i : Nat) (a : VE) : VS := fun Γ => (vVar i Γ).bind fun x => (asL x).bind fun ds => (a Γ).bind fun d => if ds.length < lim then some (.nx (Γ.set i (some (.list (ds ++ [d]))))) else none
theorem f_Append {i : Nat} (h : FE ma a) : FS (mAppend i ma) (vAppend i a) := fun Γ n r E e q => by
  obtain ⟨x, h1, e⟩ := bnd e
  obtain ⟨ds, h2, e⟩ := bnd e
  obtain ⟨d, h3, e⟩ := bnd e
  obtain ⟨h4, rfl⟩ := ifs e
  unfold vVar at h1
  split at h1
  · cases h1
    unfold asL at h2
    split at h2
    · cases h2
      exact ⟨_, by assumption, h Γ n d _ h3 ⟨h4, q⟩⟩
    · cases h2
  · cases h1
def vfor (g : VG) (b : VS) : List D → DEnv → Option Rs
  | [], Γ => some (.nx Γ)
  | d :: ds, Γ => (g d Γ).bind fun Γ1 => (b Γ1).bind fun r => match r with | .nx Γ2 => vfor g b ds Γ2 | .ct Γ2 => vfor g b ds Γ2 | .bk Γ2 => some (.nx Γ2) | .rt x => some (.rt x)
def vFor (i : VI) (g : VG) (b : VS) : VS := fun Γ => (i Γ).bind fun ds => vfor g b ds Γ
theorem f_for (hg : FGt mG vG) (h : FS mS vS) {E : EndsD} {n : Nat} : ∀ (ds : List D) (Γ : DEnv) (r : Rs), vfor vG vS ds Γ = some r → r.to E n → forW mG mS E ds Γ n
  | [], Γ, r, e, q => by cases e; exact q
  | d :: ds, Γ, r, e, q => by
    obtain ⟨Γ1, h1, e⟩ := bnd e
    obtain ⟨r1, h2, e⟩ := bnd e
    refine hg _ _ _ _ h1 (h Γ1 n r1 _ h2 ?_)
    cases r1 with
    | nx Γ2 => exact f_for hg h ds Γ2 r e q
    | ct Γ2 => exact f_for hg h ds Γ2 r e q
    | bk Γ2 => cases e; exact q
    | rt x => cases e; exact q
theorem f_For {mi : MI} {i : VI} (hi : FI' mi i) (hg : FGt mG vG) (h : FS mS vS) : FS (mFor mi mG mS) (vFor i vG vS) := fun Γ n r E e q => by
  obtain ⟨ds, h1, e⟩ := bnd e
  exact hi _ _ _ _ h1 (f_for hg h ds Γ r e q)
def vwhile (t : VT) (b : VS) : Nat → DEnv → Option Rs
  | 0, _ => none
  | m + 1, Γ => (t Γ).bind fun k => if k = true then (b Γ).bind fun r => match r with | .nx Γ2 => vwhile t b m Γ2 | .ct Γ2 => vwhile t b m Γ2 | .bk Γ2 => some (.nx Γ2) | .rt x => some (.rt x) else some (.nx Γ)
def fuel : Nat := 100000
def vWhile (t : VT) (b : VS) : VS := fun Γ => vwhile t b fuel Γ
theorem f_While (ht : FT mt t) (h : FS mS vS) : FS (mWhile mt mS) (vWhile t vS) := fun Γ n r E e q => by
  refine ⟨fun m Γ n' => n' = n ∧ ∃ r, vwhile t vS m Γ = some r ∧ r.to E n, ⟨fuel, rfl, r, e, q⟩, ?_⟩
  rintro m Γ n' ⟨rfl, r, e, q⟩
  cases m with
  | zero => cases e
  | succ m =>
    obtain ⟨k, h1, e⟩ := bnd e
    refine ht Γ n' k _ h1 ?_
    cases k with
    | true =>
      rw [if_pos rfl] at e ⊢
      obtain ⟨r1, h2, e⟩ := bnd e
      refine h Γ n' r1 _ h2 ?_
      cases r1 with
      | nx Γ2 => exact ⟨m, Nat.lt_succ_self m, rfl, r, e, q⟩
      | ct Γ2 => exact ⟨m, Nat.lt_succ_self m, rfl, r, e, q⟩
      | bk Γ2 => cases e; exact q
      | rt x => cases e; exact q
    | false =>
      rw [if_neg (by decide)] at e ⊢
      cases e
      exact q
def outD : Rs → Option D
  | .nx _ => some .none
  | .rt d => some d
  | _ => none
def vFun (N : List Str) (np : Nat) (b : VS) : VP := fun ds => if ds.length = np then (b (startD N (ds.map some))).bind outD else none
theorem f_Fun {N : List Str} {np : Nat} (h : FS mS vS) : FP (mFun N np mS) (vFun N np vS) := fun ds d R e q => by
  unfold vFun at e
  split at e
  · obtain ⟨r, h1, e⟩ := bnd e
    refine ⟨by assumption, h _ _ r _ h1 ?_⟩
    cases r with
    | nx Γ => cases e; exact q
    | rt x => cases e; exact q
    | bk Γ => cases e
    | ct Γ => cases e
  · cases e
def vCallK (f : VP) (is : List Nat) (r : VA) : VE := fun Γ => (r Γ).bind fun ds => if ds.length = is.length then f (permL is ds) else none
theorem f_CallK {mf : MP} {f : VP} {is : List Nat} (hf : FP mf f) (h : FA mA vA) : FE (mCallK mf is mA) (vCallK f is vA) := fun Γ n d Q e q => by
  obtain ⟨xs, h1, e⟩ := bnd e
  split at e
  · exact h Γ n xs _ h1 ⟨by assumption, hf _ d _ e q⟩
  · cases e
def vdcomp (g : VG) (t : VT) (ek ev : VE) (Γ : DEnv) : List D → List (D × D) → Option (List (D × D))
  | [], acc => some acc
  | d :: ds, acc => (g d Γ).bind fun Γ2 => (t Γ2).bind fun b => if b = true then (ek Γ2).bind fun kd => (ev Γ2).bind fun y => (keyOf kd).bind fun k => vdcomp g t ek ev Γ ds (putD acc k y) else vdcomp g t ek ev Γ ds acc
theorem f_dcomp {mk : ME} {ek : VE} (hg : FGt mG vG) (ht : FT mt t) (hk : FE mk ek) (he : FE me e) {Γ : DEnv} : ∀ (ds : List D) (acc r : List (D × D)) (n : Nat) (Q : List (D × D) → Nat → Prop), vdcomp vG t ek e Γ ds acc = some r → Q r n → dcompW mG mt mk me Γ ds n acc Q
  | [], acc, r, n, Q, h, q => by cases h; exact q
  | d :: ds, acc, r, n, Q, h, q => by
    obtain ⟨Γ2, h1, h⟩ := bnd h
    obtain ⟨k, h2, h⟩ := bnd h
    refine hg _ _ _ _ h1 (ht _ _ _ _ h2 ?_)
    cases k with
    | true =>
      rw [if_pos rfl] at h ⊢
      obtain ⟨kd, h3, h⟩ := bnd h
      obtain ⟨y, h4, h⟩ := bnd h
      obtain ⟨k, h5, h⟩ := bnd h
      exact hk _ _ _ _ h3 (he _ _ _ _ h4 ⟨k, h5, f_dcomp hg ht hk he ds _ r n _ h q⟩)
    | false =>
      rw [if_neg (by decide)] at h ⊢
      exact f_dcomp hg ht hk he ds acc r n _ h q
def vDc (i : VI) (g : VG) (t : VT) (ek ev : VE) (vs : List Nat) : VE := fun Γ => (i Γ).bind fun ds => if ds.length ≤ lim then (vdcomp g t ek ev (wipeD Γ vs) ds []).bind fun r => some (.dict r) else none
theorem f_Dc {mi : MI} {i : VI} {mk : ME} {ek : VE} {vs : List Nat} (hi : FI' mi i) (hg : FGt mG vG) (ht : FT mt t) (hk : FE mk ek) (he : FE me e) : FE (mDc mi mG mt mk me vs) (vDc i vG t ek e vs) := fun Γ n d Q h q => by
  obtain ⟨ds, h1, h⟩ := bnd h
  split at h
  · obtain ⟨r, h2, h⟩ := bnd h
    cases h
    exact hi _ _ _ _ h1 ⟨by assumption, f_dcomp hg ht hk he ds [] r n _ h2 q⟩
  · cases h
def vRev (a : VE) : VE := fun Γ => (a Γ).bind dRev
theorem f_Rev (h : FE ma a) : FE (mRev ma) (vRev a) := fun Γ n d Q e q => by
  obtain ⟨x, h1, e⟩ := bnd e
  exact h Γ n x _ h1 ⟨d, e, q⟩
abbrev VPs := DEnv → Option (List (D × D))
def FPs (m : MPs) (v : VPs) : Prop := ∀ Γ n d (Q : List (D × D) → Nat → Prop), v Γ = some d → Q d n → m Γ n Q
def vpNil : VPs := fun _ => some []
def vpCons (a b : VE) (r : VPs) : VPs := fun Γ => (a Γ).bind fun x => (b Γ).bind fun y => (r Γ).bind fun l => some ((x, y) :: l)
def vDisp (r : VPs) : VE := fun Γ => (r Γ).bind dispD
theorem f_pNil : FPs mpNil vpNil := fun Γ n d Q e q => by cases e; exact q
theorem f_pCons {mP : MPs} {vP : VPs} (ha : FE ma a) (hb : FE mb b) (hr : FPs mP vP) : FPs (mpCons ma mb mP) (vpCons a b vP) := fun Γ n d Q e q => by
  obtain ⟨x, h1, e⟩ := bnd e
  obtain ⟨y, h2, e⟩ := bnd e
  obtain ⟨l, h3, e⟩ := bnd e
  cases e
  exact ha Γ n x _ h1 (hb Γ n y _ h2 (hr Γ n l _ h3 q))
theorem f_Disp {mP : MPs} {vP : VPs} (h : FPs mP vP) : FE (mDisp mP) (vDisp vP) := fun Γ n d Q e q => by
  obtain ⟨l, h1, e⟩ := bnd e
  exact h Γ n l _ h1 ⟨d, e, q⟩
def vLookL (a : VE) : VE := fun Γ => (a Γ).bind fun x => if flatL x = true then some x else none
theorem f_LookL (h : FE ma a) : FE (mLookL ma) (vLookL a) := fun Γ n d Q e q => by
  obtain ⟨x, h1, e⟩ := bnd e
  obtain ⟨h2, rfl⟩ := ifs e
  exact h Γ n x _ h1 ⟨h2, q⟩
def dictAt (i : Nat) (Γ : DEnv) : Option (List (D × D)) := match Γ[i]? with | some (some (.dict ds)) => some ds | _ => none
theorem dictAt_eq {i : Nat} {Γ : DEnv} {ds : List (D × D)} (h : dictAt i Γ = some ds) : Γ[i]? = some (some (.dict ds)) := by
  unfold dictAt at h
  split at h
  · cases h; assumption
  · cases h
def vIKeys (i : Nat) : VI := fun Γ => (dictAt i Γ).bind fun ds => some (ds.map (·.1))
def vIVals (i : Nat) : VI := fun Γ => (dictAt i Γ).bind fun ds => some (ds.map (·.2))
def vIItems (i : Nat) : VI := fun Γ => (dictAt i Γ).bind fun ds => some (ds.map fun q => .tuple [q.1, q.2])
theorem f_IKeys {i : Nat} : FI' (mIKeys i) (vIKeys i) := fun Γ n d Q e q => by
  obtain ⟨ds, h, e⟩ := bnd e
  cases e
  exact ⟨ds, dictAt_eq h, q⟩
theorem f_IVals {i : Nat} : FI' (mIVals i) (vIVals i) := fun Γ n d Q e q => by
  obtain ⟨ds, h, e⟩ := bnd e
  cases e
  exact ⟨ds, dictAt_eq h, q⟩
theorem f_IItems {i : Nat} : FI' (mIItems i) (vIItems i) := fun Γ n d Q e q => by
  obtain ⟨ds, h, e⟩ := bnd e
  cases e
  exact ⟨ds, dictAt_eq h, q⟩
def vCnt (a b : VE) : VE := fun Γ => (a Γ).bind fun x => (asL x).bind fun xs => (b Γ).bind fun d => dCnt (.list xs) d
theorem asL_eq {d : D} {xs : List D} (h : asL d = some xs) : d = .list xs := by
  unfold asL at h
  split at h
  · cases h; rfl
  · cases h
theorem f_Cnt (ha : FE ma a) (hb : FE mb b) : FE (mCnt ma mb) (vCnt a b) := fun Γ n d Q e q => by
  obtain ⟨x, h1, e⟩ := bnd e
  obtain ⟨xs, h2, e⟩ := bnd e
  obtain ⟨y, h3, e⟩ := bnd e
  exact ha Γ n x _ h1 ⟨xs, asL_eq h2, hb Γ n y _ h3 ⟨d, by rw [asL_eq h2]; exact e, q⟩⟩
def asDict : D → Option (List (D × D))
  | .dict kvs => some kvs
  | _ => none
theorem asDict_eq {d : D} {xs : List (D × D)} (h : asDict d = some xs) : d = .dict xs := by
  unfold asDict at h
  split at h
  · cases h; rfl
  · cases h
end
end RR
end
section
namespace RC
open PySem PySem.Spec L2 RR
open PyProof.Rows hiding St
def c_ROW_BOUNDS : List (D × D) := [((.str "plain"), (.tuple [(.tuple [(.int 1), (.int 99)]), (.tuple [(.int 0), (.int 999)])])), ((.str "stop"), (.tuple [(.tuple [(.int 1), (.int 99)])])), ((.str "jump"), (.tuple [(.tuple [(.int 0), (.int 19)])])), ((.str "branch"), (.tuple [(.tuple [(.int 0), (.int 19)])])), ((.str "far"), (.tuple [(.tuple [(.int 0), (.int 4)])])), ((.str "load"), (.tuple [(.tuple [(.int 0), (.int 65535)])])), ((.str "word"), (.tuple [(.tuple [(.int 0), (.int 65535)])])), ((.str "align"), (.tuple [(.tuple [(.int 2), (.int 16)])]))]
def c_MOST_ROWS : D := (.int 20)
def c_MOST_PARTS : D := (.int 5)
def c_MOST_JUMPS_BESIDE_ALIGN : D := (.int 6)
def c_MULTIPLES : D := (.tuple [(.int 2), (.int 4), (.int 8), (.int 16)])
def c_JUMPS : D := (.tuple [(.str "jump"), (.str "branch")])
def c_GOING_ON : D := (.tuple [(.str "plain"), (.str "branch"), (.str "load"), (.str "align")])
def b_is_within : MS := (mRet (mAndV (mIsi "int" (mVar 0)) (mAndV (mNotV (mIsi "bool" (mVar 0))) (mChain dLe dLe (mVar 1) (mVar 0) (mVar 2)))))
def m_is_within : MP := mFun ["thing", "low", "high"] 3 b_is_within
def vb_is_within : VS := (vRet (vAndV (vIsi "int" (vVar 0)) (vAndV (vNotV (vIsi "bool" (vVar 0))) (vChain dLe dLe (vVar 1) (vVar 0) (vVar 2)))))
def v_is_within : VP := vFun ["thing", "low", "high"] 3 vb_is_within
theorem fp_is_within : FP m_is_within v_is_within := by
  unfold m_is_within v_is_within b_is_within vb_is_within
  exact f_Fun (f_Ret (f_AndV (f_Isi f_Var) (f_AndV (f_NotV (f_Isi f_Var)) (f_Chain f_Var f_Var f_Var))))
def b_jump_rows : MS := (mRet (mLc (mIEn (mCons (mVar 0) mNil)) (mgTup 2 (mgCons (mgName 1) (mgCons (mgName 2) mgNil))) (mTest (mOp dIn (mOp dIx (mVar 2) (mC (.int 0))) (mC c_JUMPS))) (mVar 1) [1, 2]))
def m_jump_rows : MP := mFun ["part", "number", "row"] 1 b_jump_rows
def vb_jump_rows : VS := (vRet (vLc (vIEn (vCons (vVar 0) vNil)) (vgTup 2 (vgCons (vgName 1) (vgCons (vgName 2) vgNil))) (vTest (vOp dIn (vOp dIx (vVar 2) (vC (.int 0))) (vC c_JUMPS))) (vVar 1) [1, 2]))
def v_jump_rows : VP := vFun ["part", "number", "row"] 1 vb_jump_rows
theorem fp_jump_rows : FP m_jump_rows v_jump_rows := by
  unfold m_jump_rows v_jump_rows b_jump_rows vb_jump_rows
  exact f_Fun (f_Ret (f_Lc (f_IEn (f_Cons f_Var f_Nil)) (f_gTup (f_gCons f_gName (f_gCons f_gName f_gNil))) (f_Test (f_Op (f_Op f_Var f_C) f_C)) f_Var))
def b_is_even : MS := (mRet (mCl cAll (mCons (mLc (mISeq (mVar 0)) (mgName 1) mYes (mOp dNe (mOp dIx (mVar 1) (mC (.int 0))) (mC (.str "align"))) [1]) mNil)))
def m_is_even : MP := mFun ["part", "row"] 1 b_is_even
def vb_is_even : VS := (vRet (vCl cAll (vCons (vLc (vISeq (vVar 0)) (vgName 1) vYes (vOp dNe (vOp dIx (vVar 1) (vC (.int 0))) (vC (.str "align"))) [1]) vNil)))
def v_is_even : VP := vFun ["part", "row"] 1 vb_is_even
theorem fp_is_even : FP m_is_even v_is_even := by
  unfold m_is_even v_is_even b_is_even vb_is_even
  exact f_Fun (f_Ret (f_Cl (f_Cons (f_Lc (f_ISeq f_Var) f_gName f_Yes (f_Op (f_Op f_Var f_C) f_C)) f_Nil)))
def b_goals_stand : MS := (mSeq (mSet 1 (mLc (mISeq (mCall m_jump_rows (mCons (mVar 0) mNil))) (mgName 2) mYes (mOp dIx (mOp dIx (mVar 0) (mVar 2)) (mC (.int 1))) [2])) (mRet (mCl cAll (mCons (mLc (mISeq (mVar 1)) (mgName 3) mYes (mAndV (mOp dLt (mVar 3) (mCl cLen (mCons (mVar 0) mNil))) (mOp dNe (mOp dIx (mOp dIx (mVar 0) (mVar 3)) (mC (.int 0))) (mC (.str "word")))) [3]) mNil))))
def m_goals_stand : MP := mFun ["rows", "goals", "number", "goal"] 1 b_goals_stand
def vb_goals_stand : VS := (vSeqS (vSet 1 (vLc (vISeq (vCall v_jump_rows (vCons (vVar 0) vNil))) (vgName 2) vYes (vOp dIx (vOp dIx (vVar 0) (vVar 2)) (vC (.int 1))) [2])) (vRet (vCl cAll (vCons (vLc (vISeq (vVar 1)) (vgName 3) vYes (vAndV (vOp dLt (vVar 3) (vCl cLen (vCons (vVar 0) vNil))) (vOp dNe (vOp dIx (vOp dIx (vVar 0) (vVar 3)) (vC (.int 0))) (vC (.str "word")))) [3]) vNil))))
def v_goals_stand : VP := vFun ["rows", "goals", "number", "goal"] 1 vb_goals_stand
theorem fp_goals_stand : FP m_goals_stand v_goals_stand := by
  unfold m_goals_stand v_goals_stand b_goals_stand vb_goals_stand
  exact f_Fun (f_Seq (f_Set (f_Lc (f_ISeq (f_Call fp_jump_rows (f_Cons f_Var f_Nil))) f_gName f_Yes (f_Op (f_Op f_Var f_Var) f_C))) (f_Ret (f_Cl (f_Cons (f_Lc (f_ISeq f_Var) f_gName f_Yes (f_AndV (f_Op f_Var (f_Cl (f_Cons f_Var f_Nil))) (f_Op (f_Op (f_Op f_Var f_Var) f_C) f_C))) f_Nil))))
def b_words_are_shunned : MS := (mSeq (mIfS (mOr (mTest (mOp dEq (mOp dIx (mOp dIx (mVar 0) (mC (.int 0))) (mC (.int 0))) (mC (.str "word")))) (mTest (mOp dIn (mOp dIx (mOp dIx (mVar 0) (mUn dNeg (mC (.int 1)))) (mC (.int 0))) (mC c_GOING_ON)))) (mRet (mC (.bool false))) mNext) (mRet (mCl cAll (mCons (mLc (mIZ (mCons (mVar 0) (mCons (mSl (mVar 0) (mPart (mC (.int 1))) mNoPart) mNil))) (mgTup 2 (mgCons (mgName 1) (mgCons (mgName 2) mgNil))) mYes (mOrV (mOp dNotIn (mOp dIx (mVar 1) (mC (.int 0))) (mC c_GOING_ON)) (mOp dNe (mOp dIx (mVar 2) (mC (.int 0))) (mC (.str "word")))) [1, 2]) mNil))))
def m_words_are_shunned : MP := mFun ["rows", "row", "behind"] 1 b_words_are_shunned
def vb_words_are_shunned : VS := (vSeqS (vIfS (vOr (vTest (vOp dEq (vOp dIx (vOp dIx (vVar 0) (vC (.int 0))) (vC (.int 0))) (vC (.str "word")))) (vTest (vOp dIn (vOp dIx (vOp dIx (vVar 0) (vUn dNeg (vC (.int 1)))) (vC (.int 0))) (vC c_GOING_ON)))) (vRet (vC (.bool false))) vNext) (vRet (vCl cAll (vCons (vLc (vIZ (vCons (vVar 0) (vCons (vSl (vVar 0) (vPart (vC (.int 1))) vNoPart) vNil))) (vgTup 2 (vgCons (vgName 1) (vgCons (vgName 2) vgNil))) vYes (vOrV (vOp dNotIn (vOp dIx (vVar 1) (vC (.int 0))) (vC c_GOING_ON)) (vOp dNe (vOp dIx (vVar 2) (vC (.int 0))) (vC (.str "word")))) [1, 2]) vNil))))
def v_words_are_shunned : VP := vFun ["rows", "row", "behind"] 1 vb_words_are_shunned
theorem fp_words_are_shunned : FP m_words_are_shunned v_words_are_shunned := by
  unfold m_words_are_shunned v_words_are_shunned b_words_are_shunned vb_words_are_shunned
  exact f_Fun (f_Seq (f_IfS (f_Or (f_Test (f_Op (f_Op (f_Op f_Var f_C) f_C) f_C)) (f_Test (f_Op (f_Op (f_Op f_Var (f_Un f_C)) f_C) f_C))) (f_Ret f_C) f_Next) (f_Ret (f_Cl (f_Cons (f_Lc (f_IZ (f_Cons f_Var (f_Cons (f_Sl f_Var (f_Part f_C) f_NoPart) f_Nil))) (f_gTup (f_gCons f_gName (f_gCons f_gName f_gNil))) f_Yes (f_OrV (f_Op (f_Op f_Var f_C) f_C) (f_Op (f_Op f_Var f_C) f_C))) f_Nil))))
def b_far_goals : MS := (mRet (mLc (mISeq (mVar 0)) (mgName 1) (mTest (mOp dEq (mOp dIx (mVar 1) (mC (.int 0))) (mC (.str "far")))) (mOp dIx (mVar 1) (mC (.int 1))) [1]))
def m_far_goals : MP := mFun ["part", "row"] 1 b_far_goals
def vb_far_goals : VS := (vRet (vLc (vISeq (vVar 0)) (vgName 1) (vTest (vOp dEq (vOp dIx (vVar 1) (vC (.int 0))) (vC (.str "far")))) (vOp dIx (vVar 1) (vC (.int 1))) [1]))
def v_far_goals : VP := vFun ["part", "row"] 1 vb_far_goals
theorem fp_far_goals : FP m_far_goals v_far_goals := by
  unfold m_far_goals v_far_goals b_far_goals vb_far_goals
  exact f_Fun (f_Ret (f_Lc (f_ISeq f_Var) f_gName (f_Test (f_Op (f_Op f_Var f_C) f_C)) (f_Op f_Var f_C)))
theorem mulb {x y a b : Int} (h1 : 0 ≤ x) (h2 : x ≤ a) (h3 : 0 ≤ y) (h4 : y ≤ b) : 0 ≤ x * y ∧ x * y ≤ a * b :=
  ⟨Int.mul_nonneg h1 h3, Int.mul_le_mul h2 h4 h3 (Int.le_trans h1 h2)⟩
theorem primes_at (j : Int) (h0 : 0 ≤ j) (h1 : j < 13) : ∃ p : Int, atI [PyData.int 2147483629, PyData.int 2147483587, PyData.int 2147483579, PyData.int 2147483563, PyData.int 2147483549, PyData.int 2147483543, PyData.int 2147483497, PyData.int 2147483489, PyData.int 2147483477, PyData.int 2147483423, PyData.int 2147483399, PyData.int 2147483353, PyData.int 2147483323] j = some (.int p) ∧ 0 < p ∧ p < 2147483648 := by
  have : j = 0 ∨ j = 1 ∨ j = 2 ∨ j = 3 ∨ j = 4 ∨ j = 5 ∨ j = 6 ∨ j = 7 ∨ j = 8 ∨ j = 9 ∨ j = 10 ∨ j = 11 ∨ j = 12 := by omega
  rcases this with h | h | h | h | h | h | h | h | h | h | h | h | h <;> subst h <;> exact ⟨_, rfl, by decide, by decide⟩
local macro_rules | `(tactic| walk_at "st") => `(tactic| first
  | refine ⟨_, rfl, ?_⟩
  | refine ⟨rfl, ?_⟩
  | refine ⟨by decide, ?_⟩)
theorem iteB {p A B : Prop} [Decidable p] (h1 : p → A) (h2 : ¬ p → B) : if decide p = true then A else B := by
  by_cases h : p
  · rw [if_pos (decide_eq_true h)]; exact h1 h
  · rw [if_neg (by rw [decide_eq_false h]; decide)]; exact h2 h
theorem if_some {c : Prop} [Decidable c] {d : D} (h : c) : (if c then some d else none) = some d := if_pos h
end RC
end
section
namespace RC
open PySem PySem.Spec L2 RR
open PyProof.Rows hiding St
def c_SHORT : D := (.int 0)
def c_REACH : D := (.int 1)
def c_LONG : D := (.int 2)
def c_FAR : D := (.int 3)
def c_LOAD : D := (.int 5)
def c_WORD : D := (.int 7)
def c_MACHINE_BOUNDS : D := (.tuple [(.tuple [(.int 1), (.int 9)]), (.tuple [(.int 0), (.int 999)]), (.tuple [(.int 2), (.int 20)]), (.tuple [(.int 1), (.int 20)]), (.tuple [(.int 0), (.int 9999)]), (.tuple [(.int 1), (.int 9)]), (.tuple [(.int 0), (.int 999)]), (.tuple [(.int 1), (.int 16)])])
def b_row_size : MS := (mSeq (mIfS (mTest (mOp dIn (mOp dIx (mVar 0) (mC (.int 0))) (mC c_JUMPS))) (mRet (mIf (mTest (mVar 3)) (mOp dIx (mVar 1) (mC c_SHORT)) (mOp dIx (mVar 1) (mC c_LONG)))) mNext) (mSeq (mIfS (mTest (mOp dEq (mOp dIx (mVar 0) (mC (.int 0))) (mC (.str "far")))) (mRet (mOp dIx (mVar 1) (mC c_FAR))) mNext) (mSeq (mIfS (mTest (mOp dEq (mOp dIx (mVar 0) (mC (.int 0))) (mC (.str "load")))) (mRet (mOp dIx (mVar 1) (mC c_LOAD))) mNext) (mSeq (mIfS (mTest (mOp dEq (mOp dIx (mVar 0) (mC (.int 0))) (mC (.str "word")))) (mRet (mOp dIx (mVar 1) (mC c_WORD))) mNext) (mSeq (mIfS (mTest (mOp dEq (mOp dIx (mVar 0) (mC (.int 0))) (mC (.str "align")))) (mRet (mOp dMod (mUn dNeg (mVar 2)) (mOp dIx (mVar 0) (mC (.int 1))))) mNext) (mRet (mOp dIx (mVar 0) (mC (.int 1)))))))))
def m_row_size : MP := mFun ["row", "machine", "address", "is_short"] 4 b_row_size
def vb_row_size : VS := (vSeqS (vIfS (vTest (vOp dIn (vOp dIx (vVar 0) (vC (.int 0))) (vC c_JUMPS))) (vRet (vIf (vTest (vVar 3)) (vOp dIx (vVar 1) (vC c_SHORT)) (vOp dIx (vVar 1) (vC c_LONG)))) vNext) (vSeqS (vIfS (vTest (vOp dEq (vOp dIx (vVar 0) (vC (.int 0))) (vC (.str "far")))) (vRet (vOp dIx (vVar 1) (vC c_FAR))) vNext) (vSeqS (vIfS (vTest (vOp dEq (vOp dIx (vVar 0) (vC (.int 0))) (vC (.str "load")))) (vRet (vOp dIx (vVar 1) (vC c_LOAD))) vNext) (vSeqS (vIfS (vTest (vOp dEq (vOp dIx (vVar 0) (vC (.int 0))) (vC (.str "word")))) (vRet (vOp dIx (vVar 1) (vC c_WORD))) vNext) (vSeqS (vIfS (vTest (vOp dEq (vOp dIx (vVar 0) (vC (.int 0))) (vC (.str "align")))) (vRet (vOp dMod (vUn dNeg (vVar 2)) (vOp dIx (vVar 0) (vC (.int 1))))) vNext) (vRet (vOp dIx (vVar 0) (vC (.int 1)))))))))
def v_row_size : VP := vFun ["row", "machine", "address", "is_short"] 4 vb_row_size
theorem fp_row_size : FP m_row_size v_row_size := by
  unfold m_row_size v_row_size b_row_size vb_row_size
  exact f_Fun (f_Seq (f_IfS (f_Test (f_Op (f_Op f_Var f_C) f_C)) (f_Ret (f_If (f_Test f_Var) (f_Op f_Var f_C) (f_Op f_Var f_C))) f_Next) (f_Seq (f_IfS (f_Test (f_Op (f_Op f_Var f_C) f_C)) (f_Ret (f_Op f_Var f_C)) f_Next) (f_Seq (f_IfS (f_Test (f_Op (f_Op f_Var f_C) f_C)) (f_Ret (f_Op f_Var f_C)) f_Next) (f_Seq (f_IfS (f_Test (f_Op (f_Op f_Var f_C) f_C)) (f_Ret (f_Op f_Var f_C)) f_Next) (f_Seq (f_IfS (f_Test (f_Op (f_Op f_Var f_C) f_C)) (f_Ret (f_Op (f_Un f_Var) (f_Op f_Var f_C))) f_Next) (f_Ret (f_Op f_Var f_C)))))))
def b_addresses_of : MS := (mSeq (mSet 3 (mLst (mCons (mC (.int 0)) mNil))) (mSeq (mFor (mIEn (mCons (mVar 0) mNil)) (mgTup 2 (mgCons (mgName 4) (mgCons (mgName 5) mgNil))) (mSeq (mSet 6 (mLook (mOp dIx (mVar 3) (mUn dNeg (mC (.int 1)))))) (mAppend 3 (mOp dAdd (mVar 6) (mCall m_row_size (mCons (mVar 5) (mCons (mVar 1) (mCons (mVar 6) (mCons (mOp dIn (mVar 4) (mVar 2)) mNil))))))))) (mRet (mVar 3))))
def m_addresses_of : MP := mFun ["part", "machine", "forms", "addresses", "number", "row", "address"] 3 b_addresses_of
def vb_addresses_of : VS := (vSeqS (vSet 3 (vLst (vCons (vC (.int 0)) vNil))) (vSeqS (vFor (vIEn (vCons (vVar 0) vNil)) (vgTup 2 (vgCons (vgName 4) (vgCons (vgName 5) vgNil))) (vSeqS (vSet 6 (vLook (vOp dIx (vVar 3) (vUn dNeg (vC (.int 1)))))) (vAppend 3 (vOp dAdd (vVar 6) (vCall v_row_size (vCons (vVar 5) (vCons (vVar 1) (vCons (vVar 6) (vCons (vOp dIn (vVar 4) (vVar 2)) vNil))))))))) (vRet (vVar 3))))
def v_addresses_of : VP := vFun ["part", "machine", "forms", "addresses", "number", "row", "address"] 3 vb_addresses_of
theorem fp_addresses_of : FP m_addresses_of v_addresses_of := by
  unfold m_addresses_of v_addresses_of b_addresses_of vb_addresses_of
  exact f_Fun (f_Seq (f_Set (f_Lst (f_Cons f_C f_Nil))) (f_Seq (f_For (f_IEn (f_Cons f_Var f_Nil)) (f_gTup (f_gCons f_gName (f_gCons f_gName f_gNil))) (f_Seq (f_Set (f_Look (f_Op f_Var (f_Un f_C)))) (f_Append (f_Op f_Var (f_Call fp_row_size (f_Cons f_Var (f_Cons f_Var (f_Cons f_Var (f_Cons (f_Op f_Var f_Var) f_Nil))))))))) (f_Ret f_Var)))
def b_distance : MS := (mRet (mCl cAbs (mCons (mOp dSub (mOp dIx (mVar 0) (mVar 1)) (mOp dIx (mVar 0) (mVar 2))) mNil)))
def m_distance : MP := mFun ["addresses", "row", "other"] 3 b_distance
def vb_distance : VS := (vRet (vCl cAbs (vCons (vOp dSub (vOp dIx (vVar 0) (vVar 1)) (vOp dIx (vVar 0) (vVar 2))) vNil)))
def v_distance : VP := vFun ["addresses", "row", "other"] 3 vb_distance
theorem fp_distance : FP m_distance v_distance := by
  unfold m_distance v_distance b_distance vb_distance
  exact f_Fun (f_Ret (f_Cl (f_Cons (f_Op (f_Op f_Var f_Var) (f_Op f_Var f_Var)) f_Nil)))
def b_unfit_rows : MS := (mSeq (mSet 3 (mCall m_addresses_of (mCons (mVar 0) (mCons (mVar 1) (mCons (mVar 2) mNil))))) (mRet (mLc (mISeq (mVar 2)) (mgName 4) (mTest (mOp dGt (mCall m_distance (mCons (mVar 3) (mCons (mVar 4) (mCons (mOp dIx (mOp dIx (mVar 0) (mVar 4)) (mC (.int 1))) mNil)))) (mOp dIx (mVar 1) (mC c_REACH)))) (mVar 4) [4])))
def m_unfit_rows : MP := mFun ["part", "machine", "forms", "addresses", "row"] 3 b_unfit_rows
def vb_unfit_rows : VS := (vSeqS (vSet 3 (vCall v_addresses_of (vCons (vVar 0) (vCons (vVar 1) (vCons (vVar 2) vNil))))) (vRet (vLc (vISeq (vVar 2)) (vgName 4) (vTest (vOp dGt (vCall v_distance (vCons (vVar 3) (vCons (vVar 4) (vCons (vOp dIx (vOp dIx (vVar 0) (vVar 4)) (vC (.int 1))) vNil)))) (vOp dIx (vVar 1) (vC c_REACH)))) (vVar 4) [4])))
def v_unfit_rows : VP := vFun ["part", "machine", "forms", "addresses", "row"] 3 vb_unfit_rows
theorem fp_unfit_rows : FP m_unfit_rows v_unfit_rows := by
  unfold m_unfit_rows v_unfit_rows b_unfit_rows vb_unfit_rows
  exact f_Fun (f_Seq (f_Set (f_Call fp_addresses_of (f_Cons f_Var (f_Cons f_Var (f_Cons f_Var f_Nil))))) (f_Ret (f_Lc (f_ISeq f_Var) f_gName (f_Test (f_Op (f_Call fp_distance (f_Cons f_Var (f_Cons f_Var (f_Cons (f_Op (f_Op f_Var f_Var) f_C) f_Nil)))) (f_Op f_Var f_C))) f_Var)))
def b_without : MS := (mRet (mLc (mISeq (mVar 0)) (mgName 2) (mTest (mOp dNe (mVar 2) (mVar 1))) (mVar 2) [2]))
def m_without : MP := mFun ["rows", "row", "other"] 2 b_without
def vb_without : VS := (vRet (vLc (vISeq (vVar 0)) (vgName 2) (vTest (vOp dNe (vVar 2) (vVar 1))) (vVar 2) [2]))
def v_without : VP := vFun ["rows", "row", "other"] 2 vb_without
theorem fp_without : FP m_without v_without := by
  unfold m_without v_without b_without vb_without
  exact f_Fun (f_Ret (f_Lc (f_ISeq f_Var) f_gName (f_Test (f_Op f_Var f_Var)) f_Var))
def b_growth : MS := (mSeq (mSet 2 (mCall m_jump_rows (mCons (mVar 0) mNil))) (mSeq (mSet 3 (mLst mNil)) (mSeq (mSet 4 (mCall m_unfit_rows (mCons (mVar 0) (mCons (mVar 1) (mCons (mVar 2) mNil))))) (mSeq (mWhile (mTru (mVar 4)) (mSeq (mAppend 3 (mOp dIx (mVar 4) (mC (.int 0)))) (mSeq (mSet 2 (mCall m_without (mCons (mVar 2) (mCons (mOp dIx (mVar 4) (mC (.int 0))) mNil)))) (mSet 4 (mCall m_unfit_rows (mCons (mVar 0) (mCons (mVar 1) (mCons (mVar 2) mNil)))))))) (mRet (mTup (mCons (mVar 2) (mCons (mVar 3) mNil))))))))
def m_growth : MP := mFun ["part", "machine", "forms", "chain", "unfit"] 2 b_growth
def vb_growth : VS := (vSeqS (vSet 2 (vCall v_jump_rows (vCons (vVar 0) vNil))) (vSeqS (vSet 3 (vLst vNil)) (vSeqS (vSet 4 (vCall v_unfit_rows (vCons (vVar 0) (vCons (vVar 1) (vCons (vVar 2) vNil))))) (vSeqS (vWhile (vTru (vVar 4)) (vSeqS (vAppend 3 (vOp dIx (vVar 4) (vC (.int 0)))) (vSeqS (vSet 2 (vCall v_without (vCons (vVar 2) (vCons (vOp dIx (vVar 4) (vC (.int 0))) vNil)))) (vSet 4 (vCall v_unfit_rows (vCons (vVar 0) (vCons (vVar 1) (vCons (vVar 2) vNil)))))))) (vRet (vTup (vCons (vVar 2) (vCons (vVar 3) vNil))))))))
def v_growth : VP := vFun ["part", "machine", "forms", "chain", "unfit"] 2 vb_growth
theorem fp_growth : FP m_growth v_growth := by
  unfold m_growth v_growth b_growth vb_growth
  exact f_Fun (f_Seq (f_Set (f_Call fp_jump_rows (f_Cons f_Var f_Nil))) (f_Seq (f_Set (f_Lst f_Nil)) (f_Seq (f_Set (f_Call fp_unfit_rows (f_Cons f_Var (f_Cons f_Var (f_Cons f_Var f_Nil))))) (f_Seq (f_While (f_Tru f_Var) (f_Seq (f_Append (f_Op f_Var f_C)) (f_Seq (f_Set (f_Call fp_without (f_Cons f_Var (f_Cons (f_Op f_Var f_C) f_Nil)))) (f_Set (f_Call fp_unfit_rows (f_Cons f_Var (f_Cons f_Var (f_Cons f_Var f_Nil)))))))) (f_Ret (f_Tup (f_Cons f_Var (f_Cons f_Var f_Nil))))))))
end RC
end
section
namespace RC
open PySem PySem.Spec L2 RR
open PyProof.Rows hiding St
end RC
end
section
namespace RC
open PySem PySem.Spec L2 RR
open PyProof.Rows hiding St
end RC
end
section
namespace RC
open PySem PySem.Spec L2 RR
open PyProof.Rows hiding St
def b__law_spread_v2 : MS := (mSeq (mIfS (mTest (mOp dGe (mVar 0) (mOp dPow (mC (.int 10)) (mC (.int 18))))) (mRet (mVar 0)) mNext) (mSeq (mSet 2 (mLst (mCons (mC (.int 2147483629)) (mCons (mC (.int 2147483587)) (mCons (mC (.int 2147483579)) (mCons (mC (.int 2147483563)) (mCons (mC (.int 2147483549)) (mCons (mC (.int 2147483543)) (mCons (mC (.int 2147483497)) (mCons (mC (.int 2147483489)) mNil)))))))))) (mSeq (mSet 2 (mOp dAdd (mVar 2) (mLst (mCons (mC (.int 2147483477)) (mCons (mC (.int 2147483423)) (mCons (mC (.int 2147483399)) (mCons (mC (.int 2147483353)) (mCons (mC (.int 2147483323)) mNil)))))))) (mSeq (mSet 3 (mOp dMul (mOp dMod (mCl cInt (mCons (mVar 0) mNil)) (mC (.int 1000000007))) (mOp dAdd (mOp dMul (mC (.int 2)) (mVar 1)) (mC (.int 69069))))) (mSeq (mSet 3 (mOp dMod (mCl cInt (mCons (mOp dPow (mOp dAdd (mOp dAdd (mVar 3) (mOp dMul (mVar 1) (mC (.int 40503)))) (mC (.int 977))) (mC (.int 3))) mNil)) (mOp dIx (mVar 2) (mOp dMod (mCl cInt (mCons (mVar 1) mNil)) (mC (.int 13)))))) (mSeq (mSet 4 (mOp dMod (mCl cInt (mCons (mOp dPow (mOp dAdd (mOp dAdd (mOp dMul (mVar 3) (mOp dAdd (mVar 1) (mC (.int 3)))) (mOp dMod (mCl cInt (mCons (mVar 0) mNil)) (mC (.int 65537)))) (mC (.int 5))) (mC (.int 5))) mNil)) (mOp dIx (mVar 2) (mOp dMod (mCl cInt (mCons (mOp dAdd (mVar 1) (mC (.int 5))) mNil)) (mC (.int 13)))))) (mSeq (mSet 5 (mOp dMod (mCl cInt (mCons (mOp dPow (mOp dAdd (mOp dAdd (mVar 4) (mOp dMod (mCl cInt (mCons (mVar 3) mNil)) (mC (.int 1009)))) (mVar 1)) (mC (.int 3))) mNil)) (mOp dIx (mVar 2) (mOp dMod (mCl cInt (mCons (mOp dAdd (mVar 1) (mC (.int 7))) mNil)) (mC (.int 13)))))) (mRet (mOp dAdd (mOp dMul (mOp dAdd (mOp dMul (mVar 3) (mC (.int 2147483647))) (mVar 4)) (mC (.int 2147483647))) (mVar 5))))))))))
def m__law_spread_v2 : MP := mFun ["cell", "at", "primes", "one", "two", "three"] 2 b__law_spread_v2
local macro_rules | `(tactic| walk_at "st") => `(tactic| first
  | refine ⟨_, rfl, ?_⟩
  | refine ⟨rfl, ?_⟩
  | refine ⟨by decide, ?_⟩)
theorem spread_ok_law_spread_v2 : SpreadOk m__law_spread_v2 := by
  intro c w R h0 h1 q
  obtain ⟨p1, e1, a1, b1⟩ := primes_at (w % 13) (Int.emod_nonneg _ (by decide)) (Int.emod_lt_of_pos _ (by decide))
  obtain ⟨p2, e2, a2, b2⟩ := primes_at ((w + 5) % 13) (Int.emod_nonneg _ (by decide)) (Int.emod_lt_of_pos _ (by decide))
  obtain ⟨p3, e3, a3, b3⟩ := primes_at ((w + 7) % 13) (Int.emod_nonneg _ (by decide)) (Int.emod_lt_of_pos _ (by decide))
  unfold m__law_spread_v2 b__law_spread_v2
  have hx0 : 0 ≤ c % 1000000007 := Int.emod_nonneg _ (by decide)
  have hx1 : c % 1000000007 < 1000000007 := Int.emod_lt_of_pos _ (by decide)
  have hy0 : 0 ≤ c % 65537 := Int.emod_nonneg _ (by decide)
  have hy1 : c % 65537 < 65537 := Int.emod_lt_of_pos _ (by decide)
  have m1 := mulb hx0 (show c % 1000000007 ≤ 1000000007 by omega) (show 0 ≤ 2 * w + 69069 by omega) (show 2 * w + 69069 ≤ 3000000 by omega)
  repeat walk_at "st"
  refine iteB (fun h => ?_) (fun h => ?_)
  · repeat walk_at "st"
    exact q c (Int.le_trans (by decide) h)
  · repeat walk_at "st"
    refine ⟨_, if_some (.inl ⟨by omega, by omega⟩), ?_⟩
    repeat walk_at "st"
    generalize c % 1000000007 * (2 * w + 69069) = z at m1 ⊢
    refine ⟨_, if_some (.inr ⟨by decide, by decide⟩), ?_⟩
    repeat walk_at "st"
    refine ⟨_, if_some ⟨by decide, by decide, by omega⟩, ?_⟩
    repeat walk_at "st"
    refine ⟨_, e1, ?_⟩
    refine ⟨_, if_some a1, ?_⟩
    repeat walk_at "st"
    have hu0 : 0 ≤ (z + w * 40503 + 977) ^ (3 : Int).toNat % p1 := Int.emod_nonneg _ (by omega)
    have hu1 : (z + w * 40503 + 977) ^ (3 : Int).toNat % p1 < p1 := Int.emod_lt_of_pos _ a1
    generalize (z + w * 40503 + 977) ^ (3 : Int).toNat % p1 = u at hu0 hu1 ⊢
    refine ⟨_, if_some (.inl ⟨by omega, by omega⟩), ?_⟩
    repeat walk_at "st"
    have m2 := mulb hu0 (show u ≤ 2147483648 by omega) (show 0 ≤ w + 3 by omega) (show w + 3 ≤ 1048579 by omega)
    generalize u * (w + 3) = z2 at m2 ⊢
    refine ⟨_, if_some ⟨by decide, by decide, by omega⟩, ?_⟩
    repeat walk_at "st"
    refine ⟨_, e2, ?_⟩
    refine ⟨_, if_some a2, ?_⟩
    repeat walk_at "st"
    generalize hv : (z2 + c % 65537 + 5) ^ (5 : Int).toNat % p2 = v
    have hv0 : 0 ≤ v := by rw [← hv]; exact Int.emod_nonneg _ (by omega)
    have hv1 : v < p2 := by rw [← hv]; exact Int.emod_lt_of_pos _ a2
    have hr0 : 0 ≤ u % 1009 := Int.emod_nonneg _ (by decide)
    have hr1 : u % 1009 < 1009 := Int.emod_lt_of_pos _ (by decide)
    refine ⟨_, if_some ⟨by decide, by decide, by omega⟩, ?_⟩
    repeat walk_at "st"
    refine ⟨_, e3, ?_⟩
    refine ⟨_, if_some a3, ?_⟩
    repeat walk_at "st"
    refine ⟨_, if_some (.inr ⟨by decide, by decide⟩), ?_⟩
    repeat walk_at "st"
    refine ⟨_, if_some (.inr ⟨by decide, by decide⟩), ?_⟩
    repeat walk_at "st"
    have ht0 : 0 ≤ (v + u % 1009 + w) ^ (3 : Int).toNat % p3 := Int.emod_nonneg _ (by omega)
    exact q _ (by omega)
abbrev m__law_take_v2 : MF := m_take
def b_is_part_number : MS := (mRet (mCall m_is_within (mCons (mVar 1) (mCons (mC (.int 0)) (mCons (mOp dSub (mCl cLen (mCons (mVar 0) mNil)) (mC (.int 1))) mNil)))))
def m_is_part_number : MP := mFun ["book", "thing"] 2 b_is_part_number
def vb_is_part_number : VS := (vRet (vCall v_is_within (vCons (vVar 1) (vCons (vC (.int 0)) (vCons (vOp dSub (vCl cLen (vCons (vVar 0) vNil)) (vC (.int 1))) vNil)))))
def v_is_part_number : VP := vFun ["book", "thing"] 2 vb_is_part_number
theorem fp_is_part_number : FP m_is_part_number v_is_part_number := by
  unfold m_is_part_number v_is_part_number b_is_part_number vb_is_part_number
  exact f_Fun (f_Ret (f_Call fp_is_within (f_Cons f_Var (f_Cons f_C (f_Cons (f_Op (f_Cl (f_Cons f_Var f_Nil)) f_C) f_Nil)))))
end RC
end
section
namespace RR
open PySem PySem.Spec L2
open PyProof.Rows hiding St
/-- a statement that never returns: what a return would mean is nothing to it -/
def NRt (m : MS) : Prop := ∀ (E : EndsD) (R : D → Nat → Prop), m E = m { E with rt := R }
theorem nr_set {i : Nat} {me : ME} : NRt (mSet i me) := fun E R => rfl
theorem nr_drop {me : ME} : NRt (mDrop me) := fun E R => rfl
theorem nr_append {i : Nat} {me : ME} : NRt (mAppend i me) := fun E R => rfl
theorem nr_seq {t u : MS} (h : NRt t) (k : NRt u) : NRt (mSeq t u) := fun E R => by
  show t { E with nx := u E } = t { nx := u { E with rt := R }, rt := R, bk := E.bk, ct := E.ct }
  rw [h { E with nx := u E } R, k E R]
theorem nr_forW {g : MG} {tb : MS} (h : NRt tb) (E : EndsD) (R : D → Nat → Prop) : ∀ ds, forW g tb E ds = forW g tb { E with rt := R } ds
  | [] => rfl
  | d :: ds => by
    funext Γ n
    unfold forW
    rw [nr_forW h E R ds, h { E with nx := forW g tb { E with rt := R } ds, ct := forW g tb { E with rt := R } ds, bk := E.nx } R]
theorem nr_for {mi : MI} {g : MG} {tb : MS} (h : NRt tb) : NRt (mFor mi g tb) := fun E R => by
  show (fun Γ n => mi Γ n fun ds n1 => forW g tb E ds Γ n1) = fun Γ n => mi Γ n fun ds n1 => forW g tb { E with rt := R } ds Γ n1
  have : forW g tb E = forW g tb { E with rt := R } := funext fun ds => nr_forW h E R ds
  rw [this]
section
variable {X : Cx} {p : Pm} {O O1 Ob : List Nat} {st : Stmt} {sts : List Stmt} {t u : TS} {m mu : MS} {e : Expr} {te : TE} {me : ME} {pos : Pos} {c : Expr} {tA : TT} {mA : MT}
/-- a block that ends with a return of something new -/
def LSF (p : Pm) (O : List Nat) (t : TS) (m : MS) : Prop :=
  ∀ F0 H0 F H σ Γ n (N : DEnv → Nat → Prop) (R : D → Nat → Prop), Sep p F0 H0 O F H σ Γ n → m { nx := N, rt := R } Γ n → ∀ E' : Ends,
    (∀ d a F' H' n', Fin0 p F0 H0 F' H' n' → Own p.K F' H' d a → F' a = none → H0 a = none → R d n' → E'.rt (.ref a) H') → t E' σ H
structure RSF (X : Cx) (p : Pm) (O : List Nat) (sts : List Stmt) (t : TS) (m : MS) : Prop where
  ps : PSs X sts t
  le : LSF p O t m
theorem rsf_ret (he : RF X p O e te me) : RSF X p O [.Return (some e) pos] (tRet te) (mRet me) := ⟨pss_one (ps_ret he.pe), fun F0 H0 F H σ Γ n N R s q E' hr =>
  he.le F0 H0 F H σ Γ n _ s q _ fun d a F1 H1 n1 s1 g1 w f ha q1 => hr d a F1 H1 n1 s1.fin w f (s.h0 ha).1 q1⟩
theorem rsf_own (i : Nat) (hi : i ∈ O) (he : PE X e (tVar i)) : RSF X p O [.Return (some e) pos] (tRet (tVar i)) (mRet (mVar i)) := ⟨pss_one (ps_ret he), fun F0 H0 F H σ Γ n N R s ⟨d, ed, q⟩ E' hr => by
  obtain ⟨a, ea, w, fa, h0, _⟩ := s.ow i hi d ed
  exact ⟨_, ea, hr d a F H n s.fin w fa h0 q⟩⟩
theorem rsf_cons (h1 : RS X p [] O O1 st t m) (hn : NRt m) (h2 : RSF X p O1 sts u mu) : RSF X p O (st :: sts) (tSeq t u) (mSeq m mu) := ⟨pss_cons h1.ps h2.ps, fun F0 H0 F H σ Γ n N R s q E' hr => by
  have q' : m { nx := mu { nx := N, rt := R }, rt := fun _ _ => False } Γ n := by
    rw [← hn { nx := mu { nx := N, rt := R }, rt := R } fun _ _ => False]; exact q
  exact h1.le F0 H0 F H σ Γ n _ s q' _ (fun F1 H1 σ1 Γ1 n1 s1 e1 q1 => h2.le F0 H0 F1 H1 σ1 Γ1 n1 N R s1 q1 E' hr) (fun _ _ _ _ _ _ _ z => z.elim) (fun _ _ _ _ _ _ _ z => z.elim) (fun _ _ _ _ _ _ _ z => z.elim)⟩
/-- a def that leaves all as it is, and whose result is new -/
def spFr (K : PySem.W.Frag) (m : MP) : Sp := fun vs H Q _ => ∃ (F : Hp) (ds : List D) (R : D → Prop), Same F H ∧ Rps K F ds vs ∧ m ds R ∧ ∀ d a F' H', Gr F H F' H' → Own K F' H' d a → F' a = none → H a = none → R d → Q (.ref a) H'
theorem spF_fr {K : PySem.W.Frag} {m : MP} (vs : List V) (H : Hp) (Q : VK) (E : XK) (h : spF K m vs H Q E) : spFr K m vs H Q E := by
  obtain ⟨F, ds, R, s, r, q, k⟩ := h
  refine ⟨F, ds, R, s, r, q, fun d a F' H' g w f ha rd => ?_⟩
  have up : ∀ {o : HO}, H' a = some o → Gr F H (upd F' a o) H' := fun {o} e => ⟨g.f.trans (same_up f), fun b u z => by
      by_cases hb : b = a
      · subst hb; rw [upd_same] at z; cases z; exact e
      · rw [upd_ne hb] at z; exact g.fh _ _ z, g.h, fun b u z => by
      by_cases hb : b = a
      · subst hb; exact .inr ha
      · rw [upd_ne hb] at z; exact g.new b u z⟩
  cases w with
  | lst e1 e2 => exact k _ _ _ H' (up e1) (.of_lst upd_same (e2.mono (same_up f))) rd
  | dct e1 e2 e3 => exact k _ _ _ H' (up e1) (.dct (.inl upd_same) e2 fun i x d a b => (e3 i x d a b).mono (same_up f)) rd
theorem FI.plain {P : Program} {w : World} {K : PySem.W.Frag} {mg : Str → Option Value} {base : Heap} {k : Nat} {x : Str} {ps : List Str} {mf : MP} (F : FI P w K mg base k x ps (spFr K mf)) : FI P w K mg base k x ps (spF K mf) := by
  obtain ⟨f, fd, G, h⟩ := F.ex
  exact ⟨f, fd, G.imp spF_fr, h⟩
theorem lf_call {t : TA} {ma : MA} {mf : MP} (h : LA p O t ma) : LF p O (tCall (spFr p.K mf) [] E0 t) (mCall mf ma) := fun F0 H0 F H σ Γ n Q s q Q' k =>
  h F0 H0 F H σ Γ n _ s q _ fun ds vs F1 H1 n1 s1 g1 r1 q1 =>
    ⟨F1, ds, _, s1.fh, by rw [List.append_nil]; exact r1, q1, fun d a F2 H2 g2 w f ha q2 => k d a F2 H2 n1 (s1.gr g2) (g1.trans g2.gp) w f (by
      cases z : H a with
      | none => rfl
      | some o => rw [g1.h a o z (s1.h0 ha).2] at ha; cases ha) q2⟩
theorem fF {k : Nat} {ps : List Str} {mf : MP} {x : Str} {q : Pos} {es : List Expr} {t : TA} {ma : MA} (F : FI X.prog X.w X.K X.mg X.base k x ps (spFr X.K mf)) {lv : Nat} (hr : Room k X.A) (hg : GB lv X.A) (hK : p.K = X.K) (hgl : Gl X x) (ha : RA X p O (e :: es) t ma)
    (hdb : (x == ("__debug__" : Str)) = false := by decide) (he : starEach (e :: es) X.env = (false, eval e X.env) :: starEach es X.env := by rfl) (hpl : (backTo pos (starEach es X.env)).any (·.1) = false := by rfl) (hkm : k ≤ lv := by first | decide | omega) :
    RF X p O (.Call (.Name x q) (e :: es) [] pos) (tCall (spFr p.K mf) [] E0 t) (mCall mf ma) := by
  obtain ⟨f, fd, G, h1, h2, h3, _⟩ := F.ex
  exact ⟨hK ▸ pe_callG G hr (hg.le hkm) hgl h1 h2 h3 ha.pa hdb he hpl, lf_call ha.le⟩
end
theorem FnG.fresh {P : Program} {w : World} {K : PySem.W.Frag} {mg : Str → Option Value} {base : Heap} {x qual : Str} {st : Stmt} {f : Addr} {fd : FuncData} {N ps : List Str} {k : Nat} {mb : MS} (F : Fun K x qual st f fd) (S : FnScope N ps (defScope st))
    (body : ∀ (cdv : Value) (A : Around) (outer : List Env) (s : Shared) (H : Hp) (E : XK), Room k (A.deeper (envOfC qual (defScope st) s.heap.objs.size f cdv)) → GB (k + 1) A →
      ∃ t, RSF (bodyCx P w K mg base N qual (defScope st) f cdv A outer s H E) ⟨K, none, 0⟩ [] (defBody st) t mb) : FnG P w K mg base (k + 1) f fd ps (spFr K (mFun N ps.length mb)) := by
  refine FnG.mk' F S (fun vs H Q E ⟨Fz, ds, R, s, r, ⟨hl, _⟩, _⟩ => r.len.trans hl) fun cdv A outer s H vs Q E hr hg ⟨Fz, ds, R, sm, r, ⟨hl, q⟩, fin⟩ => ?_
  obtain ⟨t, B⟩ := body cdv A outer s H E hr hg
  have hN : vs.length ≤ N.length := by
    rw [r.len, hl]
    have := congrArg List.length S.pre
    rw [List.length_take] at this
    omega
  refine ⟨t, B.ps, B.le Fz H Fz H _ _ 0 _ _ (sep_start sm r hN) q _ fun d a F' H' n' s' w f ha q' => ?_⟩
  exact fin d a F' H' ⟨s'.f0, s'.fh, fun b o e => s'.stay b o e (fun ⟨_, _, z, _⟩ => nomatch z), s'.newF⟩ w f ha q'
end RR
end
section
namespace RR
open PySem PySem.Spec L2
open PyProof.Rows hiding St
section
variable {X : Cx} {p : Pm} {O Ob : List Nat} {i : Nat} {o e ke value : Expr} {pos pos' cpos : Pos} {kt : Option Str} {td ty tv te tk : TE} {me mk : ME}
/-- a slot that is no longer looked at -/
theorem Sep.forget {F0 H0 F H : Hp} {σ : St} {Γ : DEnv} {n : Nat} (s : Sep p F0 H0 O F H σ Γ n) (i : Nat) : Sep p F0 H0 (O.filter (· ≠ i)) F H σ (Γ.set i none) n := by
  have gd : ∀ {j : Nat} {d : D}, (Γ.set i none)[j]? = some (some d) → j ≠ i ∧ Γ[j]? = some (some d) := fun {j d} e => by
    by_cases h : i = j
    · subst h
      rw [set_at, if_pos rfl] at e
      split at e <;> cases e
    · rw [List.getElem?_set_ne h] at e
      exact ⟨Ne.symm h, e⟩
  have of : ∀ {j : Nat}, j ∈ O.filter (· ≠ i) → j ∈ O := fun h => (List.mem_filter.mp h).1
  refine ⟨s.f0, s.fh, s.stay, s.newF, s.pen, by rw [List.length_set]; exact s.len, fun j d hj e => ?_, fun j hj d e => s.ow j (of hj) d (gd e).2, fun j hj k hk hjk a dj dk h1 h2 h3 h4 => s.dj j (of hj) k (of hk) hjk a dj dk (gd h1).2 (gd h2).2 h3 h4⟩
  obtain ⟨h1, h2⟩ := gd e
  exact s.sh j d (fun z => hj (List.mem_filter.mpr ⟨z, by simpa using h1⟩)) h2
theorem RKs.of {K : PySem.W.Frag} {F : Hp} : ∀ {ds : List (D × D)} {kvs : List (Key × V)}, ds.map (·.1) = kvs.map (fun p => keyD p.1) → (∀ (i : Nat) x d, kvs[i]? = some x → ds[i]? = some d → Rp K F d.2 x.2) → RKs K F ds kvs
  | [], [], _, _ => .nil
  | [], _ :: _, h, _ => by cases h
  | _ :: _, [], h, _ => by cases h
  | (kd, d) :: ds, (k, v) :: kvs, h, r => by
    rw [List.map_cons, List.map_cons] at h
    obtain ⟨h1, h2⟩ := List.cons.inj h
    cases (show kd = keyD k from h1)
    exact .cons (r 0 _ _ rfl rfl) (RKs.of h2 fun i x d e1 e2 => r (i + 1) x d (by simpa using e1) (by simpa using e2))
@[reducible] def mPutK (i : Nat) (mk mv : ME) : MS := fun E Γ n => mv Γ n fun d n1 => ∃ ds, Γ[i]? = some (some (.dict ds)) ∧ mk Γ n1 fun kd n2 => ∃ k, keyOf kd = some k ∧ ds.length < lim ∧ E.nx (Γ.set i (some (.dict (putD ds k d)))) n2
theorem nr_putK {mv : ME} : NRt (mPutK i mk mv) := fun E R => rfl
theorem set_same {α : Type} {xs : List α} {i : Nat} {x : α} (h : xs[i]? = some x) : xs.set i x = xs := by
  apply List.ext_getElem?
  intro j
  by_cases e : i = j
  · subst e
    rw [set_at, if_pos rfl, h, if_pos (List.getElem?_eq_some_iff.mp h).1]
  · rw [List.getElem?_set_ne e]
theorem keyOf_rel {K : PySem.W.Frag} {F : Hp} {kd : D} {k : Key} {v : V} (e : keyOf kd = some k) (r : Rp K F kd v) : v = kV k := by
  unfold keyOf at e
  split at e <;> cases e
  · rw [r.int_inv]; rfl
  · rw [r.str_inv]; rfl
/-- what the slot's thing becomes -/
theorem Sep.rewrite {F0 H0 F H : Hp} {σ : St} {Γ : DEnv} {n : Nat} {a : Addr} {d0 d : D} {u : HO} (s : Sep p F0 H0 O F H σ Γ n) (hi : i ∈ O) (hp : p.off i) (ei : Γ[i]? = some (some d0)) (e1 : σ[i]? = some (some (.ref a))) (f : F a = none) (h0 : H0 a = none) (np : ¬ p.isPen a) (w : Own p.K F (upd H a u) d a) :
    ∃ F', Same F F' ∧ Sep p F0 H0 O F' (upd H a u) σ (Γ.set i (some d)) n := by
  have sl : ∀ j ∈ O.filter (· ≠ i), ∀ dj, (Γ.set i none)[j]? = some (some dj) → σ[j]? ≠ some (some (.ref a)) := fun j hj dj e z => by
    obtain ⟨j1, j2⟩ := List.mem_filter.mp hj
    have hji : j ≠ i := by simpa using j2
    rw [List.getElem?_set_ne (Ne.symm hji)] at e
    exact s.dj i hi j j1 (Ne.symm hji) a d0 dj ei e e1 z
  have s4 := (s.forget i).poke (o := u) f h0 np sl
  have s5 := s4.putOwn hp ⟨w, f, h0, np, sl⟩
  rw [set_same e1, List.set_set] at s5
  obtain ⟨F3, e3, s6⟩ := s5.weak (O' := O) fun j hj => by
    by_cases h : j = i
    · subst h; exact List.mem_cons_self ..
    · exact List.mem_cons_of_mem _ (List.mem_filter.mpr ⟨hj, by simpa using h⟩)
  exact ⟨F3, e3, s6⟩
theorem ls_putK (hv : LE p O tv me) (hk : LE p O tk mk) (hi : i ∈ O) (hp : p.off i) : LS p Ob O O (sDPut (tVar i) tk tv) (mPutK i mk me) := fun F0 H0 F H σ Γ n E s q E' hn _ _ _ => by
  refine hv F0 H0 F H σ Γ n _ s q _ fun d v F1 H1 n1 s1 g1 r1 ⟨ds, ei, q1⟩ => ?_
  obtain ⟨a, e1, w, z1, z2, z3⟩ := s1.ow i hi _ ei
  refine ⟨.ref a, e1, ?_⟩
  refine hk F0 H0 F1 H1 σ Γ n1 _ s1 q1 _ fun kd x F2 H2 n2 s2 g2 r2 ⟨k, ek, hl, q2⟩ => ?_
  obtain ⟨a', e1', w2, y1, y2, y3⟩ := s2.ow i hi _ ei
  rw [e1] at e1'
  cases e1'
  cases w2 with
  | dct u1 u2 u3 =>
    have rk := RKs.of u2 u3
    have rp := rk.put k (r1.mono g2.f)
    obtain ⟨F3, e3, s6⟩ := s2.rewrite (u := .dK (putK _ k v)) (d := .dict (putD ds k d)) hi hp ei e1 y1 y2 y3 (.dct upd_same rp.keys rp.at_)
    refine ⟨a, _, rfl, (keyOf_rel ek r2) ▸ DPut.k u1 (by rw [← rk.len]; exact lim_lt (Nat.le_of_lt hl)), hn F3 _ σ _ n2 s6 ((g1.f.trans g2.f).trans e3) q2⟩
theorem sPutK (i : Nat) {x : Str} {q : Pos} (hu : X.A.units + 1 < cLine) (hN : PE X (.Name x q) (tVar i)) (hk : RE X p O ke tk mk) (hv : RE X p O value tv me) (hi : i ∈ O) (hp : p.off i) (hs : swapsWith value (some (.Subscript (.Name x q) ke pos')) pos.line X.env = pure false := by rfl) :
    RS X p Ob O O (.Assign [.Subscript (.Name x q) ke pos'] value pos) (sDPut (tVar i) tk tv) (mPutK i mk me) := ⟨ps_dput hu hN hk.pe hv.pe hs, ls_putK hv.le hk.le hi hp⟩
end
end RR
end
section
namespace RR
open PySem PySem.Spec L2
open PyProof.Rows hiding St
open PySem.W (alike dataLt dataLe EachIs)
end RR
namespace RR
open PySem PySem.Spec L2
open PyProof.Rows hiding St
/-- what a slot holds is its own no more -/
theorem RSF.pre {X : Cx} {p : Pm} {O O2 : List Nat} {sts : List Stmt} {t : TS} {m : MS} (h : RSF X p O2 sts t m) (k : ∀ i ∈ O2, i ∈ O) : RSF X p O sts t m := ⟨h.ps, fun F0 H0 F H σ Γ n N R s q E' hr => by
  obtain ⟨F2, e2, s2⟩ := s.weak k
  exact h.le F0 H0 F2 H σ Γ n N R s2 q E' hr⟩
end RR
end
section
namespace RR
open PySem PySem.Spec L2
open PyProof.Rows hiding St
section
variable {mk mv : ME} {ek ev : VE} {i : Nat}
def vPutK (i : Nat) (ek ev : VE) : VS := fun Γ => (ev Γ).bind fun d => (dictAt i Γ).bind fun ds => (ek Γ).bind fun kd => (keyOf kd).bind fun k => if ds.length < lim then some (.nx (Γ.set i (some (.dict (putD ds k d))))) else none
theorem f_PutK (hk : FE mk ek) (hv : FE mv ev) : FS (mPutK i mk mv) (vPutK i ek ev) := fun Γ n r E e q => by
  obtain ⟨d, h1, e⟩ := bnd e
  obtain ⟨ds, h2, e⟩ := bnd e
  obtain ⟨kd, h3, e⟩ := bnd e
  obtain ⟨k, h4, e⟩ := bnd e
  obtain ⟨h5, rfl⟩ := ifs e
  exact hv Γ n d _ h1 ⟨ds, dictAt_eq h2, hk Γ n kd _ h3 ⟨k, h4, h5, q⟩⟩
end
end RR
end
section
namespace RC
open PySem PySem.Spec L2 RR
open PyProof.Rows hiding St
end RC
end
section
namespace RR
open PySem PySem.Spec L2
open PyProof.Rows hiding St
end RR
end
section
namespace RR
open PySem PySem.Spec L2
open PyProof.Rows hiding St
end RR
end
section
namespace RR
open PySem PySem.Spec L2
open PyProof.Rows hiding St
end RR
end
section
namespace RR
open PySem PySem.Spec L2
open PyProof.Rows hiding St
end RR
namespace RR
open PySem PySem.Spec L2
open PyProof.Rows hiding St
end RR
namespace RR
open PySem PySem.Spec L2
open PyProof.Rows hiding St
end RR
end
section
namespace RC
open PySem PySem.Spec L2 RR
open PyProof.Rows hiding St
end RC
end
section
namespace RR
open PySem PySem.Spec L2
open PyProof.Rows hiding St
end RR
end
section
namespace RR
open PySem PySem.Spec L2
open PyProof.Rows hiding St
def dropD (ds : List (D × D)) (k : Key) : List (D × D) := ds.filter fun q => decide (keyOf q.1 ≠ some k)
theorem RKs.drop {K : PySem.W.Frag} {F : Hp} {ds : List (D × D)} {kvs : List (Key × V)} (h : RKs K F ds kvs) (k : Key) : RKs K F (dropD ds k) (dropK kvs k) := by
  induction h with
  | nil => exact .nil
  | @cons k' d v ds kvs r _ ih =>
    unfold dropD dropK at ih ⊢
    rw [List.filter_cons, List.filter_cons]
    by_cases e : k' = k
    · rw [if_neg (by show ¬ decide (keyOf (keyD k') ≠ some k) = true; rw [keyOf_D, e]; simp), if_neg (by show ¬ decide (k' ≠ k) = true; rw [e]; simp)]
      exact ih
    · rw [if_pos (by show decide (keyOf (keyD k') ≠ some k) = true; rw [keyOf_D]; exact decide_eq_true fun z => e (Option.some.inj z)), if_pos (by show decide (k' ≠ k) = true; exact decide_eq_true e)]
      exact .cons r ih
end RR
end
section
namespace RR
open PySem PySem.Spec L2
open PyProof.Rows hiding St
end RR
end
section
namespace RR
open PySem PySem.Spec L2
open PyProof.Rows hiding St
end RR
end
section
namespace RR
open PySem PySem.Spec L2
open PyProof.Rows hiding St
end RR
end
section
namespace RR
open PySem PySem.Spec L2
open PyProof.Rows hiding St
end RR
end
section
namespace RR
open PySem PySem.Spec L2
open PyProof.Rows hiding St
open PySem.W (alike dataLt)
variable {K : PySem.W.Frag} {X : Cx}
def notNon : D → Bool
  | .none => false
  | _ => true
def dLtA : D → D → Option D := fun x y => if alike x y = true ∧ notNon x = true ∧ x.canLay0 = true ∧ y.canLay0 = true ∧ x.depth ≤ 60 then some (.bool (dataLt x y)) else none
def rLtD (K : PySem.W.Frag) : R2 := fun x y H Q => ∃ d e, Dp K H x d ∧ Dp K H y e ∧ alike d e = true ∧ notNon d = true ∧ d.depth ≤ 60 ∧ Q (.bl (dataLt d e)) H
theorem op_ltD (hu : X.A.units + 64 < cLine) : OpR X (compareOp .Lt) (rLtD X.K) := by
  intro pins s σ H x y v u Q I rx ry h
  obtain ⟨d, e, hd, he, ha, hn, hp, q⟩ := h
  obtain ⟨as, r1⟩ := Dp.reads I d x v hd rx
  obtain ⟨bs, r2⟩ := Dp.reads I e y u he ry
  exact PySem.W.lt_data r1 r2 ha (fun z => by rw [z] at hn; cases hn) (by omega) ⟨.bl _, H, I, rfl, q⟩
theorem oLtD (hK : K = X.K) (hu : X.A.units + 64 < cLine) : OpR X (compareOp .Lt) (rLtD K) := hK ▸ op_ltD hu
theorem l_ltD : OpL K (rLtD K) dLtA := fun F H x y dx dy d s rx ry fe Q' k => by
  unfold dLtA at fe
  split at fe
  · rename_i h
    cases fe
    exact ⟨dx, dy, Rp.dp _ _ h.2.2.1 (rx.mono s), Rp.dp _ _ h.2.2.2.1 (ry.mono s), h.1, h.2.1, h.2.2.2.2, k _ F H (.refl s) (.bl _)⟩
  · cases fe
end RR
end
section
namespace RR
open PySem PySem.Spec L2
open PyProof.Rows hiding St
end RR
end
section
namespace RC
open PySem PySem.Spec L2 RR
open PyProof.Rows hiding St
local macro_rules | `(tactic| walk_at "st") => `(tactic| first
  | refine ⟨_, rfl, ?_⟩
  | refine ⟨rfl, ?_⟩
  | refine ⟨by decide, ?_⟩)
def b_is_ascending_v2 : MS := (mRet (mCl cAll (mCons (mLc (mIZ (mCons (mVar 0) (mCons (mSl (mVar 0) (mPart (mC (.int 1))) mNoPart) mNil))) (mgTup 2 (mgCons (mgName 1) (mgCons (mgName 2) mgNil))) mYes (mOp dLtA (mVar 1) (mVar 2)) [1, 2]) mNil)))
def m_is_ascending_v2 : MP := mFun ["members", "member", "behind"] 1 b_is_ascending_v2
def vb_is_ascending_v2 : VS := (vRet (vCl cAll (vCons (vLc (vIZ (vCons (vVar 0) (vCons (vSl (vVar 0) (vPart (vC (.int 1))) vNoPart) vNil))) (vgTup 2 (vgCons (vgName 1) (vgCons (vgName 2) vgNil))) vYes (vOp dLtA (vVar 1) (vVar 2)) [1, 2]) vNil)))
def v_is_ascending_v2 : VP := vFun ["members", "member", "behind"] 1 vb_is_ascending_v2
theorem fp_is_ascending_v2 : FP m_is_ascending_v2 v_is_ascending_v2 := by
  unfold m_is_ascending_v2 v_is_ascending_v2 b_is_ascending_v2 vb_is_ascending_v2
  exact f_Fun (f_Ret (f_Cl (f_Cons (f_Lc (f_IZ (f_Cons f_Var (f_Cons (f_Sl f_Var (f_Part f_C) f_NoPart) f_Nil))) (f_gTup (f_gCons f_gName (f_gCons f_gName f_gNil))) f_Yes (f_Op f_Var f_Var)) f_Nil)))
def b_size_of : MS := (mRet (mOp dIx (mCall m_addresses_of (mCons (mVar 0) (mCons (mVar 1) (mCons (mVar 2) mNil)))) (mUn dNeg (mC (.int 1)))))
def m_size_of : MP := mFun ["part", "machine", "forms"] 3 b_size_of
def vb_size_of : VS := (vRet (vOp dIx (vCall v_addresses_of (vCons (vVar 0) (vCons (vVar 1) (vCons (vVar 2) vNil)))) (vUn dNeg (vC (.int 1)))))
def v_size_of : VP := vFun ["part", "machine", "forms"] 3 vb_size_of
theorem fp_size_of : FP m_size_of v_size_of := by
  unfold m_size_of v_size_of b_size_of vb_size_of
  exact f_Fun (f_Ret (f_Op (f_Call fp_addresses_of (f_Cons f_Var (f_Cons f_Var (f_Cons f_Var f_Nil)))) (f_Un f_C)))
end RC
end
section
namespace RR
open PySem PySem.Spec L2
open PyProof.Rows hiding St
structure EX where
  nx : DEnv → Nat → Prop
  rt : D → Nat → Prop
  xc : Str → Prop
/-- a class of errors: made with a text, known by its name -/
structure XC (K : PySem.W.Frag) (mg : Str → Option Value) (x : Str) (C : Addr) : Prop where
  g : mg x = some (.ref C)
  k : PySem.W.keepIn K (.ref C) = true
  q : ∃ bm n, PySem.W.excIn K C bm n = true ∧ ∃ B i, ExcBaseFacts B n i bm
  b : PySem.W.subIn K (.ref C) (.type "BaseException") = some true
  t : PySem.W.typeIn K (.ref C) = some (.type "type")
end RR
end
section
namespace RR
open PySem PySem.Spec L2
open PyProof.Rows hiding St
end RR
end
section
namespace RR
open PySem PySem.Spec L2
open PyProof.Rows hiding St
end RR
end
section
namespace RR
open PySem PySem.Spec L2
open PyProof.Rows hiding St
end RR
end
section
namespace RR
open PySem PySem.Spec L2
open PyProof.Rows hiding St
/-- empty tables stay -/
def TbS (H H' : Hp) : Prop := ∀ T, H T = some (.tbl #[]) → H' T = some (.tbl #[])
theorem TbS.refl {H : Hp} : TbS H H := fun _ h => h
theorem TbS.new {H H1 : Hp} {b : Addr} {o : HO} (t : TbS H H1) (n : H1 b = none) : TbS H (upd H1 b o) := fun T h => by
  rw [upd_ne (ne_of_none (t T h) n)]; exact t T h
theorem TbS.lst {H H1 : Hp} {b : Addr} {o : HO} {xs : List V} (t : TbS H H1) (n : H1 b = some (.lst xs)) : TbS H (upd H1 b o) := fun T h => by
  have z : T ≠ b := fun z => by have := t T h; rw [z, n] at this; cases this
  rw [upd_ne z]; exact t T h
end RR
end
section
namespace RR
open PySem PySem.Spec L2
open PyProof.Rows hiding St
/-- which of these classes an error of the class C is of -/
def KitL (K : PySem.W.Frag) (mg : Str → Option Value) (C : Addr) : List (Str × Bool) → Prop
  | [] => True
  | (y, b) :: r => (∃ c, mg y = some (.ref c) ∧ PySem.W.kitOne K (.ref C) (.ref c) = some b) ∧ KitL K mg C r
/-- a class under the class top that is caught -/
def XK (K : PySem.W.Frag) (mg : Str → Option Value) (top : Str) (ys : List (Str × Bool)) (x : Str) : Prop :=
  ∃ C, XC K mg x C ∧ ExcC K C ∧ (∃ CR, mg top = some (.ref CR) ∧ PySem.W.exmOne K (.ref C) (.ref CR) = some true) ∧ KitL K mg C ys
theorem XK.at {K : PySem.W.Frag} {mg : Str → Option Value} {top x : Str} {ys : List (Str × Bool)} {C CR : Addr} (h : XK K mg top ys x) (hC : mg x = some (.ref C)) (hR : mg top = some (.ref CR)) : ExcC K C ∧ PySem.W.exmOne K (.ref C) (.ref CR) = some true ∧ KitL K mg C ys := by
  obtain ⟨C', h1, h2, ⟨R', h3, h4⟩, h5⟩ := h
  rw [h1.g] at hC
  rw [h3] at hR
  cases hC
  cases hR
  exact ⟨h2, h4, h5⟩
end RR
end
section
namespace RC
open PySem PySem.Spec L2 RR
open PyProof.Rows hiding St
end RC
end
section
namespace RR
open PySem PySem.Spec L2
open PyProof.Rows hiding St
end RR
end
section
namespace RR
open PySem PySem.Spec L2
open PyProof.Rows hiding St
end RR
end
section
namespace Cmb
open PySem PySem.Spec
open Sem (wp)
abbrev cT : String := "itertools.combinations"
theorem c_mro : mroOf (.type cT) = pure [.type cT, .type "object"] := by rw [mroOf_type]; kernel_rfl
theorem c_new : typeLookup (.type cT) "__new__" = pure (some (.builtin "itertools.combinations.__new__")) := by rw [typeLookup_type, builtinLookup_eq_fast]; kernel_rfl
theorem c_init : Slot cT "__init__" "object.__init__" :=
  .of (owner := "object") (n := "__init__") (by rw [typeLookup_type, builtinLookup_eq_fast]; kernel_rfl) (by decide +kernel) (by decide +kernel) (by decide +kernel) (by first | exact .inl (by decide +kernel) | exact .inr (by decide +kernel)) (by rw [isSubtype_type]; kernel_rfl)
theorem c_sub : isSubtype (.type cT) (.type cT) = pure true := by rw [isSubtype_type]; kernel_rfl
theorem c_called : TypeCalled cT "itertools.combinations.__new__" "object.__init__" := ⟨by decide +kernel, by decide +kernel, ⟨_, _, c_mro⟩, madeBy_type c_mro c_new (by decide +kernel), by decide +kernel, c_sub, c_init⟩
theorem c_tcall (a b : Value) : checkTypeCall cT ⟨[a, b], []⟩ = pure () := by kernel_rfl
theorem c_ncall (a b : Value) : checkBuiltinCall "itertools.combinations.__new__" ⟨[.type cT, a, b], []⟩ = pure () := by kernel_rfl
theorem c_entryN : entryFor table "itertools.combinations.__new__" = some Builtin.«itertools.combinations.__new__» := entryFor_of_tree (by kernel_rfl)
theorem c_iter : Slot cT "__iter__" "itertools.combinations.__iter__" :=
  .of (owner := "itertools.combinations") (n := "__iter__") (by rw [typeLookup_type, builtinLookup_eq_fast]; kernel_rfl) (by decide +kernel) (by decide +kernel) (by decide +kernel) (by first | exact .inl (by decide +kernel) | exact .inr (by decide +kernel)) c_sub
theorem c_next : Slot cT "__next__" "itertools.combinations.__next__" :=
  .of (owner := "itertools.combinations") (n := "__next__") (by rw [typeLookup_type, builtinLookup_eq_fast]; kernel_rfl) (by decide +kernel) (by decide +kernel) (by decide +kernel) (by first | exact .inl (by decide +kernel) | exact .inr (by decide +kernel)) c_sub
theorem c_entryI : entryFor table "itertools.combinations.__iter__" = some Builtin.«dict_keyiterator.__iter__» :=
  entryFor_alias (id' := "dict_keyiterator.__iter__") (by kernel_rfl) (by first | rfl | decide +kernel | (unfold String.splitOn; simp +decide [String.splitOnAux])) (by decide +kernel) (by kernel_rfl)
theorem c_entryX : entryFor table "itertools.combinations.__next__" = some Builtin.«itertools.combinations.__next__» := entryFor_of_tree (by kernel_rfl)
theorem c_owner : Manifest.owners.lookup (String.ofList ['s', 'n', 'o', 'i', 't', 'a', 'n', 'i', 'b', 'm', 'o', 'c', '.', 's', 'l', 'o', 'o', 't', 'r', 'e', 't', 'i'].reverse) = some Manifest.sig_itertools_combinations := by kernel_rfl
theorem c_argsI (a : Value) : argsOk "itertools.combinations.__iter__" ⟨[a], []⟩ := by
  unfold argsOk; rw [signature?_of (id := "itertools.combinations.__iter__") (n := ['_', '_', 'r', 'e', 't', 'i', '_', '_']) (o := ['s', 'n', 'o', 'i', 't', 'a', 'n', 'i', 'b', 'm', 'o', 'c', '.', 's', 'l', 'o', 'o', 't', 'r', 'e', 't', 'i']) (by kernel_rfl) c_owner]; kernel_rfl
theorem c_argsX (a : Value) : argsOk "itertools.combinations.__next__" ⟨[a], []⟩ := by
  unfold argsOk; rw [signature?_of (id := "itertools.combinations.__next__") (n := ['_', '_', 't', 'x', 'e', 'n', '_', '_']) (o := ['s', 'n', 'o', 'i', 't', 'a', 'n', 'i', 'b', 'm', 'o', 'c', '.', 's', 'l', 'o', 'o', 't', 'r', 'e', 't', 'i']) (by kernel_rfl) c_owner]; kernel_rfl
theorem c_noDict : typeHasDict (.type cT) = false := by decide +kernel
/-- the record: the pool, where it stands, what it handed out, the indices -/
def cObj (P : Addr) (st : Int) (res : Value) (ix : List Nat) : Obj := { cls := .type cT, data := .fields ([.ref P, rawInt st, res] ++ ix.map fun (i : Nat) => rawInt i).toArray }
abbrev IsC (h : Heap) (it P : Addr) (st : Int) (res : Value) (ix : List Nat) : Prop := h.get? it = some (cObj P st res ix)
end Cmb
end
section
namespace Cmb
open PySem PySem.Spec
open Sem (wp)
theorem meets_cnew (l : Addr) (vs : List Value) (r : Nat) (t : Tok) (hr : r ≤ 1000) (hv : vs.length ≤ 1000) : Meets (Builtin.«itertools.combinations.__new__» ⟨[.type cT, .ref l, .int (r : Int) t], []⟩)
    (fun _ R s => s.heap.IsList l vs.toArray ∧
      ∀ h' : Heap, (∀ b o, s.heap.get? b = some o → h'.get? b = some o) → h'.objs.size = s.heap.objs.size + 1 → R (.ok (.ret (.ref (h'.objs.size + 1)))) { s with heap := (h'.push { cls := .type "tuple", data := .seq vs.toArray }).push (cObj h'.objs.size (if r > vs.length then 2 else 0) .none (List.range r)) }) :=
  .of_wp fun prog w A R s h => by
    obtain ⟨hl, h⟩ := h
    obtain ⟨hp, g, dd, tk, os⟩ := s
    have hsub := c_sub
    have hn : ¬ ((decide ((r : Int) < -(2 ^ 63 : Int)) || decide ((2 ^ 63 : Int) ≤ (r : Int))) = true) := by
      have a : decide ((r : Int) < -(2 ^ 63 : Int)) = false := decide_eq_false (by omega)
      have b : decide ((2 ^ 63 : Int) ≤ (r : Int)) = false := decide_eq_false (by omega)
      rw [a, b]
      decide
    repeat (first
      | wp_step
      | simp only [List.head?_cons, Option.some_or, List.getElem?_cons_succ, List.getElem?_cons_zero, List.length_cons, List.length_nil, List.forIn_nil])
    refine wpAny_of_eq (a := true) (show isSubtype (.type cT) (.type ("itertools." ++ "combinations")) = pure true from c_sub) ?_
    rw [if_neg (show ¬ ((!true) = true) by decide)]
    repeat (first
      | wp_step
      | simp only [List.head?_cons, Option.some_or, List.getElem?_cons_succ, List.getElem?_cons_zero, List.length_cons, List.length_nil, List.forIn_nil])
    rw [if_neg (show ¬ ((decide ((r : Int) < -2 ^ 63) || decide ((r : Int) ≥ 2 ^ 63)) = true) from hn)]
    refine wpAny_pure ?_
    have col : ∀ {Q : List Value → Shared → Prop} {E : Value → Shared → Prop}, (∀ h' : Heap, (∀ b o, hp.get? b = some o → h'.get? b = some o) → h'.objs.size = hp.objs.size + 1 → Q vs ⟨h', g, dd, tk, os⟩) → wpAny (model prog w) A.in1 (collect (.ref l)) Q E ⟨hp, g, dd, tk, os⟩ := fun {Q E} hQ => by
      refine PyProof.Rows.collect_list (s := ⟨hp, g, dd, tk, os⟩) hl (hQ _ (fun b o q => ?_) ?_) (Nat.le_trans hv (by decide))
      · exact ((Heap.SameBut.update ..).2 b (Nat.ne_of_lt (Heap.lt_size q))).trans (Heap.get?_push_of_some _ q)
      · rw [Heap.size_update, Heap.size_push]
    refine wpAny_bind (col fun h' hk hsz => ?_)
    rw [if_neg (show ¬ ((r : Int) < 0) by omega), if_neg (show ¬ (Builtin.Itertools.itTooMany (r : Int) = true) by
      unfold Builtin.Itertools.itTooMany
      simp only [decide_eq_true_eq]
      omega)]
    refine wpAny_bind (wpAny_newTuple (wpAny_pure ?_) (Nat.le_trans hv (by decide)))
    dsimp only
    unfold Builtin.Itertools.itNewRecord
    rw [c_noDict]
    simp only [Bool.not_false, if_true]
    refine wpAny_bind (wpAny_newObj_type ?_ ?_)
    · exact wpAny_pure ⟨_, rfl, by have z := h h' hk hsz; unfold cObj at z; simpa only [Int.toNat_natCast, Heap.size_push] using z⟩
    · show (([Value.ref h'.objs.size, rawInt (if (r : Int).toNat > vs.length then 2 else 0), Value.none] ++ List.map (fun (i : Nat) => rawInt (i : Int)) (List.range (r : Int).toNat)).toArray).size ≤ sizeLine + 2
      have : 1003 ≤ sizeLine + 2 := by decide
      simp
      omega
end Cmb
end
section
namespace Cmb
open PySem PySem.Spec
open Sem (wp)
section
variable {prog : Program} {w : World} {A : Around} {E : Value → Shared → Prop} {s : Shared}
theorem call_comb {l : Addr} {vs : List Value} {r : Nat} {t : Tok} {Q : Value → Shared → Prop} (hr : r ≤ 1000) (hv : vs.length ≤ 1000) (hl : s.heap.IsList l vs.toArray)
    (h : ∀ (it P : Addr) (h' : Heap), (∀ b o, s.heap.get? b = some o → h'.get? b = some o) → s.heap.objs.size ≤ it → s.heap.objs.size ≤ P → P ≠ it → IsC h' it P (if r > vs.length then 2 else 0) .none (List.range r) → h'.get? P = some { cls := .type "tuple", data := .seq vs.toArray } → Q (.ref it) { s with heap := h' }) :
    wpAny (model prog w) A (call (.type cT) [.ref l, .int (r : Int) t]) Q E s := by
  refine callType_new c_called (by decide +kernel) (c_tcall _ _) (c_ncall _ _) (fun obj => F.args_object_init_3 obj _ _) c_entryN (meets_cnew l vs r t hr hv) ⟨hl, fun h' hk hsz => ?_⟩
  have g1 : ((h'.push { cls := .type "tuple", data := .seq vs.toArray }).push (cObj h'.objs.size (if r > vs.length then 2 else 0) .none (List.range r))).get? (h'.objs.size + 1) = some (cObj h'.objs.size (if r > vs.length then 2 else 0) .none (List.range r)) := by
    have := Heap.get?_push_size (o := cObj h'.objs.size (if r > vs.length then 2 else 0) .none (List.range r)) (h'.push { cls := .type "tuple", data := .seq vs.toArray }) rfl
    rwa [Heap.size_push] at this
  have o1 : s.heap.objs.size ≤ h'.objs.size + 1 ∧ s.heap.objs.size ≤ h'.objs.size ∧ h'.objs.size ≠ h'.objs.size + 1 := by omega
  exact ⟨⟨_, g1, rfl⟩, h (h'.objs.size + 1) h'.objs.size _ (fun b o q => Heap.get?_push_of_some _ (Heap.get?_push_of_some _ (hk b o q))) o1.1 o1.2.1 o1.2.2 g1 (Heap.get?_push_of_some _ (Heap.get?_push_size _ rfl))⟩
theorem iter_comb {it P : Addr} {st : Int} {res : Value} {ix : List Nat} {Q : Value → Shared → Prop} (hit : IsC s.heap it P st res ix) (h : Q (.ref it) s) : wpAny (model prog w) A (pyIter (.ref it)) Q E s := by
  have hT : s.TypeIs (.ref it) cT := ⟨_, hit, rfl⟩
  refine wpAny_pyIter_slot hT c_iter (wpAny_call_entry c_iter hT c_entryI ?_ (c_argsI _))
  show wpAny _ _ (ret (.ref it)) _ _ s
  exact wpAny_pure ⟨_, rfl, cT, _, hT, c_next.lookup, h⟩
/-- one index list behind another, as the model steps -/
def nextC (n : Nat) (ix : List Nat) : Option (List Nat) :=
  match (List.range ix.length).reverse.find? fun i => ix.getD i 0 != i + n - ix.length with
  | none => none
  | some i => some (ix.take i ++ (List.range (ix.length - i)).map (ix.getD i 0 + 1 + ·))
theorem nums_of {a b c : Value} {ix : List Nat} (f : Value → Nat) (hf : ∀ n t, f (.int n t) = n.toNat) : List.map f (List.drop 3 ([a, b, c] ++ ix.map fun (i : Nat) => rawInt i).toArray.toList) = ix := by
  show List.map f (ix.map fun (i : Nat) => rawInt i) = ix
  rw [List.map_map]
  have e : (f ∘ fun (i : Nat) => rawInt i) = id := by
    funext i
    exact (hf _ _).trans (Int.toNat_natCast i)
  rw [e, List.map_id]
theorem obj_set1 {P : Addr} {st st' : Int} {res : Value} {ix : List Nat} : (cObj P st res ix).mapFields (fun x => x.setIfInBounds 1 (rawInt st')) = cObj P st' res ix := by
  unfold cObj Obj.mapFields
  simp
theorem obj_set2 {P : Addr} {st : Int} {res res' : Value} {ix : List Nat} : (cObj P st res ix).mapFields (fun x => x.setIfInBounds 2 res') = cObj P st res' ix := by
  unfold cObj Obj.mapFields
  simp
theorem obj_ix {P : Addr} {st : Int} {res : Value} {ix ix' : List Nat} : (cObj P st res ix).mapFields (fun fs => fs.extract 0 3 ++ (ix'.map fun (n : Nat) => rawInt n).toArray) = cObj P st res ix' := by
  unfold cObj Obj.mapFields
  simp
section
variable {M : Model} {prog : Program} {w : World} {A : Around} {E : Value → Shared → Prop} {s : Shared} {it P : Addr} {st : Int} {res : Value} {ix : List Nat} {vs : List Value}
theorem w_nums {Q : List Nat → Shared → Prop} (hit : IsC s.heap it P st res ix) (h : Q ix s) : wpAny M A (Builtin.Itertools.itNumbersFrom (.ref it) 3) Q E s := by
  unfold Builtin.Itertools.itNumbersFrom
  refine wpAny_bind (wpAny_load hit (wpAny_pure ?_))
  rw [nums_of _ (fun _ _ => rfl)]
  exact h
theorem w_int {Q : Int → Shared → Prop} (hit : IsC s.heap it P st res ix) (h : Q st s) : wpAny M A (Builtin.Itertools.itIntField (.ref it) 1) Q E s := by
  unfold Builtin.Itertools.itIntField
  exact wpAny_bind (wpAny_field hit rfl (x := rawInt st) rfl (wpAny_pure h))
theorem w_pool {Q : Array Value → Shared → Prop} (hP : s.heap.get? P = some { cls := .type "tuple", data := .seq vs.toArray }) (h : Q vs.toArray s) : wpAny M A (Builtin.Itertools.itPoolItems (.ref P)) Q E s := by
  unfold Builtin.Itertools.itPoolItems
  exact wpAny_bind (wpAny_seqItems hP rfl (wpAny_pure h))
/-- what is handed out: a new tuple, kept in the record -/
theorem w_hand {pk : Sem Value} {Q : PySem.Fin → Shared → Prop} (hpk : pk = (Builtin.Itertools.itPoolItems (.ref P) >>= fun items => newTuple (ix.map fun i => items.getD i .none))) (hit : IsC s.heap it P st res ix) (hP : s.heap.get? P = some { cls := .type "tuple", data := .seq vs.toArray }) (hx : ix.length ≤ 1000)
    (h : ∀ h' : Heap, (∀ b o, b ≠ it → s.heap.get? b = some o → h'.get? b = some o) → IsC h' it P st (.ref s.heap.objs.size) ix → h'.get? s.heap.objs.size = some { cls := .type "tuple", data := .seq (ix.map fun i => vs.toArray.getD i .none).toArray } → Q (.done (.ret (.ref s.heap.objs.size))) { s with heap := h' }) :
    wpAny M A (do
      let result ← pk
      let before ← field (.ref it) 2
      setField (.ref it) 2 result
      letGo [before] [result]
      ret result) Q E s := by
  subst hpk
  refine wpAny_bind (wpAny_bind (w_pool hP (wpAny_newTuple ?_ (by rw [List.length_map]; exact Nat.le_trans hx (by decide)))))
  have lt := Heap.lt_size hit
  have g1 : (s.heap.push { cls := .type "tuple", data := .seq (ix.map fun i => vs.toArray.getD i .none).toArray }).get? it = some (cObj P st res ix) := Heap.get?_push_of_some _ hit
  refine wpAny_bind (wpAny_field g1 rfl (x := res) rfl (wpAny_bind (wpAny_setField g1 rfl (by simp) (wpAny_bind (wpAny_letGo (wpAny_pure ?_))))))
  refine h _ (fun b o ne q => ?_) ?_ ?_
  · exact (Heap.SameBut.update ..).2 b ne |>.trans (Heap.get?_push_of_some _ q)
  · have z := Heap.get?_update_self (Obj.mapFields fun x => x.setIfInBounds 2 (.ref s.heap.objs.size)) g1 rfl
    rw [obj_set2] at z
    exact z
  · exact ((Heap.SameBut.update ..).2 _ (Nat.ne_of_gt lt)).trans (Heap.get?_push_size _ rfl)
end
end
end Cmb
end
section
namespace Cmb
open PySem PySem.Spec
open Sem (wp)
section
variable {prog : Program} {w : World} {A : Around} {E : Value → Shared → Prop} {s : Shared} {it P : Addr} {st : Int} {res : Value} {ix ix' : List Nat} {vs : List Value}
theorem upd_keep {h : Heap} {f : Obj → Obj} {b : Addr} {o : Obj} (ne : b ≠ it) (q : h.get? b = some o) : (h.update it f).get? b = some o := ((Heap.SameBut.update ..).2 b ne).trans q
/-- the first one -/
theorem comb_start {Q : Option Value → Shared → Prop} (hit : IsC s.heap it P 0 res ix) (hP : s.heap.get? P = some { cls := .type "tuple", data := .seq vs.toArray }) (ne : P ≠ it) (hx : ix.length ≤ 1000)
    (hQ : ∀ h' : Heap, (∀ b o, b ≠ it → s.heap.get? b = some o → h'.get? b = some o) → IsC h' it P 1 (.ref s.heap.objs.size) ix → h'.get? s.heap.objs.size = some { cls := .type "tuple", data := .seq (ix.map fun i => vs.toArray.getD i .none).toArray } → Q (some (.ref s.heap.objs.size)) { s with heap := h' }) :
    wpAny (model prog w) A (callSpecial? (.ref it) "__next__") Q E s := by
  have hT : s.TypeIs (.ref it) cT := ⟨_, hit, rfl⟩
  refine wpAny_callSpecial?_slot (name := Str.ofString "__next__") hT c_next (wpAny_call_entry c_next hT c_entryX ?_ (c_argsX _))
  show wpAny _ _ (field (.ref it) 0 >>= _) _ _ s
  refine wpAny_bind (wpAny_field hit rfl (x := .ref P) rfl (wpAny_bind (w_nums hit (wpAny_bind (w_int hit ?_)))))
  dsimp only
  refine wpAny_bind (wpAny_setField hit rfl (by simp) ?_)
  have g1 : IsC (s.heap.update it (Obj.mapFields fun x => x.setIfInBounds 1 (rawInt 1))) it P 1 res ix := by
    have z := Heap.get?_update_self (Obj.mapFields fun x => x.setIfInBounds 1 (rawInt 1)) hit rfl
    rw [obj_set1] at z
    exact z
  have sz : (s.heap.update it (Obj.mapFields fun x => x.setIfInBounds 1 (rawInt 1))).objs.size = s.heap.objs.size := Heap.size_update ..
  refine w_hand (vs := vs) rfl g1 (upd_keep ne hP) hx fun h' k i1 t1 => ?_
  rw [sz] at i1 t1 ⊢
  exact ⟨_, rfl, hQ h' (fun b o nb q => k b o nb (upd_keep nb q)) i1 t1⟩
/-- one more -/
theorem comb_step {Q : Option Value → Shared → Prop} (hit : IsC s.heap it P 1 res ix) (hP : s.heap.get? P = some { cls := .type "tuple", data := .seq vs.toArray }) (ne : P ≠ it) (hn : nextC vs.length ix = some ix') (hx : ix'.length ≤ 1000)
    (hQ : ∀ h' : Heap, (∀ b o, b ≠ it → s.heap.get? b = some o → h'.get? b = some o) → IsC h' it P 1 (.ref s.heap.objs.size) ix' → h'.get? s.heap.objs.size = some { cls := .type "tuple", data := .seq (ix'.map fun i => vs.toArray.getD i .none).toArray } → Q (some (.ref s.heap.objs.size)) { s with heap := h' }) :
    wpAny (model prog w) A (callSpecial? (.ref it) "__next__") Q E s := by
  have hT : s.TypeIs (.ref it) cT := ⟨_, hit, rfl⟩
  refine wpAny_callSpecial?_slot (name := Str.ofString "__next__") hT c_next (wpAny_call_entry c_next hT c_entryX ?_ (c_argsX _))
  show wpAny _ _ (field (.ref it) 0 >>= _) _ _ s
  refine wpAny_bind (wpAny_field hit rfl (x := .ref P) rfl (wpAny_bind (w_nums hit (wpAny_bind (w_int hit ?_)))))
  dsimp only
  refine wpAny_bind (w_pool hP ?_)
  show wpAny _ _ (match nextC vs.length ix with | some next => _ | none => _) _ _ _
  rw [hn]
  dsimp only
  have sz1 : ∀ {f : Obj → Obj}, (s.heap.update it f).objs.size = s.heap.objs.size := fun {f} => Heap.size_update ..
  have set : ∀ {Q' : Unit → Shared → Prop}, (∀ h1 : Heap, (∀ b o, b ≠ it → s.heap.get? b = some o → h1.get? b = some o) → h1.objs.size = s.heap.objs.size → IsC h1 it P 1 res ix' → Q' () { s with heap := h1 }) → wpAny (model prog w) A.in1 (Builtin.Itertools.itSetNumbersFrom (.ref it) 3 ix') Q' E s := fun {Q'} h => by
    unfold Builtin.Itertools.itSetNumbersFrom
    refine wpAny_updateFields hit rfl (h _ (fun b o nb q => upd_keep nb q) sz1 ?_) ?_
    · have z := Heap.get?_update_self (Obj.mapFields fun fs => fs.extract 0 3 ++ (ix'.map fun (n : Nat) => rawInt n).toArray) hit rfl
      rw [obj_ix] at z
      exact z
    · have : 1003 ≤ sizeLine + 3 := by decide
      simp
      omega
  refine wpAny_bind (set fun h1 k1 z1 g1 => ?_)
  refine w_hand (vs := vs) rfl g1 (k1 _ _ ne hP) hx fun h' k i1 t1 => ?_
  rw [z1] at i1 t1 ⊢
  exact ⟨_, rfl, hQ h' (fun b o nb q => k b o nb (k1 b o nb q)) i1 t1⟩
/-- the end: no more -/
theorem comb_stop {Q : Option Value → Shared → Prop} (hh : A.handled = none) (hit : IsC s.heap it P st res ix) (hP : s.heap.get? P = some { cls := .type "tuple", data := .seq vs.toArray }) (hst : st = 2 ∨ (st = 1 ∧ nextC vs.length ix = none))
    (hQ : ∀ e h', CpRep.StopE e h' → (∀ b o, b ≠ it → s.heap.get? b = some o → h'.get? b = some o) → E e { s with heap := h' }) : wpAny (model prog w) A (callSpecial? (.ref it) "__next__") Q E s := by
  have hT : s.TypeIs (.ref it) cT := ⟨_, hit, rfl⟩
  refine wpAny_callSpecial?_slot (name := Str.ofString "__next__") hT c_next (wpAny_call_entry c_next hT c_entryX ?_ (c_argsX _))
  show wpAny _ _ (field (.ref it) 0 >>= _) _ _ s
  refine wpAny_bind (wpAny_field hit rfl (x := .ref P) rfl (wpAny_bind (w_nums hit (wpAny_bind (w_int hit ?_)))))
  have stop : ∀ {α : Type} {Q' : α → Shared → Prop} {h1 : Heap}, (∀ b o, b ≠ it → s.heap.get? b = some o → h1.get? b = some o) → wpAny (model prog w) A.in1 (Builtin.Itertools.itStop : Sem α) Q' E { s with heap := h1 } := fun {α Q' h1} k1 => by
    unfold Builtin.Itertools.itStop
    refine wpAny_bind ?_
    simp only [newExc, newTuple]
    refine wpAny_bind (wpAny_newObj_type ?_ (by size_fits))
    refine wpAny_bind (m := firstArgMember _ _) (wpAny_of_eq (a := Value.none) (by first | rfl | (simp only [firstArgMember]; rfl)) ?_)
    refine wpAny_newObj_type ?_ (by size_fits)
    simp only [raiseNew]
    refine wpAny_bind (wpAny_handled ?_)
    first | rw [show A.in1.handled = none from hh] | rw [hh]
    refine wpAny_bind (wpAny_pure (wpAny_throw ?_))
    exact hQ _ _ ⟨_, _, _, rfl, Heap.get?_push_size _ rfl, rfl, rfl, rfl⟩ fun b o nb q => Heap.get?_push_of_some _ (Heap.get?_push_of_some _ (k1 b o nb q))
  rcases hst with rfl | ⟨rfl, hn⟩
  · dsimp only
    exact wpAny_bind (wpAny_rule (stop fun b o _ q => q))
  · dsimp only
    refine wpAny_bind (w_pool hP ?_)
    show wpAny _ _ (match nextC vs.length ix with | some next => _ | none => _) _ _ _
    rw [hn]
    dsimp only
    exact wpAny_bind (wpAny_setField hit rfl (by simp) (stop fun b o nb q => upd_keep nb q))
end
end Cmb
end
section
namespace Cmb
open PySem PySem.Spec L2
open PyProof.Rows hiding St
/-- the index lists in their order: n things, r at a time -/
structure Chain (n r : Nat) (cs : List (List Nat)) : Prop where
  none_ : r > n → cs = []
  first : ¬ r > n → cs[0]? = some (List.range r)
  step : ∀ (i : Nat) a b, cs[i]? = some a → cs[i + 1]? = some b → nextC n a = some b
  last : ∀ (i : Nat) a, cs[i]? = some a → cs[i + 1]? = none → nextC n a = none
  short : ∀ a ∈ cs, a.length ≤ 1000
/-- the tuples that come, one by one, each new -/
def ItCb (xs : List V) (cs : List (List Nat)) : It :=
  ⟨fun i _ => i < cs.length, fun i H v H' => ∃ T ix, cs[i]? = some ix ∧ v = .ref T ∧ H T = none ∧ H' = upd H T (.tup (ix.map fun j => xs.getD j .non)), fun i _ => cs.length ≤ i⟩
/-- where the record stands at turn i -/
def tnC (it P : Addr) (us : List Value) (r : Nat) (cs : List (List Nat)) (i : Nat) (h : Heap) : Prop :=
  h.get? P = some { cls := .type "tuple", data := .seq us.toArray } ∧ ∃ (res : Value) (ix : List Nat),
    (i = 0 ∧ IsC h it P (if r > us.length then 2 else 0) res ix ∧ ix = List.range r) ∨ (0 < i ∧ IsC h it P 1 res ix ∧ cs[i - 1]? = some ix)
theorem getD_rel {xs : List V} {us : List Value} (r : Vals xs us) (j : Nat) : RelV (xs.getD j .non) (us.toArray.getD j .none) := by
  have hl := r.length
  by_cases h : j < xs.length
  · obtain ⟨u, hu, ru⟩ := r.get (List.getElem?_eq_getElem h)
    have e1 : xs.getD j .non = xs[j] := by simp [List.getD, h]
    have e2 : us.toArray.getD j .none = u := by
      rw [Array.getD_eq_getD_getElem?]
      simp [hu]
    rw [e1, e2]; exact ru
  · have e1 : xs.getD j .non = .non := by simp [List.getD, List.getElem?_eq_none (Nat.not_lt.mp h)]
    have e2 : us.toArray.getD j .none = .none := by
      rw [Array.getD_eq_getD_getElem?]
      simp [List.getElem?_eq_none (show us.length ≤ j by omega)]
    rw [e1, e2]; exact rfl
theorem vals_map {xs : List V} {us : List Value} (r : Vals xs us) : ∀ ix : List Nat, Vals (ix.map fun j => xs.getD j .non) (ix.map fun j => us.toArray.getD j .none)
  | [] => .nil
  | j :: ix => .cons (getD_rel r j) (vals_map r ix)
section
variable {prog : Program} {w : World} {A : Around} {E : Value → Shared → Prop} {s : Shared} {it P : Addr} {st : Int} {res : Value} {ix ix' : List Nat} {us : List Value}
theorem turn_comb {K : PySem.W.Frag} {tg : Expr} {xs : List V} {r : Nat} {cs : List (List Nat)} (rv : Vals xs us) (ne : P ≠ it) (C : Chain us.length r cs) (hr : r ≤ 1000) : Turn prog w K tg (ItCb xs cs) [it, P] it (tnC it P us r cs) where
  mem := by simp
  obj := fun i h ⟨hP, res, ix, hc⟩ b hb => by
    have e : b = it ∨ b = P := by simpa using hb
    rcases e with rfl | rfl
    · rcases hc with ⟨_, hc, _⟩ | ⟨_, hc, _⟩
      · exact ⟨_, hc, fun v z => nomatch z⟩
      · exact ⟨_, hc, fun v z => nomatch z⟩
    · exact ⟨_, hP, fun v z => nomatch z⟩
  keep := fun i h h' ⟨hP, res, ix, hc⟩ k => ⟨k P (by simp) _ hP, res, ix, hc.imp (fun ⟨a, b, c⟩ => ⟨a, k it (by simp) _ b, c⟩) fun ⟨a, b, c⟩ => ⟨a, k it (by simp) _ b, c⟩⟩
  item := by
    intro X hP hw hK hc i pins s σ H E I hf st hg
    subst hP hw hK
    have hi : i < cs.length := hg
    obtain ⟨hPo, res, ix, hst⟩ := st
    have hx : cs[i]? = some cs[i] := List.getElem?_eq_getElem hi
    have out : ∀ {h' : Heap}, (∀ b o, b ≠ it → s.heap.get? b = some o → h'.get? b = some o) → IsC h' it P 1 (.ref s.heap.objs.size) cs[i] → h'.get? s.heap.objs.size = some { cls := .type "tuple", data := .seq (cs[i].map fun j => us.toArray.getD j .none).toArray } →
        ∃ u, some (Value.ref s.heap.objs.size) = some u ∧ wpAny (model X.prog X.w) X.A (letOwnedTupleGo tg (.ref it) u) (fun _ s2 => ∃ x H', Inv X pins σ H' s2 ∧ RelV x u ∧ (ItCb xs cs).yld i H x H' ∧ tnC it P us r cs (i + 1) s2.heap ∧ ∀ b ∈ [it, P], H' b = none) E { s with heap := h' } := fun {h'} k g1 t1 => by
      have lit : it < s.heap.objs.size := by rcases hst with ⟨_, q, _⟩ | ⟨_, q, _⟩ <;> exact Heap.lt_size q
      have lP : P < s.heap.objs.size := Heap.lt_size hPo
      have vm := vals_map rv cs[i]
      have new : ObjOk X.prog X.w (upd H s.heap.objs.size (.tup (cs[i].map fun j => xs.getD j .non))) h' s.heap.objs.size (.tup (cs[i].map fun j => xs.getD j .non)) :=
        ⟨by rw [List.length_map]; exact Nat.le_trans (C.short _ (List.getElem_mem hi)) (by decide), _, vm, ⟨_, t1, rfl, _, rfl⟩⟩
      have I1 : Inv X pins σ (upd H s.heap.objs.size (.tup (cs[i].map fun j => xs.getD j .non))) { s with heap := h' } :=
        I.turnedNew (t' := s.toks) (ch := [it, P]) (fun b o hb q => k b o (fun z => hb (by simp [z])) q) hf (Nat.le_refl _) new
      refine ⟨_, rfl, go_of (s := { s with heap := h' }) (n := cT) g1 rfl rfl (by decide) ⟨.ref s.heap.objs.size, _, I1, rfl, ⟨_, _, hx, rfl, I.hok.fresh (Nat.le_refl _), rfl⟩, ⟨k P _ ne hPo, _, cs[i], .inr ⟨Nat.succ_pos i, g1, hx⟩⟩, fun b hb => ?_⟩⟩
      have lt : b < s.heap.objs.size := by
        have e : b = it ∨ b = P := by simpa using hb
        rcases e with rfl | rfl
        · exact lit
        · exact lP
      rw [upd_ne (Nat.ne_of_lt lt)]
      exact (hf b hb).1
    have nr : ¬ r > us.length := fun z => by rw [C.none_ z] at hi; cases hi
    unfold pyNext
    rcases hst with ⟨rfl, q, rfl⟩ | ⟨i0, q, hq⟩
    · rw [if_neg nr] at q
      have e0 : cs[0] = List.range r := by
        have z := C.first nr
        rw [hx] at z
        exact Option.some.inj z
      refine wpAny_bind (wpAny_attempt (comb_start q hPo ne (by simpa using hr) fun h' k g1 t1 => wpAny_pure ?_))
      rw [← e0] at g1 t1
      exact out k g1 t1
    · obtain ⟨j, rfl⟩ : ∃ j, i = j + 1 := ⟨i - 1, by omega⟩
      have hn := C.step j ix cs[j + 1] hq hx
      exact wpAny_bind (wpAny_attempt (comb_step q hPo ne hn (C.short _ (List.getElem_mem hi)) fun h' k g1 t1 => wpAny_pure (out k g1 t1)))
  done := by
    intro X hP hw hK hc i pins s σ H E I hf st hg
    subst hP hw hK
    have hi : cs.length ≤ i := hg
    obtain ⟨hPo, res, ix, hst⟩ := st
    have fin : ∀ {st : Int}, IsC s.heap it P st res ix → (st = 2 ∨ (st = 1 ∧ nextC us.length ix = none)) → wpAny (model X.prog X.w) X.A (pyNext (.ref it)) (fun r s1 => r = none ∧ Inv X pins σ H s1) E s := fun {st} q hs => by
      unfold pyNext
      refine wpAny_bind (wpAny_attempt (comb_stop (I.ok.hd hc) q hPo hs fun e h' he k => ?_))
      obtain ⟨a, o, vs, rfl, ho, hcl, _⟩ := he
      refine wpAny_bind (wpAny_isInstance (T := "StopIteration") (b := true) ⟨o, ho, hcl⟩ isSubtype_stop ?_)
      exact wpAny_pure ⟨rfl, I.turnedL (t' := s.toks) (ch := [it, P]) (fun b o hb q => k b o (fun z => hb (by simp [z])) q) hf⟩
    rcases hst with ⟨rfl, q, rfl⟩ | ⟨i0, q, hq⟩
    · by_cases z : r > us.length
      · rw [if_pos z] at q
        exact fin q (.inl rfl)
      · have := C.first z
        rw [List.getElem?_eq_none hi] at this
        cases this
    · have hl := (List.getElem?_eq_some_iff.mp hq).1
      have e : i - 1 + 1 = i := by omega
      exact fin q (.inr ⟨rfl, C.last (i - 1) ix hq (by rw [e]; exact List.getElem?_eq_none hi)⟩)
  self := fun A i s Q E st h => by
    obtain ⟨_, res, ix, ⟨_, q, _⟩ | ⟨_, q, _⟩⟩ := st
    · exact iter_comb q h
    · exact iter_comb q h
end
/-- combinations(xs, r), xs a list -/
def iComb (K : PySem.W.Frag) (ta : TA) : TI := fun σ H R => ta σ H fun vs H1 => ∃ (a : Addr) (xs : List V) (r : Nat) (cs : List (List Nat)), vs = [.ref a, .int (r : Int)] ∧ SqL K H1 a xs ∧ xs.length ≤ 1000 ∧ r ≤ 1000 ∧ Chain xs.length r cs ∧ R (ItCb xs cs) H1
theorem pi_comb {X : Cx} {tg e e2 : Expr} {ta : TA} {x : Str} {p pos : Pos} (hg : Gl X x) (hm : X.mg x = some (.type cT)) (ha : PA X [e, e2] ta) (hdb : (x == ("__debug__" : Str)) = false := by decide)
    (hs : starEach [e, e2] X.env = (false, eval e X.env) :: starEach [e2] X.env := by rfl) (hpl : (backTo pos (starEach [e2] X.env)).any (·.1) = false := by rfl) : PI X tg (.Call (.Name x p) [e, e2] [] pos) (iComb X.K ta) := by
  refine ⟨fun pins s σ H R I h => ?_⟩
  refine Call_ (ld_glob I hg hm (PyProof.Rows.callWith_type1 (thn (ha.run pos pins s σ H _ I h) fun us s1 ⟨vs, H1, I1, r1, q1⟩ => ?_) hs hpl) hdb)
  obtain ⟨a, xs, r, cs, ex, hq, hx, hr, C, q⟩ := q1
  subst ex
  obtain ⟨u1, t1, rfl⟩ : ∃ u1 t1, us = u1 :: t1 := by cases r1; exact ⟨_, _, rfl⟩
  cases r1 with
  | cons g1 g2 =>
    cases g2 with
    | cons g3 g4 =>
      cases g4
      cases g1
      obtain ⟨t, rfl⟩ := g3
      obtain ⟨its, rv, p1, _⟩ := I1.list hq
      have hl := rv.length
      refine call_comb (vs := its) hr (by omega) p1.isList fun it P h' hk l1 l2 ne hi hP => iter_comb hi ?_
      have I2 : Inv X pins σ H1 { s1 with heap := h' } := I1.kept (t' := s1.toks) hk
      refine ⟨it, [it, P], tnC it P its r cs, ItCb xs cs, H1, rfl, I2, turn_comb rv ne (hl ▸ C) hr, ⟨hP, _, _, .inl ⟨rfl, hi, rfl⟩⟩, fun b hb => ?_, q⟩
      have hle : s1.heap.objs.size ≤ b := by
        have z : b = it ∨ b = P := by simpa using hb
        rcases z with rfl | rfl
        · exact l1
        · exact l2
      exact I1.fpOk hle (I1.hok.fresh hle)
end Cmb
end
section
namespace RR
open PySem PySem.Spec L2
open PyProof.Rows hiding St
def chainGo (n : Nat) : Nat → List Nat → Option (List (List Nat))
  | 0, _ => none
  | f + 1, ix => match Cmb.nextC n ix with
    | none => some [ix]
    | some ix' => (chainGo n f ix').map fun r => ix :: r
/-- the index lists, as the model steps from one to the next -/
def combL (n r : Nat) : Option (List (List Nat)) := if r > n then some [] else chainGo n 100000 (List.range r)
theorem nextC_len {n : Nat} {ix ix' : List Nat} (h : Cmb.nextC n ix = some ix') : ix'.length = ix.length := by
  unfold Cmb.nextC at h
  split at h
  · cases h
  · rename_i i hi
    cases h
    have := List.mem_of_find?_eq_some hi
    simp only [List.mem_reverse, List.mem_range] at this
    simp
    omega
theorem chainGo_ok {n : Nat} : ∀ (f : Nat) (ix : List Nat) (cs : List (List Nat)), chainGo n f ix = some cs → cs[0]? = some ix ∧ (∀ (i : Nat) a b, cs[i]? = some a → cs[i + 1]? = some b → Cmb.nextC n a = some b) ∧ (∀ (i : Nat) a, cs[i]? = some a → cs[i + 1]? = none → Cmb.nextC n a = none) ∧ ∀ a ∈ cs, a.length = ix.length
  | 0, ix, cs, h => by cases h
  | f + 1, ix, cs, h => by
    unfold chainGo at h
    split at h
    · rename_i hn
      cases h
      refine ⟨rfl, fun i a b h1 h2 => ?_, fun i a h1 h2 => ?_, fun a ha => by rw [List.mem_singleton.mp ha]⟩
      · cases h2
      · cases i with
        | zero => cases h1; exact hn
        | succ i => cases h1
    · rename_i ix' hn
      obtain ⟨r, hr, rfl⟩ := Option.map_eq_some_iff.mp h
      obtain ⟨h0, h1, h2, h3⟩ := chainGo_ok f ix' r hr
      refine ⟨rfl, fun i a b e1 e2 => ?_, fun i a e1 e2 => ?_, fun a ha => ?_⟩
      · cases i with
        | zero =>
          cases e1
          rw [List.getElem?_cons_succ, h0] at e2
          cases e2
          exact hn
        | succ i => exact h1 i a b e1 e2
      · cases i with
        | zero => rw [List.getElem?_cons_succ, h0] at e2; cases e2
        | succ i => exact h2 i a e1 e2
      · rcases List.mem_cons.mp ha with rfl | ha
        · rfl
        · rw [h3 a ha, nextC_len hn]
theorem chain_of {n r : Nat} {cs : List (List Nat)} (h : combL n r = some cs) (hr : r ≤ 1000) : Cmb.Chain n r cs := by
  unfold combL at h
  by_cases hn : r > n
  · rw [if_pos hn] at h
    cases h
    exact ⟨fun _ => rfl, fun z => absurd hn z, fun i a b e => by simp at e, fun i a e => by simp at e, fun a ha => by cases ha⟩
  · rw [if_neg hn] at h
    obtain ⟨h0, h1, h2, h3⟩ := chainGo_ok _ _ _ h
    exact ⟨fun z => absurd z hn, fun _ => h0, h1, h2, fun a ha => by rw [h3 a ha, List.length_range]; exact hr⟩
def pickD (xs : List D) (ix : List Nat) : D := .tuple (ix.map fun j => xs.getD j .none)
@[reducible] def mICb (ma : MA) : MI := fun Γ n Q => ma Γ n fun ds n1 => ∃ (xs : List D) (r : Nat) (cs : List (List Nat)), ds = [.list xs, .int (r : Int)] ∧ xs.length ≤ 1000 ∧ r ≤ 1000 ∧ combL xs.length r = some cs ∧ Q (cs.map (pickD xs)) n1
section
variable {K : PySem.W.Frag} {F : Hp} {xs : List V} {ds : List D} {cs : List (List Nat)}
theorem rps_pick (r : Rps K F ds xs) : ∀ ix : List Nat, Rps K F (ix.map fun j => ds.getD j .none) (ix.map fun j => xs.getD j .non)
  | [] => .nil
  | j :: ix => .cons (by
      by_cases h : j < ds.length
      · have h' : j < xs.length := by rw [r.len]; exact h
        have e1 : ds.getD j .none = ds[j] := by simp [List.getD, h]
        have e2 : xs.getD j .non = xs[j] := by simp [List.getD, h']
        dsimp only
        rw [e1, e2]
        exact r.at_ j _ _ (List.getElem?_eq_getElem h') (List.getElem?_eq_getElem h)
      · have e1 : ds.getD j .none = .none := by simp [List.getD, List.getElem?_eq_none (Nat.not_lt.mp h)]
        have e2 : xs.getD j .non = .non := by simp [List.getD, List.getElem?_eq_none (show xs.length ≤ j by rw [r.len]; exact Nat.not_lt.mp h)]
        dsimp only
        rw [e1, e2]
        exact .non) (rps_pick r ix)
theorem feeds_comb (r : Rps K F ds xs) : Feeds K (Cmb.ItCb xs cs) (cs.map (pickD ds)) F where
  stop := fun F' H' _ _ => by show cs.length ≤ _; rw [List.length_map]; exact Nat.le_refl _
  go := fun i d F' H' hd e e' => by
    rw [List.getElem?_map] at hd
    cases q : cs[i]? with
    | none => rw [q] at hd; cases hd
    | some ix =>
      rw [q] at hd
      cases hd
      refine ⟨(List.getElem?_eq_some_iff.mp q).1, fun x H2 ⟨T, ix', h1, h2, h3, h4⟩ => ?_⟩
      rw [q] at h1
      cases h1
      subst h2 h4
      exact ⟨_, .new1 e' h3 _, .of_tup (.inl (.inl upd_same)) (rps_pick ((r.mono e).mono (same_up (e'.free h3))) ix)⟩
end
section
variable {X : Cx} {p : Pm} {O : List Nat} {tg e e2 : Expr} {ta : TA} {ma : MA} {pos q : Pos} {x : Str}
theorem iCb (hK : p.K = X.K) (hg : Gl X x) (hm : X.mg x = some (.type "itertools.combinations")) (ha : RA X p O [e, e2] ta ma) (hdb : (x == ("__debug__" : Str)) = false := by decide)
    (hs : starEach [e, e2] X.env = (false, eval e X.env) :: starEach [e2] X.env := by rfl) (hpl : (backTo pos (starEach [e2] X.env)).any (·.1) = false := by rfl) : RI X p O tg (.Call (.Name x q) [e, e2] [] pos) (Cmb.iComb p.K ta) (mICb ma) :=
  ⟨hK ▸ Cmb.pi_comb hg hm ha.pa hdb hs hpl, fun F0 H0 F H σ Γ n R s q R' k =>
    ha.le F0 H0 F H σ Γ n _ s q _ fun ds vs F1 H1 n1 s1 e1 r1 ⟨xs, r, cs, ed, hx, hr, hc, q1⟩ => by
      subst ed
      obtain ⟨v, w, rfl, r2, r3⟩ := r1.uncons
      obtain ⟨v', w', rfl, r4, r5⟩ := r3.uncons
      cases r5.unnil
      obtain ⟨a, zs, rfl, h1, r6⟩ := r2.lst_inv
      cases r4.int_inv
      have hl := r6.len
      exact ⟨a, zs, r, cs, rfl, .of (s1.fh _ _ h1), by rw [hl]; exact hx, hr, by rw [hl]; exact chain_of hc hr, k _ _ F1 H1 n1 s1 e1 (feeds_comb r6) q1⟩⟩
end
def asN : D → Option Nat
  | .int i => if 0 ≤ i then some i.toNat else none
  | _ => none
def vICb (a : VA) : VI := fun Γ => (a Γ).bind fun ds => match ds with
  | [.list xs, d] => (asN d).bind fun r => if xs.length ≤ 1000 ∧ r ≤ 1000 then (combL xs.length r).map fun cs => cs.map (pickD xs) else none
  | _ => none
theorem asN_eq {d : D} {r : Nat} (h : asN d = some r) : d = .int (r : Int) := by
  unfold asN at h
  split at h
  · split at h
    · cases h; congr 1; omega
    · cases h
  · cases h
theorem f_ICb {mA : MA} {vA : VA} (h : FA mA vA) : FI' (mICb mA) (vICb vA) := fun Γ n d Q e q => by
  obtain ⟨ds, h1, e⟩ := bnd e
  split at e
  · obtain ⟨r, h2, e⟩ := bnd e
    split at e
    · rename_i hh
      obtain ⟨cs, hc, rfl⟩ := Option.map_eq_some_iff.mp e
      rw [asN_eq h2] at h1
      exact h Γ n _ _ h1 ⟨_, r, cs, rfl, hh.1, hh.2, hc, q⟩
    · cases e
  · cases e
end RR
end
section
namespace RR
open PySem PySem.Spec L2
open PyProof.Rows hiding St
def dAddL : D → D → Option D
  | .list xs, .list ys => if xs.length + ys.length ≤ lim then some (.list (xs ++ ys)) else none
  | _, _ => none
theorem dAddL_eq {x y d : D} (h : dAddL x y = some d) : ∃ xs ys, x = .list xs ∧ y = .list ys ∧ xs.length + ys.length ≤ lim ∧ d = .list (xs ++ ys) := by
  unfold dAddL at h
  split at h
  · obtain ⟨hl, rfl⟩ := ifs' h
    exact ⟨_, _, rfl, rfl, hl, rfl⟩
  · cases h
theorem lf_cat {p : Pm} {O : List Nat} {ta tb : TE} {ma mb : ME} (ha : LE p O ta ma) (hb : LE p O tb mb) : LF p O (tOp rCat ta tb) (mOp dAddL ma mb) := fun F0 H0 F H σ Γ n Q s q Q' k => by
  refine ha F0 H0 F H σ Γ n _ s q _ fun dx x F1 H1 n1 s1 g1 r1 q1 => ?_
  refine hb F0 H0 F1 H1 σ Γ n1 _ s1 q1 _ fun dy y F2 H2 n2 s2 g2 r2 ⟨d, fe, q2⟩ => ?_
  obtain ⟨xs, ys, rfl, rfl, hl, rfl⟩ := dAddL_eq fe
  obtain ⟨a, us, rfl, h1, ra⟩ := (r1.mono g2.f).lst_inv
  obtain ⟨b, vs, rfl, h2, rb⟩ := r2.lst_inv
  refine ⟨a, b, us, vs, rfl, rfl, s2.fh _ _ h1, s2.fh _ _ h2, by rw [ra.len, rb.len]; exact lim_line hl, fun z hz => ?_⟩
  have hz0 : H z = none := by
    cases w : H z with
    | none => rfl
    | some o =>
      have := (g1.trans g2).h z o w fun hp => by
        cases w2 : H2 z with
        | none =>
          obtain ⟨b', i, e, hb'⟩ := hp
          rcases hb' with rfl | ⟨y, hy, rfl⟩
          · obtain ⟨o, q⟩ := (s2.pen _ i e).2.2.1.at
            rw [hz] at q; cases q
          · obtain ⟨_, ps, q, _⟩ := (s2.pen b' i e).2.2.2 y hy
            rw [hz] at q; cases q
        | some o2 => rw [hz] at w2; cases w2
      rw [hz] at this
      cases this
  have gr := Gr.new0 s2.fh hz (.lst (us ++ vs))
  exact k _ _ F2 _ n2 (s2.gr gr) ((g1.trans g2).trans gr.gp) (.lst upd_same (ra.append rb)) (s2.fh.free hz) hz0 q2
theorem f_cat {X : Cx} {p : Pm} {O : List Nat} {e f : Expr} {pos : Pos} {ta tb : TE} {ma mb : ME} (ha : RE X p O e ta ma) (hb : RE X p O f tb mb) : RF X p O (.BinOp e .Add f pos) (tOp rCat ta tb) (mOp dAddL ma mb) := ⟨pe_op op_cat ha.pe hb.pe, lf_cat ha.le hb.le⟩
end RR
end
section
namespace RR
open PySem PySem.Spec L2
open PyProof.Rows hiding St
def dMulT : D → D → Option D
  | .tuple xs, .int k => if xs.isEmpty = false ∧ 2 ≤ k ∧ k ≤ 1000 ∧ xs.length ≤ 1000 then some (.tuple (List.replicate k.toNat xs).flatten) else none
  | _, _ => none
theorem rps_flat {K : PySem.W.Frag} {F : Hp} {xs : List V} {ds : List D} (r : Rps K F ds xs) : ∀ n : Nat, Rps K F (List.replicate n ds).flatten (List.replicate n xs).flatten
  | 0 => .nil
  | n + 1 => by
    rw [List.replicate_succ, List.replicate_succ, List.flatten_cons, List.flatten_cons]
    exact r.append (rps_flat r n)
theorem l_mulT {K : PySem.W.Frag} : OpL K (rRepT K) dMulT := fun F H x y dx dy d s rx ry fe Q' k => by
  unfold dMulT at fe
  split at fe
  · obtain ⟨⟨c1, c2, c3, c4⟩, rfl⟩ := ifs' fe
    obtain ⟨a, us, rfl, h1, ra⟩ := rx.tup_inv
    cases ry.int_inv
    refine ⟨a, _, us, rfl, rfl, Same.sqt s h1, fun z => ?_, c2, c3, by rw [ra.len]; exact c4, fun p hp => ?_⟩
    · have := ra.len
      rw [z] at this
      rename_i xs _
      cases xs with
      | nil => cases c1
      | cons => cases this
    · exact k _ _ _ (.new1 s hp _) (.of_tup (.inl (.inl upd_same)) ((rps_flat ra _).mono (same_up (s.free hp))))
  · cases fe
theorem oMulT {X : Cx} {K : PySem.W.Frag} (hK : K = X.K) : OpR X (binaryOp .Mult) (rRepT K) := hK ▸ op_repT
end RR
end
section
namespace RC
open PySem PySem.Spec L2 RR
open PyProof.Rows hiding St
end RC
end
section
namespace RR
open PySem PySem.Spec L2
open PyProof.Rows hiding St
section
variable {P : Program} {w : World} {A : Around} {Z : Result → Shared → Prop} {u : Shared} {el a0 b0 a1 b1 : Expr} {c0 c1 : List Expr} {sc : Scope} {ps : Pos} {jt ac : Value} {en : Env}
abbrev NF (P : Program) (w : World) (A : Around) {α : Type} (t : Sem α) (Q : α → Shared → Prop) (u : Shared) : Prop := wpAny (model P w) A t Q (fun _ _ => False) u
abbrev setE (el a0 b0 a1 b1 : Expr) (c0 c1 : List Expr) (sc : Scope) (ps : Pos) : Expr := .SetComp el [⟨a0, b0, c0, 0⟩, ⟨a1, b1, c1, 0⟩] sc ps
abbrev goodOf (cs : List Expr) (en : Env) : Sem Bool := forIn cs true fun c g => if g = true then (isTrue c en (eval c en) >>= fun k => pure (ForInStep.yield k)) else pure (ForInStep.yield g)
theorem set_turn0 : compTurn (setE el a0 b0 a1 b1 c0 c1 sc ps) 0 jt ac en = (do
      standAt b0.pos
      match ← pyNext jt with
      | none => pure (.done .next)
      | some x =>
        letOwnedTupleGo a0 jt x
        assign a0 en x
        let mut good := true
        for c in c0 do
          if good then good ← isTrue c en (eval c en)
        if good then
          let l ← eval b1 en
          standAt b1.pos
          let l ← foldedSetIterable b1 en l
          let _ ← runOwn (.compStart (setE el a0 b0 a1 b1 c0 c1 sc ps) 1 (← holding [l] (pyIter l)) ac en) en
        again (.compLoop (setE el a0 b0 a1 b1 c0 c1 sc ps) 0 jt ac en)) := by rfl
theorem set_turn1 : compTurn (setE el a0 b0 a1 b1 c0 c1 sc ps) 1 jt ac en = (do
      standAt b1.pos
      match ← pyNext jt with
      | none => pure (.done .next)
      | some x =>
        letOwnedTupleGo a1 jt x
        assign a1 en x
        let mut good := true
        for c in c1 do
          if good then good ← isTrue c en (eval c en)
        if good then
          (do let y ← eval el en; standAt el.pos; let _ ← call (.builtin "set.add") [ac, y])
        again (.compLoop (setE el a0 b0 a1 b1 c0 c1 sc ps) 1 jt ac en)) := by rfl
/-- the outer clause's loop -/
theorem set_loop0 (hf : ∀ l, foldedSetIterable b1 en l = pure l) (I : Nat → Shared → Prop)
    (turn : ∀ n u, I n u → NF P w A (pyNext jt) (fun o u1 => match o with
      | none => Z (.ok .next) u1
      | some x => NF P w A (letOwnedTupleGo a0 jt x) (fun _ u2 => NF P w A (assign a0 en x) (fun _ u3 => NF P w A (goodOf c0 en) (fun g u4 =>
          if g = true then NF P w A (eval b1 en) (fun l u5 => NF P w A (pyIter l) (fun j1 u6 => codeAny (model P w) A (.compStart (setE el a0 b0 a1 b1 c0 c1 sc ps) 1 j1 ac en) (fun o u7 => (∃ f, o = .ok f) ∧ ∃ m, m < n ∧ I m u7) u6) u5) u4
          else ∃ m, m < n ∧ I m u4) u3) u2) u1) u)
    (n : Nat) (h : I n u) : codeAny (model P w) A (.compLoop (setE el a0 b0 a1 b1 c0 c1 sc ps) 0 jt ac en) Z u := by
  refine codeAny_loop rfl I (fun n u hI => ?_) n h
  show wpAny _ A ((compTurn (setE el a0 b0 a1 b1 c0 c1 sc ps) 0 jt ac en).onRaise (fun x => do noteFrame x en; theTreesLotGoes x)) _ _ u
  refine wpAny_noted ?_
  rw [set_turn0]
  refine wpAny_bind (wpAny_standAt (wpAny_bind (thnF (turn n u hI) fun o u1 h1 => ?_)))
  cases o with
  | none => exact wpAny_pure h1
  | some x =>
    refine wpAny_bind (thnF h1 fun _ u2 h2 => wpAny_bind (thnF h2 fun _ u3 h3 => wpAny_bind (thnF h3 fun g u4 h4 => ?_)))
    cases g with
    | false => exact wpAny_pure ⟨rfl, h4⟩
    | true =>
      refine wpAny_bind (thnF h4 fun l u5 h5 => wpAny_bind (wpAny_standAt (wpAny_bind (wpAny_of_eq (hf l) (wpAny_bind (wpAny_holding (thnF h5 fun j1 u6 h6 => ?_)))))))
      refine wpAny_bind (wpAny_runOwn ?_)
      rw [Around.mark_none]
      refine codeAny_mono h6 fun o u7 ⟨⟨f, ho⟩, hm⟩ => ?_
      subst ho
      first
        | exact wpAny_pure ⟨rfl, hm⟩
        | exact wpAny_bind (wpAny_pure (wpAny_pure ⟨rfl, hm⟩))
/-- the inner clause's loop -/
theorem set_loop1 (I : Nat → Shared → Prop)
    (turn : ∀ n u, I n u → NF P w A (pyNext jt) (fun o u1 => match o with
      | none => Z (.ok .next) u1
      | some x => NF P w A (letOwnedTupleGo a1 jt x) (fun _ u2 => NF P w A (assign a1 en x) (fun _ u3 => NF P w A (goodOf c1 en) (fun g u4 =>
          if g = true then NF P w A (eval el en) (fun y u5 => NF P w A (call (.builtin "set.add") [ac, y]) (fun _ u6 => ∃ m, m < n ∧ I m u6) u5) u4
          else ∃ m, m < n ∧ I m u4) u3) u2) u1) u)
    (n : Nat) (h : I n u) : codeAny (model P w) A (.compLoop (setE el a0 b0 a1 b1 c0 c1 sc ps) 1 jt ac en) Z u := by
  refine codeAny_loop rfl I (fun n u hI => ?_) n h
  show wpAny _ A ((compTurn (setE el a0 b0 a1 b1 c0 c1 sc ps) 1 jt ac en).onRaise (fun x => do noteFrame x en; theTreesLotGoes x)) _ _ u
  refine wpAny_noted ?_
  rw [set_turn1]
  refine wpAny_bind (wpAny_standAt (wpAny_bind (thnF (turn n u hI) fun o u1 h1 => ?_)))
  cases o with
  | none => exact wpAny_pure h1
  | some x =>
    refine wpAny_bind (thnF h1 fun _ u2 h2 => wpAny_bind (thnF h2 fun _ u3 h3 => wpAny_bind (thnF h3 fun g u4 h4 => ?_)))
    cases g with
    | false => exact wpAny_pure ⟨rfl, h4⟩
    | true =>
      exact wpAny_bind (wpAny_bind (thnF h4 fun y u5 h5 => wpAny_bind (wpAny_standAt (wpAny_bind (thnF h5 fun _ u6 h6 => wpAny_pure (wpAny_pure ⟨rfl, h6⟩))))))
theorem set_start1 (h0 : codeAny (model P w) A (.compLoop (setE el a0 b0 a1 b1 c0 c1 sc ps) 1 jt ac en) Z u)
    (h : NF P w A (pyIter jt) (fun j u1 => codeAny (model P w) A (.compLoop (setE el a0 b0 a1 b1 c0 c1 sc ps) 1 j ac en) Z u1) u) :
    codeAny (model P w) A (.compStart (setE el a0 b0 a1 b1 c0 c1 sc ps) 1 jt ac en) Z u := by
  refine codeAny_of_tree ?_
  show wpAny _ _ ((compStart (setE el a0 b0 a1 b1 c0 c1 sc ps) 1 jt ac en).onRaise (fun x => do noteFrame x en; standAt theWindowsPlace)) _ _ u
  refine wpAny_notedAt ?_
  unfold compStart
  show wpAny _ _ (ask >>= _) _ _ u
  refine wpAny_bind (wpAny_askSetting (wpAny_ite ?_))
  split
  · first
      | exact wpAny_bind (wpAny_pure (wpAny_pure (And.intro rfl h0)))
      | exact wpAny_pure (And.intro rfl h0)
  · first
      | exact wpAny_bind (wpAny_rule (wpAny_bind (wpAny_standAt (wpAny_bind (thnF h fun j u1 h1 => wpAny_pure (And.intro rfl h1))))))
      | (refine wpAny_bind (wpAny_rule ?_); show wpAny _ _ (standAt b1.pos >>= _) _ _ u; exact wpAny_bind (wpAny_standAt (wpAny_bind (thnF h fun j u1 h1 => wpAny_pure (And.intro rfl h1)))))
end
end RR
end
section
namespace RR
open PySem PySem.Spec L2
open PyProof.Rows hiding St
def tSc2 (zo : Addr → HO) (r : V → List V → Hp → VK → Prop) (wi : TI) (g : TG) (tt : TT) (wj : TI) (gj : TG) (tj : TT) (te : TE) (vs vj : List Nat) : TE := fun σ H Q => wi σ H fun J H1 => ∀ D, H1 D = none → ∃ W : Nat → Nat → Hp → Prop, (∃ m, W 0 m (upd H1 D (zo D))) ∧ ∀ i m H, W i m H →
  (J.stop i H ∧ Q (.ref D) H) ∨ (J.go i H ∧ ∃ Nx : Hp → Prop, (∀ H', Nx H' → ∃ m', m' < m ∧ W (i + 1) m' H') ∧ ∀ x H', J.yld i H x H' → g x (wipe σ vs) H' fun σ2 H2 => wipe σ2 vs = wipe σ vs ∧ tt σ2 H2 fun b H3 =>
    if b = true then wj σ2 H3 fun J1 H4 => ∃ W1 : Nat → Nat → Hp → Prop, (∃ m, W1 0 m H4) ∧ ∀ j k H, W1 j k H →
      (J1.stop j H ∧ Nx H) ∨ (J1.go j H ∧ ∃ Nx1 : Hp → Prop, (∀ H', Nx1 H' → ∃ k', k' < k ∧ W1 (j + 1) k' H') ∧ ∀ x H', J1.yld j H x H' → gj x (wipe σ2 vj) H' fun σ3 H5 => wipe σ3 vj = wipe σ2 vj ∧ tj σ3 H5 fun b H6 =>
        if b = true then te σ3 H6 fun y H7 => r (.ref D) [y] H7 fun _ H8 => Nx1 H8 else Nx1 H6)
    else Nx H3)
section
variable {X : Cx}
theorem pe_sc2 {el a0 b0 a1 b1 : Expr} {c0 c1 : List Expr} {sc : Scope} {own : List (Str × Nat)} {vj : List Nat} {ps : Pos} {zo : Addr → HO} {r : V → List V → Hp → VK → Prop} {wi wj : TI} {g gj : TG} {tt tj : TT} {te : TE}
    (hZ : ∀ {pins : List (Addr × Obj)} {σ : St} {H : Hp} {s : Shared}, Inv X pins σ H s → Inv X pins σ (upd H s.heap.objs.size (zo s.heap.objs.size)) { s with heap := s.heap.push { cls := .type "set", dict := none, data := .set #[] 0 (.fresh 0 0 (!(X.w.params.followText "set-order"))) } })
    (hr : ∀ (s : Shared) (H : Hp) (en : Env) (fp : List Addr), MtR (X.blk s H sc en fp) "set.add" r)
    (hc : X.calm = true) (hN : X.N.Nodup) (hi : PI X a0 b0 wi) (ok : BlkOk X.N X.env.scope sc own) (hv : ∀ i ∈ vj, i ∈ own.map (·.2))
    (hg : ∀ (s : Shared) (H : Hp) (C : Addr) (cl : List (Str × Addr)) (fp : List Addr), PG (X.blk s H sc (compEnvC sc cl C X.env) fp) a0 g) (ht : ∀ (s : Shared) (H : Hp) (C : Addr) (cl : List (Str × Addr)) (fp : List Addr), PTs (X.blk s H sc (compEnvC sc cl C X.env) fp) c0 tt)
    (hj : ∀ (s : Shared) (H : Hp) (C : Addr) (cl : List (Str × Addr)) (fp : List Addr), PI (X.blk s H sc (compEnvC sc cl C X.env) fp) a1 b1 wj)
    (hgj : ∀ (s : Shared) (H : Hp) (C : Addr) (cl : List (Str × Addr)) (fp : List Addr), PG (X.blk s H sc (compEnvC sc cl C X.env) fp) a1 gj)
    (htj : ∀ (s : Shared) (H : Hp) (C : Addr) (cl : List (Str × Addr)) (fp : List Addr), PTs (X.blk s H sc (compEnvC sc cl C X.env) fp) c1 tj)
    (he : ∀ (s : Shared) (H : Hp) (C : Addr) (cl : List (Str × Addr)) (fp : List Addr), PE (X.blk s H sc (compEnvC sc cl C X.env) fp) el te) (hs : ∀ x, foldedSetIterable b0 X.env x = pure x := by intro _; rfl) (hs1 : ∀ (en : Env) x, foldedSetIterable b1 en x = pure x := by intro _ _; rfl) :
    PE X (setE el a0 b0 a1 b1 c0 c1 sc ps) (tSc2 zo r wi g tt wj gj tj te (own.map (·.2)) vj) := by
  refine ⟨fun pins s0 σ H Q I h => ?_⟩
  rw [arm_eval_SetComp]
  have cells : ∀ y ∈ sc.names, y.2 = .free → ∃ c, X.env.cells.lookup y.1 = some c := fun y hy e => (ok.free y hy e).elim (fun k => I.ok.has _ (.inl k)) fun k => I.ok.has _ (.inr k)
  refine wpAny_comprehension_free (use := none) rfl hs (closure_ok cells) ok.kind (fun y hy e => by rw [ok.uniq y hy, e]) (thn (hi.run pins s0 σ H _ I h) fun xv s1 hx => thn hx fun jv s2 ⟨jt, fp, tn, J, H2, ej, I2, T, st2, f2, q⟩ => ?_)
  subst ej
  refine wpAny_newSet_raw fun led eled => newEnv_comp ?_
  subst eled
  have I3 := hZ I2
  have dn : H2 s2.heap.objs.size = none := I2.hok.fresh (Nat.le_refl _)
  obtain ⟨W, ⟨m0, w0⟩, turn⟩ := q _ dn
  have lt2 : ∀ b ∈ fp, b < s2.heap.objs.size := fun b hb => let ⟨o, e, _⟩ := T.obj _ _ st2 b hb; Heap.lt_size e
  generalize eD : s2.heap.objs.size = D at I3 dn w0 turn lt2 ⊢
  generalize hs3 : ({ s2 with heap := s2.heap.push { cls := .type "set", dict := none, data := .set #[] 0 (.fresh 0 0 (!(X.w.params.followText "set-order"))) } } : Shared) = s3 at I3
  have e3 : s3.heap = s2.heap.push { cls := .type "set", dict := none, data := .set #[] 0 (.fresh 0 0 (!(X.w.params.followText "set-order"))) } := by rw [← hs3]
  have z3 : s3.heap.objs.size = D + 1 := by rw [e3, Heap.size_push, eD]
  have f3 : ∀ b ∈ fp, FpOk X pins (upd H2 D (zo D)) b ∧ b < s3.heap.objs.size := fun b hb => ⟨⟨by rw [upd_ne (Nat.ne_of_lt (lt2 b hb))]; exact (f2 b hb).1, (f2 b hb).2⟩, by rw [z3]; exact Nat.lt_succ_of_lt (lt2 b hb)⟩
  have st3 : tn 0 s3.heap := T.keep _ _ _ st2 fun b _ o e => by rw [e3]; exact Heap.get?_push_of_some _ e
  have I4 := block_start I3 ok hN f3
  generalize eC : s3.heap.objs.size = C at I4 f3
  generalize ecl : cellsFrom (C + 1) sc.names (cloFrom X.env.cells sc.names []) = cl at I4
  show codeAny _ _ (.compStart (setE el a0 b0 a1 b1 c0 c1 sc ps) 0 (.ref jt) (.ref D) (compEnvC sc cl C X.env)) (compPost (model X.prog X.w) X.A X.xe none (EP X pins σ Q) (.ref D) C) { s3 with heap := pushCells (s3.heap.push { cls := .type "dict", data := .dict #[] }) sc.names }
  generalize hs4 : ({ s3 with heap := pushCells (s3.heap.push { cls := .type "dict", data := .dict #[] }) sc.names } : Shared) = s4 at I4 ⊢
  have st4 : tn 0 s4.heap := T.keep _ _ _ st3 fun b _ o e => by rw [← hs4]; exact pushCells_keeps _ _ _ _ (Heap.get?_push_of_some _ e)
  generalize hH3 : upd H2 D (zo D) = H3 at I3 I4 w0 f3
  have pg := hg s3 H3 C cl fp
  have pt := ht s3 H3 C cl fp
  have pj := hj s3 H3 C cl fp
  have pgj := hgj s3 H3 C cl fp
  have ptj := htj s3 H3 C cl fp
  have pe := he s3 H3 C cl fp
  have ma := hr s3 H3 (compEnvC sc cl C X.env) fp
  have nfp : ∀ b ∈ fp, H3 b = none := fun b hb => (f3 b hb).1.1
  generalize hce : compEnvC sc cl C X.env = ce at I4 pg pt pj pgj ptj pe ma ⊢
  have cL : ce.locals = C := by rw [← hce]; rfl
  -- what an iterator's own objects are for the block
  have own0 : ∀ {σ' : St} {H' : Hp} {s' : Shared}, Inv (X.blk s3 H3 sc ce fp) [] σ' H' s' → (∀ b ∈ fp, H' b = none) → ∀ b ∈ fp, FpOk (X.blk s3 H3 sc ce fp) [] H' b := fun I' hn b hb =>
    ⟨hn b hb, (I'.ok.exf b hb).1, I'.ok.exfs b hb, .inl hb, fun x c e => (I'.ok.exf b hb).2 x c e, fun p hp => absurd (show p ∈ ([] : List (Addr × Obj)) ++ [] from hp) (by simp)⟩
  have loop : codeAny (model X.prog X.w) X.A (.compLoop (setE el a0 b0 a1 b1 c0 c1 sc ps) 0 (.ref jt) (.ref D) ce) (compPost (model X.prog X.w) X.A X.xe none (EP X pins σ Q) (.ref D) C) s4 := by
    refine set_loop0 (hs1 ce) (fun n u => ∃ i H', Inv (X.blk s3 H3 sc ce fp) [] (wipe σ (own.map (·.2))) H' u ∧ tn i u.heap ∧ (∀ b ∈ fp, H' b = none) ∧ W i n H') ?_ m0 ⟨0, H3, I4, st4, nfp, w0⟩
    rintro n s5 ⟨i, H5, I5, st5, n5, w5⟩
    rcases turn i n H5 w5 with ⟨stop, qq⟩ | ⟨go, Nx, hNx, step⟩
    · refine thn (T.done (X.blk s3 H3 sc ce fp) rfl rfl rfl hc i [] s5 _ H5 (fun _ _ => False) I5 (own0 I5 n5) st5 stop) fun o s6 ⟨ho, I6⟩ => ?_
      subst ho
      have I7 : Inv X pins σ H5 s6 := I3.call' (ch := fp) I6.os I6.base I6.hok I6.bare fun b hb => ⟨(f3 b hb).1.2.2.2.1, (f3 b hb).1.2.1, (f3 b hb).1.2.2.2.2.1, (f3 b hb).1.2.2.2.2.2⟩
      have nC : H5 C = none := by rw [← cL]; exact I6.free
      obtain ⟨m, hn, _⟩ := I6.loc
      refine ⟨m, cL ▸ hn, fun h' sb => ?_⟩
      obtain ⟨g0, g1, g2, g3, g4, g5⟩ := I3.fpOk (Nat.le_of_eq eC) nC
      exact ⟨.ref D, H5, I7.turned (t' := s6.toks) (fun b o hb e => (sb.2 b hb).trans e) g0 g1 g3 g4 g5, rfl, qq⟩
    · refine thn (T.item (X.blk s3 H3 sc ce fp) rfl rfl rfl hc i [] s5 _ H5 (fun _ _ => False) I5 (own0 I5 n5) st5 go) fun o s6 ⟨x, ho, h6⟩ => ?_
      subst ho
      refine thn h6 fun _ s7 ⟨xv, H7, I7, r7, y7, st7, n7⟩ => ?_
      refine thn (pg.run _ s7 _ H7 xv x _ (I7.pinned (own0 I7 n7) (T.obj _ _ st7)) r7 (step xv H7 y7)) fun _ s8 ⟨σ8, H8, I8, hw8, q8⟩ => ?_
      refine thn (pt.run _ s8 σ8 H8 _ I8 q8) fun b s9 ⟨H9, I9, q9⟩ => ?_
      have fin : ∀ {σ' : St} {u : Shared} {H' : Hp}, Inv (X.blk s3 H3 sc ce fp) ([] ++ pinsAt fp s7.heap) σ' H' u → (wipe σ (own.map (·.2))).length = σ'.length → (∀ (j : Nat) v, (wipe σ (own.map (·.2)))[j]? = some (some v) → σ'[j]? = some (some v)) → Nx H' →
          ∃ m, m < n ∧ ∃ i H', Inv (X.blk s3 H3 sc ce fp) [] (wipe σ (own.map (·.2))) H' u ∧ tn i u.heap ∧ (∀ b ∈ fp, H' b = none) ∧ W i m H' := fun {σ' u H'} I' hl hk nx => by
        obtain ⟨m', hm, w'⟩ := hNx H' nx
        have pin' : ∀ b ∈ fp, ∀ o, s7.heap.get? b = some o → u.heap.get? b = some o ∧ H' b = none := fun b hb o e =>
          let z := I'.pin (b, o) (List.mem_append_right _ (List.mem_append_right _ (mem_pinsAt hb e)))
          ⟨z.1, z.2.1⟩
        refine ⟨m', hm, i + 1, H', (I'.unpinned (pins := [])).weak hl hk, T.keep _ _ _ st7 fun b hb o e => (pin' b hb o e).1, fun b hb => ?_, w'⟩
        obtain ⟨o, e, _⟩ := T.obj _ _ st7 b hb
        exact (pin' b hb o e).2
      have hl8 : (wipe σ (own.map (·.2))).length = σ8.length := by rw [← hw8, wipe_length]
      have hk8 : ∀ (j : Nat) v, (wipe σ (own.map (·.2)))[j]? = some (some v) → σ8[j]? = some (some v) ∧ (wipe σ8 vj)[j]? = some (some v) := fun j v e => by
        rw [← hw8] at e
        obtain ⟨e1, e2⟩ := wipe_some e
        exact ⟨e1, by rw [wipe_out fun z => e2 (hv j z)]; exact e1⟩
      cases b with
      | false => exact fin I9 hl8 (fun j v e => (hk8 j v e).1) q9
      | true =>
        refine thn (pj.run _ s9 σ8 H9 _ I9 q9) fun lv s10 hl => thn hl fun jv1 s11 ⟨j1, fp1, tn1, J1, H11, e1, I11, T1, st11, f11, W1, ⟨m1, w1⟩, turn1⟩ => ?_
        subst e1
        have own1 : ∀ {H' : Hp}, (∀ b ∈ fp1, H' b = none) → ∀ b ∈ fp1, FpOk (X.blk s3 H3 sc ce fp) ([] ++ pinsAt fp s7.heap) H' b := fun hn b hb => ⟨hn b hb, (f11 b hb).2⟩
        have loop1 : codeAny (model X.prog X.w) X.A (.compLoop (setE el a0 b0 a1 b1 c0 c1 sc ps) 1 (.ref j1) (.ref D) ce) (fun o u7 => (∃ f, o = .ok f) ∧ ∃ m, m < n ∧ ∃ i H', Inv (X.blk s3 H3 sc ce fp) [] (wipe σ (own.map (·.2))) H' u7 ∧ tn i u7.heap ∧ (∀ b ∈ fp, H' b = none) ∧ W i m H') s11 := by
          refine set_loop1 (fun k u => ∃ j H', Inv (X.blk s3 H3 sc ce fp) ([] ++ pinsAt fp s7.heap) (wipe σ8 vj) H' u ∧ tn1 j u.heap ∧ (∀ b ∈ fp1, H' b = none) ∧ W1 j k H') ?_ m1 ⟨0, H11, I11.weak (wipe_length _ _) (fun j v e => (wipe_some e).1), st11, fun b hb => (f11 b hb).1, w1⟩
          rintro k s12 ⟨j, H12, I12, st12, n12, w12⟩
          rcases turn1 j k H12 w12 with ⟨stop1, nx1⟩ | ⟨go1, Nx1, hNx1, step1⟩
          · refine thn (T1.done (X.blk s3 H3 sc ce fp) rfl rfl rfl hc j _ s12 (wipe σ8 vj) H12 (fun _ _ => False) I12 (own1 n12) st12 stop1) fun o s13 ⟨ho, I13⟩ => ?_
            subst ho
            exact ⟨⟨_, rfl⟩, fin I13 (hl8.trans (wipe_length σ8 vj).symm) (fun j v e => (hk8 j v e).2) nx1⟩
          · refine thn (T1.item (X.blk s3 H3 sc ce fp) rfl rfl rfl hc j _ s12 (wipe σ8 vj) H12 (fun _ _ => False) I12 (own1 n12) st12 go1) fun o s13 ⟨x1, ho, h13⟩ => ?_
            subst ho
            refine thn h13 fun _ s14 ⟨xv1, H14, I14, r14, y14, st14, n14⟩ => ?_
            refine thn (pgj.run _ s14 (wipe σ8 vj) H14 xv1 x1 _ (I14.pinned (own1 n14) (T1.obj _ _ st14)) r14 (step1 xv1 H14 y14)) fun _ s15 ⟨σ15, H15, I15, hw15, q15⟩ => ?_
            refine thn (ptj.run _ s15 σ15 H15 _ I15 q15) fun b1 s16 ⟨H16, I16, q16⟩ => ?_
            have fin1 : ∀ {u : Shared} {H' : Hp}, Inv (X.blk s3 H3 sc ce fp) (([] ++ pinsAt fp s7.heap) ++ pinsAt fp1 s14.heap) σ15 H' u → Nx1 H' → ∃ m, m < k ∧ ∃ j H', Inv (X.blk s3 H3 sc ce fp) ([] ++ pinsAt fp s7.heap) (wipe σ8 vj) H' u ∧ tn1 j u.heap ∧ (∀ b ∈ fp1, H' b = none) ∧ W1 j m H' := fun {u H'} I' nx => by
              obtain ⟨m', hm, w'⟩ := hNx1 H' nx
              have pin' : ∀ b ∈ fp1, ∀ o, s14.heap.get? b = some o → u.heap.get? b = some o ∧ H' b = none := fun b hb o e =>
                let z := I'.pin (b, o) (List.mem_append_right _ (List.mem_append_right _ (mem_pinsAt hb e)))
                ⟨z.1, z.2.1⟩
              refine ⟨m', hm, j + 1, H', I'.unpinned.weak (by rw [← hw15, wipe_length]) (fun j v e => by rw [← hw15] at e; exact (wipe_some e).1), T1.keep _ _ _ st14 fun b hb o e => (pin' b hb o e).1, fun b hb => ?_, w'⟩
              obtain ⟨o, e, _⟩ := T1.obj _ _ st14 b hb
              exact (pin' b hb o e).2
            cases b1 with
            | false => exact fin1 I16 q16
            | true =>
              refine thn (pe.run _ s16 σ15 H16 _ I16 q16) fun z s17 ⟨yv, H17, I17, r17, qa⟩ => ?_
              exact thn (ma _ s17 σ15 H17 (.ref D) [yv] (.ref D) [z] _ I17 rfl (.cons r17 .nil) qa) fun _ s18 ⟨_, H18, I18, _, nx⟩ => fin1 I18 nx
        exact set_start1 loop1 (T1.self X.A 0 _ _ _ st11 loop1)
  exact codeAny_compStart_set loop (T.self X.A 0 _ _ _ st4 loop)
end
end RR
end
section
namespace RR
open PySem PySem.Spec L2
open PyProof.Rows hiding St
/-- what may be members, told by their data; how one more gets among them -/
structure SetD where
  κ : Type
  dec : D → Option κ
  enc : κ → D
  ins : κ → List κ → List κ
  hdec : ∀ {y k}, dec y = some k → y = enc k
  len : ∀ k xs, (ins k xs).length ≤ xs.length + 1
/-- what stands for such a set -/
structure SKind (K : PySem.W.Frag) (S : SetD) where
  zo : Addr → HO
  ob : Hp → Addr → List S.κ → HO → Prop
  r : V → List V → Hp → VK → Prop
  rs : List V → Hp → VK → Prop
  new : ∀ F D, ob F D [] (zo D)
  mono : ∀ {F F' D xs o}, Same F F' → ob F D xs o → ob F' D xs o
  add : ∀ {F H D k v xs o} {Q : VK}, Rp K F (S.enc k) v → Same F H → ob F D xs o → H D = some o → xs.length < 60 → (∀ o', ob F D (S.ins k xs) o' → Q .non (upd H D o')) → r (.ref D) [v] H Q
  sort : ∀ {F H D xs o} {Q : VK}, ob F D xs o → Same F H → H D = some o → xs.length ≤ 60 → (∀ vs, Rps K F (xs.map S.enc) vs → ∀ p, H p = none → Q (.ref p) (upd H p (.lst vs))) → rs [.ref D] H Q
def scI (S : SetD) (g1 : MG) (t1 : MT) (e : ME) (Γ : DEnv) : List D → Nat → List S.κ → (List S.κ → Nat → Prop) → Prop
  | [], n, acc, Q => Q acc n
  | d :: ds, n, acc, Q => g1 d Γ fun Γ2 => t1 Γ2 n fun b n1 => if b = true then e Γ2 n1 fun y n2 => ∃ k, S.dec y = some k ∧ acc.length < 60 ∧ scI S g1 t1 e Γ ds n2 (S.ins k acc) Q else scI S g1 t1 e Γ ds n1 acc Q
def scO (S : SetD) (g : MG) (t : MT) (mi1 : MI) (g1 : MG) (t1 : MT) (e : ME) (vs1 : List Nat) (Γ : DEnv) : List D → Nat → List S.κ → (List S.κ → Nat → Prop) → Prop
  | [], n, acc, Q => Q acc n
  | d :: ds, n, acc, Q => g d Γ fun Γ2 => t Γ2 n fun b n1 => if b = true then mi1 Γ2 n1 fun es n2 => scI S g1 t1 e (wipeD Γ2 vs1) es n2 acc fun acc' n3 => scO S g t mi1 g1 t1 e vs1 Γ ds n3 acc' Q else scO S g t mi1 g1 t1 e vs1 Γ ds n1 acc Q
@[reducible] def mSc2 (S : SetD) (mi : MI) (g : MG) (t : MT) (mi1 : MI) (g1 : MG) (t1 : MT) (e : ME) (vs vs1 : List Nat) : ME := fun Γ n Q => mi Γ n fun ds n1 => scO S g t mi1 g1 t1 e vs1 (wipeD Γ vs) ds n1 [] fun r n2 => Q (.list (r.map S.enc)) n2
section
variable {X : Cx} {p : Pm} {O is is1 vs vs1 : List Nat} {wi wi1 : TI} {mi mi1 : MI} {g g1 : TG} {mg mg1 : MG} {tt tt1 : TT} {mt mt1 : MT} {te : TE} {me : ME} {S : SetD}
/-- what is known of the set that is being made -/
structure Mk3 (p : Pm) (B : SKind p.K S) (Dd : Addr) (F0 H0 F1 H1 : Hp) (O : List Nat) (σ : St) (Γ : DEnv) (F H : Hp) (n : Nat) (acc : List S.κ) : Prop where
  g : Gp p F1 H1 F H
  s : Sep p F0 H0 O F H σ Γ n
  f : F Dd = none
  h : ∃ o, H Dd = some o ∧ B.ob F Dd acc o
  l : acc.length ≤ 60
theorem lf_sc2 (B : SKind p.K S) (hi : LI p O wi mi) (hg : LG p O is g mg) (kg : KG is mg) (ht : LT p O tt mt) (hi1 : LI p O wi1 mi1) (hg1 : LG p O is1 g1 mg1) (ht1 : LT p O tt1 mt1) (he : LE p O te me) (his : ∀ i ∈ is, i ∈ vs) (hO : ∀ i ∈ is, i ∉ O) (his1 : ∀ i ∈ is1, i ∈ vs1) (hp : ∀ v ∈ vs, p.off v) (hp1 : ∀ v ∈ vs1, p.off v) :
    LF p O (tCB B.rs (tCons (tSc2 B.zo B.r wi g tt wi1 g1 tt1 te vs vs1) tNil)) (mSc2 S mi mg mt mi1 mg1 mt1 me vs vs1) := fun F0 H0 F H σ Γ n Q s q Q' k =>
  hi F0 H0 F H σ Γ n _ s q _ fun J ds F1 H1 n1 s1 g1' fd q1 => fun Dd hD => by
    have hD0 : H Dd = none := by
      cases w : H Dd with
      | none => rfl
      | some o => rw [g1'.h Dd o w (s1.h0 hD).2] at hD; cases hD
    have hp0 := (s1.h0 hD).2
    have hH0 := (s1.h0 hD).1
    have hF1 : F1 Dd = none := s1.fh.free hD
    have sl1 : ∀ j ∈ O, ∀ dj, Γ[j]? = some (some dj) → σ[j]? ≠ some (some (.ref Dd)) := fun j hj dj e w => by
      obtain ⟨b, e1, r, _⟩ := s1.ow j hj dj e
      rw [w] at e1
      cases e1
      obtain ⟨o, e2⟩ := r.at
      rw [hD] at e2; cases e2
    have keep : ∀ {F2 H2 F3 H3 : Hp} {n2 n3 : Nat} {σ' : St} {Γ' : DEnv} {acc : List S.κ}, Mk3 p B Dd F0 H0 F1 H1 O σ Γ F2 H2 n2 acc → Gp p F2 H2 F3 H3 → Sep p F0 H0 O F3 H3 σ' Γ' n3 → Mk3 p B Dd F0 H0 F1 H1 O σ Γ F3 H3 n3 acc :=
      fun m g s' => let ⟨o, h1, h2⟩ := m.h; ⟨m.g.trans g, m.s.back s' g, g.none m.f h1 hp0, ⟨o, g.h _ _ h1 hp0, B.mono g.f h2⟩, m.l⟩
    refine ⟨fun i m H => m = ds.length - i ∧ i ≤ ds.length ∧ ∃ F n acc, Mk3 p B Dd F0 H0 F1 H1 O σ Γ F H n acc ∧ scO S mg mt mi1 mg1 mt1 me vs1 (wipeD Γ vs) (ds.drop i) n acc (fun r n' => Q (.list (r.map S.enc)) n'),
      ⟨ds.length, by simp, Nat.zero_le _, F1, n1, [], ⟨(Gr.new0 s1.fh hD _).gp, s1.gr (Gr.new0 s1.fh hD _), hF1, ⟨_, upd_same, B.new _ _⟩, Nat.zero_le _⟩, by simpa using q1⟩, ?_⟩
    rintro i m H2 ⟨rfl, hi', F2, n2, acc, m2, c2⟩
    by_cases hlt : i < ds.length
    · obtain ⟨d, hd, hdr⟩ := drop_at hlt
      obtain ⟨go, yl⟩ := fd.go i d F2 H2 hd m2.g.f m2.s.fh
      rw [hdr] at c2
      refine .inr ⟨go, fun H => ∃ F n acc, Mk3 p B Dd F0 H0 F1 H1 O σ Γ F H n acc ∧ scO S mg mt mi1 mg1 mt1 me vs1 (wipeD Γ vs) (ds.drop (i + 1)) n acc (fun r n' => Q (.list (r.map S.enc)) n'),
        fun H' w => ⟨ds.length - (i + 1), by omega, rfl, hlt, w⟩, fun x H3 y => ?_⟩
      obtain ⟨F3, g3, r3⟩ := yl x H3 y
      have s3 := m2.s.gr g3
      refine hg F0 H0 F3 H3 _ _ n2 d x (s3.wipe hp) r3 _ _ (kg.on c2) fun σ4 Γ4 s4 a4 ⟨q4, b4⟩ => ?_
      refine ⟨wipe_agree a4 his, ?_⟩
      have sl4 : ∀ j ∈ O, ∀ dj, Γ4[j]? = some (some dj) → σ4[j]? ≠ some (some (.ref Dd)) := fun j hj dj e => by
        have nj : j ∉ is := fun z => hO j z hj
        rw [b4 j nj, wipeD_at] at e
        rw [a4.2 j nj, wipe_at]
        by_cases z : j ∈ vs
        · rw [if_pos z] at e
          split at e <;> cases e
        · rw [if_neg z] at e ⊢
          exact sl1 j hj dj e
      refine ht F0 H0 F3 H3 σ4 Γ4 n2 _ s4 q4 _ fun b F5 H5 n5 s5 g5 q5 => ?_
      have g25 : Gp p F2 H2 F5 H5 := g3.gp.trans g5
      cases b with
      | false =>
        rw [if_neg (by decide)] at q5 ⊢
        exact ⟨F5, n5, acc, keep m2 g25 s5, q5⟩
      | true =>
        rw [if_pos rfl] at q5 ⊢
        refine hi1 F0 H0 F5 H5 σ4 Γ4 n5 _ s5 q5 _ fun J1 es F6 H6 n6 s6 g6 fd1 q6 => ?_
        have g26 : Gp p F2 H2 F6 H6 := g25.trans g6
        refine ⟨fun j m H => m = es.length - j ∧ j ≤ es.length ∧ ∃ F n acc, Mk3 p B Dd F0 H0 F1 H1 O σ Γ F H n acc ∧ Sep p F0 H0 O F H σ4 Γ4 n ∧ Same F6 F ∧ scI S mg1 mt1 me (wipeD Γ4 vs1) (es.drop j) n acc (fun r n' => scO S mg mt mi1 mg1 mt1 me vs1 (wipeD Γ vs) (ds.drop (i + 1)) n' r (fun r n' => Q (.list (r.map S.enc)) n')),
          ⟨es.length, by simp, Nat.zero_le _, F6, n6, acc, keep m2 g26 s6, s6, .refl _, by simpa using q6⟩, ?_⟩
        rintro j m7 H7 ⟨rfl, hj', F7, n7, acc7, m7', s7, sm7, c7⟩
        by_cases hlt1 : j < es.length
        · obtain ⟨d1, hd1, hdr1⟩ := drop_at hlt1
          obtain ⟨go1, yl1⟩ := fd1.go j d1 F7 H7 hd1 sm7 s7.fh
          rw [hdr1] at c7
          refine .inr ⟨go1, fun H => ∃ F n acc, Mk3 p B Dd F0 H0 F1 H1 O σ Γ F H n acc ∧ Sep p F0 H0 O F H σ4 Γ4 n ∧ Same F6 F ∧ scI S mg1 mt1 me (wipeD Γ4 vs1) (es.drop (j + 1)) n acc (fun r n' => scO S mg mt mi1 mg1 mt1 me vs1 (wipeD Γ vs) (ds.drop (i + 1)) n' r (fun r n' => Q (.list (r.map S.enc)) n')),
            fun H' w => ⟨es.length - (j + 1), by omega, rfl, hlt1, w⟩, fun x8 H8 y8 => ?_⟩
          obtain ⟨F8, g8, r8⟩ := yl1 x8 H8 y8
          have s8 := s7.gr g8
          refine hg1 F0 H0 F8 H8 _ _ n7 d1 x8 (s8.wipe hp1) r8 _ _ c7 fun σ9 Γ9 s9 a9 q9 => ?_
          refine ⟨wipe_agree a9 his1, ?_⟩
          refine ht1 F0 H0 F8 H8 σ9 Γ9 n7 _ s9 q9 _ fun b F10 H10 n10 s10 g10 q10 => ?_
          have g710 : Gp p F7 H7 F10 H10 := g8.gp.trans g10
          cases b with
          | false =>
            rw [if_neg (by decide)] at q10 ⊢
            exact ⟨F10, n10, acc7, keep m7' g710 s10, s7.back s10 g710, sm7.trans g710.f, q10⟩
          | true =>
            rw [if_pos rfl] at q10 ⊢
            refine he F0 H0 F10 H10 σ9 Γ9 n10 _ s10 q10 _ fun y v F11 H11 n11 s11 g11 r11 ⟨k11, hk, hl, q11⟩ => ?_
            have g711 := g710.trans g11
            have m11 := keep m7' g711 s11
            obtain ⟨o, h1, h2⟩ := m11.h
            rw [S.hdec hk] at r11
            refine B.add r11 s11.fh h2 h1 hl fun o' h3 => ⟨F11, n11, S.ins k11 acc7, ⟨?_, m11.s.poke m11.f hH0 hp0 sl1, m11.f, ⟨o', upd_same, h3⟩, Nat.le_trans (S.len _ _) hl⟩, (s7.back s11 g711).poke m11.f hH0 hp0 sl4, sm7.trans g711.f, q11⟩
            refine ⟨m11.g.f, fun a o e hp => ?_, m11.g.new⟩
            rw [upd_ne fun z => by rw [z, hD] at e; cases e]
            exact m11.g.h a o e hp
        · have e : j = es.length := by omega
          subst e
          rw [List.drop_length] at c7
          exact .inl ⟨fd1.stop F7 H7 sm7 s7.fh, F7, n7, acc7, m7', c7⟩
    · have e : i = ds.length := by omega
      subst e
      rw [List.drop_length] at c2
      refine .inl ⟨fd.stop F2 H2 m2.g.f m2.s.fh, ?_⟩
      obtain ⟨o, h1, h2⟩ := m2.h
      refine B.sort h2 m2.s.fh h1 m2.l fun ws rw_ a ha => ?_
      have gn := Gr.new0 m2.s.fh ha (.lst ws)
      have g2 := g1'.trans m2.g
      refine k (.list (acc.map S.enc)) a F2 _ n2 (m2.s.gr gn) (g2.trans gn.gp) (.lst upd_same rw_) (m2.s.fh.free ha) ?_ c2
      cases z : H a with
      | none => rfl
      | some o => rw [g2.h a o z (m2.s.h0 ha).2] at ha; cases ha
theorem fSc2 {tg iter tg1 iter1 elt : Expr} {ifs ifs1 : List Expr} {pos spos q : Pos} {scope : Scope} {own : List (Str × Nat)} (B : SKind p.K S) (vs1 : List Nat)
    (hZ : ∀ {pins : List (Addr × Obj)} {σ : St} {H : Hp} {s : Shared}, Inv X pins σ H s → Inv X pins σ (upd H s.heap.objs.size (B.zo s.heap.objs.size)) { s with heap := s.heap.push { cls := .type "set", dict := none, data := .set #[] 0 (.fresh 0 0 (!(X.w.params.followText "set-order"))) } })
    (hr : ∀ (s : Shared) (H : Hp) (en : Env) (fp : List Addr), MtR (X.blk s H scope en fp) "set.add" B.r) (hsort : CallR X (.builtin "sorted") B.rs) (hgl : Gl X "sorted") (hm : X.mg "sorted" = none)
    (hc : X.calm = true) (hN : X.N.Nodup) (hi : RI X p O tg iter wi mi) (ok : BlkOk X.N X.env.scope scope own) (hv : ∀ i ∈ vs1, i ∈ own.map (·.2)) (kg : KG is mg)
    (hg : ∀ (s : Shared) (H : Hp) (C : Addr) (cl : List (Str × Addr)) (fp : List Addr), RG (X.blk s H scope (compEnvC scope cl C X.env) fp) p O is tg g mg) (ht : ∀ (s : Shared) (H : Hp) (C : Addr) (cl : List (Str × Addr)) (fp : List Addr), RTs (X.blk s H scope (compEnvC scope cl C X.env) fp) p O ifs tt mt)
    (hi1 : ∀ (s : Shared) (H : Hp) (C : Addr) (cl : List (Str × Addr)) (fp : List Addr), RI (X.blk s H scope (compEnvC scope cl C X.env) fp) p O tg1 iter1 wi1 mi1)
    (hg1 : ∀ (s : Shared) (H : Hp) (C : Addr) (cl : List (Str × Addr)) (fp : List Addr), RG (X.blk s H scope (compEnvC scope cl C X.env) fp) p O is1 tg1 g1 mg1) (ht1 : ∀ (s : Shared) (H : Hp) (C : Addr) (cl : List (Str × Addr)) (fp : List Addr), RTs (X.blk s H scope (compEnvC scope cl C X.env) fp) p O ifs1 tt1 mt1)
    (he : ∀ (s : Shared) (H : Hp) (C : Addr) (cl : List (Str × Addr)) (fp : List Addr), RE (X.blk s H scope (compEnvC scope cl C X.env) fp) p O elt te me)
    (his : ∀ i ∈ is, i ∈ own.map (·.2)) (hO : ∀ i ∈ is, i ∉ O) (his1 : ∀ i ∈ is1, i ∈ vs1) (hp : ∀ v ∈ own.map (·.2), p.off v) (hs : ∀ x, foldedSetIterable iter X.env x = pure x := by intro _; rfl) (hs1 : ∀ (env : Env) x, foldedSetIterable iter1 env x = pure x := by intro _ _; rfl)
    (h1 : starEach [setE elt tg iter tg1 iter1 ifs ifs1 scope pos] X.env = (false, eval (setE elt tg iter tg1 iter1 ifs ifs1 scope pos) X.env) :: starEach [] X.env := by rfl) (hpl : (backTo spos (starEach [] X.env)).any (·.1) = false := by rfl) :
    RF X p O (.Call (.Name "sorted" q) [setE elt tg iter tg1 iter1 ifs ifs1 scope pos] [] spos) (tCB B.rs (tCons (tSc2 B.zo B.r wi g tt wi1 g1 tt1 te (own.map (·.2)) vs1) tNil)) (mSc2 S mi mg mt mi1 mg1 mt1 me (own.map (·.2)) vs1) :=
  ⟨pe_callB hsort hgl hm (by decide +kernel) (pa_cons (pe_sc2 hZ hr hc hN hi.pi ok hv (fun s H C cl fp => (hg s H C cl fp).pg) (fun s H C cl fp => (ht s H C cl fp).pt) (fun s H C cl fp => (hi1 s H C cl fp).pi) (fun s H C cl fp => (hg1 s H C cl fp).pg) (fun s H C cl fp => (ht1 s H C cl fp).pt) (fun s H C cl fp => (he s H C cl fp).pe) hs hs1) pa_nil h1) (by decide) (by decide) h1 hpl,
    lf_sc2 B hi.le (hg X.s_0 X.H_0 0 [] []).le kg (ht X.s_0 X.H_0 0 [] []).le (hi1 X.s_0 X.H_0 0 [] []).le (hg1 X.s_0 X.H_0 0 [] []).le (ht1 X.s_0 X.H_0 0 [] []).le (he X.s_0 X.H_0 0 [] []).le his hO his1 hp fun v h => hp v (hv v h)⟩
end
def insI (k : Int) : List Int → List Int
  | [] => [k]
  | x :: xs => if k < x then k :: x :: xs else if k = x then x :: xs else x :: insI k xs
theorem insI_len (k : Int) : ∀ xs, (insI k xs).length ≤ xs.length + 1
  | [] => Nat.le_refl _
  | x :: xs => by
    unfold insI
    split
    · exact Nat.le_refl _
    · split
      · exact Nat.le_succ _
      · exact Nat.succ_le_succ (insI_len k xs)
theorem insI_mem (k : Int) : ∀ {xs : List Int} {j : Int}, j ∈ insI k xs ↔ j = k ∨ j ∈ xs
  | [], j => by simp [insI]
  | x :: xs, j => by
    unfold insI
    split
    · simp
    · split
      · rename_i h
        subst h
        simp
      · rw [List.mem_cons, insI_mem k, List.mem_cons]
        constructor
        · rintro (h | h | h)
          · exact .inr (.inl h)
          · exact .inl h
          · exact .inr (.inr h)
        · rintro (h | h | h)
          · exact .inr (.inl h)
          · exact .inl h
          · exact .inr (.inr h)
theorem insI_asc (k : Int) : ∀ {xs : List Int}, xs.Pairwise (· < ·) → (insI k xs).Pairwise (· < ·)
  | [], _ => by simp [insI]
  | x :: xs, h => by
    obtain ⟨h1, h2⟩ := List.pairwise_cons.mp h
    unfold insI
    split
    · rename_i hk
      refine List.pairwise_cons.mpr ⟨fun y hy => ?_, h⟩
      rcases List.mem_cons.mp hy with rfl | hy
      · exact hk
      · exact Int.lt_trans hk (h1 y hy)
    · split
      · exact h
      · refine List.pairwise_cons.mpr ⟨fun y hy => ?_, insI_asc k h2⟩
        rcases (insI_mem k).mp hy with rfl | hy
        · omega
        · exact h1 y hy
theorem insI_in (k : Int) : ∀ {xs : List Int}, xs.Pairwise (· < ·) → k ∈ xs → insI k xs = xs
  | [], _, h => by cases h
  | x :: xs, h, hk => by
    obtain ⟨h1, h2⟩ := List.pairwise_cons.mp h
    unfold insI
    rcases List.mem_cons.mp hk with rfl | hk
    · rw [if_neg (Int.lt_irrefl _), if_pos rfl]
    · have := h1 k hk
      rw [if_neg (by omega), if_neg (by omega), insI_in k h2 hk]
/-- two ascending lists with the same members -/
theorem asc_same : ∀ {xs ys : List Int}, xs.Pairwise (· < ·) → ys.Pairwise (· < ·) → (∀ k, k ∈ xs ↔ k ∈ ys) → xs = ys
  | [], [], _, _, _ => rfl
  | [], y :: ys, _, _, h => absurd ((h y).mpr (List.mem_cons_self ..)) (by simp)
  | x :: xs, [], _, _, h => absurd ((h x).mp (List.mem_cons_self ..)) (by simp)
  | x :: xs, y :: ys, hx, hy, h => by
    obtain ⟨x1, x2⟩ := List.pairwise_cons.mp hx
    obtain ⟨y1, y2⟩ := List.pairwise_cons.mp hy
    have e : x = y := by
      rcases List.mem_cons.mp ((h x).mp (List.mem_cons_self ..)) with e | e
      · exact e
      · rcases List.mem_cons.mp ((h y).mpr (List.mem_cons_self ..)) with q | q
        · exact q.symm
        · have := x1 y q
          have := y1 x e
          omega
    subst e
    congr 1
    refine asc_same x2 y2 fun k => ⟨fun z => ?_, fun z => ?_⟩
    · rcases List.mem_cons.mp ((h k).mp (List.mem_cons_of_mem _ z)) with rfl | q
      · exact absurd (x1 k z) (Int.lt_irrefl _)
      · exact q
    · rcases List.mem_cons.mp ((h k).mpr (List.mem_cons_of_mem _ z)) with rfl | q
      · exact absurd (y1 k z) (Int.lt_irrefl _)
      · exact q
end RR
end
section
namespace RR
open PySem PySem.Spec L2
open PyProof.Rows hiding St
end RR
end
section
namespace RR
open PySem PySem.Spec L2
open PyProof.Rows hiding St
end RR
namespace RR
open PySem PySem.Spec L2
open PyProof.Rows hiding St
end RR
end
section
namespace RR
open PySem PySem.Spec L2
open PyProof.Rows hiding St
@[reducible] def mGet1 (mo me : ME) : ME := fun Γ n Q => mo Γ n fun x n1 => ∃ kvs, x = .dict kvs ∧ me Γ n1 fun y n2 => isKey y = true ∧ Q ((dLook kvs y).getD .none) n2
section
variable {X : Cx} {p : Pm} {O : List Nat} {o e : Expr} {to te : TE} {mo me : ME} {apos cpos : Pos}
theorem le_get1 (ho : LE p O to mo) (he : LE p O te me) : LE p O (tDGet1 to te) (mGet1 mo me) := fun F0 H0 F H σ Γ n Q s q Q' k =>
  ho F0 H0 F H σ Γ n _ s q _ fun dx x F1 H1 n1 s1 g1 r1 ⟨kvs, ex, q1⟩ => by
    subst ex
    obtain ⟨a, rfl, hd⟩ := r1.isD s1.fh
    refine ⟨a, rfl, hd, ?_⟩
    refine he F0 H0 F1 H1 σ Γ n1 _ s1 q1 _ fun dy y F2 H2 n2 s2 g2 r2 ⟨hk, q2⟩ => ?_
    have rd := r1.mono g2.f
    obtain ⟨b, o, e1, g, w⟩ := dct_get rd hk r2
    cases e1
    refine ⟨o, ?_, ?_⟩
    · rcases g with ⟨k1, k2, z1, z2, z3⟩ | ⟨k1, k2, k3, z1, z2, z3, z4⟩
      · exact .inl ⟨k1, k2, Same.rd s2.fh z1, z2, z3⟩
      · exact .inr ⟨k1, k2, k3, Same.rd s2.fh z1, z2, s2.fh _ _ z3, z4⟩
    · refine k _ _ F2 H2 n2 s2 (g1.trans g2) ?_ q2
      split at w
      · rename_i d e1
        obtain ⟨v, rfl, rv⟩ := w
        rw [e1]; exact rv
      · rename_i e1
        rw [w, e1]; exact .non
theorem eGet1 (hu : X.A.units + 1 < cLine) (ho : RE X p O o to mo) (he : RE X p O e te me) (m : M1 X o "get" apos e cpos) : RE X p O (.Call (.Attribute o "get" apos) [e] [] cpos) (tDGet1 to te) (mGet1 mo me) :=
  ⟨pe_dget1 hu ho.pe he.pe m, le_get1 ho.le he.le⟩
end
end RR
namespace RR
open PySem PySem.Spec L2
open PyProof.Rows hiding St
end RR
end
section
namespace RR
open PySem PySem.Spec L2
open PyProof.Rows hiding St
end RR
end
section
namespace RR
open PySem PySem.Spec L2
open PyProof.Rows hiding St
section
variable {mG mG1 : MG} {vG vG1 : VG} {mt mu : MT} {t s : VT} {me : ME} {e : VE} {S : SetD}
def vscI (S : SetD) (g : VG) (t : VT) (e : VE) (Γ : DEnv) : List D → List S.κ → Option (List S.κ)
  | [], acc => some acc
  | d :: ds, acc => (g d Γ).bind fun Γ2 => (t Γ2).bind fun b => if b = true then (e Γ2).bind fun y => (S.dec y).bind fun k => if acc.length < 60 then vscI S g t e Γ ds (S.ins k acc) else none else vscI S g t e Γ ds acc
def vscO (S : SetD) (g : VG) (t : VT) (i1 : VI) (g1 : VG) (t1 : VT) (e : VE) (vs1 : List Nat) (Γ : DEnv) : List D → List S.κ → Option (List S.κ)
  | [], acc => some acc
  | d :: ds, acc => (g d Γ).bind fun Γ2 => (t Γ2).bind fun b => if b = true then (i1 Γ2).bind fun es => (vscI S g1 t1 e (wipeD Γ2 vs1) es acc).bind fun acc' => vscO S g t i1 g1 t1 e vs1 Γ ds acc' else vscO S g t i1 g1 t1 e vs1 Γ ds acc
theorem f_scI (hg : FGt mG vG) (ht : FT mt t) (he : FE me e) {Γ : DEnv} : ∀ (ds : List D) (acc r : List S.κ) (n : Nat) (Q : List S.κ → Nat → Prop), vscI S vG t e Γ ds acc = some r → Q r n → scI S mG mt me Γ ds n acc Q
  | [], acc, r, n, Q, h, q => by cases h; exact q
  | d :: ds, acc, r, n, Q, h, q => by
    obtain ⟨Γ2, h1, h⟩ := bnd h
    obtain ⟨k, h2, h⟩ := bnd h
    refine hg _ _ _ _ h1 (ht _ _ _ _ h2 ?_)
    cases k with
    | true =>
      rw [if_pos rfl] at h ⊢
      obtain ⟨y, h3, h⟩ := bnd h
      obtain ⟨k, h4, h⟩ := bnd h
      refine he _ _ _ _ h3 ⟨k, h4, ?_⟩
      split at h
      · exact ⟨by assumption, f_scI hg ht he ds _ r n _ h q⟩
      · cases h
    | false =>
      rw [if_neg (by decide)] at h ⊢
      exact f_scI hg ht he ds acc r n _ h q
theorem f_scO {mi1 : MI} {i1 : VI} {vs1 : List Nat} (hg : FGt mG vG) (ht : FT mt t) (hi : FI' mi1 i1) (hg1 : FGt mG1 vG1) (ht1 : FT mu s) (he : FE me e) {Γ : DEnv} : ∀ (ds : List D) (acc r : List S.κ) (n : Nat) (Q : List S.κ → Nat → Prop), vscO S vG t i1 vG1 s e vs1 Γ ds acc = some r → Q r n → scO S mG mt mi1 mG1 mu me vs1 Γ ds n acc Q
  | [], acc, r, n, Q, h, q => by cases h; exact q
  | d :: ds, acc, r, n, Q, h, q => by
    obtain ⟨Γ2, h1, h⟩ := bnd h
    obtain ⟨k, h2, h⟩ := bnd h
    refine hg _ _ _ _ h1 (ht _ _ _ _ h2 ?_)
    cases k with
    | true =>
      rw [if_pos rfl] at h ⊢
      obtain ⟨es, h3, h⟩ := bnd h
      obtain ⟨acc', h4, h⟩ := bnd h
      exact hi _ _ _ _ h3 (f_scI hg1 ht1 he es acc acc' n _ h4 (f_scO hg ht hi hg1 ht1 he ds acc' r n Q h q))
    | false =>
      rw [if_neg (by decide)] at h ⊢
      exact f_scO hg ht hi hg1 ht1 he ds acc r n _ h q
def vSc2 (S : SetD) (i : VI) (g : VG) (t : VT) (i1 : VI) (g1 : VG) (t1 : VT) (e : VE) (vs vs1 : List Nat) : VE := fun Γ => (i Γ).bind fun ds => (vscO S g t i1 g1 t1 e vs1 (wipeD Γ vs) ds []).bind fun r => some (.list (r.map S.enc))
theorem f_Sc2 {vs vs1 : List Nat} {mi mi1 : MI} {i i1 : VI} (hi : FI' mi i) (hg : FGt mG vG) (ht : FT mt t) (hi1 : FI' mi1 i1) (hg1 : FGt mG1 vG1) (ht1 : FT mu s) (he : FE me e) : FE (mSc2 S mi mG mt mi1 mG1 mu me vs vs1) (vSc2 S i vG t i1 vG1 s e vs vs1) := fun Γ n d Q h q => by
  obtain ⟨ds, h1, h⟩ := bnd h
  obtain ⟨r, h2, h⟩ := bnd h
  cases h
  exact hi _ _ _ _ h1 (f_scO hg ht hi1 hg1 ht1 he ds [] r n _ h2 q)
end
end RR
namespace RR
open PySem PySem.Spec L2
open PyProof.Rows hiding St
end RR
namespace RR
open PySem PySem.Spec L2
open PyProof.Rows hiding St
section
variable {ma mb : ME} {a b : VE}
def vGet1 (a b : VE) : VE := fun Γ => (a Γ).bind fun x => (asDict x).bind fun kvs => (b Γ).bind fun y => if isKey y = true then some ((dLook kvs y).getD .none) else none
theorem f_Get1 (ha : FE ma a) (hb : FE mb b) : FE (mGet1 ma mb) (vGet1 a b) := fun Γ n d Q e q => by
  obtain ⟨x, h1, e⟩ := bnd e
  obtain ⟨xs, h2, e⟩ := bnd e
  obtain ⟨y, h3, e⟩ := bnd e
  obtain ⟨h4, rfl⟩ := ifs e
  exact ha Γ n x _ h1 ⟨xs, asDict_eq h2, hb Γ n y _ h3 ⟨h4, q⟩⟩
end
end RR
end
section
namespace RR
open PySem PySem.Spec L2
open PyProof.Rows hiding St
open PySem.W (dataLe)
def putIn {α : Type} (le : α → α → Bool) (a : α) : List α → List α
  | [] => [a]
  | b :: bs => if le a b = true then a :: b :: bs else b :: putIn le a bs
def sortE {α : Type} (le : α → α → Bool) : List α → List α
  | [] => []
  | a :: as => putIn le a (sortE le as)
theorem putIn_at {α : Type} {le : α → α → Bool} {a : α} : ∀ {l1 l2 : List α}, (∀ b ∈ l1, (!le a b) = true) → (∀ b ∈ l2, le a b = true) → putIn le a (l1 ++ l2) = l1 ++ a :: l2
  | [], [], _, _ => rfl
  | [], b :: l2, _, h => by
    show putIn le a (b :: l2) = a :: b :: l2
    unfold putIn
    rw [if_pos (h b (List.mem_cons_self ..))]
  | b :: l1, l2, h, k => by
    show putIn le a (b :: (l1 ++ l2)) = b :: (l1 ++ a :: l2)
    unfold putIn
    have := h b (List.mem_cons_self ..)
    rw [Bool.not_eq_true'] at this
    rw [this, if_neg (by decide), putIn_at (fun c hc => h c (List.mem_cons_of_mem _ hc)) k]
theorem sortE_eq {α : Type} {le : α → α → Bool} (tr : ∀ a b c, le a b = true → le b c = true → le a c = true) (to : ∀ a b, (le a b || le b a) = true) : ∀ l : List α, l.mergeSort le = sortE le l
  | [] => List.mergeSort_nil
  | a :: l => by
    obtain ⟨l1, l2, e1, e2, e3⟩ := List.mergeSort_cons tr to a l
    have s := List.pairwise_mergeSort tr to (a :: l)
    rw [e1] at s
    have s2 := (List.pairwise_append.mp s).2.1
    rw [e1, sortE, ← sortE_eq tr to l, e2]
    exact (putIn_at e3 (List.pairwise_cons.mp s2).1).symm
theorem sortD_E (xs : List D) : sortD xs = sortE (dataLe false id) xs := by
  have t := PySem.W.sortLe_total (PyProof.Rows.listOrd PyProof.Rows.itemOrd) false fun b : D => PySem.W.keyToks b
  exact sortE_eq t.trans (fun a b => by rw [Bool.or_eq_true]; exact t.total a b) xs
def cSortedE (xs : List D) : Option D := match xs with
  | [.list xs] => if okSort xs = true then some (.list (sortE (dataLe false id) xs)) else none
  | _ => none
theorem cSorted_E : cSorted = cSortedE := by
  funext xs
  unfold cSorted cSortedE
  first
    | (simp only [sortD_E]; done)
    | (simp only [sortD_E]; rfl)
theorem f_ClE {f g : List D → Option D} {ma : MA} {va : VA} (e : f = g) (h : FA ma va) : FE (mCl f ma) (vCl g va) := e ▸ f_Cl h
end RR
end
section
namespace RC
open PySem PySem.Spec L2 RR
open PyProof.Rows hiding St
end RC
end
section
namespace RR
open PySem PySem.Spec L2
open PyProof.Rows hiding St
end RR
end
section
namespace RR
open PySem PySem.Spec L2
open PyProof.Rows hiding St
@[reducible] def mOkS (me : ME) : ME := fun Γ n Q => me Γ n fun d n1 => ∃ z : Str, d = .str z ∧ z.length ≤ 1921 ∧ Q d n1
@[reducible] def mOkI (me : ME) : ME := fun Γ n Q => me Γ n fun d n1 => ∃ i : Int, d = .int i ∧ i.natAbs.log2 < 1920 ∧ Q d n1
inductive RJ (X : Cx) (p : Pm) : List Expr → List TE → MA → Prop
  | nil : RJ X p [] [] mNil
  | str {e : Expr} {te : TE} {me : ME} {es : List Expr} {ts : List TE} {ma : MA} (h : RE X p [] e te me) (r : RJ X p es ts ma) : RJ X p (e :: es) (te :: ts) (mCons (mOkS me) ma)
  | fmt {e : Expr} {te : TE} {me : ME} {pos : Pos} {es : List Expr} {ts : List TE} {ma : MA} (h : RE X p [] e te me) (r : RJ X p es ts ma) : RJ X p (.FormattedValue e (-1) none pos :: es) (tFmt te :: ts) (mCons (mOkI me) ma)
section
variable {X : Cx} {p : Pm} {W : WX} {es : List Expr} {ts : List TE} {ma : MA} {x : Str}
theorem RJ.le (h : RJ X p es ts ma) {F0 H0 : Hp} {σ : St} {Γ : DEnv} : ∀ {F H : Hp} {n : Nat} {acc : Str} {R : List D → Nat → Prop} {Q : Str → Hp → Prop}, Sep p F0 H0 [] F H σ Γ n → ma Γ n R → acc.length + 2000 * es.length ≤ sizeLine →
    (∀ out F' H' n' ds, Sep p F0 H0 [] F' H' σ Γ n' → R ds n' → Q out H') → tJs ts acc σ H Q := by
  induction h with
  | nil => exact fun s q _ k => k _ _ _ _ _ s q
  | str h r ih =>
    intro F H n acc R Q s q hl k
    refine h.le F0 H0 F H σ Γ n _ s q _ fun d v F1 H1 n1 s1 g1 r1 ⟨z, ez, hz, q1⟩ => ?_
    subst ez
    cases r1.str_inv
    rw [List.length_cons] at hl
    have hz2 : (acc ++ z).length = acc.length + z.length := Str.length_append ..
    refine ⟨z, rfl, by omega, ih s1 q1 (by omega) fun out F' H' n' ds s' hr => k out F' H' n' _ s' hr⟩
  | fmt h r ih =>
    intro F H n acc R Q s q hl k
    refine h.le F0 H0 F H σ Γ n _ s q _ fun d v F1 H1 n1 s1 g1 r1 ⟨i, ez, hz, q1⟩ => ?_
    subst ez
    cases r1.int_inv
    rw [List.length_cons] at hl
    have hi : (Str.ofString (toString i)).length ≤ 1921 := PyProof.Rows.int_text_len_1921 hz
    have hz2 : (acc ++ Str.ofString (toString i)).length = acc.length + (Str.ofString (toString i)).length := Str.length_append ..
    exact .inr ⟨i, rfl, hz, Str.ofString (toString i), rfl, by omega, ih s1 q1 (by omega) fun out F' H' n' ds s' hr => k out F' H' n' _ s' hr⟩
end
end RR
end
section
namespace RR
open PySem PySem.Spec L2
open PyProof.Rows hiding St
end RR
end
section
namespace RR
open PySem PySem.Spec L2
open PyProof.Rows hiding St
inductive Rx
  | nx (Γ : DEnv)
  | rt (d : D)
  | xc (x : Str)
def Rx.to (E : EX) (n : Nat) : Rx → Prop
  | .nx Γ => E.nx Γ n
  | .rt d => E.rt d n
  | .xc x => E.xc x
end RR
end
section
namespace RC
open PySem PySem.Spec L2 RR
open PyProof.Rows hiding St
def c_MOST_PAIRS : D := (.int 5)
def b_sublists : MS := (mRet (mLc2 (mIR1 (mCons (mOp dAdd (mCl cLen (mCons (mVar 0) mNil)) (mC (.int 1))) mNil)) (mgName 1) mYes (mICb (mCons (mVar 0) (mCons (mVar 1) mNil))) (mgName 2) mYes (mCl cList (mCons (mVar 2) mNil)) [1, 2] [2]))
def m_sublists : MP := mFun ["members", "many", "some"] 1 b_sublists
def vb_sublists : VS := (vRet (vLc2 (vIR1 (vCons (vOp dAdd (vCl cLen (vCons (vVar 0) vNil)) (vC (.int 1))) vNil)) (vgName 1) vYes (vICb (vCons (vVar 0) (vCons (vVar 1) vNil))) (vgName 2) vYes (vCl cList (vCons (vVar 2) vNil)) [1, 2] [2]))
def v_sublists : VP := vFun ["members", "many", "some"] 1 vb_sublists
theorem fp_sublists : FP m_sublists v_sublists := by
  unfold m_sublists v_sublists b_sublists vb_sublists
  exact f_Fun (f_Ret (f_Lc2 (f_IR1 (f_Cons (f_Op (f_Cl (f_Cons f_Var f_Nil)) f_C) f_Nil)) f_gName f_Yes (f_ICb (f_Cons f_Var (f_Cons f_Var f_Nil))) f_gName f_Yes (f_Cl (f_Cons f_Var f_Nil))))
end RC
end
section
namespace RR
open PySem PySem.Spec L2
open PyProof.Rows hiding St
def Pr : Type := {x : Int × Int // (0 ≤ x.1 ∧ x.1 < 64) ∧ 0 ≤ x.2 ∧ x.2 < 64}
def Pr.code (x : Pr) : Int := x.1.1 * 64 + x.1.2
def Pr.ints (x : Pr) : List Int := [x.1.1, x.1.2]
theorem Pr.code_inj {x y : Pr} (h : x.code = y.code) : x = y := by
  obtain ⟨⟨a, b⟩, ⟨h1, h2⟩, h3, h4⟩ := x
  obtain ⟨⟨c, d⟩, ⟨g1, g2⟩, g3, g4⟩ := y
  simp only [Pr.code] at h h1 h2 h3 h4 g1 g2 g3 g4
  have e1 : a = c := by omega
  have e2 : b = d := by omega
  subst e1; subst e2; rfl
def insP (k : Pr) : List Pr → List Pr
  | [] => [k]
  | x :: xs => if k.code < x.code then k :: x :: xs else if k.code = x.code then x :: xs else x :: insP k xs
theorem insP_codes (k : Pr) : ∀ xs, (insP k xs).map Pr.code = insI k.code (xs.map Pr.code)
  | [] => rfl
  | x :: xs => by
    rw [List.map_cons]
    unfold insP insI
    split
    · rfl
    · split
      · rfl
      · rw [List.map_cons, insP_codes k xs]
theorem insP_len (k : Pr) (xs : List Pr) : (insP k xs).length ≤ xs.length + 1 := by
  have := insI_len k.code (xs.map Pr.code)
  rw [← insP_codes, List.length_map, List.length_map] at this
  exact this
theorem insP_in {k : Pr} {xs : List Pr} (h : (xs.map Pr.code).Pairwise (· < ·)) (hk : k ∈ xs) : insP k xs = xs := by
  have e := insI_in k.code h (List.mem_map_of_mem hk)
  rw [← insP_codes] at e
  exact (List.map_inj_right fun _ _ => Pr.code_inj).mp e
def setDP : SetD where
  κ := Pr
  dec := fun y => match y with
    | .tuple [.int a, .int b] => if h : (0 ≤ a ∧ a < 64) ∧ 0 ≤ b ∧ b < 64 then some ⟨(a, b), h⟩ else none
    | _ => none
  enc := fun k => .tuple [.int k.1.1, .int k.1.2]
  ins := insP
  hdec := fun {y k} h => by
    split at h
    · split at h
      · cases h; rfl
      · cases h
    · cases h
  len := insP_len
section
variable {X : Cx}
/-- found.add((a, b)) -/
def rTAdd (K : PySem.W.Frag) (P : Program) (w : World) : V → List V → Hp → VK → Prop := fun x xs H Q => ∃ (a t : Addr) (k : List Int) (L : List (Addr × List Int)), x = V.ref a ∧ xs = [V.ref t] ∧ SqT K H t (k.map V.int) ∧ H a = some (SetTO P w a L) ∧ (∀ p ∈ L, SqT K H p.1 (p.2.map V.int)) ∧ L.length + 1 < 64 ∧
  ∀ L', (k ∈ L.map (·.2) → L' = L) → (k ∉ L.map (·.2) → L'.Perm ((t, k) :: L)) → Q .non (upd H a (SetTO P w a L'))
theorem mt_tadd (hu : X.A.units + 64 < cLine) : MtR X "set.add" (rTAdd X.K X.prog X.w) := by
  intro pins s σ H x xs v us Q I rx rxs h
  obtain ⟨a, t, k, L, rfl, rfl, hk, ha, hL, room, q⟩ := h
  cases rx
  cases rxs with
  | cons ry rt =>
    cases rt
    cases ry
    have R0 : SetT0 X.prog X.w s.heap a L := (I.hok a _ ha).1
    obtain ⟨es, ep, tb, R⟩ := R0.full fun p hp => I.isT (hL p hp)
    have hx := I.isT hk
    have hu1 : X.A.in1.units < cLine := Nat.lt_of_le_of_lt (Nat.le_of_eq (show X.A.in1.units = X.A.units + 1 from rfl)) (by omega)
    obtain ⟨o, ho, hex, hd⟩ := R.ob
    refine wpAny_call_entry F.slot_set_add ⟨o, ho, hex.1⟩ F.entry_set_add ?_ (F.args_set_add_2 _ _)
    unfold Builtin.«set.add» Builtin.Frozenset.oneOther
    simp only [List.isEmpty_nil, bind_assoc]
    unfold Builtin.Frozenset.addrOf setAdd
    refine wpAny_bind (wpAny_pure ?_)
    try dsimp only
    refine wpAny_bind (wpAny_pure ?_)
    try dsimp only
    refine wpAny_bind ?_
    refine wpAny_holding ?_
    refine wpAny_bind (wpAny_pyHash_tuple hu1 hx ?_)
    refine add_at (s := { s with toks := s.toks + (k.length + 1) }) R hx hu1 room fun b h' L' es' ep' t' hsb R' c1 c2 => ?_
    show wpAny _ _ (ret Value.none) _ _ _
    refine wpAny_pure ⟨_, rfl, ?_⟩
    have he : ∃ u, h'.get? a = some u := by
      obtain ⟨o', ho', _⟩ := R'.ob
      exact ⟨o', ho'⟩
    exact ⟨.non, upd H a (SetTO X.prog X.w a L'), I.write (e := a) (t' := s.toks + (k.length + 1)) (by rw [ha]; trivial) (.inl rfl) (fun b u hb hu => (hsb.2 b hb).trans hu) he (setTO_new R'.t0), rfl, q L' c1 c2⟩
end
def obP (K : PySem.W.Frag) (P : Program) (w : World) (F : Hp) (D : Addr) (xs : List Pr) (o : HO) : Prop := (xs.map Pr.code).Pairwise (· < ·) ∧ ∃ L : List (Addr × List Int), o = SetTO P w D L ∧ (∀ p ∈ L, SqT K F p.1 (p.2.map V.int)) ∧ (L.map (·.2)).Perm (xs.map Pr.ints)
theorem Pr.ints_inj {x y : Pr} (h : x.ints = y.ints) : x = y := by
  obtain ⟨⟨a, b⟩, _⟩ := x
  obtain ⟨⟨c, d⟩, _⟩ := y
  cases h
  rfl
theorem ints2 {a b : Int} {K : PySem.W.Frag} {F : Hp} {xs : List V} (r : Rps K F [.int a, .int b] xs) : xs = [a, b].map V.int := by
  obtain ⟨v, r1, rfl, h1, r⟩ := r.uncons
  obtain ⟨v2, r2, rfl, h2, r⟩ := r.uncons
  rw [h1.int_inv, h2.int_inv, r.unnil]
  rfl
theorem rps_ints2 (K : PySem.W.Frag) (F : Hp) (k : Pr) : Rps K F [.int k.1.1, .int k.1.2] (k.ints.map V.int) := .cons (.int _) (.cons (.int _) .nil)
theorem obP_add {K : PySem.W.Frag} {P : Program} {w : World} {F H : Hp} {D : Addr} {k : Pr} {v : V} {xs : List Pr} {o : HO} {Q : VK} (rv : Rp K F (setDP.enc k) v) (sm : Same F H) (h : obP K P w F D xs o) (hd : H D = some o) (hl : xs.length < 60) (q : ∀ o', obP K P w F D (insP k xs) o' → Q .non (upd H D o')) : rTAdd K P w (.ref D) [v] H Q := by
  obtain ⟨h1, L, h2, h3, h4⟩ := h
  obtain ⟨t, ys, rfl, ht, rt⟩ := rv.tup_inv
  have e := ints2 rt
  subst e h2
  have hlen : L.length = xs.length := by
    have := h4.length_eq
    rwa [List.length_map, List.length_map] at this
  have hmem : k.ints ∈ L.map (·.2) ↔ k ∈ xs := by
    rw [h4.mem_iff, List.mem_map]
    exact ⟨fun ⟨x, hx, e⟩ => Pr.ints_inj e ▸ hx, fun h => ⟨k, h, rfl⟩⟩
  refine ⟨D, t, k.ints, L, rfl, rfl, Same.sqt sm ht, hd, fun p hp => Same.sqt sm (h3 p hp), by omega, fun L' c1 c2 => q _ ⟨?_, L', rfl, ?_, ?_⟩⟩
  · show ((insP k xs).map Pr.code).Pairwise _
    rw [insP_codes]
    exact insI_asc _ h1
  · by_cases hk : k ∈ xs
    · rw [c1 (hmem.mpr hk)]; exact h3
    · intro p hp
      rcases List.mem_cons.mp ((c2 fun z => hk (hmem.mp z)).mem_iff.mp hp) with rfl | hp
      · exact ht
      · exact h3 p hp
  · by_cases hk : k ∈ xs
    · rw [c1 (hmem.mpr hk), insP_in h1 hk]; exact h4
    · refine ((c2 fun z => hk (hmem.mp z)).map (·.2)).trans ?_
      show (k.ints :: L.map (·.2)).Perm _
      refine (h4.cons _).trans ?_
      have pp : ∀ ys : List Pr, k ∉ ys → (k :: ys).Perm (insP k ys) := fun ys => by
        induction ys with
        | nil => intro _; exact .refl _
        | cons y ys ih =>
          intro hk
          unfold insP
          split
          · exact .refl _
          · split
            · rename_i e
              exact absurd (Pr.code_inj e ▸ List.mem_cons_self ..) hk
            · exact (List.Perm.swap y k ys).trans ((ih fun z => hk (List.mem_cons_of_mem _ z)).cons y)
      exact (pp xs hk).map Pr.ints
theorem obP_sort {K : PySem.W.Frag} {P : Program} {w : World} {F H : Hp} {D : Addr} {xs : List Pr} {o : HO} {Q : VK} (h : obP K P w F D xs o) (sm : Same F H) (hd : H D = some o) (q : ∀ vs, Rps K F (xs.map setDP.enc) vs → ∀ p, H p = none → Q (.ref p) (upd H p (.lst vs))) : rSortedT K P w [.ref D] H Q := by
  obtain ⟨h1, L, h2, h3, h4⟩ := h
  subst h2
  have hin : ∀ p ∈ L, ∃ x ∈ xs, p.2 = Pr.ints x := fun p hp => by
    have := h4.mem_iff.mp (List.mem_map_of_mem hp)
    obtain ⟨x, hx, e⟩ := List.mem_map.mp this
    exact ⟨x, hx, e.symm⟩
  refine ⟨D, L, 2, 64, rfl, hd, fun p hp => Same.sqt sm (h3 p hp), by decide, fun p hp => ?_, fun L' a pm nd _ pw ha => ?_⟩
  · obtain ⟨x, _, e⟩ := hin p hp
    rw [e]
    refine ⟨rfl, ?_⟩
    obtain ⟨⟨a, b⟩, ⟨u1, u2⟩, u3, u4⟩ := x
    intro n hn
    simp only [Pr.ints, List.mem_cons, List.not_mem_nil, or_false] at hn
    rcases hn with rfl | rfl
    · exact ⟨u1, u2⟩
    · exact ⟨u3, u4⟩
  · have pmx : (L'.map (·.2)).Perm (xs.map Pr.ints) := (pm.map _).trans h4
    have hin' : ∀ p ∈ L', ∃ x ∈ xs, p.2 = Pr.ints x := fun p hp => hin p (pm.mem_iff.mp hp)
    -- the codes
    have cd : ∀ x : Pr, TS.code 64 x.ints = x.code := fun x => code_pair _ _
    have cl : (L'.map fun p => TS.code 64 p.2).Pairwise (· < ·) := by
      rw [List.pairwise_map]
      have nd' : L'.Pairwise fun p r => p.2 ≠ r.2 := by
        have := nd
        rw [List.Nodup, List.pairwise_map] at this
        exact this
      refine List.Pairwise.imp_of_mem (R := fun p r => TS.code 64 p.2 ≤ TS.code 64 r.2 ∧ p.2 ≠ r.2) (fun {p r} hp hr ⟨e1, e2⟩ => ?_) (pw.and nd')
      obtain ⟨x, _, ex⟩ := hin' p hp
      obtain ⟨y, _, ey⟩ := hin' r hr
      rw [ex, ey] at e1 e2 ⊢
      rw [cd, cd] at e1 ⊢
      have : x.code ≠ y.code := fun z => e2 (by rw [Pr.code_inj z])
      omega
    have ce : (L'.map fun p => TS.code 64 p.2) = xs.map Pr.code := by
      refine asc_same cl h1 fun c => ?_
      have e1 : (L'.map fun p => TS.code 64 p.2) = (L'.map (·.2)).map (TS.code 64) := by rw [List.map_map]; rfl
      have e2 : xs.map Pr.code = (xs.map Pr.ints).map (TS.code 64) := by
        rw [List.map_map]
        exact List.map_congr_left fun x _ => (cd x).symm
      rw [e1, e2]
      exact (pmx.map _).mem_iff
    have rps : ∀ (L : List (Addr × List Int)) (ys : List Pr), (∀ p ∈ L, SqT K F p.1 (p.2.map V.int)) → (∀ p ∈ L, ∃ x ∈ xs, p.2 = Pr.ints x) → (L.map fun p => TS.code 64 p.2) = ys.map Pr.code → Rps K F (ys.map setDP.enc) (L.map fun p => V.ref p.1) := by
      intro L
      induction L with
      | nil =>
        intro ys _ _ e
        cases ys with
        | nil => exact .nil
        | cons y ys => cases e
      | cons p L ih =>
        intro ys g1 g2 e
        cases ys with
        | nil => cases e
        | cons y ys =>
          obtain ⟨e1, e2⟩ := List.cons.inj e
          obtain ⟨x, _, ex⟩ := g2 p (List.mem_cons_self ..)
          have e1 : TS.code 64 p.2 = y.code := e1
          rw [ex, cd] at e1
          have := Pr.code_inj e1
          subst this
          have s1 := g1 p (List.mem_cons_self ..)
          rw [ex] at s1
          exact .cons (.of_tup s1 (rps_ints2 K F x)) (ih ys (fun p hp => g1 p (List.mem_cons_of_mem _ hp)) (fun p hp => g2 p (List.mem_cons_of_mem _ hp)) e2)
    exact q _ (rps L' xs (fun p hp => h3 p (pm.mem_iff.mp hp)) hin' ce) a ha
def skT (K : PySem.W.Frag) (P : Program) (w : World) : SKind K setDP where
  zo := fun D => SetTO P w D []
  ob := fun F D xs o => obP K P w F D xs o
  r := rTAdd K P w
  rs := rSortedT K P w
  new := fun F D => ⟨List.Pairwise.nil, [], rfl, (fun p hp => nomatch hp), List.Perm.nil⟩
  mono := fun sm ⟨h1, L, h2, h3, h4⟩ => ⟨h1, L, h2, fun p hp => Same.sqt sm (h3 p hp), h4⟩
  add := fun rv sm h hd hl q => obP_add rv sm h hd hl q
  sort := fun h sm hd _ q => obP_sort h sm hd q
theorem skT_new {X : Cx} {pins : List (Addr × Obj)} {σ : St} {H : Hp} {s : Shared} (I : Inv X pins σ H s) : Inv X pins σ (upd H s.heap.objs.size ((skT X.K X.prog X.w).zo s.heap.objs.size)) { s with heap := s.heap.push { cls := .type "set", dict := none, data := .set #[] 0 (.fresh 0 0 (!(X.w.params.followText "set-order"))) } } :=
  I.laid (t' := s.toks) (fun b u e => Heap.get?_push_of_some _ e) (Nat.le_refl _) (setTO_new (setTR_fresh (Heap.get?_push_size _ rfl)).t0)
section
variable {X : Cx} {p : Pm} {O is is1 vs1 : List Nat} {wi wi1 : TI} {mi mi1 : MI} {g g1 : TG} {mg mg1 : MG} {tt tt1 : TT} {mt mt1 : MT} {te : TE} {me : ME}
/-- sorted({(a, b) for .. for ..}) -/
theorem fSc2T {tg iter tg1 iter1 elt : Expr} {ifs ifs1 : List Expr} {pos spos q : Pos} {scope : Scope} {own : List (Str × Nat)} (vs1 : List Nat) (hK : p.K = X.K) (hu : X.A.units + 64 < cLine) (hgl : Gl X "sorted") (hm : X.mg "sorted" = none)
    (hc : X.calm = true) (hN : X.N.Nodup) (hi : RI X p O tg iter wi mi) (ok : BlkOk X.N X.env.scope scope own) (hv : ∀ i ∈ vs1, i ∈ own.map (·.2)) (kg : KG is mg)
    (hg : ∀ (s : Shared) (H : Hp) (C : Addr) (cl : List (Str × Addr)) (fp : List Addr), RG (X.blk s H scope (compEnvC scope cl C X.env) fp) p O is tg g mg) (ht : ∀ (s : Shared) (H : Hp) (C : Addr) (cl : List (Str × Addr)) (fp : List Addr), RTs (X.blk s H scope (compEnvC scope cl C X.env) fp) p O ifs tt mt)
    (hi1 : ∀ (s : Shared) (H : Hp) (C : Addr) (cl : List (Str × Addr)) (fp : List Addr), RI (X.blk s H scope (compEnvC scope cl C X.env) fp) p O tg1 iter1 wi1 mi1)
    (hg1 : ∀ (s : Shared) (H : Hp) (C : Addr) (cl : List (Str × Addr)) (fp : List Addr), RG (X.blk s H scope (compEnvC scope cl C X.env) fp) p O is1 tg1 g1 mg1) (ht1 : ∀ (s : Shared) (H : Hp) (C : Addr) (cl : List (Str × Addr)) (fp : List Addr), RTs (X.blk s H scope (compEnvC scope cl C X.env) fp) p O ifs1 tt1 mt1)
    (he : ∀ (s : Shared) (H : Hp) (C : Addr) (cl : List (Str × Addr)) (fp : List Addr), RE (X.blk s H scope (compEnvC scope cl C X.env) fp) p O elt te me)
    (his : ∀ i ∈ is, i ∈ own.map (·.2)) (hO : ∀ i ∈ is, i ∉ O) (his1 : ∀ i ∈ is1, i ∈ vs1) (hp : ∀ v ∈ own.map (·.2), p.off v) (hs : ∀ x, foldedSetIterable iter X.env x = pure x := by intro _; rfl) (hs1 : ∀ (env : Env) x, foldedSetIterable iter1 env x = pure x := by intro _ _; rfl)
    (h1 : starEach [setE elt tg iter tg1 iter1 ifs ifs1 scope pos] X.env = (false, eval (setE elt tg iter tg1 iter1 ifs ifs1 scope pos) X.env) :: starEach [] X.env := by rfl) (hpl : (backTo spos (starEach [] X.env)).any (·.1) = false := by rfl) :
    RF X p O (.Call (.Name "sorted" q) [setE elt tg iter tg1 iter1 ifs ifs1 scope pos] [] spos) (tCB (rSortedT p.K X.prog X.w) (tCons (tSc2 (fun D => SetTO X.prog X.w D []) (rTAdd p.K X.prog X.w) wi g tt wi1 g1 tt1 te (own.map (·.2)) vs1) tNil)) (mSc2 setDP mi mg mt mi1 mg1 mt1 me (own.map (·.2)) vs1) :=
  fSc2 (skT p.K X.prog X.w) vs1 skT_new (fun s H en fp => by rw [show (skT p.K X.prog X.w).r = rTAdd p.K X.prog X.w from rfl, hK]; exact mt_tadd (X := X.blk s H scope en fp) hu) (by rw [show (skT p.K X.prog X.w).rs = rSortedT p.K X.prog X.w from rfl, hK]; exact cr_sortedT hc) hgl hm hc hN hi ok hv kg hg ht hi1 hg1 ht1 he his hO his1 hp hs hs1 h1 hpl
end
end RR
end
section
namespace RC
open PySem PySem.Spec L2 RR
open PyProof.Rows hiding St
def b_least_forms : MS := (mSeq (mSet 2 (mLc (mISeq (mCall m_sublists (mCons (mCall m_jump_rows (mCons (mVar 0) mNil)) mNil))) (mgName 3) (mNot (mTru (mCall m_unfit_rows (mCons (mVar 0) (mCons (mVar 1) (mCons (mVar 3) mNil)))))) (mVar 3) [3])) (mRet (mOp dIx (mCl cMinD (mCons (mLc (mISeq (mVar 2)) (mgName 3) mYes (mTup (mCons (mCall m_size_of (mCons (mVar 0) (mCons (mVar 1) (mCons (mVar 3) mNil)))) (mCons (mUn dNeg (mCl cLen (mCons (mVar 3) mNil))) (mCons (mVar 3) mNil)))) [3]) mNil)) (mC (.int 2)))))
def m_least_forms : MP := mFun ["part", "machine", "fitting", "forms"] 2 b_least_forms
def vb_least_forms : VS := (vSeqS (vSet 2 (vLc (vISeq (vCall v_sublists (vCons (vCall v_jump_rows (vCons (vVar 0) vNil)) vNil))) (vgName 3) (vNot (vTru (vCall v_unfit_rows (vCons (vVar 0) (vCons (vVar 1) (vCons (vVar 3) vNil)))))) (vVar 3) [3])) (vRet (vOp dIx (vCl cMinD (vCons (vLc (vISeq (vVar 2)) (vgName 3) vYes (vTup (vCons (vCall v_size_of (vCons (vVar 0) (vCons (vVar 1) (vCons (vVar 3) vNil)))) (vCons (vUn dNeg (vCl cLen (vCons (vVar 3) vNil))) (vCons (vVar 3) vNil)))) [3]) vNil)) (vC (.int 2)))))
def v_least_forms : VP := vFun ["part", "machine", "fitting", "forms"] 2 vb_least_forms
theorem fp_least_forms : FP m_least_forms v_least_forms := by
  unfold m_least_forms v_least_forms b_least_forms vb_least_forms
  exact f_Fun (f_Seq (f_Set (f_Lc (f_ISeq (f_Call fp_sublists (f_Cons (f_Call fp_jump_rows (f_Cons f_Var f_Nil)) f_Nil))) f_gName (f_Not (f_Tru (f_Call fp_unfit_rows (f_Cons f_Var (f_Cons f_Var (f_Cons f_Var f_Nil)))))) f_Var)) (f_Ret (f_Op (f_Cl (f_Cons (f_Lc (f_ISeq f_Var) f_gName f_Yes (f_Tup (f_Cons (f_Call fp_size_of (f_Cons f_Var (f_Cons f_Var (f_Cons f_Var f_Nil)))) (f_Cons (f_Un (f_Cl (f_Cons f_Var f_Nil))) (f_Cons f_Var f_Nil))))) f_Nil)) f_C)))
def b_laid_forms : MS := (mSeq (mIfS (mTest (mCall m_is_even (mCons (mVar 0) mNil))) (mRet (mOp dIx (mCall m_growth (mCons (mVar 0) (mCons (mVar 1) mNil))) (mC (.int 0)))) mNext) (mRet (mCall m_least_forms (mCons (mVar 0) (mCons (mVar 1) mNil)))))
def m_laid_forms : MP := mFun ["part", "machine"] 2 b_laid_forms
def vb_laid_forms : VS := (vSeqS (vIfS (vTest (vCall v_is_even (vCons (vVar 0) vNil))) (vRet (vOp dIx (vCall v_growth (vCons (vVar 0) (vCons (vVar 1) vNil))) (vC (.int 0)))) vNext) (vRet (vCall v_least_forms (vCons (vVar 0) (vCons (vVar 1) vNil)))))
def v_laid_forms : VP := vFun ["part", "machine"] 2 vb_laid_forms
theorem fp_laid_forms : FP m_laid_forms v_laid_forms := by
  unfold m_laid_forms v_laid_forms b_laid_forms vb_laid_forms
  exact f_Fun (f_Seq (f_IfS (f_Test (f_Call fp_is_even (f_Cons f_Var f_Nil))) (f_Ret (f_Op (f_Call fp_growth (f_Cons f_Var (f_Cons f_Var f_Nil))) f_C)) f_Next) (f_Ret (f_Call fp_least_forms (f_Cons f_Var (f_Cons f_Var f_Nil)))))
end RC
end
section
namespace RR
open PySem PySem.Spec L2
open PyProof.Rows hiding St
open PySem.W (alike dataLt minD maxD)
section
variable {X : Cx} {K : PySem.W.Frag}
theorem call_maxD (hc : X.calm = true) (hw : X.A.units + 66 < cLine) : CallR X (.builtin "max") (rMinD X.K maxD) := fun pins s σ H args us Q I r h => by
  obtain ⟨a, vs, x, xs, rfl, hs, hd, ok, q⟩ := h
  obtain ⟨its, rv, hl, _⟩ := I.list hs
  rw [Vals.ref1 r]
  obtain ⟨as, rd⟩ := Dp.readsAll I _ _ its hd rv
  unfold okMin at ok
  rw [Bool.and_eq_true, Bool.and_eq_true, decide_eq_true_eq] at ok
  obtain ⟨⟨o1, o2⟩, o3⟩ := ok
  refine PySem.W.max_list_data (I.ok.hd hc) hl.isList (by simpa using rd) (alikeB_all o1) (by omega) fun i v h' tk bs hv hr hk => ?_
  have hv' : its[i]? = some v := by simpa using hv
  obtain ⟨cs, r2, hi, _, _⟩ := PySem.W.readsAll_at (vs := its) rd i v hv'
  have e : (x :: xs)[i]? = some ((x :: xs).getD i .none) := by
    rw [List.getD_eq_getElem?_getD, List.getElem?_eq_getElem hi]; rfl
  have eq : (x :: xs).getD i .none = maxD x xs := SeqAt.Reads.unique _ _ v cs bs (canLay_at o2 e) (PyProof.Rows.Reads.keeps hk r2) hr
  rw [eq] at e
  have hlen := rv.length
  have hi2 : i < vs.length := by have := (List.getElem?_eq_some_iff.mp hv').1; omega
  obtain ⟨u, e1, e2⟩ := rv.get (List.getElem?_eq_getElem hi2)
  rw [hv'] at e1
  cases e1
  exact ⟨vs[i], H, I.kept (t' := tk) hk, e2, q i _ (List.getElem?_eq_getElem hi2) e⟩
theorem l_maxD : ClL K (rMinD K maxD) cMaxD := fun F H args ds d s r fe Q' k => by
  unfold cMaxD at fe
  split at fe
  · rename_i x xs
    obtain ⟨ok, rfl⟩ := ifs' fe
    obtain ⟨v, w, rfl, r1, r2⟩ := r.uncons
    cases r2.unnil
    obtain ⟨a, vs, rfl, h1, h2⟩ := r1.lst_inv
    have hcl : PyData.canLayAll0 (x :: xs) = true := by
      unfold okMin at ok
      rw [Bool.and_eq_true, Bool.and_eq_true] at ok
      exact ok.1.2
    exact ⟨a, vs, x, xs, rfl, .of (s _ _ h1), Rp.dps _ _ hcl (h2.mono s), ok, fun i v e1 e2 => k v F H (.refl s) (h2.at_ i v _ e1 e2)⟩
  · cases fe
theorem fnMaxD (hK : K = X.K) (hc : X.calm = true) (hx : X.A.units + 66 < cLine) : CallR X (.builtin "max") (rMinD K maxD) := hK ▸ call_maxD hc hx
end
theorem rps_rg {K : PySem.W.Frag} {F : Hp} (a b : Int) : Rps K F (rangeD a (b - a).toNat) (rgV a b) := by
  refine ⟨by rw [rgV_length, rangeD_len], fun i x d hx hd => ?_⟩
  obtain ⟨rfl, hi⟩ := rangeD_get hd
  unfold rgV at hx
  rw [List.getElem?_map, List.getElem?_range hi] at hx
  cases hx
  exact .int _
def okRg (a b : Int) : Prop := 0 ≤ a ∧ a ≤ 1000 ∧ 0 ≤ b ∧ b ≤ 1000
@[reducible] def mLR1 (ma : ME) : ME := fun Γ n Q => ma Γ n fun d n1 => ∃ j, d = .int j ∧ okRg 0 j ∧ Q (.list (rangeD 0 (j - 0).toNat)) n1
instance (a b : Int) : Decidable (okRg a b) := by unfold okRg; infer_instance
theorem okRg.ok {a b : Int} (h : okRg a b) : RgOk a b := RgOk.of_le h.1 (by have := h.2.2.2; omega) (by have := h.2.1; omega) h.2.2.1
section
variable {X : Cx} {p : Pm} {O : List Nat} {a b : Expr} {ta tb : TE} {ma mb : ME} {q pos q2 pos2 : Pos}
theorem lf_rg {te : St → Hp → (Int → Int → Hp → Prop) → Prop} {me : DEnv → Nat → (Int → Int → Nat → Prop) → Prop} (h : ∀ F0 H0 F H σ Γ n (Q : Int → Int → Nat → Prop), Sep p F0 H0 O F H σ Γ n → me Γ n Q → ∀ Q' : Int → Int → Hp → Prop, (∀ i j F1 H1 n1, Sep p F0 H0 O F1 H1 σ Γ n1 → Gp p F H F1 H1 → Q i j n1 → Q' i j H1) → te σ H Q') :
    LF p O (tLstRg te) (fun Γ n Q => me Γ n fun i j n1 => okRg i j ∧ Q (.list (rangeD i (j - i).toNat)) n1) := fun F0 H0 F H σ Γ n Q s q Q' k =>
  h F0 H0 F H σ Γ n _ s q _ fun i j F1 H1 n1 s1 g1 ⟨ok, q1⟩ => ⟨ok.ok, fun x hx => by
    have hx0 : H x = none := by
      cases w : H x with
      | none => rfl
      | some o => rw [g1.h x o w (s1.h0 hx).2] at hx; cases hx
    exact k _ _ F1 _ n1 (s1.gr (Gr.new0 s1.fh hx _)) (g1.trans (Gr.new0 s1.fh hx _).gp) (.lst upd_same (rps_rg i j)) (s1.fh.free hx) hx0 q1⟩
/-- list(range(n)) -/
theorem fRgL1 (hc : X.calm = true) (hgl : Gl X "list") (hm : X.mg "list" = none) (hg : Gl X "range") (hmr : X.mg "range" = none) (ha : RE X p O a ta ma) (na : starEach [a] X.env = (false, eval a X.env) :: starEach [] X.env := by rfl)
    (n1 : starEach [.Call (.Name "range" q2) [a] [] pos2] X.env = (false, eval (.Call (.Name "range" q2) [a] [] pos2) X.env) :: starEach [] X.env := by rfl) : RF X p O (.Call (.Name "list" q) [.Call (.Name "range" q2) [a] [] pos2] [] pos) (tLstRg (tRg1 ta)) (mLR1 ma) :=
  ⟨pe_listRg hc hgl hm (prg_1 hg hmr ha.pe na) n1, by
    refine fun F0 H0 F H σ Γ n Q s q Q' k => lf_rg (me := fun Γ n Q => ma Γ n fun d n1 => ∃ j, d = .int j ∧ Q 0 j n1) (te := tRg1 ta) (fun F0 H0 F H σ Γ n Q s q Q' k => ?_) F0 H0 F H σ Γ n Q s (?_) Q' k
    · refine ha.le F0 H0 F H σ Γ n _ s q _ fun d v F1 H1 n1 s1 g1 r1 ⟨j, e, q1⟩ => ?_
      subst e
      cases r1.int_inv
      exact ⟨j, rfl, k _ _ F1 H1 n1 s1 g1 q1⟩
    · exact q⟩
end
end RR
namespace RR
open PySem PySem.Spec L2
open PyProof.Rows hiding St
section
variable {ma mb : ME} {va vb : VE}
def vLR1 (v : VE) : VE := fun Γ => (v Γ).bind fun d => match d with
  | .int j => if okRg 0 j then some (.list (rangeD 0 (j - 0).toNat)) else none
  | _ => none
theorem f_LR1 (h : FE ma va) : FE (mLR1 ma) (vLR1 va) := fun Γ n d Q e q => by
  obtain ⟨y, h1, h2⟩ := bnd e
  split at h2
  · split at h2
    · cases h2
      exact h Γ n _ _ h1 ⟨_, rfl, by assumption, q⟩
    · cases h2
  · cases h2
end
end RR
end
section
namespace Prm
open PySem PySem.Spec
open Sem (wp)
abbrev cT : String := "itertools.permutations"
theorem c_mro : mroOf (.type cT) = pure [.type cT, .type "object"] := by rw [mroOf_type]; kernel_rfl
theorem c_new : typeLookup (.type cT) "__new__" = pure (some (.builtin "itertools.permutations.__new__")) := by rw [typeLookup_type, builtinLookup_eq_fast]; kernel_rfl
theorem c_init : Slot cT "__init__" "object.__init__" :=
  .of (owner := "object") (n := "__init__") (by rw [typeLookup_type, builtinLookup_eq_fast]; kernel_rfl) (by decide +kernel) (by decide +kernel) (by decide +kernel) (by first | exact .inl (by decide +kernel) | exact .inr (by decide +kernel)) (by rw [isSubtype_type]; kernel_rfl)
theorem c_sub : isSubtype (.type cT) (.type cT) = pure true := by rw [isSubtype_type]; kernel_rfl
theorem c_called : TypeCalled cT "itertools.permutations.__new__" "object.__init__" := ⟨by decide +kernel, by decide +kernel, ⟨_, _, c_mro⟩, madeBy_type c_mro c_new (by decide +kernel), by decide +kernel, c_sub, c_init⟩
theorem c_tcall (a : Value) : checkTypeCall cT ⟨[a], []⟩ = pure () := by kernel_rfl
theorem c_ncall (a : Value) : checkBuiltinCall "itertools.permutations.__new__" ⟨[.type cT, a], []⟩ = pure () := by kernel_rfl
theorem c_entryN : entryFor table "itertools.permutations.__new__" = some Builtin.«itertools.permutations.__new__» := entryFor_of_tree (by kernel_rfl)
theorem c_iter : Slot cT "__iter__" "itertools.permutations.__iter__" :=
  .of (owner := "itertools.permutations") (n := "__iter__") (by rw [typeLookup_type, builtinLookup_eq_fast]; kernel_rfl) (by decide +kernel) (by decide +kernel) (by decide +kernel) (by first | exact .inl (by decide +kernel) | exact .inr (by decide +kernel)) c_sub
theorem c_next : Slot cT "__next__" "itertools.permutations.__next__" :=
  .of (owner := "itertools.permutations") (n := "__next__") (by rw [typeLookup_type, builtinLookup_eq_fast]; kernel_rfl) (by decide +kernel) (by decide +kernel) (by decide +kernel) (by first | exact .inl (by decide +kernel) | exact .inr (by decide +kernel)) c_sub
theorem c_entryI : entryFor table "itertools.permutations.__iter__" = some Builtin.«dict_keyiterator.__iter__» :=
  entryFor_alias (id' := "dict_keyiterator.__iter__") (by kernel_rfl) (by first | rfl | decide +kernel | (unfold String.splitOn; simp +decide [String.splitOnAux])) (by decide +kernel) (by kernel_rfl)
theorem c_entryX : entryFor table "itertools.permutations.__next__" = some Builtin.«itertools.permutations.__next__» := entryFor_of_tree (by kernel_rfl)
theorem c_owner : Manifest.owners.lookup (String.ofList ['s', 'n', 'o', 'i', 't', 'a', 't', 'u', 'm', 'r', 'e', 'p', '.', 's', 'l', 'o', 'o', 't', 'r', 'e', 't', 'i'].reverse) = some Manifest.sig_itertools_permutations := by kernel_rfl
theorem c_argsI (a : Value) : argsOk "itertools.permutations.__iter__" ⟨[a], []⟩ := by
  unfold argsOk; rw [signature?_of (id := "itertools.permutations.__iter__") (n := ['_', '_', 'r', 'e', 't', 'i', '_', '_']) (o := ['s', 'n', 'o', 'i', 't', 'a', 't', 'u', 'm', 'r', 'e', 'p', '.', 's', 'l', 'o', 'o', 't', 'r', 'e', 't', 'i']) (by kernel_rfl) c_owner]; kernel_rfl
theorem c_argsX (a : Value) : argsOk "itertools.permutations.__next__" ⟨[a], []⟩ := by
  unfold argsOk; rw [signature?_of (id := "itertools.permutations.__next__") (n := ['_', '_', 't', 'x', 'e', 'n', '_', '_']) (o := ['s', 'n', 'o', 'i', 't', 'a', 't', 'u', 'm', 'r', 'e', 'p', '.', 's', 'l', 'o', 'o', 't', 'r', 'e', 't', 'i']) (by kernel_rfl) c_owner]; kernel_rfl
theorem c_noDict : typeHasDict (.type cT) = false := by decide +kernel
/-- the record: the pool, where it stands, how many, what it handed out, the indices and the cycles -/
def pObj (P : Addr) (st : Int) (r : Nat) (res : Value) (ix : List Nat) : Obj := { cls := .type cT, data := .fields ([.ref P, rawInt st, rawInt (r : Int), res] ++ ix.map fun (i : Nat) => rawInt i).toArray }
abbrev IsP (h : Heap) (it P : Addr) (st : Int) (r : Nat) (res : Value) (ix : List Nat) : Prop := h.get? it = some (pObj P st r res ix)
/-- one behind another, as the model steps -/
def nextP (n : Nat) : (place : Nat) → (indices cycles : List Nat) → Option (List Nat × List Nat)
  | 0, _, _ => none
  | i + 1, indices, cycles =>
    let c := cycles.getD i 0 - 1
    if c == 0 then nextP n i (indices.take i ++ indices.drop (i + 1) ++ [indices.getD i 0]) (cycles.set i (n - i))
    else some ((indices.set i (indices.getD (n - c) 0)).set (n - c) (indices.getD i 0), cycles.set i c)
/-- the first numbers: indices, then cycles -/
def nums0 (n : Nat) : List Nat := List.range n ++ (List.range n).map fun i => n - i
end Prm
end
section
namespace Prm
open PySem PySem.Spec L2
open Sem (wp)
open PyProof.Rows
theorem meets_pnew (l : Addr) (a b : Int) (t u v : Tok) (n : Nat) (hs : Builtin.Range.small a b 1 = true) (hn : Builtin.Range.rangeSize a b 1 = n) (hv : n ≤ 1000) : Meets (Builtin.«itertools.permutations.__new__» ⟨[.type cT, .ref l], []⟩)
    (fun A R s => A.handled = none ∧ IsRange s.heap l a b 1 t u v ∧
      ∀ (h' : Heap) (tk : Nat) (vs : Array Value), (∀ b o, s.heap.get? b = some o → h'.get? b = some o) → ItemsOf (fun i v => ∃ t, v = .int (a + i * 1) t) vs n → R (.ok (.ret (.ref (h'.objs.size + 1)))) { s with heap := (h'.push { cls := .type "tuple", data := .seq vs }).push (pObj h'.objs.size 0 n .none (nums0 n)), toks := tk }) :=
  .of_wp fun prog w A R s h => by
    obtain ⟨hh, hl, h⟩ := h
    obtain ⟨hp, g, dd, tk, os⟩ := s
    have hsub := c_sub
    repeat (first
      | wp_step
      | simp only [List.head?_cons, Option.some_or, List.getElem?_cons_succ, List.getElem?_cons_zero, List.length_cons, List.length_nil, List.forIn_nil])
    refine wpAny_of_eq (a := true) (show isSubtype (.type cT) (.type ("itertools." ++ "permutations")) = pure true from c_sub) ?_
    rw [if_neg (show ¬ ((!true) = true) by decide)]
    repeat ((fail_if_success (with_reducible refine wpAny_bind (m := collect _) ?_)); first
      | wp_step
      | simp only [List.head?_cons, Option.some_or, List.getElem?_cons_succ, List.getElem?_cons_zero, List.length_cons, List.length_nil, List.forIn_nil])
    refine wpAny_bind (m := collect _) (collect_range (s := ⟨hp, g, dd, tk, os⟩) hh hl hs hn (Nat.le_trans hv (by decide)) fun h' tk' acc hk hi => ?_)
    have hlen : acc.toList.length = n := by rw [Array.length_toList]; exact hi.1
    show wpAny _ _ ((pure (acc.toList.length : Int) : Sem Int) >>= _) _ _ _
    rw [hlen]
    refine wpAny_bind (wpAny_pure ?_)
    rw [if_neg (show ¬ ((n : Int) < 0) by omega), if_neg (show ¬ (Builtin.Itertools.itTooMany (n : Int) = true) by
      unfold Builtin.Itertools.itTooMany
      simp only [decide_eq_true_eq]
      omega)]
    refine wpAny_bind (wpAny_newTuple ?_ (by rw [hlen]; exact Nat.le_trans hv (by decide)))
    dsimp only
    unfold Builtin.Itertools.itNewRecord
    rw [c_noDict]
    simp only [Bool.not_false, if_true]
    have en : (List.map (fun (i : Nat) => rawInt (i : Int)) (List.range n) ++ List.map (fun (i : Nat) => rawInt ((n : Int) - (i : Int))) (List.range n)) = (nums0 n).map fun (i : Nat) => rawInt (i : Int) := by
      unfold nums0
      rw [List.map_append, List.map_map]
      congr 1
      refine List.map_congr_left fun i hi => ?_
      have := List.mem_range.mp hi
      show rawInt ((n : Int) - (i : Int)) = rawInt (((n - i : Nat)) : Int)
      congr 1
      omega
    have eo : ∀ P : Addr, ({ cls := .type cT, data := .fields ([Value.ref P, rawInt (if (n : Int).toNat > n then 2 else 0), rawInt ((n : Int).toNat : Int), Value.none] ++ List.map (fun (i : Nat) => rawInt (i : Int)) (List.range n) ++ List.map (fun (i : Nat) => rawInt ((n : Int) - (i : Int))) (List.range (n : Int).toNat)).toArray } : Obj) = pObj P 0 n .none (nums0 n) := fun P => by
      unfold pObj
      rw [← en, Int.toNat_natCast, if_neg (Nat.lt_irrefl n), List.append_assoc]
    refine wpAny_bind (wpAny_newObj_type ?_ ?_)
    · refine wpAny_pure ⟨_, rfl, ?_⟩
      have z := h h' tk' acc hk hi
      rw [← eo] at z
      simpa only [Heap.size_push] using z
    · show (List.toArray _).size ≤ sizeLine + 2
      have : 2005 ≤ sizeLine + 2 := by decide
      simp
      omega
end Prm
end
section
namespace Prm
open PySem PySem.Spec L2
open Sem (wp)
open PyProof.Rows hiding St
section
variable {prog : Program} {w : World} {A : Around} {E : Value → Shared → Prop} {s : Shared}
theorem call_perm {l : Addr} {a b : Int} {t u v : Tok} {n : Nat} {Q : Value → Shared → Prop} (hh : A.handled = none) (hs : Builtin.Range.small a b 1 = true) (hn : Builtin.Range.rangeSize a b 1 = n) (hv : n ≤ 1000) (hl : IsRange s.heap l a b 1 t u v)
    (h : ∀ (h' : Heap) (tk : Nat) (vs : Array Value), (∀ b o, s.heap.get? b = some o → h'.get? b = some o) → ItemsOf (fun i v => ∃ t, v = .int (a + i * 1) t) vs n →
      Q (.ref (h'.objs.size + 1)) { s with heap := (h'.push { cls := .type "tuple", data := .seq vs }).push (pObj h'.objs.size 0 n .none (nums0 n)), toks := tk }) :
    wpAny (model prog w) A (call (.type cT) [.ref l]) Q E s := by
  refine callType_new c_called (by decide +kernel) (c_tcall _) (c_ncall _) (fun obj => F.args_object_init_2 obj _) c_entryN (meets_pnew l a b t u v n hs hn hv) ⟨hh, hl, fun h' tk vs hk hi => ?_⟩
  have g1 : ((h'.push { cls := .type "tuple", data := .seq vs }).push (pObj h'.objs.size 0 n .none (nums0 n))).get? (h'.objs.size + 1) = some (pObj h'.objs.size 0 n .none (nums0 n)) := by
    have := Heap.get?_push_size (o := pObj h'.objs.size 0 n .none (nums0 n)) (h'.push { cls := .type "tuple", data := .seq vs }) rfl
    rwa [Heap.size_push] at this
  exact ⟨⟨_, g1, rfl⟩, h h' tk vs hk hi⟩
theorem iter_perm {it P : Addr} {st : Int} {r : Nat} {res : Value} {ix : List Nat} {Q : Value → Shared → Prop} (hit : IsP s.heap it P st r res ix) (h : Q (.ref it) s) : wpAny (model prog w) A (pyIter (.ref it)) Q E s := by
  have hT : s.TypeIs (.ref it) cT := ⟨_, hit, rfl⟩
  refine wpAny_pyIter_slot hT c_iter (wpAny_call_entry c_iter hT c_entryI ?_ (c_argsI _))
  show wpAny _ _ (ret (.ref it)) _ _ s
  exact wpAny_pure ⟨_, rfl, cT, _, hT, c_next.lookup, h⟩
theorem nums_of {a b c d : Value} {ix : List Nat} (f : Value → Nat) (hf : ∀ n t, f (.int n t) = n.toNat) : List.map f (List.drop 4 ([a, b, c, d] ++ ix.map fun (i : Nat) => rawInt i).toArray.toList) = ix := by
  show List.map f (ix.map fun (i : Nat) => rawInt i) = ix
  rw [List.map_map]
  have e : (f ∘ fun (i : Nat) => rawInt i) = id := by
    funext i
    exact (hf _ _).trans (Int.toNat_natCast i)
  rw [e, List.map_id]
theorem obj_set1 {P : Addr} {st st' : Int} {r : Nat} {res : Value} {ix : List Nat} : (pObj P st r res ix).mapFields (fun x => x.setIfInBounds 1 (rawInt st')) = pObj P st' r res ix := by
  unfold pObj Obj.mapFields
  simp
theorem obj_set3 {P : Addr} {st : Int} {r : Nat} {res res' : Value} {ix : List Nat} : (pObj P st r res ix).mapFields (fun x => x.setIfInBounds 3 res') = pObj P st r res' ix := by
  unfold pObj Obj.mapFields
  simp
theorem obj_ix {P : Addr} {st : Int} {r : Nat} {res : Value} {ix ix' : List Nat} : (pObj P st r res ix).mapFields (fun fs => fs.extract 0 4 ++ (ix'.map fun (n : Nat) => rawInt n).toArray) = pObj P st r res ix' := by
  unfold pObj Obj.mapFields
  simp
end
section
variable {M : Model} {A : Around} {E : Value → Shared → Prop} {s : Shared} {it P : Addr} {st : Int} {r : Nat} {res : Value} {ix : List Nat} {vs : Array Value}
theorem w_nums {Q : List Nat → Shared → Prop} (hit : IsP s.heap it P st r res ix) (h : Q ix s) : wpAny M A (Builtin.Itertools.itNumbersFrom (.ref it) 4) Q E s := by
  unfold Builtin.Itertools.itNumbersFrom
  refine wpAny_bind (wpAny_load hit (wpAny_pure ?_))
  rw [nums_of _ (fun _ _ => rfl)]
  exact h
theorem w_int {Q : Int → Shared → Prop} (hit : IsP s.heap it P st r res ix) (h : Q st s) : wpAny M A (Builtin.Itertools.itIntField (.ref it) 1) Q E s := by
  unfold Builtin.Itertools.itIntField
  exact wpAny_bind (wpAny_field hit rfl (x := rawInt st) rfl (wpAny_pure h))
theorem w_r {Q : Int → Shared → Prop} (hit : IsP s.heap it P st r res ix) (h : Q (r : Int) s) : wpAny M A (Builtin.Itertools.itIntField (.ref it) 2) Q E s := by
  unfold Builtin.Itertools.itIntField
  exact wpAny_bind (wpAny_field hit rfl (x := rawInt (r : Int)) rfl (wpAny_pure h))
theorem w_pool {Q : Array Value → Shared → Prop} (hP : s.heap.get? P = some { cls := .type "tuple", data := .seq vs }) (h : Q vs s) : wpAny M A (Builtin.Itertools.itPoolItems (.ref P)) Q E s := by
  unfold Builtin.Itertools.itPoolItems
  exact wpAny_bind (wpAny_seqItems hP rfl (wpAny_pure h))
/-- what is handed out: a new tuple, kept in the record -/
theorem w_hand {Q : PySem.Fin → Shared → Prop} {ts : List Value} (hx : ts.length ≤ 1000) (hit : IsP s.heap it P st r res ix)
    (h : ∀ h' : Heap, (∀ b o, b ≠ it → s.heap.get? b = some o → h'.get? b = some o) → IsP h' it P st r (.ref s.heap.objs.size) ix → h'.get? s.heap.objs.size = some { cls := .type "tuple", data := .seq ts.toArray } → Q (.done (.ret (.ref s.heap.objs.size))) { s with heap := h' }) :
    wpAny M A (do
      let t ← newTuple ts
      let before ← field (.ref it) 3
      setField (.ref it) 3 t
      letGo [before] [t]
      ret t) Q E s := by
  refine wpAny_bind (wpAny_newTuple ?_ (Nat.le_trans hx (by decide)))
  have lt := Heap.lt_size hit
  have g1 : (s.heap.push { cls := .type "tuple", data := .seq ts.toArray }).get? it = some (pObj P st r res ix) := Heap.get?_push_of_some _ hit
  refine wpAny_bind (wpAny_field g1 rfl (x := res) rfl (wpAny_bind (wpAny_setField g1 rfl (by simp) (wpAny_bind (wpAny_letGo (wpAny_pure ?_))))))
  refine h _ (fun b o ne q => ?_) ?_ ?_
  · exact (Heap.SameBut.update ..).2 b ne |>.trans (Heap.get?_push_of_some _ q)
  · have z := Heap.get?_update_self (Obj.mapFields fun x => x.setIfInBounds 3 (.ref s.heap.objs.size)) g1 rfl
    rw [obj_set3] at z
    exact z
  · exact ((Heap.SameBut.update ..).2 _ (Nat.ne_of_gt lt)).trans (Heap.get?_push_size _ rfl)
end
section
variable {prog : Program} {w : World} {A : Around} {E : Value → Shared → Prop} {s : Shared} {it P : Addr} {st : Int} {r : Nat} {res : Value} {ix cy ix' cy' : List Nat} {vs : Array Value}
theorem upd_keep {h : Heap} {f : Obj → Obj} {b : Addr} {o : Obj} (ne : b ≠ it) (q : h.get? b = some o) : (h.update it f).get? b = some o := ((Heap.SameBut.update ..).2 b ne).trans q
theorem next_eq {f : Nat → Nat → List Nat → List Nat → Option (List Nat × List Nat)} (h0 : ∀ n a b, f n 0 a b = none) (h1 : ∀ n i a b, f n (i + 1) a b = if (b.getD i 0 - 1 == 0) = true then f n i (a.take i ++ a.drop (i + 1) ++ [a.getD i 0]) (b.set i (n - i)) else some ((a.set i (a.getD (n - (b.getD i 0 - 1)) 0)).set (n - (b.getD i 0 - 1)) (a.getD i 0), b.set i (b.getD i 0 - 1))) : ∀ n p a b, f n p a b = nextP n p a b
  | n, 0, a, b => h0 n a b
  | n, i + 1, a, b => by
    rw [h1, next_eq h0 h1 n i]
    rfl
theorem next_from {f : Nat → Nat → List Nat → List Nat → Option (List Nat × List Nat)} {n r : Nat} {a b : List Nat} {X : Option (List Nat × List Nat)} (heq : f n r a b = X) (hf : ∀ n p a b, f n p a b = nextP n p a b) : nextP n r a b = X := (hf n r a b).symm.trans heq
/-- the first one -/
theorem perm_start {Q : Option Value → Shared → Prop} (hit : IsP s.heap it P 0 vs.size res (ix ++ cy)) (hi : ix.length = vs.size) (hP : s.heap.get? P = some { cls := .type "tuple", data := .seq vs }) (ne : P ≠ it) (hx : vs.size ≤ 1000)
    (hQ : ∀ h' : Heap, (∀ b o, b ≠ it → s.heap.get? b = some o → h'.get? b = some o) → IsP h' it P 1 vs.size (.ref s.heap.objs.size) (ix ++ cy) → h'.get? s.heap.objs.size = some { cls := .type "tuple", data := .seq (ix.map fun i => vs.getD i .none).toArray } → Q (some (.ref s.heap.objs.size)) { s with heap := h' }) :
    wpAny (model prog w) A (callSpecial? (.ref it) "__next__") Q E s := by
  have hT : s.TypeIs (.ref it) cT := ⟨_, hit, rfl⟩
  refine wpAny_callSpecial?_slot (name := Str.ofString "__next__") hT c_next (wpAny_call_entry c_next hT c_entryX ?_ (c_argsX _))
  show wpAny _ _ (field (.ref it) 0 >>= _) _ _ s
  refine wpAny_bind (wpAny_field hit rfl (x := .ref P) rfl (wpAny_bind (w_pool hP (wpAny_bind (w_r hit (wpAny_bind (w_nums hit (wpAny_bind (w_int hit ?_)))))))))
  dsimp only
  refine wpAny_bind (wpAny_setField hit rfl (by simp) ?_)
  have g1 : IsP (s.heap.update it (Obj.mapFields fun x => x.setIfInBounds 1 (rawInt 1))) it P 1 vs.size res (ix ++ cy) := by
    have z := Heap.get?_update_self (Obj.mapFields fun x => x.setIfInBounds 1 (rawInt 1)) hit rfl
    rw [obj_set1] at z
    exact z
  have sz : (s.heap.update it (Obj.mapFields fun x => x.setIfInBounds 1 (rawInt 1))).objs.size = s.heap.objs.size := Heap.size_update ..
  have et : List.take (Int.toNat (vs.size : Int)) (ix ++ cy) = ix := by rw [Int.toNat_natCast, ← hi, List.take_left]
  rw [et]
  refine w_hand (by rw [List.length_map, hi]; exact hx) g1 fun h' k i1 t1 => ?_
  rw [sz] at i1 t1 ⊢
  exact ⟨_, rfl, hQ h' (fun b o nb q => k b o nb (upd_keep nb q)) i1 t1⟩
/-- one more -/
theorem perm_step {Q : Option Value → Shared → Prop} (hit : IsP s.heap it P 1 vs.size res (ix ++ cy)) (hi : ix.length = vs.size) (hP : s.heap.get? P = some { cls := .type "tuple", data := .seq vs }) (ne : P ≠ it) (hn : nextP vs.size vs.size ix cy = some (ix', cy')) (hi' : ix'.length = vs.size) (hc' : cy'.length = vs.size) (hx : vs.size ≤ 1000)
    (hQ : ∀ h' : Heap, (∀ b o, b ≠ it → s.heap.get? b = some o → h'.get? b = some o) → IsP h' it P 1 vs.size (.ref s.heap.objs.size) (ix' ++ cy') → h'.get? s.heap.objs.size = some { cls := .type "tuple", data := .seq (ix'.map fun i => vs.getD i .none).toArray } → Q (some (.ref s.heap.objs.size)) { s with heap := h' }) :
    wpAny (model prog w) A (callSpecial? (.ref it) "__next__") Q E s := by
  have hT : s.TypeIs (.ref it) cT := ⟨_, hit, rfl⟩
  refine wpAny_callSpecial?_slot (name := Str.ofString "__next__") hT c_next (wpAny_call_entry c_next hT c_entryX ?_ (c_argsX _))
  show wpAny _ _ (field (.ref it) 0 >>= _) _ _ s
  refine wpAny_bind (wpAny_field hit rfl (x := .ref P) rfl (wpAny_bind (w_pool hP (wpAny_bind (w_r hit (wpAny_bind (w_nums hit (wpAny_bind (w_int hit ?_)))))))))
  dsimp only
  have et : List.take vs.size (ix ++ cy) = ix := by rw [← hi, List.take_left]
  have ed : List.drop vs.size (ix ++ cy) = cy := by rw [← hi, List.drop_left]
  rw [et, ed, Int.toNat_natCast]
  split
  · rename_i h; exact absurd h (by decide)
  · split
    · rename_i i1 c1 heq
      have heq := next_from heq (next_eq (fun _ _ _ => rfl) (fun _ _ _ _ => rfl))
      rw [hn] at heq
      cases heq
      have sz1 : ∀ {f : Obj → Obj}, (s.heap.update it f).objs.size = s.heap.objs.size := fun {f} => Heap.size_update ..
      have set : ∀ {Q' : Unit → Shared → Prop}, (∀ h1 : Heap, (∀ b o, b ≠ it → s.heap.get? b = some o → h1.get? b = some o) → h1.objs.size = s.heap.objs.size → IsP h1 it P 1 vs.size res (ix' ++ cy') → Q' () { s with heap := h1 }) → wpAny (model prog w) A.in1 (Builtin.Itertools.itSetNumbersFrom (.ref it) 4 (ix' ++ cy')) Q' E s := fun {Q'} h => by
        unfold Builtin.Itertools.itSetNumbersFrom
        refine wpAny_updateFields hit rfl (h _ (fun b o nb q => upd_keep nb q) sz1 ?_) ?_
        · have z := Heap.get?_update_self (Obj.mapFields fun fs => fs.extract 0 4 ++ ((ix' ++ cy').map fun (n : Nat) => rawInt n).toArray) hit rfl
          rw [obj_ix] at z
          exact z
        · have : 2005 ≤ sizeLine + 2 := by decide
          simp
          omega
      refine wpAny_bind (set fun h1 k1 z1 g1 => ?_)
      have et' : List.take vs.size ix' = ix' := by rw [← hi', List.take_length]
      rw [et']
      refine w_hand (by rw [List.length_map, hi']; exact hx) g1 fun h' k i1 t1 => ?_
      rw [z1] at i1 t1 ⊢
      exact ⟨_, rfl, hQ h' (fun b o nb q => k b o nb (k1 b o nb q)) i1 t1⟩
    · rename_i heq
      have heq := next_from heq (next_eq (fun _ _ _ => rfl) (fun _ _ _ _ => rfl))
      rw [hn] at heq; cases heq
  · rename_i h1 h2; exact absurd rfl h2
/-- the end: no more -/
theorem perm_stop {Q : Option Value → Shared → Prop} (hh : A.handled = none) (hit : IsP s.heap it P 1 vs.size res (ix ++ cy)) (hi : ix.length = vs.size) (hP : s.heap.get? P = some { cls := .type "tuple", data := .seq vs }) (hn : nextP vs.size vs.size ix cy = none)
    (hQ : ∀ e h', CpRep.StopE e h' → (∀ b o, b ≠ it → s.heap.get? b = some o → h'.get? b = some o) → E e { s with heap := h' }) : wpAny (model prog w) A (callSpecial? (.ref it) "__next__") Q E s := by
  have hT : s.TypeIs (.ref it) cT := ⟨_, hit, rfl⟩
  refine wpAny_callSpecial?_slot (name := Str.ofString "__next__") hT c_next (wpAny_call_entry c_next hT c_entryX ?_ (c_argsX _))
  show wpAny _ _ (field (.ref it) 0 >>= _) _ _ s
  refine wpAny_bind (wpAny_field hit rfl (x := .ref P) rfl (wpAny_bind (w_pool hP (wpAny_bind (w_r hit (wpAny_bind (w_nums hit (wpAny_bind (w_int hit ?_)))))))))
  have stop : ∀ {α : Type} {Q' : α → Shared → Prop} {h1 : Heap}, (∀ b o, b ≠ it → s.heap.get? b = some o → h1.get? b = some o) → wpAny (model prog w) A.in1 (Builtin.Itertools.itStop : Sem α) Q' E { s with heap := h1 } := fun {α Q' h1} k1 => by
    unfold Builtin.Itertools.itStop
    refine wpAny_bind ?_
    simp only [newExc, newTuple]
    refine wpAny_bind (wpAny_newObj_type ?_ (by size_fits))
    refine wpAny_bind (m := firstArgMember _ _) (wpAny_of_eq (a := Value.none) (by first | rfl | (simp only [firstArgMember]; rfl)) ?_)
    refine wpAny_newObj_type ?_ (by size_fits)
    simp only [raiseNew]
    refine wpAny_bind (wpAny_handled ?_)
    first | rw [show A.in1.handled = none from hh] | rw [hh]
    refine wpAny_bind (wpAny_pure (wpAny_throw ?_))
    exact hQ _ _ ⟨_, _, _, rfl, Heap.get?_push_size _ rfl, rfl, rfl, rfl⟩ fun b o nb q => Heap.get?_push_of_some _ (Heap.get?_push_of_some _ (k1 b o nb q))
  dsimp only
  have et : List.take vs.size (ix ++ cy) = ix := by rw [← hi, List.take_left]
  have ed : List.drop vs.size (ix ++ cy) = cy := by rw [← hi, List.drop_left]
  rw [et, ed, Int.toNat_natCast]
  split
  · rename_i h; exact absurd h (by decide)
  · split
    · rename_i i1 c1 heq
      have heq := next_from heq (next_eq (fun _ _ _ => rfl) (fun _ _ _ _ => rfl))
      rw [hn] at heq; cases heq
    · rename_i heq
      have heq := next_from heq (next_eq (fun _ _ _ => rfl) (fun _ _ _ _ => rfl))
      exact wpAny_bind (wpAny_setField hit rfl (by simp) (stop fun b o nb q => upd_keep nb q))
  · rename_i h1 h2; exact absurd rfl h2
end
end Prm
end
section
namespace Prm
open PySem PySem.Spec L2
open PyProof.Rows hiding St
def cyc0 (n : Nat) : List Nat := (List.range n).map fun i => n - i
/-- the indices and cycles in their order -/
structure ChainP (n : Nat) (cs : List (List Nat × List Nat)) : Prop where
  first : cs[0]? = some (List.range n, cyc0 n)
  step : ∀ (i : Nat) a b, cs[i]? = some a → cs[i + 1]? = some b → nextP n n a.1 a.2 = some b
  last : ∀ (i : Nat) a, cs[i]? = some a → cs[i + 1]? = none → nextP n n a.1 a.2 = none
  short : ∀ a ∈ cs, a.1.length = n ∧ a.2.length = n
/-- the tuples that come, one by one, each new -/
def ItPm (xs : List V) (cs : List (List Nat × List Nat)) : It :=
  ⟨fun i _ => i < cs.length, fun i H v H' => ∃ T c, cs[i]? = some c ∧ v = .ref T ∧ H T = none ∧ H' = upd H T (.tup (c.1.map fun j => xs.getD j .non)), fun i _ => cs.length ≤ i⟩
/-- where the record stands at turn i -/
def tnP (it P : Addr) (us : List Value) (cs : List (List Nat × List Nat)) (i : Nat) (h : Heap) : Prop :=
  h.get? P = some { cls := .type "tuple", data := .seq us.toArray } ∧ ∃ (res : Value) (c : List Nat × List Nat),
    (i = 0 ∧ IsP h it P 0 us.toArray.size res (c.1 ++ c.2) ∧ cs[0]? = some c) ∨ (0 < i ∧ IsP h it P 1 us.toArray.size res (c.1 ++ c.2) ∧ cs[i - 1]? = some c)
section
variable {prog : Program} {w : World} {A : Around} {E : Value → Shared → Prop} {s : Shared} {it P : Addr} {st : Int} {res : Value} {us : List Value}
theorem turn_perm {K : PySem.W.Frag} {tg : Expr} {xs : List V} {cs : List (List Nat × List Nat)} (rv : Vals xs us) (ne : P ≠ it) (C : ChainP us.toArray.size cs) (hr : us.toArray.size ≤ 1000) : Turn prog w K tg (ItPm xs cs) [it, P] it (tnP it P us cs) where
  mem := by simp
  obj := fun i h ⟨hP, res, c, hc⟩ b hb => by
    have e : b = it ∨ b = P := by simpa using hb
    rcases e with rfl | rfl
    · rcases hc with ⟨_, hc, _⟩ | ⟨_, hc, _⟩
      · exact ⟨_, hc, fun v z => nomatch z⟩
      · exact ⟨_, hc, fun v z => nomatch z⟩
    · exact ⟨_, hP, fun v z => nomatch z⟩
  keep := fun i h h' ⟨hP, res, c, hc⟩ k => ⟨k P (by simp) _ hP, res, c, hc.imp (fun ⟨a, b, c⟩ => ⟨a, k it (by simp) _ b, c⟩) fun ⟨a, b, c⟩ => ⟨a, k it (by simp) _ b, c⟩⟩
  item := by
    intro X hP hw hK hc i pins s σ H E I hf st hg
    subst hP hw hK
    have hi : i < cs.length := hg
    obtain ⟨hPo, res, c, hst⟩ := st
    have hx : cs[i]? = some cs[i] := List.getElem?_eq_getElem hi
    have hsh := C.short _ (List.getElem_mem hi)
    have out : ∀ {h' : Heap}, (∀ b o, b ≠ it → s.heap.get? b = some o → h'.get? b = some o) → IsP h' it P 1 us.toArray.size (.ref s.heap.objs.size) (cs[i].1 ++ cs[i].2) → h'.get? s.heap.objs.size = some { cls := .type "tuple", data := .seq (cs[i].1.map fun j => us.toArray.getD j .none).toArray } →
        ∃ u, some (Value.ref s.heap.objs.size) = some u ∧ wpAny (model X.prog X.w) X.A (letOwnedTupleGo tg (.ref it) u) (fun _ s2 => ∃ x H', Inv X pins σ H' s2 ∧ RelV x u ∧ (ItPm xs cs).yld i H x H' ∧ tnP it P us cs (i + 1) s2.heap ∧ ∀ b ∈ [it, P], H' b = none) E { s with heap := h' } := fun {h'} k g1 t1 => by
      have lit : it < s.heap.objs.size := by rcases hst with ⟨_, q, _⟩ | ⟨_, q, _⟩ <;> exact Heap.lt_size q
      have lP : P < s.heap.objs.size := Heap.lt_size hPo
      have vm := Cmb.vals_map rv cs[i].1
      have new : ObjOk X.prog X.w (upd H s.heap.objs.size (.tup (cs[i].1.map fun j => xs.getD j .non))) h' s.heap.objs.size (.tup (cs[i].1.map fun j => xs.getD j .non)) :=
        ⟨by rw [List.length_map, hsh.1]; exact Nat.le_trans hr (by decide), _, vm, ⟨_, t1, rfl, _, rfl⟩⟩
      have I1 : Inv X pins σ (upd H s.heap.objs.size (.tup (cs[i].1.map fun j => xs.getD j .non))) { s with heap := h' } :=
        I.turnedNew (t' := s.toks) (ch := [it, P]) (fun b o hb q => k b o (fun z => hb (by simp [z])) q) hf (Nat.le_refl _) new
      refine ⟨_, rfl, go_of (s := { s with heap := h' }) (n := cT) g1 rfl rfl (by decide) ⟨.ref s.heap.objs.size, _, I1, rfl, ⟨_, _, hx, rfl, I.hok.fresh (Nat.le_refl _), rfl⟩, ⟨k P _ ne hPo, _, cs[i], .inr ⟨Nat.succ_pos i, g1, hx⟩⟩, fun b hb => ?_⟩⟩
      have lt : b < s.heap.objs.size := by
        have e : b = it ∨ b = P := by simpa using hb
        rcases e with rfl | rfl
        · exact lit
        · exact lP
      rw [upd_ne (Nat.ne_of_lt lt)]
      exact (hf b hb).1
    unfold pyNext
    rcases hst with ⟨rfl, q, hq⟩ | ⟨i0, q, hq⟩
    · rw [hx] at hq
      cases hq
      exact wpAny_bind (wpAny_attempt (perm_start q hsh.1 hPo ne hr fun h' k g1 t1 => wpAny_pure (out k g1 t1)))
    · obtain ⟨j, rfl⟩ : ∃ j, i = j + 1 := ⟨i - 1, by omega⟩
      have hn := C.step j c cs[j + 1] hq hx
      have hsc := C.short c (List.mem_of_getElem? hq)
      exact wpAny_bind (wpAny_attempt (perm_step q hsc.1 hPo ne hn hsh.1 hsh.2 hr fun h' k g1 t1 => wpAny_pure (out k g1 t1)))
  done := by
    intro X hP hw hK hc i pins s σ H E I hf st hg
    subst hP hw hK
    have hi : cs.length ≤ i := hg
    obtain ⟨hPo, res, c, hst⟩ := st
    rcases hst with ⟨rfl, q, hq⟩ | ⟨i0, q, hq⟩
    · rw [List.getElem?_eq_none hi] at hq
      cases hq
    · have hl := (List.getElem?_eq_some_iff.mp hq).1
      have e : i - 1 + 1 = i := by omega
      have hsc := C.short c (List.mem_of_getElem? hq)
      unfold pyNext
      refine wpAny_bind (wpAny_attempt (perm_stop (I.ok.hd hc) q hsc.1 hPo (C.last (i - 1) c hq (by rw [e]; exact List.getElem?_eq_none hi)) fun e h' he k => ?_))
      obtain ⟨a, o, vs, rfl, ho, hcl, _⟩ := he
      refine wpAny_bind (wpAny_isInstance (T := "StopIteration") (b := true) ⟨o, ho, hcl⟩ isSubtype_stop ?_)
      exact wpAny_pure ⟨rfl, I.turnedL (t' := s.toks) (ch := [it, P]) (fun b o hb q => k b o (fun z => hb (by simp [z])) q) hf⟩
  self := fun A i s Q E st h => by
    obtain ⟨_, res, c, ⟨_, q, _⟩ | ⟨_, q, _⟩⟩ := st
    · exact iter_perm q h
    · exact iter_perm q h
end
/-- permutations(range(a, b)) -/
def iPerm (te : St → Hp → (Int → Int → Hp → Prop) → Prop) : TI := fun σ H R => te σ H fun a b H1 => ∃ cs, RR.okRg a b ∧ ChainP (b - a).toNat cs ∧ R (ItPm (rgV a b) cs) H1
theorem pi_perm {X : Cx} {tg e : Expr} {te : St → Hp → (Int → Int → Hp → Prop) → Prop} {x : Str} {p pos : Pos} (hc : X.calm = true) (hg : Gl X x) (hm : X.mg x = some (.type cT)) (he : PRg X e te) (hdb : (x == ("__debug__" : Str)) = false := by decide)
    (na : starEach [e] X.env = (false, eval e X.env) :: starEach [] X.env := by rfl) : PI X tg (.Call (.Name x p) [e] [] pos) (iPerm te) := by
  refine ⟨fun pins s σ H R I h => ?_⟩
  refine Call_ (ld_glob I hg hm (PyProof.Rows.callWith_type1 (args_cons (thn (he pins s σ H _ I h) fun x s1 ⟨r, a, b, t, u, v, H1, ex, hr, I1, cs, ok, C, q⟩ => args_nil ?_) na) na) hdb)
  subst ex
  obtain ⟨b1, b2, b3, b4, b5⟩ := ok.ok
  refine call_perm (n := (b - a).toNat) (I1.ok.hd hc) (small_one b1 b2 b3 b4) (rangeSize_nat a b) (by have := ok.2.2.2; have := ok.1; omega) hr fun h' tk vs hk hi => ?_
  have I2 : Inv X pins σ H1 { s1 with heap := h', toks := tk } := I1.kept hk
  have rv := vals_rg hi
  have hsz : vs.toList.toArray.size = (b - a).toNat := by rw [Array.toArray_toList]; exact hi.1
  have g1 : ((h'.push { cls := .type "tuple", data := .seq vs }).push (pObj h'.objs.size 0 (b - a).toNat .none (nums0 (b - a).toNat))).get? (h'.objs.size + 1) = some (pObj h'.objs.size 0 (b - a).toNat .none (nums0 (b - a).toNat)) := by
    have := Heap.get?_push_size (o := pObj h'.objs.size 0 (b - a).toNat .none (nums0 (b - a).toNat)) (h'.push { cls := .type "tuple", data := .seq vs }) rfl
    rwa [Heap.size_push] at this
  have gP : ((h'.push { cls := .type "tuple", data := .seq vs }).push (pObj h'.objs.size 0 (b - a).toNat .none (nums0 (b - a).toNat))).get? h'.objs.size = some { cls := .type "tuple", data := .seq vs } := Heap.get?_push_of_some _ (Heap.get?_push_size _ rfl)
  have I3 : Inv X pins σ H1 { s1 with heap := (h'.push { cls := .type "tuple", data := .seq vs }).push (pObj h'.objs.size 0 (b - a).toNat .none (nums0 (b - a).toNat)), toks := tk } := I2.kept (t' := tk) fun c o e => Heap.get?_push_of_some _ (Heap.get?_push_of_some _ e)
  refine iter_perm g1 ⟨h'.objs.size + 1, [h'.objs.size + 1, h'.objs.size], tnP (h'.objs.size + 1) h'.objs.size vs.toList cs, ItPm (rgV a b) cs, H1, rfl, I3, turn_perm rv (Nat.ne_of_lt (Nat.lt_succ_self _)) (hsz ▸ C) (by rw [hsz]; have := ok.2.2.2; have := ok.1; omega), ⟨by rw [Array.toArray_toList]; exact gP, .none, (List.range (b - a).toNat, cyc0 (b - a).toNat), .inl ⟨rfl, by rw [hsz]; exact g1, C.first⟩⟩, fun c hb => ?_, q⟩
  have hle : h'.objs.size ≤ c := by
    have z : c = h'.objs.size + 1 ∨ c = h'.objs.size := by simpa using hb
    rcases z with rfl | rfl
    · exact Nat.le_succ _
    · exact Nat.le_refl _
  exact I2.fpOk hle (I2.hok.fresh hle)
end Prm
end
section
namespace RR
open PySem PySem.Spec L2
open PyProof.Rows hiding St
def permGo (n : Nat) : Nat → List Nat × List Nat → Option (List (List Nat × List Nat))
  | 0, _ => none
  | f + 1, c => match Prm.nextP n n c.1 c.2 with
    | none => some [c]
    | some c' => if c'.1.length = n ∧ c'.2.length = n then (permGo n f c').map fun r => c :: r else none
/-- the indices with their cycles, as the model steps from one to the next -/
def permsL (n : Nat) : Option (List (List Nat × List Nat)) := permGo n 1000 (List.range n, Prm.cyc0 n)
theorem permGo_ok {n : Nat} : ∀ (f : Nat) (c : List Nat × List Nat) (cs : List (List Nat × List Nat)), permGo n f c = some cs → (c.1.length = n ∧ c.2.length = n) → cs[0]? = some c ∧ (∀ (i : Nat) a b, cs[i]? = some a → cs[i + 1]? = some b → Prm.nextP n n a.1 a.2 = some b) ∧ (∀ (i : Nat) a, cs[i]? = some a → cs[i + 1]? = none → Prm.nextP n n a.1 a.2 = none) ∧ ∀ a ∈ cs, a.1.length = n ∧ a.2.length = n
  | 0, c, cs, h, _ => by cases h
  | f + 1, c, cs, h, hc => by
    unfold permGo at h
    split at h
    · rename_i hn
      cases h
      refine ⟨rfl, fun i a b h1 h2 => ?_, fun i a h1 h2 => ?_, fun a ha => by rw [List.mem_singleton.mp ha]; exact hc⟩
      · cases h2
      · cases i with
        | zero => cases h1; exact hn
        | succ i => cases h1
    · rename_i c' hn
      obtain ⟨hl, h⟩ := ifs2 h
      obtain ⟨r, hr, rfl⟩ := Option.map_eq_some_iff.mp h
      obtain ⟨h0, h1, h2, h3⟩ := permGo_ok f c' r hr hl
      refine ⟨rfl, fun i a b e1 e2 => ?_, fun i a e1 e2 => ?_, fun a ha => ?_⟩
      · cases i with
        | zero =>
          cases e1
          rw [List.getElem?_cons_succ, h0] at e2
          cases e2
          exact hn
        | succ i => exact h1 i a b e1 e2
      · cases i with
        | zero => rw [List.getElem?_cons_succ, h0] at e2; cases e2
        | succ i => exact h2 i a e1 e2
      · rcases List.mem_cons.mp ha with rfl | ha
        · exact hc
        · exact h3 a ha
where
  ifs2 {α : Type} {c : Prop} [Decidable c] {x : Option α} {y : α} (h : (if c then x else none) = some y) : c ∧ x = some y := by
    by_cases k : c
    · rw [if_pos k] at h; exact ⟨k, h⟩
    · rw [if_neg k] at h; cases h
theorem permsL_ok {n : Nat} {cs : List (List Nat × List Nat)} (h : permsL n = some cs) : Prm.ChainP n cs := by
  obtain ⟨h0, h1, h2, h3⟩ := permGo_ok _ _ _ h ⟨List.length_range, by unfold Prm.cyc0; rw [List.length_map, List.length_range]⟩
  exact ⟨h0, h1, h2, h3⟩
@[reducible] def mIPm (ma mb : ME) : MI := fun Γ n Q => ma Γ n fun d n1 => mb Γ n1 fun e n2 => ∃ i j cs, d = .int i ∧ e = .int j ∧ okRg i j ∧ permsL (j - i).toNat = some cs ∧ Q (cs.map fun c => pickD (rangeD i (j - i).toNat) c.1) n2
theorem feeds_perm {K : PySem.W.Frag} {F : Hp} {xs : List V} {ds : List D} {cs : List (List Nat × List Nat)} (r : Rps K F ds xs) : Feeds K (Prm.ItPm xs cs) (cs.map fun c => pickD ds c.1) F where
  stop := fun F' H' _ _ => by show cs.length ≤ _; rw [List.length_map]; exact Nat.le_refl _
  go := fun i d F' H' hd e e' => by
    rw [List.getElem?_map] at hd
    cases q : cs[i]? with
    | none => rw [q] at hd; cases hd
    | some c =>
      rw [q] at hd
      cases hd
      refine ⟨(List.getElem?_eq_some_iff.mp q).1, fun x H2 ⟨T, c', h1, h2, h3, h4⟩ => ?_⟩
      rw [q] at h1
      cases h1
      subst h2 h4
      exact ⟨_, .new1 e' h3 _, .of_tup (.inl (.inl upd_same)) (rps_pick ((r.mono e).mono (same_up (e'.free h3))) c.1)⟩
section
variable {X : Cx} {p : Pm} {O : List Nat} {tg a b : Expr} {ta tb : TE} {ma mb : ME} {pos q pos2 q2 : Pos} {x : Str}
theorem iPm (hc : X.calm = true) (hg : Gl X x) (hm : X.mg x = some (.type "itertools.permutations")) (hgr : Gl X "range") (hmr : X.mg "range" = none) (ha : RE X p O a ta ma) (hb : RE X p O b tb mb) (hdb : (x == ("__debug__" : Str)) = false := by decide)
    (na : starEach [a, b] X.env = (false, eval a X.env) :: starEach [b] X.env := by rfl) (nb : starEach [b] X.env = (false, eval b X.env) :: starEach [] X.env := by rfl) (hp : (backTo pos2 (starEach [b] X.env)).any (·.1) = false := by rfl)
    (n1 : starEach [.Call (.Name "range" q2) [a, b] [] pos2] X.env = (false, eval (.Call (.Name "range" q2) [a, b] [] pos2) X.env) :: starEach [] X.env := by rfl) : RI X p O tg (.Call (.Name x q) [.Call (.Name "range" q2) [a, b] [] pos2] [] pos) (Prm.iPerm (tRg2 ta tb)) (mIPm ma mb) :=
  ⟨Prm.pi_perm hc hg hm (prg_2 hgr hmr ha.pe hb.pe na nb hp) hdb n1, fun F0 H0 F H σ Γ n R s q R' k =>
    ha.le F0 H0 F H σ Γ n _ s q _ fun d v F1 H1 n1 s1 g1 r1 q1 => hb.le F0 H0 F1 H1 σ Γ n1 _ s1 q1 _ fun e u F2 H2 n2 s2 g2 r2 ⟨i, j, cs, e1, e2, ok, hcs, q2⟩ => by
      subst e1 e2
      cases r1.int_inv
      cases r2.int_inv
      exact ⟨i, j, rfl, rfl, cs, ok, permsL_ok hcs, k _ _ F2 H2 n2 s2 (g1.trans g2) (feeds_perm (rps_rg i j)) q2⟩⟩
end
def vIPm (v u : VE) : VI := fun Γ => (v Γ).bind fun d => (u Γ).bind fun e => match d, e with
  | .int i, .int j => if okRg i j then (permsL (j - i).toNat).map fun cs => cs.map fun c => pickD (rangeD i (j - i).toNat) c.1 else none
  | _, _ => none
theorem f_IPm {ma mb : ME} {va vb : VE} (h : FE ma va) (h' : FE mb vb) : FI' (mIPm ma mb) (vIPm va vb) := fun Γ n d Q e q => by
  obtain ⟨y, h1, h2⟩ := bnd e
  obtain ⟨z, h3, h4⟩ := bnd h2
  split at h4
  · split at h4
    · obtain ⟨cs, hcs, rfl⟩ := Option.map_eq_some_iff.mp h4
      exact h Γ n _ _ h1 (h' Γ n _ _ h3 ⟨_, _, cs, rfl, rfl, by assumption, hcs, q⟩)
    · cases h4
  · cases h4
end RR
end
section
namespace RR
open PySem PySem.Spec L2
open PyProof.Rows hiding St
section
variable {X : Cx} {p : Pm} {O : List Nat} {x : Str} {q pos : Pos}
/-- f() -/
theorem eF0 {k : Nat} {ps : List Str} {mf : MP} (F : FI X.prog X.w X.K X.mg X.base k x ps (spF X.K mf)) {lv : Nat} (hr : Room k X.A) (hg : GB lv X.A) (hK : p.K = X.K) (hgl : Gl X x)
    (hdb : (x == ("__debug__" : Str)) = false := by decide) (hkm : k ≤ lv := by first | decide | omega) :
    RE X p O (.Call (.Name x q) [] [] pos) (tCall (spF p.K mf) [] E0 tNil) (mCall mf mNil) := by
  obtain ⟨f, fd, G, h1, h2, h3, _⟩ := F.ex
  refine ⟨hK ▸ ⟨fun pins s σ H Q I h => wpAny_Call_Name_kw (ld_glob I hgl h1 (PySem.W.callWith_K0 I.kIn h2 (run_g G hr (hg.le hkm) h3 I .nil h)) hdb)⟩, le_call (a_nil (X := X)).le⟩
end
end RR
end
section
namespace Mz
open PySem PySem.Spec L2
open PyProof.Rows hiding St
/-- what is walked at a: how it stands for data, its iterator, the thing itself -/
structure Kd (K : PySem.W.Frag) (a : Addr) where
  sq : Hp → List V → Prop
  it : Heap → Addr → Nat → Prop
  is : Heap → List Value → Prop
  ob : Obj
  dr : ∀ {prog : Program} {w : World} {A : Around}, A.handled = none → ∀ i, a ≠ i → ∀ us : List Value, Draws prog w A i [i, a] us.toArray.size (fun j v => us.toArray[j]? = some v) (fun j h => it h i j ∧ is h us)
  inv : ∀ {X : Cx} {pins : List (Addr × Obj)} {σ : St} {H : Hp} {s : Shared} {xs : List V}, X.K = K → Inv X pins σ H s → sq H xs → a < s.heap.objs.size ∧ ∃ us, Vals xs us ∧ is s.heap us
  inj : ∀ {X : Cx} {pins : List (Addr × Obj)} {σ : St} {H : Hp} {s : Shared} {xs ys : List V}, X.K = K → Inv X pins σ H s → sq H xs → sq H ys → xs = ys
  at_ : ∀ {h h' : Heap} {i : Addr} {j : Nat}, it h i j → (∀ o, h.get? i = some o → h'.get? i = some o) → it h' i j
  cell : ∀ {h : Heap} {i : Addr} {j : Nat}, it h i j → ∃ o, h.get? i = some o ∧ ∀ v, o.data ≠ .cell v
  beg : ∀ us, Begins (.ref a) ob fun h => is h us
  fst : ∀ {h : Heap} {i : Addr}, h.get? i = some ob → it h i 0
def kL (K : PySem.W.Frag) (a : Addr) : Kd K a where
  sq := fun H xs => SqL K H a xs
  it := fun h i j => h.IsListIter i a j
  is := fun h us => h.IsList a us.toArray
  ob := { cls := .type "list_iterator", data := .fields #[.ref a, .int 0 0] }
  dr := fun hh i ne us => Draws.list hh i a ne us.toArray
  inv := fun hK I h => by
    subst hK
    obtain ⟨us, rv, p, _⟩ := I.list h
    exact ⟨p.lt, us, rv, p.isList⟩
  inj := fun hK I h k => by
    subst hK
    exact I.list_inj h k
  at_ := fun x e => x.at e
  cell := fun ⟨o, e, _, d⟩ => ⟨o, e, fun v q => by rw [d] at q; cases q⟩
  beg := fun us => begins_list a us.toArray
  fst := fun e => ⟨_, e, rfl, rfl⟩
def kT (K : PySem.W.Frag) (a : Addr) : Kd K a where
  sq := fun H xs => SqT K H a xs
  it := fun h i j => h.IsTupleIter i a j
  is := fun h us => h.IsTuple a us.toArray
  ob := { cls := .type "tuple_iterator", data := .fields #[.ref a, .int 0 0] }
  dr := fun hh i ne us => Draws.tuple hh i a ne us.toArray
  inv := fun hK I h => by
    subst hK
    obtain ⟨us, rv, p, _⟩ := I.tuple h
    obtain ⟨o, e, _⟩ := id p
    exact ⟨Heap.lt_size e, us, rv, p⟩
  inj := fun hK I h k => by
    subst hK
    exact I.tuple_inj h k
  at_ := fun x e => x.at e
  cell := fun ⟨o, e, _, d⟩ => ⟨o, e, fun v q => by rw [d] at q; cases q⟩
  beg := fun us => begins_tuple a us.toArray
  fst := fun e => ⟨_, e, rfl, rfl⟩
/-- both as they stand at each turn, the items in new pairs -/
def ItzM {K : PySem.W.Frag} {a b : Addr} (k1 : Kd K a) (k2 : Kd K b) (xs ys : List V) : It :=
  ⟨fun i H => k1.sq H xs ∧ k2.sq H ys ∧ i < xs.length ∧ i < ys.length,
    fun i H v H' => ∃ T x y, v = .ref T ∧ H T = none ∧ H' = upd H T (.tup [x, y]) ∧ xs[i]? = some x ∧ ys[i]? = some y,
    fun i H => k1.sq H xs ∧ k2.sq H ys ∧ (xs.length ≤ i ∨ ys.length ≤ i)⟩
theorem five {c z TI TO i1 i2 : Addr} (h : c ∈ [z, TI, TO, i1, i2]) : c = z ∨ c = TI ∨ c = TO ∨ c = i1 ∨ c = i2 := by simpa using h
/-- that the cells lie apart -/
structure Apart (z TI TO i1 i2 a b : Addr) : Prop where
  s : ZipSep2 z TI TO i1 i2 [i1, a] [i2, b]
  a1 : a ≠ i1
  b2 : b ≠ i2
def tnM {K : PySem.W.Frag} {a b : Addr} (k1 : Kd K a) (k2 : Kd K b) (xs ys : List V) (z TI TO i1 i2 : Addr) (i : Nat) (h : Heap) : Prop :=
  (IsZip h z TI TO .none ∧ IsPair h TI (.ref i1) (.ref i2) ∧ (∃ x y, IsPair h TO x y) ∧ k1.it h i1 i ∧ k2.it h i2 i) ∧ i ≤ xs.length ∧ i ≤ ys.length
theorem turn_zipM {P : Program} {w : World} {K : PySem.W.Frag} {elts : List Expr} {kk : Nat} {tpos : Pos} {a b z TI TO i1 i2 : Addr} {k1 : Kd K a} {k2 : Kd K b} {xs ys : List V} (D : Apart z TI TO i1 i2 a b) :
    Turn P w K (.Tuple elts kk tpos) (ItzM k1 k2 xs ys) [z, TI, TO, i1, i2] z (tnM k1 k2 xs ys z TI TO i1 i2) where
  mem := by simp
  obj := fun i h st c hc => by
    obtain ⟨⟨hz, hTI, ⟨x, y, hTO⟩, h1, h2⟩, _⟩ := st
    rcases five hc with q | q | q | q | q
    · rw [q]; exact ⟨_, hz, fun v q => nomatch q⟩
    · rw [q]; exact ⟨_, hTI, fun v q => nomatch q⟩
    · rw [q]; exact ⟨_, hTO, fun v q => nomatch q⟩
    · rw [q]; exact k1.cell h1
    · rw [q]; exact k2.cell h2
  keep := fun i h h' st k => by
    obtain ⟨⟨hz, hTI, ⟨x, y, hTO⟩, h1, h2⟩, hl⟩ := st
    exact ⟨⟨k z (by simp) _ hz, k TI (by simp) _ hTI, ⟨x, y, k TO (by simp) _ hTO⟩, k1.at_ h1 fun o q => k i1 (by simp) o q, k2.at_ h2 fun o q => k i2 (by simp) o q⟩, hl⟩
  item := by
    intro X hP hw hK hc i pins s σ H E I hf st hg
    subst hP hw
    obtain ⟨⟨hz, hTI, ⟨x0, y0, hTO⟩, h1, h2⟩, _⟩ := st
    obtain ⟨hqx, hqy, lx, ly⟩ := hg
    obtain ⟨x, hx⟩ : ∃ x, xs[i]? = some x := ⟨_, List.getElem?_eq_getElem lx⟩
    obtain ⟨y, hy⟩ : ∃ y, ys[i]? = some y := ⟨_, List.getElem?_eq_getElem ly⟩
    obtain ⟨_, us, rv, is1⟩ := k1.inv hK I hqx
    obtain ⟨_, vs, rv2, is2⟩ := k2.inv hK I hqy
    obtain ⟨u, hu, ru⟩ := rv.get hx
    obtain ⟨u2, hu2, ru2⟩ := rv2.get hy
    have lz : z < s.heap.objs.size := Heap.lt_size hz
    have hh : X.A.in1.handled = none := I.ok.hd hc
    have l1 : i < us.toArray.size := by rw [List.size_toArray]; exact (List.getElem?_eq_some_iff.mp hu).1
    have l2 : i < vs.toArray.size := by rw [List.size_toArray]; exact (List.getElem?_eq_some_iff.mp hu2).1
    refine wpAny_pyNext_zipD2_item D.s (k1.dr hh i1 D.a1 us) (k2.dr hh i2 D.b2 vs) hz hTI hTO ⟨h1, is1⟩ ⟨h2, is2⟩ l1 l2 fun x1 x2 h' tk p1 p2 z' TO' st1 st2 hT hsz hk => ?_
    have e1 : x1 = u := by
      have q : us.toArray[i]? = some x1 := p1
      rw [List.getElem?_toArray, hu] at q
      exact (Option.some.inj q).symm
    have e2 : x2 = u2 := by
      have q : vs.toArray[i]? = some x2 := p2
      rw [List.getElem?_toArray, hu2] at q
      exact (Option.some.inj q).symm
    subst e1 e2
    refine ⟨_, rfl, wpAny_letOwnedTupleGo_zip (s := { s with heap := h', toks := tk }) z' fun h'' z'' sb => ?_⟩
    have hT2 : h''.get? s.heap.objs.size = some { cls := .type "tuple", data := .seq #[x1, x2] } := (sb.2 _ (Nat.ne_of_gt lz)).trans hT
    have new : ObjOk X.prog X.w (upd H s.heap.objs.size (.tup [x, y])) h'' s.heap.objs.size (.tup [x, y]) := ⟨by show 2 ≤ sizeLine; decide, [x1, x2], .cons ru (.cons ru2 .nil), ⟨_, hT2, rfl, _, rfl⟩⟩
    have out : ∀ {c : Addr}, c ∉ [z, TI, TO, i1, i2] → c ≠ z ∧ c ≠ TO ∧ c ≠ i1 ∧ c ≠ i2 := fun {c} hb => ⟨fun q => hb (by simp [q]), fun q => hb (by simp [q]), fun q => hb (by simp [q]), fun q => hb (by simp [q])⟩
    have I1 : Inv X pins σ (upd H s.heap.objs.size (.tup [x, y])) { s with heap := h'', toks := tk } :=
      I.turnedNew (t' := tk) (ch := [z, TI, TO, i1, i2]) (fun c o hb q => (sb.2 c (out hb).1).trans (hk c o (out hb).1 (out hb).2.1 (out hb).2.2.1 (out hb).2.2.2 q)) hf (Nat.le_refl _) new
    have i1z : i1 ≠ z := D.s.zi1.symm
    have i2z : i2 ≠ z := D.s.zi2.symm
    refine ⟨.ref s.heap.objs.size, _, I1, rfl, ⟨_, x, y, rfl, I.hok.fresh (Nat.le_refl _), rfl, hx, hy⟩, ⟨⟨z'', ?_, ⟨x1, x2, ?_⟩, ?_, ?_⟩, lx, ly⟩, fun c hcm => ?_⟩
    · exact (sb.2 _ D.s.TIz).trans (hk _ _ D.s.TIz D.s.TITO D.s.TIi1 D.s.TIi2 hTI)
    · exact (sb.2 _ D.s.TOz).trans TO'
    · exact k1.at_ st1.1 fun o q => (sb.2 _ i1z).trans q
    · exact k2.at_ st2.1 fun o q => (sb.2 _ i2z).trans q
    · have hlt : c < s.heap.objs.size := by
        rcases five hcm with q | q | q | q | q
        · rw [q]; exact lz
        · rw [q]; exact Heap.lt_size hTI
        · rw [q]; exact Heap.lt_size hTO
        · rw [q]; obtain ⟨_, e1, _⟩ := k1.cell h1; exact Heap.lt_size e1
        · rw [q]; obtain ⟨_, e2, _⟩ := k2.cell h2; exact Heap.lt_size e2
      rw [upd_ne (Nat.ne_of_lt hlt)]
      exact (hf c hcm).1
  done := by
    intro X hP hw hK hc i pins s σ H E I hf st hg
    subst hP hw
    obtain ⟨⟨hz, hTI, ⟨x0, y0, hTO⟩, h1, h2⟩, q1, q2⟩ := st
    obtain ⟨hqx, hqy, hend⟩ := hg
    obtain ⟨_, us, rv, is1⟩ := k1.inv hK I hqx
    obtain ⟨_, vs, rv2, is2⟩ := k2.inv hK I hqy
    have m1 : us.toArray.size = xs.length := by rw [List.size_toArray]; exact rv.length.symm
    have m2 : vs.toArray.size = ys.length := by rw [List.size_toArray]; exact rv2.length.symm
    have hh : X.A.in1.handled = none := I.ok.hd hc
    have out : ∀ {c : Addr}, c ∉ [z, TI, TO, i1, i2] → c ≠ z ∧ c ≠ TO ∧ c ≠ i1 ∧ c ≠ i2 := fun {c} hb => ⟨fun q => hb (by simp [q]), fun q => hb (by simp [q]), fun q => hb (by simp [q]), fun q => hb (by simp [q])⟩
    exact wpAny_pyNext_zipD2_end D.s (k1.dr hh i1 D.a1 us) (k2.dr hh i2 D.b2 vs) hz hTI hTO ⟨h1, is1⟩ ⟨h2, is2⟩ (by rw [m1]; exact q1) (by rw [m2]; exact q2) (by rw [m1, m2]; omega) fun h' tk hk =>
      ⟨rfl, I.turnedL (t' := tk) (ch := [z, TI, TO, i1, i2]) (fun c o hb q => hk c o (out hb).1 (out hb).2.1 (out hb).2.2.1 (out hb).2.2.2 q) hf⟩
  self := fun A i s Q E st h => wpAny_pyIter_zip st.1.1 h
theorem ni {x p q : Nat} (h1 : x ≠ p) (h2 : x ≠ q) : x ∉ [p, q] := by simp [h1, h2]
theorem apartN (I a b : Nat) (h1 : a < I) (h2 : b < I) : ZipSep2 (I + 4) (I + 2) (I + 3) I (I + 1) [I, a] [I + 1, b] where
  TIz := (by omega : I + 2 ≠ I + 4)
  TOz := (by omega : I + 3 ≠ I + 4)
  TITO := (by omega : I + 2 ≠ I + 3)
  TIi1 := (by omega : I + 2 ≠ I)
  mem1 := List.mem_cons_self ..
  zf1 := ni (by omega) (by omega)
  Tf1 := ni (by omega) (by omega)
  TIi2 := (by omega : I + 2 ≠ I + 1)
  mem2 := List.mem_cons_self ..
  zf2 := ni (by omega) (by omega)
  Tf2 := ni (by omega) (by omega)
  sep1_2 := ni (by omega) (by omega)
  sep2_1 := ni (by omega) (by omega)
theorem apart (I a b : Nat) (h1 : a < I) (h2 : b < I) : Apart (I + 4) (I + 2) (I + 3) I (I + 1) a b := ⟨apartN I a b h1 h2, Nat.ne_of_lt h1, Nat.ne_of_lt (Nat.lt_succ_of_lt h2)⟩
/-- zip(xs, ys), lists or tuples -/
def iZipX (K : PySem.W.Frag) (ta : TA) : TI := fun σ H R => ta σ H fun vs H1 => ∃ (a b : Addr) (xs ys : List V), vs = [.ref a, .ref b] ∧ ((SqL K H1 a xs ∧ SqL K H1 b ys ∧ R (ItzM (kL K a) (kL K b) xs ys) H1) ∨ (SqT K H1 a xs ∧ SqT K H1 b ys ∧ R (ItzM (kT K a) (kT K b) xs ys) H1) ∨
  (SqL K H1 a xs ∧ SqT K H1 b ys ∧ R (ItzM (kL K a) (kT K b) xs ys) H1) ∨ (SqT K H1 a xs ∧ SqL K H1 b ys ∧ R (ItzM (kT K a) (kL K b) xs ys) H1))
section
variable {X : Cx} {pins : List (Addr × Obj)} {σ : L2.St} {H1 : Hp} {s1 : Shared} {tpos : Pos} {elts : List Expr} {kk : Nat} {R : It → Hp → Prop} {E : Value → Shared → Prop}
theorem zip_runs {a b : Addr} {xs ys : List V} (k1 : Kd X.K a) (k2 : Kd X.K b) (I1 : Inv X pins σ H1 s1) (hx : k1.sq H1 xs) (hy : k2.sq H1 ys) (q : R (ItzM k1 k2 xs ys) H1) :
    wpAny (model X.prog X.w) X.A (call (.type "zip") [.ref a, .ref b]) (fun v s => wpAny (model X.prog X.w) X.A (pyIter v) (PIE X pins σ (.Tuple elts kk tpos) R) X.xe s) X.xe s1 := by
  obtain ⟨la, us, rv, is1⟩ := k1.inv rfl I1 hx
  obtain ⟨lb, vs, rv2, is2⟩ := k2.inv rfl I1 hy
  have fresh : ∀ c, c ∈ [s1.heap.objs.size + 4, s1.heap.objs.size + 2, s1.heap.objs.size + 3, s1.heap.objs.size, s1.heap.objs.size + 1] → FpOk X pins H1 c := fun c hcm => by
    have hle : s1.heap.objs.size ≤ c := by
      rcases five hcm with z | z | z | z | z <;> rw [z]
      · exact Nat.le_add_right _ _
      · exact Nat.le_add_right _ _
      · exact Nat.le_add_right _ _
      · exact Nat.le_refl _
      · exact Nat.le_add_right _ _
    exact I1.fpOk hle (I1.hok.fresh hle)
  refine zip_begins2 (k1.beg us) (k2.beg vs) is1 is2 fun h' hz hTI hTO g1 g2 hsz hk => wpAny_pyIter_zip hz ?_
  have I2 : Inv X pins σ H1 { s1 with heap := h' } := I1.kept (t' := s1.toks) hk
  exact ⟨s1.heap.objs.size + 4, [s1.heap.objs.size + 4, s1.heap.objs.size + 2, s1.heap.objs.size + 3, s1.heap.objs.size, s1.heap.objs.size + 1], _, _, H1, rfl, I2, turn_zipM (apart s1.heap.objs.size a b la lb), ⟨⟨hz, hTI, ⟨_, _, hTO⟩, k1.fst g1, k2.fst g2⟩, Nat.zero_le _, Nat.zero_le _⟩, fresh, q⟩
end
theorem pi_zipX {X : Cx} {e e2 : Expr} {ta : TA} {p pos tpos : Pos} {elts : List Expr} {kk : Nat} (hg : Gl X "zip") (hm : X.mg "zip" = none) (ha : PA X [e, e2] ta)
    (hs : starEach [e, e2] X.env = (false, eval e X.env) :: starEach [e2] X.env := by rfl) (hpl : (backTo pos (starEach [e2] X.env)).any (·.1) = false := by rfl) :
    PI X (.Tuple elts kk tpos) (.Call (.Name "zip" p) [e, e2] [] pos) (iZipX X.K ta) := by
  refine ⟨fun pins s σ H R I h => Call_ (ld_blt I hg hm PyProof.Rows.boot_zip (PyProof.Rows.callWith_type1 (thn (ha.run pos pins s σ H _ I h) fun us s1 ⟨vs, H1, I1, r1, a, b, xs, ys, ex, q1⟩ => ?_) hs hpl))⟩
  subst ex
  cases r1 with
  | cons r rr =>
    cases rr with
    | cons r' rr =>
      cases rr
      cases r
      cases r'
      rcases q1 with ⟨hqx, hqy, q⟩ | ⟨hqx, hqy, q⟩ | ⟨hqx, hqy, q⟩ | ⟨hqx, hqy, q⟩
      · exact zip_runs (kL X.K a) (kL X.K b) I1 hqx hqy q
      · exact zip_runs (kT X.K a) (kT X.K b) I1 hqx hqy q
      · exact zip_runs (kL X.K a) (kT X.K b) I1 hqx hqy q
      · exact zip_runs (kT X.K a) (kL X.K b) I1 hqx hqy q
end Mz
namespace RR
open PySem PySem.Spec L2
open PyProof.Rows hiding St
section
variable {K : PySem.W.Frag} {F : Hp} {a b : Addr} {xs ys : List V} {ds es : List D}
theorem feeds_zipX {k1 : Mz.Kd K a} {k2 : Mz.Kd K b} (h : ∀ G, Same F G → k1.sq G xs) (r : Rps K F ds xs) (h' : ∀ G, Same F G → k2.sq G ys) (r' : Rps K F es ys) : Feeds K (Mz.ItzM k1 k2 xs ys) (zipD ds es) F where
  stop := fun F' H' e e' => by
    refine ⟨h _ (e.trans e'), h' _ (e.trans e'), ?_⟩
    rw [zipD_len, ← r.len, ← r'.len]
    omega
  go := fun i d F' H' hd e e' => by
    obtain ⟨x, y, hx, hy, rfl⟩ := zipD_get hd
    obtain ⟨v, e1, r1⟩ := r.get hx
    obtain ⟨u, e2, r2⟩ := r'.get hy
    refine ⟨⟨h _ (e.trans e'), h' _ (e.trans e'), (List.getElem?_eq_some_iff.mp e1).1, (List.getElem?_eq_some_iff.mp e2).1⟩, fun w H2 ⟨T, x1, y1, h1, h2, h3, t1, t2⟩ => ?_⟩
    rw [e1] at t1
    rw [e2] at t2
    cases t1
    cases t2
    subst h1 h3
    exact ⟨_, .new1 e' h2 _, Rp.pair h2 e' (r1.mono e) (r2.mono e)⟩
def seqL : D → Option (List D)
  | .list xs => some xs
  | .tuple xs => some xs
  | _ => none
@[reducible] def mIZX (ma : MA) : MI := fun Γ n Q => ma Γ n fun ds n1 => ∃ d e xs ys, ds = [d, e] ∧ seqL d = some xs ∧ seqL e = some ys ∧ Q (zipD xs ys) n1
end
section
variable {X : Cx} {p : Pm} {O : List Nat} {a b : Expr} {ta : TA} {ma : MA} {pos q pos' : Pos} {tgs : List Expr} {k : Nat}
theorem iZx (hK : p.K = X.K) (hg : Gl X "zip") (hm : X.mg "zip" = none) (ha : RA X p O [a, b] ta ma) (hs : starEach [a, b] X.env = (false, eval a X.env) :: starEach [b] X.env := by rfl) (hpl : (backTo pos (starEach [b] X.env)).any (·.1) = false := by rfl) : RI X p O (.Tuple tgs k pos') (.Call (.Name "zip" q) [a, b] [] pos) (Mz.iZipX p.K ta) (mIZX ma) :=
  ⟨hK ▸ Mz.pi_zipX hg hm ha.pa hs hpl, fun F0 H0 F H σ Γ n R s q R' kk =>
    ha.le F0 H0 F H σ Γ n _ s q _ fun ds vs F1 H1 n1 s1 g1 r1 ⟨d, e, xs, ys, ed, h1, h2, q1⟩ => by
      subst ed
      obtain ⟨v, w, rfl, r2, r3⟩ := r1.uncons
      obtain ⟨v', w', rfl, r4, r5⟩ := r3.uncons
      cases r5.unnil
      cases d with
      | list xs' =>
        cases h1
        obtain ⟨a, zs, rfl, f1, r6⟩ := r2.lst_inv
        have m1 : ∀ G, Same F1 G → SqL p.K G a zs := fun G e => .of (e _ _ f1)
        cases e with
        | list ys' =>
          cases h2
          obtain ⟨b, us, rfl, f2, r7⟩ := r4.lst_inv
          have m2 : ∀ G, Same F1 G → SqL p.K G b us := fun G e => .of (e _ _ f2)
          exact ⟨a, b, zs, us, rfl, .inl ⟨m1 _ s1.fh, m2 _ s1.fh, kk _ _ F1 H1 n1 s1 g1 (feeds_zipX (k1 := Mz.kL p.K a) (k2 := Mz.kL p.K b) m1 r6 m2 r7) q1⟩⟩
        | tuple ys' =>
          cases h2
          obtain ⟨b, us, rfl, f2, r7⟩ := r4.tup_inv
          have m2 : ∀ G, Same F1 G → SqT p.K G b us := fun G e => Same.sqt e f2
          exact ⟨a, b, zs, us, rfl, .inr (.inr (.inl ⟨m1 _ s1.fh, m2 _ s1.fh, kk _ _ F1 H1 n1 s1 g1 (feeds_zipX (k1 := Mz.kL p.K a) (k2 := Mz.kT p.K b) m1 r6 m2 r7) q1⟩))⟩
        | _ => cases h2
      | tuple xs' =>
        cases h1
        obtain ⟨a, zs, rfl, f1, r6⟩ := r2.tup_inv
        have m1 : ∀ G, Same F1 G → SqT p.K G a zs := fun G e => Same.sqt e f1
        cases e with
        | list ys' =>
          cases h2
          obtain ⟨b, us, rfl, f2, r7⟩ := r4.lst_inv
          have m2 : ∀ G, Same F1 G → SqL p.K G b us := fun G e => .of (e _ _ f2)
          exact ⟨a, b, zs, us, rfl, .inr (.inr (.inr ⟨m1 _ s1.fh, m2 _ s1.fh, kk _ _ F1 H1 n1 s1 g1 (feeds_zipX (k1 := Mz.kT p.K a) (k2 := Mz.kL p.K b) m1 r6 m2 r7) q1⟩))⟩
        | tuple ys' =>
          cases h2
          obtain ⟨b, us, rfl, f2, r7⟩ := r4.tup_inv
          have m2 : ∀ G, Same F1 G → SqT p.K G b us := fun G e => Same.sqt e f2
          exact ⟨a, b, zs, us, rfl, .inr (.inl ⟨m1 _ s1.fh, m2 _ s1.fh, kk _ _ F1 H1 n1 s1 g1 (feeds_zipX (k1 := Mz.kT p.K a) (k2 := Mz.kT p.K b) m1 r6 m2 r7) q1⟩)⟩
        | _ => cases h2
      | _ => cases h1⟩
end
def vIZX (r : VA) : VI := fun Γ => (r Γ).bind fun ds => match ds with
  | [d, e] => (seqL d).bind fun xs => (seqL e).bind fun ys => some (zipD xs ys)
  | _ => none
theorem f_IZX {mA : MA} {vA : VA} (h : FA mA vA) : FI' (mIZX mA) (vIZX vA) := fun Γ n d Q e q => by
  obtain ⟨ds, h1, e⟩ := bnd e
  split at e
  · obtain ⟨xs, h2, e⟩ := bnd e
    obtain ⟨ys, h3, e⟩ := bnd e
    cases e
    exact h Γ n _ _ h1 ⟨_, _, xs, ys, rfl, h2, h3, q⟩
  · cases e
end RR
end
section
namespace RC
open PySem PySem.Spec L2 RR
open PyProof.Rows hiding St
def c_LEAP : D := (.int 4)
def c_GREATEST_ROOM : D := (.int 9999)
def c_GRID : D := (.int 16)
def c_MOST_PAIRS_v2 : D := (.int 6)
def b_are_within_v2 : MS := (mSeq (mIfS (mTest (mOp dNe (mCl cLen (mCons (mVar 0) mNil)) (mCl cLen (mCons (mVar 1) mNil)))) (mRet (mC (.bool false))) mNext) (mRet (mCl cAll (mCons (mLc (mIZX (mCons (mVar 0) (mCons (mVar 1) mNil))) (mgTup 2 (mgCons (mgName 2) (mgCons (mgTup 2 (mgCons (mgName 3) (mgCons (mgName 4) mgNil))) mgNil))) mYes (mCall m_is_within (mCons (mVar 2) (mCons (mVar 3) (mCons (mVar 4) mNil)))) [2, 3, 4]) mNil))))
def m_are_within_v2 : MP := mFun ["things", "bounds", "thing", "low", "high"] 2 b_are_within_v2
def vb_are_within_v2 : VS := (vSeqS (vIfS (vTest (vOp dNe (vCl cLen (vCons (vVar 0) vNil)) (vCl cLen (vCons (vVar 1) vNil)))) (vRet (vC (.bool false))) vNext) (vRet (vCl cAll (vCons (vLc (vIZX (vCons (vVar 0) (vCons (vVar 1) vNil))) (vgTup 2 (vgCons (vgName 2) (vgCons (vgTup 2 (vgCons (vgName 3) (vgCons (vgName 4) vgNil))) vgNil))) vYes (vCall v_is_within (vCons (vVar 2) (vCons (vVar 3) (vCons (vVar 4) vNil)))) [2, 3, 4]) vNil))))
def v_are_within_v2 : VP := vFun ["things", "bounds", "thing", "low", "high"] 2 vb_are_within_v2
theorem fp_are_within_v2 : FP m_are_within_v2 v_are_within_v2 := by
  unfold m_are_within_v2 v_are_within_v2 b_are_within_v2 vb_are_within_v2
  exact f_Fun (f_Seq (f_IfS (f_Test (f_Op (f_Cl (f_Cons f_Var f_Nil)) (f_Cl (f_Cons f_Var f_Nil)))) (f_Ret f_C) f_Next) (f_Ret (f_Cl (f_Cons (f_Lc (f_IZX (f_Cons f_Var (f_Cons f_Var f_Nil))) (f_gTup (f_gCons f_gName (f_gCons (f_gTup (f_gCons f_gName (f_gCons f_gName f_gNil))) f_gNil))) f_Yes (f_Call fp_is_within (f_Cons f_Var (f_Cons f_Var (f_Cons f_Var f_Nil))))) f_Nil))))
def b_is_row_v2 : MS := (mSeq (mIfS (mOr (mNot (mTest (mIsi "tuple" (mVar 0)))) (mTest (mOp dEq (mCl cLen (mCons (mVar 0) mNil)) (mC (.int 0))))) (mRet (mC (.bool false))) mNext) (mSeq (mIfS (mOr (mNot (mTest (mIsi "str" (mOp dIx (mVar 0) (mC (.int 0)))))) (mTest (mUn (kNin c_ROW_BOUNDS) (mOp dIx (mVar 0) (mC (.int 0)))))) (mRet (mC (.bool false))) mNext) (mSeq (mIfS (mNot (mTest (mCall m_are_within_v2 (mCons (mSl (mVar 0) (mPart (mC (.int 1))) mNoPart) (mCons (mUn (kIx c_ROW_BOUNDS) (mOp dIx (mVar 0) (mC (.int 0)))) mNil))))) (mRet (mC (.bool false))) mNext) (mRet (mOrV (mOp dNe (mOp dIx (mVar 0) (mC (.int 0))) (mC (.str "align"))) (mOp dIn (mOp dIx (mVar 0) (mC (.int 1))) (mC c_MULTIPLES)))))))
def m_is_row_v2 : MP := mFun ["thing"] 1 b_is_row_v2
def vb_is_row_v2 : VS := (vSeqS (vIfS (vOr (vNot (vTest (vIsi "tuple" (vVar 0)))) (vTest (vOp dEq (vCl cLen (vCons (vVar 0) vNil)) (vC (.int 0))))) (vRet (vC (.bool false))) vNext) (vSeqS (vIfS (vOr (vNot (vTest (vIsi "str" (vOp dIx (vVar 0) (vC (.int 0)))))) (vTest (vUn (kNin c_ROW_BOUNDS) (vOp dIx (vVar 0) (vC (.int 0)))))) (vRet (vC (.bool false))) vNext) (vSeqS (vIfS (vNot (vTest (vCall v_are_within_v2 (vCons (vSl (vVar 0) (vPart (vC (.int 1))) vNoPart) (vCons (vUn (kIx c_ROW_BOUNDS) (vOp dIx (vVar 0) (vC (.int 0)))) vNil))))) (vRet (vC (.bool false))) vNext) (vRet (vOrV (vOp dNe (vOp dIx (vVar 0) (vC (.int 0))) (vC (.str "align"))) (vOp dIn (vOp dIx (vVar 0) (vC (.int 1))) (vC c_MULTIPLES)))))))
def v_is_row_v2 : VP := vFun ["thing"] 1 vb_is_row_v2
theorem fp_is_row_v2 : FP m_is_row_v2 v_is_row_v2 := by
  unfold m_is_row_v2 v_is_row_v2 b_is_row_v2 vb_is_row_v2
  exact f_Fun (f_Seq (f_IfS (f_Or (f_Not (f_Test (f_Isi f_Var))) (f_Test (f_Op (f_Cl (f_Cons f_Var f_Nil)) f_C))) (f_Ret f_C) f_Next) (f_Seq (f_IfS (f_Or (f_Not (f_Test (f_Isi (f_Op f_Var f_C)))) (f_Test (f_Un (f_Op f_Var f_C)))) (f_Ret f_C) f_Next) (f_Seq (f_IfS (f_Not (f_Test (f_Call fp_are_within_v2 (f_Cons (f_Sl f_Var (f_Part f_C) f_NoPart) (f_Cons (f_Un (f_Op f_Var f_C)) f_Nil))))) (f_Ret f_C) f_Next) (f_Ret (f_OrV (f_Op (f_Op f_Var f_C) f_C) (f_Op (f_Op f_Var f_C) f_C))))))
def b_is_part_v2 : MS := (mSeq (mIfS (mOr (mNot (mTest (mIsi "tuple" (mVar 0)))) (mNot (mTest (mChain dLe dLe (mC (.int 1)) (mCl cLen (mCons (mVar 0) mNil)) (mC c_MOST_ROWS))))) (mRet (mC (.bool false))) mNext) (mSeq (mIfS (mNot (mTest (mCl cAll (mCons (mLc (mISeq (mVar 0)) (mgName 1) mYes (mCall m_is_row_v2 (mCons (mVar 1) mNil)) [1]) mNil)))) (mRet (mC (.bool false))) mNext) (mSeq (mIfS (mAnd (mNot (mTest (mCall m_is_even (mCons (mVar 0) mNil)))) (mTest (mOp dGt (mCl cLen (mCons (mCall m_jump_rows (mCons (mVar 0) mNil)) mNil)) (mC c_MOST_JUMPS_BESIDE_ALIGN)))) (mRet (mC (.bool false))) mNext) (mRet (mAndV (mCall m_goals_stand (mCons (mVar 0) mNil)) (mCall m_words_are_shunned (mCons (mVar 0) mNil)))))))
def m_is_part_v2 : MP := mFun ["thing", "row"] 1 b_is_part_v2
def vb_is_part_v2 : VS := (vSeqS (vIfS (vOr (vNot (vTest (vIsi "tuple" (vVar 0)))) (vNot (vTest (vChain dLe dLe (vC (.int 1)) (vCl cLen (vCons (vVar 0) vNil)) (vC c_MOST_ROWS))))) (vRet (vC (.bool false))) vNext) (vSeqS (vIfS (vNot (vTest (vCl cAll (vCons (vLc (vISeq (vVar 0)) (vgName 1) vYes (vCall v_is_row_v2 (vCons (vVar 1) vNil)) [1]) vNil)))) (vRet (vC (.bool false))) vNext) (vSeqS (vIfS (vAnd (vNot (vTest (vCall v_is_even (vCons (vVar 0) vNil)))) (vTest (vOp dGt (vCl cLen (vCons (vCall v_jump_rows (vCons (vVar 0) vNil)) vNil)) (vC c_MOST_JUMPS_BESIDE_ALIGN)))) (vRet (vC (.bool false))) vNext) (vRet (vAndV (vCall v_goals_stand (vCons (vVar 0) vNil)) (vCall v_words_are_shunned (vCons (vVar 0) vNil)))))))
def v_is_part_v2 : VP := vFun ["thing", "row"] 1 vb_is_part_v2
theorem fp_is_part_v2 : FP m_is_part_v2 v_is_part_v2 := by
  unfold m_is_part_v2 v_is_part_v2 b_is_part_v2 vb_is_part_v2
  exact f_Fun (f_Seq (f_IfS (f_Or (f_Not (f_Test (f_Isi f_Var))) (f_Not (f_Test (f_Chain f_C (f_Cl (f_Cons f_Var f_Nil)) f_C)))) (f_Ret f_C) f_Next) (f_Seq (f_IfS (f_Not (f_Test (f_Cl (f_Cons (f_Lc (f_ISeq f_Var) f_gName f_Yes (f_Call fp_is_row_v2 (f_Cons f_Var f_Nil))) f_Nil)))) (f_Ret f_C) f_Next) (f_Seq (f_IfS (f_And (f_Not (f_Test (f_Call fp_is_even (f_Cons f_Var f_Nil)))) (f_Test (f_Op (f_Cl (f_Cons (f_Call fp_jump_rows (f_Cons f_Var f_Nil)) f_Nil)) f_C))) (f_Ret f_C) f_Next) (f_Ret (f_AndV (f_Call fp_goals_stand (f_Cons f_Var f_Nil)) (f_Call fp_words_are_shunned (f_Cons f_Var f_Nil)))))))
def b_is_book_v2 : MS := (mSeq (mIfS (mOr (mNot (mTest (mIsi "tuple" (mVar 0)))) (mNot (mTest (mChain dLe dLe (mC (.int 1)) (mCl cLen (mCons (mVar 0) mNil)) (mC c_MOST_PARTS))))) (mRet (mC (.bool false))) mNext) (mSeq (mIfS (mNot (mTest (mCl cAll (mCons (mLc (mISeq (mVar 0)) (mgName 1) mYes (mCall m_is_part_v2 (mCons (mVar 1) mNil)) [1]) mNil)))) (mRet (mC (.bool false))) mNext) (mRet (mCl cAll (mCons (mLc2 (mISeq (mVar 0)) (mgName 1) mYes (mISeq (mCall m_far_goals (mCons (mVar 1) mNil))) (mgName 2) mYes (mOp dLt (mVar 2) (mCl cLen (mCons (mVar 0) mNil))) [1, 2] [2]) mNil)))))
def m_is_book_v2 : MP := mFun ["thing", "part", "goal"] 1 b_is_book_v2
def vb_is_book_v2 : VS := (vSeqS (vIfS (vOr (vNot (vTest (vIsi "tuple" (vVar 0)))) (vNot (vTest (vChain dLe dLe (vC (.int 1)) (vCl cLen (vCons (vVar 0) vNil)) (vC c_MOST_PARTS))))) (vRet (vC (.bool false))) vNext) (vSeqS (vIfS (vNot (vTest (vCl cAll (vCons (vLc (vISeq (vVar 0)) (vgName 1) vYes (vCall v_is_part_v2 (vCons (vVar 1) vNil)) [1]) vNil)))) (vRet (vC (.bool false))) vNext) (vRet (vCl cAll (vCons (vLc2 (vISeq (vVar 0)) (vgName 1) vYes (vISeq (vCall v_far_goals (vCons (vVar 1) vNil))) (vgName 2) vYes (vOp dLt (vVar 2) (vCl cLen (vCons (vVar 0) vNil))) [1, 2] [2]) vNil)))))
def v_is_book_v2 : VP := vFun ["thing", "part", "goal"] 1 vb_is_book_v2
theorem fp_is_book_v2 : FP m_is_book_v2 v_is_book_v2 := by
  unfold m_is_book_v2 v_is_book_v2 b_is_book_v2 vb_is_book_v2
  exact f_Fun (f_Seq (f_IfS (f_Or (f_Not (f_Test (f_Isi f_Var))) (f_Not (f_Test (f_Chain f_C (f_Cl (f_Cons f_Var f_Nil)) f_C)))) (f_Ret f_C) f_Next) (f_Seq (f_IfS (f_Not (f_Test (f_Cl (f_Cons (f_Lc (f_ISeq f_Var) f_gName f_Yes (f_Call fp_is_part_v2 (f_Cons f_Var f_Nil))) f_Nil)))) (f_Ret f_C) f_Next) (f_Ret (f_Cl (f_Cons (f_Lc2 (f_ISeq f_Var) f_gName f_Yes (f_ISeq (f_Call fp_far_goals (f_Cons f_Var f_Nil))) f_gName f_Yes (f_Op f_Var (f_Cl (f_Cons f_Var f_Nil)))) f_Nil)))))
def b_check_book_v2 : MS := (mIfS (mNot (mTest (mCall m_is_book_v2 (mCons (mVar 0) mNil)))) mNever mNext)
def m_check_book_v2 : MP := mFun ["book"] 1 b_check_book_v2
def vb_check_book_v2 : VS := (vIfS (vNot (vTest (vCall v_is_book_v2 (vCons (vVar 0) vNil)))) vNever vNext)
def v_check_book_v2 : VP := vFun ["book"] 1 vb_check_book_v2
theorem fp_check_book_v2 : FP m_check_book_v2 v_check_book_v2 := by
  unfold m_check_book_v2 v_check_book_v2 b_check_book_v2 vb_check_book_v2
  exact f_Fun (f_IfS (f_Not (f_Test (f_Call fp_is_book_v2 (f_Cons f_Var f_Nil)))) f_Never f_Next)
def b_is_machine_v2 : MS := (mSeq (mIfS (mOr (mNot (mTest (mIsi "tuple" (mVar 0)))) (mNot (mTest (mCall m_are_within_v2 (mCons (mVar 0) (mCons (mC c_MACHINE_BOUNDS) mNil)))))) (mRet (mC (.bool false))) mNext) (mRet (mOp dLt (mOp dIx (mVar 0) (mC c_SHORT)) (mOp dIx (mVar 0) (mC c_LONG)))))
def m_is_machine_v2 : MP := mFun ["thing"] 1 b_is_machine_v2
def vb_is_machine_v2 : VS := (vSeqS (vIfS (vOr (vNot (vTest (vIsi "tuple" (vVar 0)))) (vNot (vTest (vCall v_are_within_v2 (vCons (vVar 0) (vCons (vC c_MACHINE_BOUNDS) vNil)))))) (vRet (vC (.bool false))) vNext) (vRet (vOp dLt (vOp dIx (vVar 0) (vC c_SHORT)) (vOp dIx (vVar 0) (vC c_LONG)))))
def v_is_machine_v2 : VP := vFun ["thing"] 1 vb_is_machine_v2
theorem fp_is_machine_v2 : FP m_is_machine_v2 v_is_machine_v2 := by
  unfold m_is_machine_v2 v_is_machine_v2 b_is_machine_v2 vb_is_machine_v2
  exact f_Fun (f_Seq (f_IfS (f_Or (f_Not (f_Test (f_Isi f_Var))) (f_Not (f_Test (f_Call fp_are_within_v2 (f_Cons f_Var (f_Cons f_C f_Nil)))))) (f_Ret f_C) f_Next) (f_Ret (f_Op (f_Op f_Var f_C) (f_Op f_Var f_C))))
def b_check_machine_v2 : MS := (mIfS (mNot (mTest (mCall m_is_machine_v2 (mCons (mVar 0) mNil)))) mNever mNext)
def m_check_machine_v2 : MP := mFun ["machine"] 1 b_check_machine_v2
def vb_check_machine_v2 : VS := (vIfS (vNot (vTest (vCall v_is_machine_v2 (vCons (vVar 0) vNil)))) vNever vNext)
def v_check_machine_v2 : VP := vFun ["machine"] 1 vb_check_machine_v2
theorem fp_check_machine_v2 : FP m_check_machine_v2 v_check_machine_v2 := by
  unfold m_check_machine_v2 v_check_machine_v2 b_check_machine_v2 vb_check_machine_v2
  exact f_Fun (f_IfS (f_Not (f_Test (f_Call fp_is_machine_v2 (f_Cons f_Var f_Nil)))) f_Never f_Next)
def b_check_order : MS := (mSeq (mIfS (mOr (mNot (mTest (mIsi "list" (mVar 1)))) (mNot (mTest (mCl cAll (mCons (mLc (mISeq (mVar 1)) (mgName 2) mYes (mCall m_is_part_number (mCons (mVar 0) (mCons (mVar 2) mNil))) [2]) mNil))))) mNever mNext) (mIfS (mTest (mOp dNe (mCl cSorted (mCons (mVar 1) mNil)) (mLR1 (mCl cLen (mCons (mVar 0) mNil))))) mNever mNext))
def m_check_order : MP := mFun ["book", "order", "part"] 2 b_check_order
def vb_check_order : VS := (vSeqS (vIfS (vOr (vNot (vTest (vIsi "list" (vVar 1)))) (vNot (vTest (vCl cAll (vCons (vLc (vISeq (vVar 1)) (vgName 2) vYes (vCall v_is_part_number (vCons (vVar 0) (vCons (vVar 2) vNil))) [2]) vNil))))) vNever vNext) (vIfS (vTest (vOp dNe (vCl cSortedE (vCons (vVar 1) vNil)) (vLR1 (vCl cLen (vCons (vVar 0) vNil))))) vNever vNext))
def v_check_order : VP := vFun ["book", "order", "part"] 2 vb_check_order
theorem fp_check_order : FP m_check_order v_check_order := by
  unfold m_check_order v_check_order b_check_order vb_check_order
  exact f_Fun (f_Seq (f_IfS (f_Or (f_Not (f_Test (f_Isi f_Var))) (f_Not (f_Test (f_Cl (f_Cons (f_Lc (f_ISeq f_Var) f_gName f_Yes (f_Call fp_is_part_number (f_Cons f_Var (f_Cons f_Var f_Nil)))) f_Nil))))) f_Never f_Next) (f_IfS (f_Test (f_Op (f_ClE cSorted_E (f_Cons f_Var f_Nil)) (f_LR1 (f_Cl (f_Cons f_Var f_Nil))))) f_Never f_Next))
def b_check_room : MS := (mIfS (mOr (mNot (mTest (mIsi "list" (mVar 1)))) (mNot (mTest (mCall m_are_within_v2 (mCons (mVar 1) (mCons (mOp dMulT (mTup (mCons (mTup (mCons (mC (.int 0)) (mCons (mC c_GREATEST_ROOM) mNil))) mNil)) (mCl cLen (mCons (mVar 0) mNil))) mNil)))))) mNever mNext)
def m_check_room : MP := mFun ["book", "room"] 2 b_check_room
def vb_check_room : VS := (vIfS (vOr (vNot (vTest (vIsi "list" (vVar 1)))) (vNot (vTest (vCall v_are_within_v2 (vCons (vVar 1) (vCons (vOp dMulT (vTup (vCons (vTup (vCons (vC (.int 0)) (vCons (vC c_GREATEST_ROOM) vNil))) vNil)) (vCl cLen (vCons (vVar 0) vNil))) vNil)))))) vNever vNext)
def v_check_room : VP := vFun ["book", "room"] 2 vb_check_room
theorem fp_check_room : FP m_check_room v_check_room := by
  unfold m_check_room v_check_room b_check_room vb_check_room
  exact f_Fun (f_IfS (f_Or (f_Not (f_Test (f_Isi f_Var))) (f_Not (f_Test (f_Call fp_are_within_v2 (f_Cons f_Var (f_Cons (f_Op (f_Tup (f_Cons (f_Tup (f_Cons f_C (f_Cons f_C f_Nil))) f_Nil)) (f_Cl (f_Cons f_Var f_Nil))) f_Nil)))))) f_Never f_Next)
def b_check_ordered : MS := (mSeq (mDrop (mCall m_check_book_v2 (mCons (mVar 0) mNil))) (mSeq (mDrop (mCall m_check_machine_v2 (mCons (mVar 1) mNil))) (mSeq (mDrop (mCall m_check_order (mCons (mVar 0) (mCons (mVar 2) mNil)))) (mDrop (mCall m_check_room (mCons (mVar 0) (mCons (mVar 3) mNil)))))))
def m_check_ordered : MP := mFun ["book", "machine", "order", "room"] 4 b_check_ordered
def vb_check_ordered : VS := (vSeqS (vDrop (vCall v_check_book_v2 (vCons (vVar 0) vNil))) (vSeqS (vDrop (vCall v_check_machine_v2 (vCons (vVar 1) vNil))) (vSeqS (vDrop (vCall v_check_order (vCons (vVar 0) (vCons (vVar 2) vNil)))) (vDrop (vCall v_check_room (vCons (vVar 0) (vCons (vVar 3) vNil)))))))
def v_check_ordered : VP := vFun ["book", "machine", "order", "room"] 4 vb_check_ordered
theorem fp_check_ordered : FP m_check_ordered v_check_ordered := by
  unfold m_check_ordered v_check_ordered b_check_ordered vb_check_ordered
  exact f_Fun (f_Seq (f_Drop (f_Call fp_check_book_v2 (f_Cons f_Var f_Nil))) (f_Seq (f_Drop (f_Call fp_check_machine_v2 (f_Cons f_Var f_Nil))) (f_Seq (f_Drop (f_Call fp_check_order (f_Cons f_Var (f_Cons f_Var f_Nil)))) (f_Drop (f_Call fp_check_room (f_Cons f_Var (f_Cons f_Var f_Nil)))))))
def b_are_pairs_v2 : MS := (mSeq (mIfS (mNot (mTest (mIsi "list" (mVar 0)))) (mRet (mC (.bool false))) mNext) (mSeq (mIfS (mNot (mTest (mCl cAll (mCons (mLc (mISeq (mVar 0)) (mgName 2) mYes (mAndV (mIsi "tuple" (mVar 2)) (mCall m_are_within_v2 (mCons (mVar 2) (mCons (mVar 1) mNil)))) [2]) mNil)))) (mRet (mC (.bool false))) mNext) (mRet (mCall m_is_ascending_v2 (mCons (mVar 0) mNil)))))
def m_are_pairs_v2 : MP := mFun ["thing", "bounds", "pair"] 2 b_are_pairs_v2
def vb_are_pairs_v2 : VS := (vSeqS (vIfS (vNot (vTest (vIsi "list" (vVar 0)))) (vRet (vC (.bool false))) vNext) (vSeqS (vIfS (vNot (vTest (vCl cAll (vCons (vLc (vISeq (vVar 0)) (vgName 2) vYes (vAndV (vIsi "tuple" (vVar 2)) (vCall v_are_within_v2 (vCons (vVar 2) (vCons (vVar 1) vNil)))) [2]) vNil)))) (vRet (vC (.bool false))) vNext) (vRet (vCall v_is_ascending_v2 (vCons (vVar 0) vNil)))))
def v_are_pairs_v2 : VP := vFun ["thing", "bounds", "pair"] 2 vb_are_pairs_v2
theorem fp_are_pairs_v2 : FP m_are_pairs_v2 v_are_pairs_v2 := by
  unfold m_are_pairs_v2 v_are_pairs_v2 b_are_pairs_v2 vb_are_pairs_v2
  exact f_Fun (f_Seq (f_IfS (f_Not (f_Test (f_Isi f_Var))) (f_Ret f_C) f_Next) (f_Seq (f_IfS (f_Not (f_Test (f_Cl (f_Cons (f_Lc (f_ISeq f_Var) f_gName f_Yes (f_AndV (f_Isi f_Var) (f_Call fp_are_within_v2 (f_Cons f_Var (f_Cons f_Var f_Nil))))) f_Nil)))) (f_Ret f_C) f_Next) (f_Ret (f_Call fp_is_ascending_v2 (f_Cons f_Var f_Nil)))))
def b_put_islands : MS := (mSeq (mSet 2 (mLc (mIR1 (mCons (mCl cLen (mCons (mVar 0) mNil)) mNil)) (mgName 3) mYes (mCl cTuple (mCons (mLc (mISeq (mVar 1)) (mgTup 2 (mgCons (mgName 4) (mgCons (mgName 5) mgNil))) (mTest (mOp dEq (mVar 4) (mVar 3))) (mTup (mCons (mC (.str "far")) (mCons (mVar 5) mNil))) [4, 5]) mNil)) [3])) (mRet (mCl cTuple (mCons (mLc (mIZX (mCons (mVar 0) (mCons (mVar 2) mNil))) (mgTup 2 (mgCons (mgName 6) (mgCons (mgName 7) mgNil))) mYes (mOp dAdd (mVar 6) (mVar 7)) [6, 7]) mNil))))
def m_put_islands : MP := mFun ["book", "islands", "rows", "number", "at", "goal", "part", "behind"] 2 b_put_islands
def vb_put_islands : VS := (vSeqS (vSet 2 (vLc (vIR1 (vCons (vCl cLen (vCons (vVar 0) vNil)) vNil)) (vgName 3) vYes (vCl cTuple (vCons (vLc (vISeq (vVar 1)) (vgTup 2 (vgCons (vgName 4) (vgCons (vgName 5) vgNil))) (vTest (vOp dEq (vVar 4) (vVar 3))) (vTup (vCons (vC (.str "far")) (vCons (vVar 5) vNil))) [4, 5]) vNil)) [3])) (vRet (vCl cTuple (vCons (vLc (vIZX (vCons (vVar 0) (vCons (vVar 2) vNil))) (vgTup 2 (vgCons (vgName 6) (vgCons (vgName 7) vgNil))) vYes (vOp dAdd (vVar 6) (vVar 7)) [6, 7]) vNil))))
def v_put_islands : VP := vFun ["book", "islands", "rows", "number", "at", "goal", "part", "behind"] 2 vb_put_islands
theorem fp_put_islands : FP m_put_islands v_put_islands := by
  unfold m_put_islands v_put_islands b_put_islands vb_put_islands
  exact f_Fun (f_Seq (f_Set (f_Lc (f_IR1 (f_Cons (f_Cl (f_Cons f_Var f_Nil)) f_Nil)) f_gName f_Yes (f_Cl (f_Cons (f_Lc (f_ISeq f_Var) (f_gTup (f_gCons f_gName (f_gCons f_gName f_gNil))) (f_Test (f_Op f_Var f_Var)) (f_Tup (f_Cons f_C (f_Cons f_Var f_Nil)))) f_Nil)))) (f_Ret (f_Cl (f_Cons (f_Lc (f_IZX (f_Cons f_Var (f_Cons f_Var f_Nil))) (f_gTup (f_gCons f_gName (f_gCons f_gName f_gNil))) f_Yes (f_Op f_Var f_Var)) f_Nil))))
def b_check_islands : MS := (mSeq (mIfS (mNot (mTest (mCall m_are_pairs_v2 (mCons (mVar 1) (mCons (mOp dMulT (mTup (mCons (mTup (mCons (mC (.int 0)) (mCons (mOp dSub (mCl cLen (mCons (mVar 0) mNil)) (mC (.int 1))) mNil))) mNil)) (mC (.int 2))) mNil))))) mNever mNext) (mIfS (mNot (mTest (mCall m_is_book_v2 (mCons (mCall m_put_islands (mCons (mVar 0) (mCons (mVar 1) mNil))) mNil)))) mNever mNext))
def m_check_islands : MP := mFun ["book", "islands"] 2 b_check_islands
def vb_check_islands : VS := (vSeqS (vIfS (vNot (vTest (vCall v_are_pairs_v2 (vCons (vVar 1) (vCons (vOp dMulT (vTup (vCons (vTup (vCons (vC (.int 0)) (vCons (vOp dSub (vCl cLen (vCons (vVar 0) vNil)) (vC (.int 1))) vNil))) vNil)) (vC (.int 2))) vNil))))) vNever vNext) (vIfS (vNot (vTest (vCall v_is_book_v2 (vCons (vCall v_put_islands (vCons (vVar 0) (vCons (vVar 1) vNil))) vNil)))) vNever vNext))
def v_check_islands : VP := vFun ["book", "islands"] 2 vb_check_islands
theorem fp_check_islands : FP m_check_islands v_check_islands := by
  unfold m_check_islands v_check_islands b_check_islands vb_check_islands
  exact f_Fun (f_Seq (f_IfS (f_Not (f_Test (f_Call fp_are_pairs_v2 (f_Cons f_Var (f_Cons (f_Op (f_Tup (f_Cons (f_Tup (f_Cons f_C (f_Cons (f_Op (f_Cl (f_Cons f_Var f_Nil)) f_C) f_Nil))) f_Nil)) f_C) f_Nil))))) f_Never f_Next) (f_IfS (f_Not (f_Test (f_Call fp_is_book_v2 (f_Cons (f_Call fp_put_islands (f_Cons f_Var (f_Cons f_Var f_Nil))) f_Nil)))) f_Never f_Next))
def b_check_pairs_v2 : MS := (mSeq (mDrop (mCall m_check_islands (mCons (mVar 0) (mCons (mVar 1) mNil)))) (mIfS (mTest (mOp dGt (mCl cLen (mCons (mVar 1) mNil)) (mC c_MOST_PAIRS_v2))) mNever mNext))
def m_check_pairs_v2 : MP := mFun ["book", "pairs"] 2 b_check_pairs_v2
def vb_check_pairs_v2 : VS := (vSeqS (vDrop (vCall v_check_islands (vCons (vVar 0) (vCons (vVar 1) vNil)))) (vIfS (vTest (vOp dGt (vCl cLen (vCons (vVar 1) vNil)) (vC c_MOST_PAIRS_v2))) vNever vNext))
def v_check_pairs_v2 : VP := vFun ["book", "pairs"] 2 vb_check_pairs_v2
theorem fp_check_pairs_v2 : FP m_check_pairs_v2 v_check_pairs_v2 := by
  unfold m_check_pairs_v2 v_check_pairs_v2 b_check_pairs_v2 vb_check_pairs_v2
  exact f_Fun (f_Seq (f_Drop (f_Call fp_check_islands (f_Cons f_Var (f_Cons f_Var f_Nil)))) (f_IfS (f_Test (f_Op (f_Cl (f_Cons f_Var f_Nil)) f_C)) f_Never f_Next))
def b_far_pairs : MS := (mRet (mSc2 setDP (mIEn (mCons (mVar 0) mNil)) (mgTup 2 (mgCons (mgName 1) (mgCons (mgName 2) mgNil))) mYes (mISeq (mCall m_far_goals (mCons (mVar 2) mNil))) (mgName 3) mYes (mTup (mCons (mVar 1) (mCons (mVar 3) mNil))) [1, 2, 3] [3]))
def m_far_pairs : MP := mFun ["book", "number", "part", "goal"] 1 b_far_pairs
def vb_far_pairs : VS := (vRet (vSc2 setDP (vIEn (vCons (vVar 0) vNil)) (vgTup 2 (vgCons (vgName 1) (vgCons (vgName 2) vgNil))) vYes (vISeq (vCall v_far_goals (vCons (vVar 2) vNil))) (vgName 3) vYes (vTup (vCons (vVar 1) (vCons (vVar 3) vNil))) [1, 2, 3] [3]))
def v_far_pairs : VP := vFun ["book", "number", "part", "goal"] 1 vb_far_pairs
theorem fp_far_pairs : FP m_far_pairs v_far_pairs := by
  unfold m_far_pairs v_far_pairs b_far_pairs vb_far_pairs
  exact f_Fun (f_Ret (f_Sc2 (f_IEn (f_Cons f_Var f_Nil)) (f_gTup (f_gCons f_gName (f_gCons f_gName f_gNil))) f_Yes (f_ISeq (f_Call fp_far_goals (f_Cons f_Var f_Nil))) f_gName f_Yes (f_Tup (f_Cons f_Var (f_Cons f_Var f_Nil)))))
def b_sizes_with : MS := (mSeq (mSet 3 (mLc (mISeq (mVar 2)) (mgTup 2 (mgCons (mgName 4) (mgCons (mgName 5) mgNil))) mYes (mVar 4) [4, 5])) (mRet (mLc (mIEn (mCons (mVar 0) mNil)) (mgTup 2 (mgCons (mgName 4) (mgCons (mgName 6) mgNil))) mYes (mOp dAdd (mVar 6) (mOp dMul (mOp dIx (mVar 1) (mC c_FAR)) (mCnt (mVar 3) (mVar 4)))) [4, 6])))
def m_sizes_with : MP := mFun ["sizes", "machine", "islands", "posts", "part", "goal", "size"] 3 b_sizes_with
def vb_sizes_with : VS := (vSeqS (vSet 3 (vLc (vISeq (vVar 2)) (vgTup 2 (vgCons (vgName 4) (vgCons (vgName 5) vgNil))) vYes (vVar 4) [4, 5])) (vRet (vLc (vIEn (vCons (vVar 0) vNil)) (vgTup 2 (vgCons (vgName 4) (vgCons (vgName 6) vgNil))) vYes (vOp dAdd (vVar 6) (vOp dMul (vOp dIx (vVar 1) (vC c_FAR)) (vCnt (vVar 3) (vVar 4)))) [4, 6])))
def v_sizes_with : VP := vFun ["sizes", "machine", "islands", "posts", "part", "goal", "size"] 3 vb_sizes_with
theorem fp_sizes_with : FP m_sizes_with v_sizes_with := by
  unfold m_sizes_with v_sizes_with b_sizes_with vb_sizes_with
  exact f_Fun (f_Seq (f_Set (f_Lc (f_ISeq f_Var) (f_gTup (f_gCons f_gName (f_gCons f_gName f_gNil))) f_Yes f_Var)) (f_Ret (f_Lc (f_IEn (f_Cons f_Var f_Nil)) (f_gTup (f_gCons f_gName (f_gCons f_gName f_gNil))) f_Yes (f_Op f_Var (f_Op (f_Op f_Var f_C) (f_Cnt f_Var f_Var))))))
def b_spread : MS := (mSeq (mSet 3 mDict0) (mSeq (mSet 4 (mC (.int 0))) (mSeq (mFor (mISeq (mVar 1)) (mgName 5) (mSeq (mSet 6 (mOp dAdd (mOp dAdd (mVar 4) (mOp dIx (mVar 0) (mVar 5))) (mOp dIx (mVar 2) (mVar 5)))) (mSeq (mPutK 3 (mVar 5) (mTup (mCons (mVar 4) (mCons (mVar 6) mNil)))) (mSet 4 (mOp dAdd (mVar 6) (mOp dMod (mUn dNeg (mVar 6)) (mC c_GRID))))))) (mRet (mLc (mIR1 (mCons (mCl cLen (mCons (mVar 0) mNil)) mNil)) (mgName 7) mYes (mOp dIx (mVar 3) (mVar 7)) [7])))))
def m_spread : MP := mFun ["sizes", "order", "room", "found", "first", "part", "end", "number"] 3 b_spread
def vb_spread : VS := (vSeqS (vSet 3 vDict0) (vSeqS (vSet 4 (vC (.int 0))) (vSeqS (vFor (vISeq (vVar 1)) (vgName 5) (vSeqS (vSet 6 (vOp dAdd (vOp dAdd (vVar 4) (vOp dIx (vVar 0) (vVar 5))) (vOp dIx (vVar 2) (vVar 5)))) (vSeqS (vPutK 3 (vVar 5) (vTup (vCons (vVar 4) (vCons (vVar 6) vNil)))) (vSet 4 (vOp dAdd (vVar 6) (vOp dMod (vUn dNeg (vVar 6)) (vC c_GRID))))))) (vRet (vLc (vIR1 (vCons (vCl cLen (vCons (vVar 0) vNil)) vNil)) (vgName 7) vYes (vOp dIx (vVar 3) (vVar 7)) [7])))))
def v_spread : VP := vFun ["sizes", "order", "room", "found", "first", "part", "end", "number"] 3 vb_spread
theorem fp_spread : FP m_spread v_spread := by
  unfold m_spread v_spread b_spread vb_spread
  exact f_Fun (f_Seq (f_Set f_Dict0) (f_Seq (f_Set f_C) (f_Seq (f_For (f_ISeq f_Var) f_gName (f_Seq (f_Set (f_Op (f_Op f_Var (f_Op f_Var f_Var)) (f_Op f_Var f_Var))) (f_Seq (f_PutK f_Var (f_Tup (f_Cons f_Var (f_Cons f_Var f_Nil)))) (f_Set (f_Op f_Var (f_Op (f_Un f_Var) f_C)))))) (f_Ret (f_Lc (f_IR1 (f_Cons (f_Cl (f_Cons f_Var f_Nil)) f_Nil)) f_gName f_Yes (f_Op f_Var f_Var))))))
def b_reaches : MS := (mSeq (mSet 4 (mLst (mCons (mOp dIx (mOp dIx (mVar 0) (mVar 2)) (mC (.int 0))) (mCons (mOp dIx (mOp dIx (mVar 0) (mVar 3)) (mC (.int 0))) mNil)))) (mSeq (mSet 5 (mLst (mCons (mOp dIx (mOp dIx (mVar 0) (mVar 2)) (mC (.int 1))) (mCons (mOp dIx (mOp dIx (mVar 0) (mVar 3)) (mC (.int 1))) mNil)))) (mRet (mOp dLe (mOp dSub (mCl cMaxD (mCons (mVar 5) mNil)) (mCl cMinD (mCons (mVar 4) mNil))) (mVar 1)))))
def m_reaches : MP := mFun ["spans", "leap", "part", "other", "firsts", "ends"] 4 b_reaches
def vb_reaches : VS := (vSeqS (vSet 4 (vLst (vCons (vOp dIx (vOp dIx (vVar 0) (vVar 2)) (vC (.int 0))) (vCons (vOp dIx (vOp dIx (vVar 0) (vVar 3)) (vC (.int 0))) vNil)))) (vSeqS (vSet 5 (vLst (vCons (vOp dIx (vOp dIx (vVar 0) (vVar 2)) (vC (.int 1))) (vCons (vOp dIx (vOp dIx (vVar 0) (vVar 3)) (vC (.int 1))) vNil)))) (vRet (vOp dLe (vOp dSub (vCl cMaxD (vCons (vVar 5) vNil)) (vCl cMinD (vCons (vVar 4) vNil))) (vVar 1)))))
def v_reaches : VP := vFun ["spans", "leap", "part", "other", "firsts", "ends"] 4 vb_reaches
theorem fp_reaches : FP m_reaches v_reaches := by
  unfold m_reaches v_reaches b_reaches vb_reaches
  exact f_Fun (f_Seq (f_Set (f_Lst (f_Cons (f_Op (f_Op f_Var f_Var) f_C) (f_Cons (f_Op (f_Op f_Var f_Var) f_C) f_Nil)))) (f_Seq (f_Set (f_Lst (f_Cons (f_Op (f_Op f_Var f_Var) f_C) (f_Cons (f_Op (f_Op f_Var f_Var) f_C) f_Nil)))) (f_Ret (f_Op (f_Op (f_Cl (f_Cons f_Var f_Nil)) (f_Cl (f_Cons f_Var f_Nil))) f_Var))))
def b_ways_over : MS := (mSeq (mSet 4 (mLR1 (mCl cLen (mCons (mVar 0) mNil)))) (mSeq (mSet 5 (mLc (mISeq (mVar 2)) (mgTup 2 (mgCons (mgName 6) (mgCons (mgName 7) mgNil))) (mTest (mOp dEq (mVar 7) (mVar 3))) (mVar 6) [6, 7])) (mSeq (mSet 8 (mDc (mISeq (mVar 4)) (mgName 9) (mTest (mCall m_reaches (mCons (mVar 0) (mCons (mVar 1) (mCons (mVar 9) (mCons (mVar 3) mNil)))))) (mVar 9) (mLst mNil) [9])) (mSeq (mFor (mIR1 (mCons (mCl cLen (mCons (mVar 4) mNil)) mNil)) (mgName 10) (mSeq (mSet 11 (mLookL (mLc (mISeq (mVar 5)) (mgName 6) (mTest (mOp dIn (mVar 6) (mVar 8))) (mVar 6) [6]))) (mFor (mISeq (mVar 4)) (mgName 12) (mSeq (mSet 13 (mLc (mISeq (mVar 11)) (mgName 6) (mTest (mCall m_reaches (mCons (mVar 0) (mCons (mVar 1) (mCons (mVar 12) (mCons (mVar 6) mNil)))))) (mVar 6) [6])) (mIfS (mAnd (mTest (mOp dNotIn (mVar 12) (mVar 8))) (mTru (mVar 13))) (mPutK 8 (mVar 12) (mLookL (mOp dAddL (mLst (mCons (mOp dIx (mVar 13) (mC (.int 0))) mNil)) (mOp dIx (mVar 8) (mOp dIx (mVar 13) (mC (.int 0))))))) mNext))))) (mRet (mCl cTuple (mCons (mLc (mISeq (mVar 4)) (mgName 9) mYes (mGet1 (mVar 8) (mVar 9)) [9]) mNil)))))))
def m_ways_over : MP := mFun ["spans", "leap", "islands", "goal", "parts", "posts", "post", "to", "found", "number", "_", "steps", "part", "firsts"] 4 b_ways_over
def vb_ways_over : VS := (vSeqS (vSet 4 (vLR1 (vCl cLen (vCons (vVar 0) vNil)))) (vSeqS (vSet 5 (vLc (vISeq (vVar 2)) (vgTup 2 (vgCons (vgName 6) (vgCons (vgName 7) vgNil))) (vTest (vOp dEq (vVar 7) (vVar 3))) (vVar 6) [6, 7])) (vSeqS (vSet 8 (vDc (vISeq (vVar 4)) (vgName 9) (vTest (vCall v_reaches (vCons (vVar 0) (vCons (vVar 1) (vCons (vVar 9) (vCons (vVar 3) vNil)))))) (vVar 9) (vLst vNil) [9])) (vSeqS (vFor (vIR1 (vCons (vCl cLen (vCons (vVar 4) vNil)) vNil)) (vgName 10) (vSeqS (vSet 11 (vLookL (vLc (vISeq (vVar 5)) (vgName 6) (vTest (vOp dIn (vVar 6) (vVar 8))) (vVar 6) [6]))) (vFor (vISeq (vVar 4)) (vgName 12) (vSeqS (vSet 13 (vLc (vISeq (vVar 11)) (vgName 6) (vTest (vCall v_reaches (vCons (vVar 0) (vCons (vVar 1) (vCons (vVar 12) (vCons (vVar 6) vNil)))))) (vVar 6) [6])) (vIfS (vAnd (vTest (vOp dNotIn (vVar 12) (vVar 8))) (vTru (vVar 13))) (vPutK 8 (vVar 12) (vLookL (vOp dAddL (vLst (vCons (vOp dIx (vVar 13) (vC (.int 0))) vNil)) (vOp dIx (vVar 8) (vOp dIx (vVar 13) (vC (.int 0))))))) vNext))))) (vRet (vCl cTuple (vCons (vLc (vISeq (vVar 4)) (vgName 9) vYes (vGet1 (vVar 8) (vVar 9)) [9]) vNil)))))))
def v_ways_over : VP := vFun ["spans", "leap", "islands", "goal", "parts", "posts", "post", "to", "found", "number", "_", "steps", "part", "firsts"] 4 vb_ways_over
theorem fp_ways_over : FP m_ways_over v_ways_over := by
  unfold m_ways_over v_ways_over b_ways_over vb_ways_over
  exact f_Fun (f_Seq (f_Set (f_LR1 (f_Cl (f_Cons f_Var f_Nil)))) (f_Seq (f_Set (f_Lc (f_ISeq f_Var) (f_gTup (f_gCons f_gName (f_gCons f_gName f_gNil))) (f_Test (f_Op f_Var f_Var)) f_Var)) (f_Seq (f_Set (f_Dc (f_ISeq f_Var) f_gName (f_Test (f_Call fp_reaches (f_Cons f_Var (f_Cons f_Var (f_Cons f_Var (f_Cons f_Var f_Nil)))))) f_Var (f_Lst f_Nil))) (f_Seq (f_For (f_IR1 (f_Cons (f_Cl (f_Cons f_Var f_Nil)) f_Nil)) f_gName (f_Seq (f_Set (f_LookL (f_Lc (f_ISeq f_Var) f_gName (f_Test (f_Op f_Var f_Var)) f_Var))) (f_For (f_ISeq f_Var) f_gName (f_Seq (f_Set (f_Lc (f_ISeq f_Var) f_gName (f_Test (f_Call fp_reaches (f_Cons f_Var (f_Cons f_Var (f_Cons f_Var (f_Cons f_Var f_Nil)))))) f_Var)) (f_IfS (f_And (f_Test (f_Op f_Var f_Var)) (f_Tru f_Var)) (f_PutK f_Var (f_LookL (f_Op (f_Lst (f_Cons (f_Op f_Var f_C) f_Nil)) (f_Op f_Var (f_Op f_Var f_C))))) f_Next))))) (f_Ret (f_Cl (f_Cons (f_Lc (f_ISeq f_Var) f_gName f_Yes (f_Get1 f_Var f_Var)) f_Nil)))))))
def b_lost_pairs : MS := (mSeq (mSet 6 (mCall m_spread (mCons (mCall m_sizes_with (mCons (mVar 1) (mCons (mVar 2) (mCons (mVar 5) mNil)))) (mCons (mVar 3) (mCons (mVar 4) mNil))))) (mSeq (mSet 7 (mLc (mIR1 (mCons (mCl cLen (mCons (mVar 1) mNil)) mNil)) (mgName 8) mYes (mCall m_ways_over (mCons (mVar 6) (mCons (mOp dIx (mVar 2) (mC c_LEAP)) (mCons (mVar 5) (mCons (mVar 8) mNil))))) [8])) (mRet (mLc (mISeq (mVar 0)) (mgTup 2 (mgCons (mgName 9) (mgCons (mgName 8) mgNil))) (mTest (mOp dIsN (mOp dIx (mOp dIx (mVar 7) (mVar 8)) (mVar 9)) (mC .none))) (mTup (mCons (mVar 9) (mCons (mVar 8) mNil))) [9, 8]))))
def m_lost_pairs : MP := mFun ["pairs", "sizes", "machine", "order", "room", "islands", "spans", "found", "goal", "part"] 6 b_lost_pairs
def vb_lost_pairs : VS := (vSeqS (vSet 6 (vCall v_spread (vCons (vCall v_sizes_with (vCons (vVar 1) (vCons (vVar 2) (vCons (vVar 5) vNil)))) (vCons (vVar 3) (vCons (vVar 4) vNil))))) (vSeqS (vSet 7 (vLc (vIR1 (vCons (vCl cLen (vCons (vVar 1) vNil)) vNil)) (vgName 8) vYes (vCall v_ways_over (vCons (vVar 6) (vCons (vOp dIx (vVar 2) (vC c_LEAP)) (vCons (vVar 5) (vCons (vVar 8) vNil))))) [8])) (vRet (vLc (vISeq (vVar 0)) (vgTup 2 (vgCons (vgName 9) (vgCons (vgName 8) vgNil))) (vTest (vOp dIsN (vOp dIx (vOp dIx (vVar 7) (vVar 8)) (vVar 9)) (vC .none))) (vTup (vCons (vVar 9) (vCons (vVar 8) vNil))) [9, 8]))))
def v_lost_pairs : VP := vFun ["pairs", "sizes", "machine", "order", "room", "islands", "spans", "found", "goal", "part"] 6 vb_lost_pairs
theorem fp_lost_pairs : FP m_lost_pairs v_lost_pairs := by
  unfold m_lost_pairs v_lost_pairs b_lost_pairs vb_lost_pairs
  exact f_Fun (f_Seq (f_Set (f_Call fp_spread (f_Cons (f_Call fp_sizes_with (f_Cons f_Var (f_Cons f_Var (f_Cons f_Var f_Nil)))) (f_Cons f_Var (f_Cons f_Var f_Nil))))) (f_Seq (f_Set (f_Lc (f_IR1 (f_Cons (f_Cl (f_Cons f_Var f_Nil)) f_Nil)) f_gName f_Yes (f_Call fp_ways_over (f_Cons f_Var (f_Cons (f_Op f_Var f_C) (f_Cons f_Var (f_Cons f_Var f_Nil))))))) (f_Ret (f_Lc (f_ISeq f_Var) (f_gTup (f_gCons f_gName (f_gCons f_gName f_gNil))) (f_Test (f_Op (f_Op (f_Op f_Var f_Var) f_Var) f_C)) (f_Tup (f_Cons f_Var (f_Cons f_Var f_Nil)))))))
def b_laid_size : MS := (mRet (mCall m_size_of (mCons (mVar 0) (mCons (mVar 1) (mCons (mCall m_laid_forms (mCons (mVar 0) (mCons (mVar 1) mNil))) mNil)))))
def m_laid_size : MP := mFun ["part", "machine"] 2 b_laid_size
def vb_laid_size : VS := (vRet (vCall v_size_of (vCons (vVar 0) (vCons (vVar 1) (vCons (vCall v_laid_forms (vCons (vVar 0) (vCons (vVar 1) vNil))) vNil)))))
def v_laid_size : VP := vFun ["part", "machine"] 2 vb_laid_size
theorem fp_laid_size : FP m_laid_size v_laid_size := by
  unfold m_laid_size v_laid_size b_laid_size vb_laid_size
  exact f_Fun (f_Ret (f_Call fp_size_of (f_Cons f_Var (f_Cons f_Var (f_Cons (f_Call fp_laid_forms (f_Cons f_Var (f_Cons f_Var f_Nil))) f_Nil)))))
def b_sizes_of : MS := (mRet (mLc (mISeq (mVar 0)) (mgName 2) mYes (mCall m_laid_size (mCons (mVar 2) (mCons (mVar 1) mNil))) [2]))
def m_sizes_of : MP := mFun ["book", "machine", "part"] 2 b_sizes_of
def vb_sizes_of : VS := (vRet (vLc (vISeq (vVar 0)) (vgName 2) vYes (vCall v_laid_size (vCons (vVar 2) (vCons (vVar 1) vNil))) [2]))
def v_sizes_of : VP := vFun ["book", "machine", "part"] 2 vb_sizes_of
theorem fp_sizes_of : FP m_sizes_of v_sizes_of := by
  unfold m_sizes_of v_sizes_of b_sizes_of vb_sizes_of
  exact f_Fun (f_Ret (f_Lc (f_ISeq f_Var) f_gName f_Yes (f_Call fp_laid_size (f_Cons f_Var (f_Cons f_Var f_Nil)))))
def b_fewest_islands : MS := (mSeq (mDrop (mCall m_check_ordered (mCons (mVar 0) (mCons (mVar 1) (mCons (mVar 2) (mCons (mVar 3) mNil)))))) (mSeq (mDrop (mCall m_check_pairs_v2 (mCons (mVar 0) (mCons (mVar 4) mNil)))) (mSeq (mSet 5 (mCall m_far_pairs (mCons (mVar 0) mNil))) (mSeq (mSet 6 (mCall m_sizes_of (mCons (mVar 0) (mCons (mVar 1) mNil)))) (mSeq (mFor (mISeq (mCall m_sublists (mCons (mVar 4) mNil))) (mgName 7) (mIfS (mNot (mTru (mCall m_lost_pairs (mCons (mVar 5) (mCons (mVar 6) (mCons (mVar 1) (mCons (mVar 2) (mCons (mVar 3) (mCons (mVar 7) mNil))))))))) (mRet (mVar 7)) mNext)) (mRet (mC .none)))))))
def m_fewest_islands : MP := mFun ["book", "machine", "order", "room", "pairs", "wanted", "sizes", "islands"] 5 b_fewest_islands
def vb_fewest_islands : VS := (vSeqS (vDrop (vCall v_check_ordered (vCons (vVar 0) (vCons (vVar 1) (vCons (vVar 2) (vCons (vVar 3) vNil)))))) (vSeqS (vDrop (vCall v_check_pairs_v2 (vCons (vVar 0) (vCons (vVar 4) vNil)))) (vSeqS (vSet 5 (vCall v_far_pairs (vCons (vVar 0) vNil))) (vSeqS (vSet 6 (vCall v_sizes_of (vCons (vVar 0) (vCons (vVar 1) vNil)))) (vSeqS (vFor (vISeq (vCall v_sublists (vCons (vVar 4) vNil))) (vgName 7) (vIfS (vNot (vTru (vCall v_lost_pairs (vCons (vVar 5) (vCons (vVar 6) (vCons (vVar 1) (vCons (vVar 2) (vCons (vVar 3) (vCons (vVar 7) vNil))))))))) (vRet (vVar 7)) vNext)) (vRet (vC .none)))))))
def v_fewest_islands : VP := vFun ["book", "machine", "order", "room", "pairs", "wanted", "sizes", "islands"] 5 vb_fewest_islands
theorem fp_fewest_islands : FP m_fewest_islands v_fewest_islands := by
  unfold m_fewest_islands v_fewest_islands b_fewest_islands vb_fewest_islands
  exact f_Fun (f_Seq (f_Drop (f_Call fp_check_ordered (f_Cons f_Var (f_Cons f_Var (f_Cons f_Var (f_Cons f_Var f_Nil)))))) (f_Seq (f_Drop (f_Call fp_check_pairs_v2 (f_Cons f_Var (f_Cons f_Var f_Nil)))) (f_Seq (f_Set (f_Call fp_far_pairs (f_Cons f_Var f_Nil))) (f_Seq (f_Set (f_Call fp_sizes_of (f_Cons f_Var (f_Cons f_Var f_Nil)))) (f_Seq (f_For (f_ISeq (f_Call fp_sublists (f_Cons f_Var f_Nil))) f_gName (f_IfS (f_Not (f_Tru (f_Call fp_lost_pairs (f_Cons f_Var (f_Cons f_Var (f_Cons f_Var (f_Cons f_Var (f_Cons f_Var (f_Cons f_Var f_Nil))))))))) (f_Ret f_Var) f_Next)) (f_Ret f_C))))))
def b__law_w_six_right : MS := (mSeq (mSet 1 (mOp dAdd (mC (.int 7)) (mCallP m__law_take_v2 (mCons (mC (.int 4)) mNil)))) (mSeq (mSet 2 (mTup (mCons (mTup (mCons (mC (.str "stop")) (mCons (mVar 1) mNil))) mNil))) (mSeq (mSet 3 (mTup (mCons (mTup (mCons (mTup (mCons (mC (.str "far")) (mCons (mC (.int 4)) mNil))) mNil)) (mCons (mVar 2) (mCons (mVar 2) (mCons (mVar 2) (mCons (mTup (mCons (mTup (mCons (mC (.str "far")) (mCons (mC (.int 0)) mNil))) mNil)) mNil))))))) (mSeq (mSet 4 (mLst (mCons (mTup (mCons (mC (.int 1)) (mCons (mC (.int 0)) mNil))) (mCons (mTup (mCons (mC (.int 1)) (mCons (mC (.int 4)) mNil))) (mCons (mTup (mCons (mC (.int 2)) (mCons (mC (.int 0)) mNil))) (mCons (mTup (mCons (mC (.int 2)) (mCons (mC (.int 4)) mNil))) (mCons (mTup (mCons (mC (.int 3)) (mCons (mC (.int 0)) mNil))) (mCons (mTup (mCons (mC (.int 3)) (mCons (mC (.int 4)) mNil))) mNil)))))))) (mSeq (mPar [5, 6, 7] (mCons (mTup (mCons (mC (.int 1)) (mCons (mC (.int 9)) (mCons (mC (.int 3)) (mCons (mC (.int 2)) (mCons (mC (.int 30)) (mCons (mC (.int 2)) (mCons (mC (.int 20)) (mCons (mC (.int 4)) mNil))))))))) (mCons (mLst (mCons (mC (.int 0)) (mCons (mC (.int 1)) (mCons (mC (.int 2)) (mCons (mC (.int 3)) (mCons (mC (.int 4)) mNil)))))) (mCons (mLst (mCons (mC (.int 0)) (mCons (mC (.int 0)) (mCons (mC (.int 0)) (mCons (mC (.int 0)) (mCons (mC (.int 0)) mNil)))))) mNil)))) (mSeq (mIfS (mTest (mOp dNe (mCall m_fewest_islands (mCons (mVar 3) (mCons (mVar 5) (mCons (mVar 6) (mCons (mVar 7) (mCons (mVar 4) mNil)))))) (mVar 4))) (mRet (mC (.bool false))) mNext) (mRet (mOp dIsN (mCall m_fewest_islands (mCons (mVar 3) (mCons (mVar 5) (mCons (mVar 6) (mCons (mVar 7) (mCons (mSl (mVar 4) (mPart (mC (.int 1))) mNoPart) mNil)))))) (mC .none)))))))))
def m__law_w_six_right : MF := mFunP ["pen", "wide", "middle", "made", "posts", "kind", "row", "free"] 0 b__law_w_six_right
def b_orders_of : MS := (mRet (mLc (mIPm (mC (.int 1)) (mCl cLen (mCons (mVar 0) mNil))) (mgName 1) mYes (mOp dAdd (mLst (mCons (mC (.int 0)) mNil)) (mCl cList (mCons (mVar 1) mNil))) [1]))
def m_orders_of : MP := mFun ["book", "others"] 1 b_orders_of
def vb_orders_of : VS := (vRet (vLc (vIPm (vC (.int 1)) (vCl cLen (vCons (vVar 0) vNil))) (vgName 1) vYes (vOp dAdd (vLst (vCons (vC (.int 0)) vNil)) (vCl cList (vCons (vVar 1) vNil))) [1]))
def v_orders_of : VP := vFun ["book", "others"] 1 vb_orders_of
theorem fp_orders_of : FP m_orders_of v_orders_of := by
  unfold m_orders_of v_orders_of b_orders_of vb_orders_of
  exact f_Fun (f_Ret (f_Lc (f_IPm f_C (f_Cl (f_Cons f_Var f_Nil))) f_gName f_Yes (f_Op (f_Lst (f_Cons f_C f_Nil)) (f_Cl (f_Cons f_Var f_Nil)))))
def b_best_order : MS := (mSeq (mDrop (mCall m_check_book_v2 (mCons (mVar 0) mNil))) (mSeq (mDrop (mCall m_check_machine_v2 (mCons (mVar 1) mNil))) (mSeq (mDrop (mCall m_check_room (mCons (mVar 0) (mCons (mVar 2) mNil)))) (mSeq (mDrop (mCall m_check_pairs_v2 (mCons (mVar 0) (mCons (mVar 3) mNil)))) (mSeq (mSet 4 (mCall m_far_pairs (mCons (mVar 0) mNil))) (mSeq (mSet 5 (mCall m_sizes_of (mCons (mVar 0) (mCons (mVar 1) mNil)))) (mSeq (mSet 6 (mCall m_orders_of (mCons (mVar 0) mNil))) (mSeq (mFor (mIR1 (mCons (mOp dAdd (mCl cLen (mCons (mVar 3) mNil)) (mC (.int 1))) mNil)) (mgName 7) (mFor (mISeq (mVar 6)) (mgName 8) (mFor (mICb (mCons (mVar 3) (mCons (mVar 7) mNil))) (mgName 9) (mIfS (mNot (mTru (mCall m_lost_pairs (mCons (mVar 4) (mCons (mVar 5) (mCons (mVar 1) (mCons (mVar 8) (mCons (mVar 2) (mCons (mVar 9) mNil))))))))) (mRet (mTup (mCons (mVar 8) (mCons (mCl cList (mCons (mVar 9) mNil)) mNil)))) mNext)))) (mRet (mC .none))))))))))
def m_best_order : MP := mFun ["book", "machine", "room", "pairs", "wanted", "sizes", "orders", "many", "order", "islands"] 4 b_best_order
def vb_best_order : VS := (vSeqS (vDrop (vCall v_check_book_v2 (vCons (vVar 0) vNil))) (vSeqS (vDrop (vCall v_check_machine_v2 (vCons (vVar 1) vNil))) (vSeqS (vDrop (vCall v_check_room (vCons (vVar 0) (vCons (vVar 2) vNil)))) (vSeqS (vDrop (vCall v_check_pairs_v2 (vCons (vVar 0) (vCons (vVar 3) vNil)))) (vSeqS (vSet 4 (vCall v_far_pairs (vCons (vVar 0) vNil))) (vSeqS (vSet 5 (vCall v_sizes_of (vCons (vVar 0) (vCons (vVar 1) vNil)))) (vSeqS (vSet 6 (vCall v_orders_of (vCons (vVar 0) vNil))) (vSeqS (vFor (vIR1 (vCons (vOp dAdd (vCl cLen (vCons (vVar 3) vNil)) (vC (.int 1))) vNil)) (vgName 7) (vFor (vISeq (vVar 6)) (vgName 8) (vFor (vICb (vCons (vVar 3) (vCons (vVar 7) vNil))) (vgName 9) (vIfS (vNot (vTru (vCall v_lost_pairs (vCons (vVar 4) (vCons (vVar 5) (vCons (vVar 1) (vCons (vVar 8) (vCons (vVar 2) (vCons (vVar 9) vNil))))))))) (vRet (vTup (vCons (vVar 8) (vCons (vCl cList (vCons (vVar 9) vNil)) vNil)))) vNext)))) (vRet (vC .none))))))))))
def v_best_order : VP := vFun ["book", "machine", "room", "pairs", "wanted", "sizes", "orders", "many", "order", "islands"] 4 vb_best_order
theorem fp_best_order : FP m_best_order v_best_order := by
  unfold m_best_order v_best_order b_best_order vb_best_order
  exact f_Fun (f_Seq (f_Drop (f_Call fp_check_book_v2 (f_Cons f_Var f_Nil))) (f_Seq (f_Drop (f_Call fp_check_machine_v2 (f_Cons f_Var f_Nil))) (f_Seq (f_Drop (f_Call fp_check_room (f_Cons f_Var (f_Cons f_Var f_Nil)))) (f_Seq (f_Drop (f_Call fp_check_pairs_v2 (f_Cons f_Var (f_Cons f_Var f_Nil)))) (f_Seq (f_Set (f_Call fp_far_pairs (f_Cons f_Var f_Nil))) (f_Seq (f_Set (f_Call fp_sizes_of (f_Cons f_Var (f_Cons f_Var f_Nil)))) (f_Seq (f_Set (f_Call fp_orders_of (f_Cons f_Var f_Nil))) (f_Seq (f_For (f_IR1 (f_Cons (f_Op (f_Cl (f_Cons f_Var f_Nil)) f_C) f_Nil)) f_gName (f_For (f_ISeq f_Var) f_gName (f_For (f_ICb (f_Cons f_Var (f_Cons f_Var f_Nil))) f_gName (f_IfS (f_Not (f_Tru (f_Call fp_lost_pairs (f_Cons f_Var (f_Cons f_Var (f_Cons f_Var (f_Cons f_Var (f_Cons f_Var (f_Cons f_Var f_Nil))))))))) (f_Ret (f_Tup (f_Cons f_Var (f_Cons (f_Cl (f_Cons f_Var f_Nil)) f_Nil)))) f_Next)))) (f_Ret f_C)))))))))
def b__law_w_ties_right : MS := (mSeq (mSet 0 (mTup (mCons (mTup (mCons (mTup (mCons (mC (.str "far")) (mCons (mC (.int 4)) mNil))) mNil)) (mCons (mTup (mCons (mTup (mCons (mC (.str "stop")) (mCons (mC (.int 1)) mNil))) mNil)) (mCons (mTup (mCons (mTup (mCons (mC (.str "stop")) (mCons (mC (.int 16)) mNil))) mNil)) (mCons (mTup (mCons (mTup (mCons (mC (.str "stop")) (mCons (mC (.int 1)) mNil))) mNil)) (mCons (mTup (mCons (mTup (mCons (mC (.str "far")) (mCons (mC (.int 0)) mNil))) mNil)) mNil))))))) (mSeq (mPar [1, 2] (mCons (mTup (mCons (mC (.int 1)) (mCons (mC (.int 9)) (mCons (mC (.int 3)) (mCons (mC (.int 2)) (mCons (mC (.int 60)) (mCons (mC (.int 2)) (mCons (mC (.int 20)) (mCons (mC (.int 4)) mNil))))))))) (mCons (mLst (mCons (mTup (mCons (mC (.int 1)) (mCons (mC (.int 0)) mNil))) (mCons (mTup (mCons (mC (.int 2)) (mCons (mC (.int 0)) mNil))) (mCons (mTup (mCons (mC (.int 2)) (mCons (mC (.int 4)) mNil))) (mCons (mTup (mCons (mC (.int 3)) (mCons (mC (.int 4)) mNil))) mNil))))) mNil))) (mSeq (mIfS (mTest (mOp dNe (mCall m_fewest_islands (mCons (mVar 0) (mCons (mVar 1) (mCons (mLst (mCons (mC (.int 0)) (mCons (mC (.int 1)) (mCons (mC (.int 2)) (mCons (mC (.int 3)) (mCons (mC (.int 4)) mNil)))))) (mCons (mLst (mCons (mC (.int 0)) (mCons (mC (.int 0)) (mCons (mC (.int 0)) (mCons (mC (.int 0)) (mCons (mC (.int 0)) mNil)))))) (mCons (mVar 2) mNil)))))) (mLst (mCons (mTup (mCons (mC (.int 1)) (mCons (mC (.int 0)) mNil))) (mCons (mTup (mCons (mC (.int 3)) (mCons (mC (.int 4)) mNil))) mNil))))) (mRet (mC (.bool false))) mNext) (mSeq (mSet 0 (mTup (mCons (mTup (mCons (mTup (mCons (mC (.str "plain")) (mCons (mC (.int 28)) (mCons (mC (.int 0)) mNil)))) (mCons (mTup (mCons (mC (.str "far")) (mCons (mC (.int 3)) mNil))) mNil))) (mCons (mTup (mCons (mTup (mCons (mC (.str "stop")) (mCons (mC (.int 4)) mNil))) mNil)) (mCons (mTup (mCons (mTup (mCons (mC (.str "stop")) (mCons (mC (.int 4)) mNil))) mNil)) (mCons (mTup (mCons (mTup (mCons (mC (.str "stop")) (mCons (mC (.int 50)) mNil))) mNil)) mNil)))))) (mSeq (mSet 1 (mTup (mCons (mC (.int 1)) (mCons (mC (.int 9)) (mCons (mC (.int 3)) (mCons (mC (.int 2)) (mCons (mC (.int 70)) (mCons (mC (.int 2)) (mCons (mC (.int 20)) (mCons (mC (.int 4)) mNil)))))))))) (mRet (mOp dEq (mCall m_best_order (mCons (mVar 0) (mCons (mVar 1) (mCons (mLst (mCons (mC (.int 0)) (mCons (mC (.int 0)) (mCons (mC (.int 0)) (mCons (mC (.int 0)) mNil))))) (mCons (mLst (mCons (mTup (mCons (mC (.int 1)) (mCons (mC (.int 3)) mNil))) (mCons (mTup (mCons (mC (.int 2)) (mCons (mC (.int 3)) mNil))) mNil))) mNil))))) (mTup (mCons (mLst (mCons (mC (.int 0)) (mCons (mC (.int 1)) (mCons (mC (.int 2)) (mCons (mC (.int 3)) mNil))))) (mCons (mLst (mCons (mTup (mCons (mC (.int 2)) (mCons (mC (.int 3)) mNil))) mNil)) mNil))))))))))
def m__law_w_ties_right : MP := mFun ["made", "kind", "posts"] 0 b__law_w_ties_right
def vb__law_w_ties_right : VS := (vSeqS (vSet 0 (vTup (vCons (vTup (vCons (vTup (vCons (vC (.str "far")) (vCons (vC (.int 4)) vNil))) vNil)) (vCons (vTup (vCons (vTup (vCons (vC (.str "stop")) (vCons (vC (.int 1)) vNil))) vNil)) (vCons (vTup (vCons (vTup (vCons (vC (.str "stop")) (vCons (vC (.int 16)) vNil))) vNil)) (vCons (vTup (vCons (vTup (vCons (vC (.str "stop")) (vCons (vC (.int 1)) vNil))) vNil)) (vCons (vTup (vCons (vTup (vCons (vC (.str "far")) (vCons (vC (.int 0)) vNil))) vNil)) vNil))))))) (vSeqS (vPar [1, 2] (vCons (vTup (vCons (vC (.int 1)) (vCons (vC (.int 9)) (vCons (vC (.int 3)) (vCons (vC (.int 2)) (vCons (vC (.int 60)) (vCons (vC (.int 2)) (vCons (vC (.int 20)) (vCons (vC (.int 4)) vNil))))))))) (vCons (vLst (vCons (vTup (vCons (vC (.int 1)) (vCons (vC (.int 0)) vNil))) (vCons (vTup (vCons (vC (.int 2)) (vCons (vC (.int 0)) vNil))) (vCons (vTup (vCons (vC (.int 2)) (vCons (vC (.int 4)) vNil))) (vCons (vTup (vCons (vC (.int 3)) (vCons (vC (.int 4)) vNil))) vNil))))) vNil))) (vSeqS (vIfS (vTest (vOp dNe (vCall v_fewest_islands (vCons (vVar 0) (vCons (vVar 1) (vCons (vLst (vCons (vC (.int 0)) (vCons (vC (.int 1)) (vCons (vC (.int 2)) (vCons (vC (.int 3)) (vCons (vC (.int 4)) vNil)))))) (vCons (vLst (vCons (vC (.int 0)) (vCons (vC (.int 0)) (vCons (vC (.int 0)) (vCons (vC (.int 0)) (vCons (vC (.int 0)) vNil)))))) (vCons (vVar 2) vNil)))))) (vLst (vCons (vTup (vCons (vC (.int 1)) (vCons (vC (.int 0)) vNil))) (vCons (vTup (vCons (vC (.int 3)) (vCons (vC (.int 4)) vNil))) vNil))))) (vRet (vC (.bool false))) vNext) (vSeqS (vSet 0 (vTup (vCons (vTup (vCons (vTup (vCons (vC (.str "plain")) (vCons (vC (.int 28)) (vCons (vC (.int 0)) vNil)))) (vCons (vTup (vCons (vC (.str "far")) (vCons (vC (.int 3)) vNil))) vNil))) (vCons (vTup (vCons (vTup (vCons (vC (.str "stop")) (vCons (vC (.int 4)) vNil))) vNil)) (vCons (vTup (vCons (vTup (vCons (vC (.str "stop")) (vCons (vC (.int 4)) vNil))) vNil)) (vCons (vTup (vCons (vTup (vCons (vC (.str "stop")) (vCons (vC (.int 50)) vNil))) vNil)) vNil)))))) (vSeqS (vSet 1 (vTup (vCons (vC (.int 1)) (vCons (vC (.int 9)) (vCons (vC (.int 3)) (vCons (vC (.int 2)) (vCons (vC (.int 70)) (vCons (vC (.int 2)) (vCons (vC (.int 20)) (vCons (vC (.int 4)) vNil)))))))))) (vRet (vOp dEq (vCall v_best_order (vCons (vVar 0) (vCons (vVar 1) (vCons (vLst (vCons (vC (.int 0)) (vCons (vC (.int 0)) (vCons (vC (.int 0)) (vCons (vC (.int 0)) vNil))))) (vCons (vLst (vCons (vTup (vCons (vC (.int 1)) (vCons (vC (.int 3)) vNil))) (vCons (vTup (vCons (vC (.int 2)) (vCons (vC (.int 3)) vNil))) vNil))) vNil))))) (vTup (vCons (vLst (vCons (vC (.int 0)) (vCons (vC (.int 1)) (vCons (vC (.int 2)) (vCons (vC (.int 3)) vNil))))) (vCons (vLst (vCons (vTup (vCons (vC (.int 2)) (vCons (vC (.int 3)) vNil))) vNil)) vNil))))))))))
def v__law_w_ties_right : VP := vFun ["made", "kind", "posts"] 0 vb__law_w_ties_right
theorem fp__law_w_ties_right : FP m__law_w_ties_right v__law_w_ties_right := by
  unfold m__law_w_ties_right v__law_w_ties_right b__law_w_ties_right vb__law_w_ties_right
  exact f_Fun (f_Seq (f_Set (f_Tup (f_Cons (f_Tup (f_Cons (f_Tup (f_Cons f_C (f_Cons f_C f_Nil))) f_Nil)) (f_Cons (f_Tup (f_Cons (f_Tup (f_Cons f_C (f_Cons f_C f_Nil))) f_Nil)) (f_Cons (f_Tup (f_Cons (f_Tup (f_Cons f_C (f_Cons f_C f_Nil))) f_Nil)) (f_Cons (f_Tup (f_Cons (f_Tup (f_Cons f_C (f_Cons f_C f_Nil))) f_Nil)) (f_Cons (f_Tup (f_Cons (f_Tup (f_Cons f_C (f_Cons f_C f_Nil))) f_Nil)) f_Nil))))))) (f_Seq (f_Par (f_Cons (f_Tup (f_Cons f_C (f_Cons f_C (f_Cons f_C (f_Cons f_C (f_Cons f_C (f_Cons f_C (f_Cons f_C (f_Cons f_C f_Nil))))))))) (f_Cons (f_Lst (f_Cons (f_Tup (f_Cons f_C (f_Cons f_C f_Nil))) (f_Cons (f_Tup (f_Cons f_C (f_Cons f_C f_Nil))) (f_Cons (f_Tup (f_Cons f_C (f_Cons f_C f_Nil))) (f_Cons (f_Tup (f_Cons f_C (f_Cons f_C f_Nil))) f_Nil))))) f_Nil))) (f_Seq (f_IfS (f_Test (f_Op (f_Call fp_fewest_islands (f_Cons f_Var (f_Cons f_Var (f_Cons (f_Lst (f_Cons f_C (f_Cons f_C (f_Cons f_C (f_Cons f_C (f_Cons f_C f_Nil)))))) (f_Cons (f_Lst (f_Cons f_C (f_Cons f_C (f_Cons f_C (f_Cons f_C (f_Cons f_C f_Nil)))))) (f_Cons f_Var f_Nil)))))) (f_Lst (f_Cons (f_Tup (f_Cons f_C (f_Cons f_C f_Nil))) (f_Cons (f_Tup (f_Cons f_C (f_Cons f_C f_Nil))) f_Nil))))) (f_Ret f_C) f_Next) (f_Seq (f_Set (f_Tup (f_Cons (f_Tup (f_Cons (f_Tup (f_Cons f_C (f_Cons f_C (f_Cons f_C f_Nil)))) (f_Cons (f_Tup (f_Cons f_C (f_Cons f_C f_Nil))) f_Nil))) (f_Cons (f_Tup (f_Cons (f_Tup (f_Cons f_C (f_Cons f_C f_Nil))) f_Nil)) (f_Cons (f_Tup (f_Cons (f_Tup (f_Cons f_C (f_Cons f_C f_Nil))) f_Nil)) (f_Cons (f_Tup (f_Cons (f_Tup (f_Cons f_C (f_Cons f_C f_Nil))) f_Nil)) f_Nil)))))) (f_Seq (f_Set (f_Tup (f_Cons f_C (f_Cons f_C (f_Cons f_C (f_Cons f_C (f_Cons f_C (f_Cons f_C (f_Cons f_C (f_Cons f_C f_Nil)))))))))) (f_Ret (f_Op (f_Call fp_best_order (f_Cons f_Var (f_Cons f_Var (f_Cons (f_Lst (f_Cons f_C (f_Cons f_C (f_Cons f_C (f_Cons f_C f_Nil))))) (f_Cons (f_Lst (f_Cons (f_Tup (f_Cons f_C (f_Cons f_C f_Nil))) (f_Cons (f_Tup (f_Cons f_C (f_Cons f_C f_Nil))) f_Nil))) f_Nil))))) (f_Tup (f_Cons (f_Lst (f_Cons f_C (f_Cons f_C (f_Cons f_C (f_Cons f_C f_Nil))))) (f_Cons (f_Lst (f_Cons (f_Tup (f_Cons f_C (f_Cons f_C f_Nil))) f_Nil)) f_Nil))))))))))
def b_extents : MS := (mSeq (mDrop (mCall m_check_ordered (mCons (mVar 0) (mCons (mVar 1) (mCons (mVar 2) (mCons (mVar 3) mNil)))))) (mRet (mCall m_spread (mCons (mCall m_sizes_of (mCons (mVar 0) (mCons (mVar 1) mNil))) (mCons (mVar 2) (mCons (mVar 3) mNil))))))
def m_extents : MP := mFun ["book", "machine", "order", "room"] 4 b_extents
def vb_extents : VS := (vSeqS (vDrop (vCall v_check_ordered (vCons (vVar 0) (vCons (vVar 1) (vCons (vVar 2) (vCons (vVar 3) vNil)))))) (vRet (vCall v_spread (vCons (vCall v_sizes_of (vCons (vVar 0) (vCons (vVar 1) vNil))) (vCons (vVar 2) (vCons (vVar 3) vNil))))))
def v_extents : VP := vFun ["book", "machine", "order", "room"] 4 vb_extents
theorem fp_extents : FP m_extents v_extents := by
  unfold m_extents v_extents b_extents vb_extents
  exact f_Fun (f_Seq (f_Drop (f_Call fp_check_ordered (f_Cons f_Var (f_Cons f_Var (f_Cons f_Var (f_Cons f_Var f_Nil)))))) (f_Ret (f_Call fp_spread (f_Cons (f_Call fp_sizes_of (f_Cons f_Var (f_Cons f_Var f_Nil))) (f_Cons f_Var (f_Cons f_Var f_Nil))))))
def b_lost : MS := (mSeq (mDrop (mCall m_check_ordered (mCons (mVar 0) (mCons (mVar 1) (mCons (mVar 2) (mCons (mVar 3) mNil)))))) (mSeq (mDrop (mCall m_check_islands (mCons (mVar 0) (mCons (mVar 4) mNil)))) (mRet (mCall m_lost_pairs (mCons (mCall m_far_pairs (mCons (mVar 0) mNil)) (mCons (mCall m_sizes_of (mCons (mVar 0) (mCons (mVar 1) mNil))) (mCons (mVar 1) (mCons (mVar 2) (mCons (mVar 3) (mCons (mVar 4) mNil))))))))))
def m_lost : MP := mFun ["book", "machine", "order", "room", "islands"] 5 b_lost
def vb_lost : VS := (vSeqS (vDrop (vCall v_check_ordered (vCons (vVar 0) (vCons (vVar 1) (vCons (vVar 2) (vCons (vVar 3) vNil)))))) (vSeqS (vDrop (vCall v_check_islands (vCons (vVar 0) (vCons (vVar 4) vNil)))) (vRet (vCall v_lost_pairs (vCons (vCall v_far_pairs (vCons (vVar 0) vNil)) (vCons (vCall v_sizes_of (vCons (vVar 0) (vCons (vVar 1) vNil))) (vCons (vVar 1) (vCons (vVar 2) (vCons (vVar 3) (vCons (vVar 4) vNil))))))))))
def v_lost : VP := vFun ["book", "machine", "order", "room", "islands"] 5 vb_lost
theorem fp_lost : FP m_lost v_lost := by
  unfold m_lost v_lost b_lost vb_lost
  exact f_Fun (f_Seq (f_Drop (f_Call fp_check_ordered (f_Cons f_Var (f_Cons f_Var (f_Cons f_Var (f_Cons f_Var f_Nil)))))) (f_Seq (f_Drop (f_Call fp_check_islands (f_Cons f_Var (f_Cons f_Var f_Nil)))) (f_Ret (f_Call fp_lost_pairs (f_Cons (f_Call fp_far_pairs (f_Cons f_Var f_Nil)) (f_Cons (f_Call fp_sizes_of (f_Cons f_Var (f_Cons f_Var f_Nil))) (f_Cons f_Var (f_Cons f_Var (f_Cons f_Var (f_Cons f_Var f_Nil))))))))))
def b_check_goal : MS := (mIfS (mNot (mTest (mCall m_is_part_number (mCons (mVar 0) (mCons (mVar 1) mNil))))) mNever mNext)
def m_check_goal : MP := mFun ["book", "goal"] 2 b_check_goal
def vb_check_goal : VS := (vIfS (vNot (vTest (vCall v_is_part_number (vCons (vVar 0) (vCons (vVar 1) vNil))))) vNever vNext)
def v_check_goal : VP := vFun ["book", "goal"] 2 vb_check_goal
theorem fp_check_goal : FP m_check_goal v_check_goal := by
  unfold m_check_goal v_check_goal b_check_goal vb_check_goal
  exact f_Fun (f_IfS (f_Not (f_Test (f_Call fp_is_part_number (f_Cons f_Var (f_Cons f_Var f_Nil))))) f_Never f_Next)
def b_is_levels : MS := (mSeq (mIfS (mOr (mNot (mTest (mIsi "tuple" (mVar 0)))) (mTest (mOp dNe (mCl cLen (mCons (mVar 0) mNil)) (mCl cLen (mCons (mVar 1) mNil))))) (mRet (mC (.bool false))) mNext) (mRet (mCl cAll (mCons (mLc (mIZX (mCons (mVar 0) (mCons (mVar 1) mNil))) (mgTup 2 (mgCons (mgName 2) (mgCons (mgName 3) mgNil))) mYes (mIf (mTest (mOp dIsN (mVar 3) (mC .none))) (mOp dIsN (mVar 2) (mC .none)) (mCall m_is_within (mCons (mVar 2) (mCons (mVar 3) (mCons (mVar 3) mNil))))) [2, 3]) mNil))))
def m_is_levels : MP := mFun ["thing", "levels", "one", "level"] 2 b_is_levels
def vb_is_levels : VS := (vSeqS (vIfS (vOr (vNot (vTest (vIsi "tuple" (vVar 0)))) (vTest (vOp dNe (vCl cLen (vCons (vVar 0) vNil)) (vCl cLen (vCons (vVar 1) vNil))))) (vRet (vC (.bool false))) vNext) (vRet (vCl cAll (vCons (vLc (vIZX (vCons (vVar 0) (vCons (vVar 1) vNil))) (vgTup 2 (vgCons (vgName 2) (vgCons (vgName 3) vgNil))) vYes (vIf (vTest (vOp dIsN (vVar 3) (vC .none))) (vOp dIsN (vVar 2) (vC .none)) (vCall v_is_within (vCons (vVar 2) (vCons (vVar 3) (vCons (vVar 3) vNil))))) [2, 3]) vNil))))
def v_is_levels : VP := vFun ["thing", "levels", "one", "level"] 2 vb_is_levels
theorem fp_is_levels : FP m_is_levels v_is_levels := by
  unfold m_is_levels v_is_levels b_is_levels vb_is_levels
  exact f_Fun (f_Seq (f_IfS (f_Or (f_Not (f_Test (f_Isi f_Var))) (f_Test (f_Op (f_Cl (f_Cons f_Var f_Nil)) (f_Cl (f_Cons f_Var f_Nil))))) (f_Ret f_C) f_Next) (f_Ret (f_Cl (f_Cons (f_Lc (f_IZX (f_Cons f_Var (f_Cons f_Var f_Nil))) (f_gTup (f_gCons f_gName (f_gCons f_gName f_gNil))) f_Yes (f_If (f_Test (f_Op f_Var f_C)) (f_Op f_Var f_C) (f_Call fp_is_within (f_Cons f_Var (f_Cons f_Var (f_Cons f_Var f_Nil)))))) f_Nil))))
def b_ways_to : MS := (mSeq (mSet 6 (mCall m_spread (mCons (mCall m_sizes_with (mCons (mCall m_sizes_of (mCons (mVar 0) (mCons (mVar 1) mNil))) (mCons (mVar 1) (mCons (mVar 4) mNil)))) (mCons (mVar 2) (mCons (mVar 3) mNil))))) (mRet (mCall m_ways_over (mCons (mVar 6) (mCons (mOp dIx (mVar 1) (mC c_LEAP)) (mCons (mVar 4) (mCons (mVar 5) mNil)))))))
def m_ways_to : MP := mFun ["book", "machine", "order", "room", "islands", "goal", "spans"] 6 b_ways_to
def vb_ways_to : VS := (vSeqS (vSet 6 (vCall v_spread (vCons (vCall v_sizes_with (vCons (vCall v_sizes_of (vCons (vVar 0) (vCons (vVar 1) vNil))) (vCons (vVar 1) (vCons (vVar 4) vNil)))) (vCons (vVar 2) (vCons (vVar 3) vNil))))) (vRet (vCall v_ways_over (vCons (vVar 6) (vCons (vOp dIx (vVar 1) (vC c_LEAP)) (vCons (vVar 4) (vCons (vVar 5) vNil)))))))
def v_ways_to : VP := vFun ["book", "machine", "order", "room", "islands", "goal", "spans"] 6 vb_ways_to
theorem fp_ways_to : FP m_ways_to v_ways_to := by
  unfold m_ways_to v_ways_to b_ways_to vb_ways_to
  exact f_Fun (f_Seq (f_Set (f_Call fp_spread (f_Cons (f_Call fp_sizes_with (f_Cons (f_Call fp_sizes_of (f_Cons f_Var (f_Cons f_Var f_Nil))) (f_Cons f_Var (f_Cons f_Var f_Nil)))) (f_Cons f_Var (f_Cons f_Var f_Nil))))) (f_Ret (f_Call fp_ways_over (f_Cons f_Var (f_Cons (f_Op f_Var f_C) (f_Cons f_Var (f_Cons f_Var f_Nil)))))))
def b_shows_levels : MS := (mSeq (mDrop (mCall m_check_ordered (mCons (mVar 0) (mCons (mVar 1) (mCons (mVar 2) (mCons (mVar 3) mNil)))))) (mSeq (mDrop (mCall m_check_islands (mCons (mVar 0) (mCons (mVar 4) mNil)))) (mSeq (mDrop (mCall m_check_goal (mCons (mVar 0) (mCons (mVar 5) mNil)))) (mSeq (mSet 7 (mCall m_ways_to (mCons (mVar 0) (mCons (mVar 1) (mCons (mVar 2) (mCons (mVar 3) (mCons (mVar 4) (mCons (mVar 5) mNil)))))))) (mRet (mCall m_is_levels (mCons (mVar 6) (mCons (mLc (mISeq (mVar 7)) (mgName 8) mYes (mIf (mTest (mOp dIsN (mVar 8) (mC .none))) (mC .none) (mCl cLen (mCons (mVar 8) mNil))) [8]) mNil))))))))
def m_shows_levels : MP := mFun ["book", "machine", "order", "room", "islands", "goal", "thing", "found", "way"] 7 b_shows_levels
def vb_shows_levels : VS := (vSeqS (vDrop (vCall v_check_ordered (vCons (vVar 0) (vCons (vVar 1) (vCons (vVar 2) (vCons (vVar 3) vNil)))))) (vSeqS (vDrop (vCall v_check_islands (vCons (vVar 0) (vCons (vVar 4) vNil)))) (vSeqS (vDrop (vCall v_check_goal (vCons (vVar 0) (vCons (vVar 5) vNil)))) (vSeqS (vSet 7 (vCall v_ways_to (vCons (vVar 0) (vCons (vVar 1) (vCons (vVar 2) (vCons (vVar 3) (vCons (vVar 4) (vCons (vVar 5) vNil)))))))) (vRet (vCall v_is_levels (vCons (vVar 6) (vCons (vLc (vISeq (vVar 7)) (vgName 8) vYes (vIf (vTest (vOp dIsN (vVar 8) (vC .none))) (vC .none) (vCl cLen (vCons (vVar 8) vNil))) [8]) vNil))))))))
def v_shows_levels : VP := vFun ["book", "machine", "order", "room", "islands", "goal", "thing", "found", "way"] 7 vb_shows_levels
theorem fp_shows_levels : FP m_shows_levels v_shows_levels := by
  unfold m_shows_levels v_shows_levels b_shows_levels vb_shows_levels
  exact f_Fun (f_Seq (f_Drop (f_Call fp_check_ordered (f_Cons f_Var (f_Cons f_Var (f_Cons f_Var (f_Cons f_Var f_Nil)))))) (f_Seq (f_Drop (f_Call fp_check_islands (f_Cons f_Var (f_Cons f_Var f_Nil)))) (f_Seq (f_Drop (f_Call fp_check_goal (f_Cons f_Var (f_Cons f_Var f_Nil)))) (f_Seq (f_Set (f_Call fp_ways_to (f_Cons f_Var (f_Cons f_Var (f_Cons f_Var (f_Cons f_Var (f_Cons f_Var (f_Cons f_Var f_Nil)))))))) (f_Ret (f_Call fp_is_levels (f_Cons f_Var (f_Cons (f_Lc (f_ISeq f_Var) f_gName f_Yes (f_If (f_Test (f_Op f_Var f_C)) f_C (f_Cl (f_Cons f_Var f_Nil)))) f_Nil))))))))
def b_ways : MS := (mSeq (mDrop (mCall m_check_ordered (mCons (mVar 0) (mCons (mVar 1) (mCons (mVar 2) (mCons (mVar 3) mNil)))))) (mSeq (mDrop (mCall m_check_islands (mCons (mVar 0) (mCons (mVar 4) mNil)))) (mSeq (mDrop (mCall m_check_goal (mCons (mVar 0) (mCons (mVar 5) mNil)))) (mRet (mCall m_ways_to (mCons (mVar 0) (mCons (mVar 1) (mCons (mVar 2) (mCons (mVar 3) (mCons (mVar 4) (mCons (mVar 5) mNil)))))))))))
def m_ways : MP := mFun ["book", "machine", "order", "room", "islands", "goal"] 6 b_ways
def vb_ways : VS := (vSeqS (vDrop (vCall v_check_ordered (vCons (vVar 0) (vCons (vVar 1) (vCons (vVar 2) (vCons (vVar 3) vNil)))))) (vSeqS (vDrop (vCall v_check_islands (vCons (vVar 0) (vCons (vVar 4) vNil)))) (vSeqS (vDrop (vCall v_check_goal (vCons (vVar 0) (vCons (vVar 5) vNil)))) (vRet (vCall v_ways_to (vCons (vVar 0) (vCons (vVar 1) (vCons (vVar 2) (vCons (vVar 3) (vCons (vVar 4) (vCons (vVar 5) vNil)))))))))))
def v_ways : VP := vFun ["book", "machine", "order", "room", "islands", "goal"] 6 vb_ways
theorem fp_ways : FP m_ways v_ways := by
  unfold m_ways v_ways b_ways vb_ways
  exact f_Fun (f_Seq (f_Drop (f_Call fp_check_ordered (f_Cons f_Var (f_Cons f_Var (f_Cons f_Var (f_Cons f_Var f_Nil)))))) (f_Seq (f_Drop (f_Call fp_check_islands (f_Cons f_Var (f_Cons f_Var f_Nil)))) (f_Seq (f_Drop (f_Call fp_check_goal (f_Cons f_Var (f_Cons f_Var f_Nil)))) (f_Ret (f_Call fp_ways_to (f_Cons f_Var (f_Cons f_Var (f_Cons f_Var (f_Cons f_Var (f_Cons f_Var (f_Cons f_Var f_Nil)))))))))))
def b_with_islands : MS := (mSeq (mDrop (mCall m_check_book_v2 (mCons (mVar 0) mNil))) (mSeq (mDrop (mCall m_check_islands (mCons (mVar 0) (mCons (mVar 1) mNil)))) (mRet (mCall m_put_islands (mCons (mVar 0) (mCons (mVar 1) mNil))))))
def m_with_islands : MP := mFun ["book", "islands"] 2 b_with_islands
def vb_with_islands : VS := (vSeqS (vDrop (vCall v_check_book_v2 (vCons (vVar 0) vNil))) (vSeqS (vDrop (vCall v_check_islands (vCons (vVar 0) (vCons (vVar 1) vNil)))) (vRet (vCall v_put_islands (vCons (vVar 0) (vCons (vVar 1) vNil))))))
def v_with_islands : VP := vFun ["book", "islands"] 2 vb_with_islands
theorem fp_with_islands : FP m_with_islands v_with_islands := by
  unfold m_with_islands v_with_islands b_with_islands vb_with_islands
  exact f_Fun (f_Seq (f_Drop (f_Call fp_check_book_v2 (f_Cons f_Var f_Nil))) (f_Seq (f_Drop (f_Call fp_check_islands (f_Cons f_Var (f_Cons f_Var f_Nil)))) (f_Ret (f_Call fp_put_islands (f_Cons f_Var (f_Cons f_Var f_Nil))))))
def b_c65_law : MS := (mSeq (mIfS (mOr (mNot (mTest (mCallP m__law_w_six_right mNil))) (mNot (mTest (mCall m__law_w_ties_right mNil)))) (mRet (mC (.bool false))) mNext) (mSeq (mFor (mIR1 (mCons (mC (.int 2)) mNil)) (mgName 2) (mSeq (mSet 3 (mOp dAdd (mC (.int 1)) (mCallP m__law_take_v2 (mCons (mC (.int 16)) mNil)))) (mSeq (mSet 4 (mTup (mCons (mTup (mCons (mTup (mCons (mC (.str "plain")) (mCons (mVar 3) (mCons (mC (.int 1)) mNil)))) (mCons (mTup (mCons (mC (.str "far")) (mCons (mC (.int 2)) mNil))) mNil))) (mCons (mTup (mCons (mTup (mCons (mC (.str "stop")) (mCons (mC (.int 20)) mNil))) mNil)) (mCons (mTup (mCons (mTup (mCons (mC (.str "stop")) (mCons (mC (.int 4)) mNil))) mNil)) mNil))))) (mSeq (mPar [5, 6, 7, 8] (mCons (mTup (mCons (mC (.int 1)) (mCons (mC (.int 9)) (mCons (mC (.int 3)) (mCons (mC (.int 2)) (mCons (mC (.int 60)) (mCons (mC (.int 1)) (mCons (mC (.int 9)) (mCons (mC (.int 1)) mNil))))))))) (mCons (mLst (mCons (mC (.int 0)) (mCons (mC (.int 1)) (mCons (mC (.int 2)) mNil)))) (mCons (mLst (mCons (mC (.int 0)) (mCons (mCallP m__law_take_v2 (mCons (mC (.int 9)) mNil)) (mCons (mC (.int 30)) mNil)))) (mCons (mLst (mCons (mTup (mCons (mC (.int 1)) (mCons (mC (.int 2)) mNil))) mNil)) mNil))))) (mSeq (mSet 9 (mCallK m_extents [3, 2, 1, 0] (mCons (mVar 7) (mCons (mVar 6) (mCons (mVar 5) (mCons (mVar 4) mNil)))))) (mSeq (mIfS (mOr (mTest (mOp dNe (mVar 9) (mCall m_extents (mCons (mVar 4) (mCons (mVar 5) (mCons (mVar 6) (mCons (mVar 7) mNil))))))) (mTest (mOp dNe (mOp dIx (mVar 9) (mC (.int 0))) (mTup (mCons (mC (.int 0)) (mCons (mOp dAdd (mVar 3) (mC (.int 2))) mNil)))))) (mRet (mC (.bool false))) mNext) (mSeq (mIfS (mTest (mOp dNeX (mCallK m_with_islands [1, 0] (mCons (mVar 8) (mCons (mVar 4) mNil))) (mCall m_with_islands (mCons (mVar 4) (mCons (mVar 8) mNil))))) (mRet (mC (.bool false))) mNext) (mSeq (mSet 10 (mCallK m_ways [5, 4, 3, 2, 1, 0] (mCons (mC (.int 2)) (mCons (mVar 8) (mCons (mVar 7) (mCons (mVar 6) (mCons (mVar 5) (mCons (mVar 4) mNil)))))))) (mSeq (mIfS (mOr (mTest (mOp dNe (mVar 10) (mCall m_ways (mCons (mVar 4) (mCons (mVar 5) (mCons (mVar 6) (mCons (mVar 7) (mCons (mVar 8) (mCons (mC (.int 2)) mNil))))))))) (mTest (mOp dNe (mOp dIx (mVar 10) (mC (.int 2))) (mLst mNil)))) (mRet (mC (.bool false))) mNext) (mSeq (mSet 11 (mCl cTuple (mCons (mLc (mISeq (mVar 10)) (mgName 12) mYes (mIf (mTest (mOp dIsN (mVar 12) (mC .none))) (mC .none) (mCl cLen (mCons (mVar 12) mNil))) [12]) mNil))) (mSeq (mIfS (mNot (mTest (mCallK m_shows_levels [6, 5, 4, 3, 2, 1, 0] (mCons (mVar 11) (mCons (mC (.int 2)) (mCons (mVar 8) (mCons (mVar 7) (mCons (mVar 6) (mCons (mVar 5) (mCons (mVar 4) mNil)))))))))) (mRet (mC (.bool false))) mNext) (mSeq (mIfS (mTest (mOp dNeX (mCallK m_lost [4, 3, 2, 1, 0] (mCons (mVar 8) (mCons (mVar 7) (mCons (mVar 6) (mCons (mVar 5) (mCons (mVar 4) mNil)))))) (mCall m_lost (mCons (mVar 4) (mCons (mVar 5) (mCons (mVar 6) (mCons (mVar 7) (mCons (mVar 8) mNil)))))))) (mRet (mC (.bool false))) mNext) (mSeq (mSet 13 (mCallK m_fewest_islands [4, 3, 2, 1, 0] (mCons (mVar 8) (mCons (mVar 7) (mCons (mVar 6) (mCons (mVar 5) (mCons (mVar 4) mNil))))))) (mSeq (mIfS (mTest (mOp dNe (mVar 13) (mCall m_fewest_islands (mCons (mVar 4) (mCons (mVar 5) (mCons (mVar 6) (mCons (mVar 7) (mCons (mVar 8) mNil)))))))) (mRet (mC (.bool false))) mNext) (mIfS (mTest (mOp dNeX (mCallK m_best_order [3, 2, 1, 0] (mCons (mVar 8) (mCons (mVar 7) (mCons (mVar 5) (mCons (mVar 4) mNil))))) (mCall m_best_order (mCons (mVar 4) (mCons (mVar 5) (mCons (mVar 7) (mCons (mVar 8) mNil))))))) (mRet (mC (.bool false))) mNext))))))))))))))) (mRet (mC (.bool true)))))
end RC
end
section
namespace K65
open PySem PySem.Spec L2 RR RC
open PyProof.Rows hiding St
def topS (i : Nat) : Stmt := PySem.Challenge.pw_reachrows_k65_islands_and_orders_by_name.main.body.getD i (.Pass ⟨0, 0, 0, 0⟩)
structure Txt (P : Program) (w : World) (K : PySem.W.Frag) (mg : Str → Option Value) (base : Heap) : Prop where
  sys : ∃ mm, base.Ns sysModules mm
  n_abs : mg "abs" = none
  n_all : mg "all" = none
  n_bool : mg "bool" = none
  n_enumerate : mg "enumerate" = none
  n_int : mg "int" = none
  n_isinstance : mg "isinstance" = none
  n_len : mg "len" = none
  n_list : mg "list" = none
  n_max : mg "max" = none
  n_min : mg "min" = none
  n_range : mg "range" = none
  n_sorted : mg "sorted" = none
  n_str : mg "str" = none
  n_tuple : mg "tuple" = none
  n_zip : mg "zip" = none
  i_combinations : mg "combinations" = some (.type "itertools.combinations")
  i_permutations : mg "permutations" = some (.type "itertools.permutations")
  c_SHORT : CI K mg "SHORT" c_SHORT (.int 0)
  c_REACH : CI K mg "REACH" c_REACH (.int 1)
  c_LONG : CI K mg "LONG" c_LONG (.int 2)
  c_FAR : CI K mg "FAR" c_FAR (.int 3)
  c_LEAP : CI K mg "LEAP" c_LEAP (.int 4)
  c_LOAD : CI K mg "LOAD" c_LOAD (.int 5)
  c_WORD : CI K mg "WORD" c_WORD (.int 7)
  c_MACHINE_BOUNDS : ∃ a : Addr, CI K mg "MACHINE_BOUNDS" c_MACHINE_BOUNDS (.ref a)
  k_ROW_BOUNDS : ∃ a, DK K w mg "ROW_BOUNDS" c_ROW_BOUNDS a
  c_MOST_ROWS : CI K mg "MOST_ROWS" c_MOST_ROWS (.int 20)
  c_MOST_PARTS : CI K mg "MOST_PARTS" c_MOST_PARTS (.int 5)
  c_MOST_JUMPS_BESIDE_ALIGN : CI K mg "MOST_JUMPS_BESIDE_ALIGN" c_MOST_JUMPS_BESIDE_ALIGN (.int 6)
  c_MULTIPLES : ∃ a : Addr, CI K mg "MULTIPLES" c_MULTIPLES (.ref a)
  c_JUMPS : ∃ a : Addr, CI K mg "JUMPS" c_JUMPS (.ref a)
  c_GOING_ON : ∃ a : Addr, CI K mg "GOING_ON" c_GOING_ON (.ref a)
  c_GREATEST_ROOM : CI K mg "GREATEST_ROOM" c_GREATEST_ROOM (.int 9999)
  c_GRID : CI K mg "GRID" c_GRID (.int 16)
  c_MOST_PAIRS : CI K mg "MOST_PAIRS" c_MOST_PAIRS_v2 (.int 6)
  d__law_open : FD K mg "_law_open" (topS 86) ["script"]
  d__law_spread : FD K mg "_law_spread" (topS 85) ["cell", "at"]
  d__law_take : FD K mg "_law_take" (topS 87) ["pen", "many"]
  d_far_goals : FD K mg "far_goals" (topS 36) ["part"]
  d_jump_rows : FD K mg "jump_rows" (topS 29) ["part"]
  d_goals_stand : FD K mg "goals_stand" (topS 33) ["rows"]
  d_is_even : FD K mg "is_even" (topS 32) ["part"]
  d_is_within : FD K mg "is_within" (topS 25) ["thing", "low", "high"]
  d_are_within : FD K mg "are_within" (topS 26) ["things", "bounds"]
  d_is_row : FD K mg "is_row" (topS 28) ["thing"]
  d_words_are_shunned : FD K mg "words_are_shunned" (topS 34) ["rows"]
  d_is_part : FD K mg "is_part" (topS 35) ["thing"]
  d_is_book : FD K mg "is_book" (topS 37) ["thing"]
  d_check_book : FD K mg "check_book" (topS 38) ["book"]
  d_is_machine : FD K mg "is_machine" (topS 27) ["thing"]
  d_check_machine : FD K mg "check_machine" (topS 39) ["machine"]
  d_is_part_number : FD K mg "is_part_number" (topS 58) ["book", "thing"]
  d_check_order : FD K mg "check_order" (topS 59) ["book", "order"]
  d_check_room : FD K mg "check_room" (topS 60) ["book", "room"]
  d_check_ordered : FD K mg "check_ordered" (topS 65) ["book", "machine", "order", "room"]
  d_is_ascending : FD K mg "is_ascending" (topS 30) ["members"]
  d_are_pairs : FD K mg "are_pairs" (topS 31) ["thing", "bounds"]
  d_put_islands : FD K mg "put_islands" (topS 62) ["book", "islands"]
  d_check_islands : FD K mg "check_islands" (topS 63) ["book", "islands"]
  d_check_pairs : FD K mg "check_pairs" (topS 64) ["book", "pairs"]
  d_far_pairs : FD K mg "far_pairs" (topS 71) ["book"]
  d_sizes_with : FD K mg "sizes_with" (topS 67) ["sizes", "machine", "islands"]
  d_spread : FD K mg "spread" (topS 68) ["sizes", "order", "room"]
  d_reaches : FD K mg "reaches" (topS 69) ["spans", "leap", "part", "other"]
  d_ways_over : FD K mg "ways_over" (topS 70) ["spans", "leap", "islands", "goal"]
  d_lost_pairs : FD K mg "lost_pairs" (topS 72) ["pairs", "sizes", "machine", "order", "room", "islands"]
  d_row_size : FD K mg "row_size" (topS 41) ["row", "machine", "address", "is_short"]
  d_addresses_of : FD K mg "addresses_of" (topS 42) ["part", "machine", "forms"]
  d_distance : FD K mg "distance" (topS 43) ["addresses", "row", "other"]
  d_unfit_rows : FD K mg "unfit_rows" (topS 44) ["part", "machine", "forms"]
  d_without : FD K mg "without" (topS 46) ["rows", "row"]
  d_growth : FD K mg "growth" (topS 47) ["part", "machine"]
  d_size_of : FD K mg "size_of" (topS 50) ["part", "machine", "forms"]
  d_sublists : FD K mg "sublists" (topS 49) ["members"]
  d_least_forms : FD K mg "least_forms" (topS 51) ["part", "machine"]
  d_laid_forms : FD K mg "laid_forms" (topS 52) ["part", "machine"]
  d_laid_size : FD K mg "laid_size" (topS 53) ["part", "machine"]
  d_sizes_of : FD K mg "sizes_of" (topS 66) ["book", "machine"]
  d_fewest_islands : FD K mg "fewest_islands" (topS 80) ["book", "machine", "order", "room", "pairs"]
  d__law_w_six_right : FD K mg "_law_w_six_right" (topS 88) ["pen"]
  d_orders_of : FD K mg "orders_of" (topS 82) ["book"]
  d_best_order : FD K mg "best_order" (topS 83) ["book", "machine", "room", "pairs"]
  d__law_w_ties_right : FD K mg "_law_w_ties_right" (topS 89) []
  d_extents : FD K mg "extents" (topS 75) ["book", "machine", "order", "room"]
  d_lost : FD K mg "lost" (topS 79) ["book", "machine", "order", "room", "islands"]
  d_check_goal : FD K mg "check_goal" (topS 61) ["book", "goal"]
  d_is_levels : FD K mg "is_levels" (topS 74) ["thing", "levels"]
  d_ways_to : FD K mg "ways_to" (topS 73) ["book", "machine", "order", "room", "islands", "goal"]
  d_shows_levels : FD K mg "shows_levels" (topS 78) ["book", "machine", "order", "room", "islands", "goal", "thing"]
  d_ways : FD K mg "ways" (topS 77) ["book", "machine", "order", "room", "islands", "goal"]
  d_with_islands : FD K mg "with_islands" (topS 76) ["book", "islands"]
  d_law : FD K mg "law" (topS 90) ["script"]
variable {P : Program} {w : World} {K : PySem.W.Frag} {mg : Str → Option Value} {base : Heap}
abbrev s__law_open : Stmt := topS 86
theorem sc__law_open : FnScope ["script", "kept", "k", "cell"] ["script"] (defScope s__law_open) := ⟨rfl, rfl, rfl, by decide +kernel, rfl, by decide +kernel, by decide +kernel⟩
theorem ok__law_open (T : Txt P w K mg base) : FI P w K mg base 1 "_law_open" ["script"] (spOpen K) := by
  obtain ⟨f, fd, F, g, b⟩ := T.d__law_open.ex
  refine ⟨f, fd, FnG.mk' F sc__law_open (fun vs H Q E h => ?_) (fun cdv A outer s H vs Q E hr hg h => ?_), g, F.kp, b, Fun.lk F⟩
  · obtain ⟨a, ns, rfl, _⟩ := h; rfl
  · obtain ⟨a, ns, rfl, hs, hl, fin⟩ := h
    refine ⟨_, pss_cons (ps_set (i := 1) sc__law_open.nd rfl (.inl rfl) (pe_callTy (fnList (K := K) rfl) (by rfl) T.n_list (by decide +kernel) (pa_cons (pe_slice sl_list (pv 0) po_none (po_some pe_int)) pa_nil)))
      (pss_cons (ps_for PassesOwn.never rfl (pi_enumA (by rfl) T.n_enumerate (pa_cons (pe_slice sl_list (pv 0) (po_some pe_int) (po_some pe_int)) pa_nil)) (pg_tup rfl (pgs_cons (pg_name (i := 2) sc__law_open.nd rfl (.inl rfl)) (pgs_cons (pg_name (i := 3) sc__law_open.nd rfl (.inl rfl)) pgs_nil)))
        (pss_one (ps_asg (pe_op op_add (pe_ix ix_list (pv 1) (pe_op op_mod (pe_callTy call_int1 (by rfl) T.n_int (by decide +kernel) (pa_cons (pv 2) pa_nil)) pe_int) (fun _ _ => rfl)) (pv 3)) (pg_sub (pv 1) (pe_op op_mod (pe_callTy call_int1 (by rfl) T.n_int (by decide +kernel) (pa_cons (pv 2) pa_nil)) pe_int) set_list))))
      (pss_one (ps_ret (pe_lst (pa_cons (pv 1) (pa_cons pe_int (pa_cons pe_int pa_nil))))))), ?_⟩
    refine ⟨.ref a, rfl, 12, rfl, a, _, rfl, hs, fun q hq => ?_⟩
    refine ⟨q, _, rfl, .inl (.of upd_same), fun l hl1 => ?_⟩
    have s2 : SqL K (upd (upd H q (.lst (cutV (ns.map V.int) none (some 12)))) l (.lst (cutV (ns.map V.int) none (some 12)))) a (ns.map V.int) := sql_new (sql_new hs hq) hl1
    refine ⟨.ref a, rfl, 12, rfl, 63, rfl, a, _, rfl, s2, fun q2 hq2 => ?_⟩
    refine ⟨q2, _, rfl, .inl ⟨.of upd_same, ?_⟩⟩
    obtain ⟨ds, hds⟩ := cut_int ns none (some 12)
    obtain ⟨ms, hms⟩ := cut_int ns (some 12) (some 63)
    have hld : ds.length = min 12 ns.length := by rw [← cut_low ns, hds, List.length_map]
    have hlm : ms.length ≠ 0 → ds.length = 12 := fun h => by
      have := cut_high ns (by rw [hms, List.length_map]; exact h)
      omega
    rw [hds, hms]
    have hne : q2 ≠ l := fun z => by rw [z, upd_same] at hq2; cases hq2
    refine ⟨fun i m σ H => m = ms.length - i ∧ i ≤ ms.length ∧ (∃ y2 y3, σ = [some (.ref a), some (.ref l), y2, y3]) ∧ H q2 = some (.lst (ms.map V.int)) ∧ ∃ zs : List Int, H l = some (.lst (zs.map V.int)) ∧ zs.length = ds.length,
      ⟨ms.length, by simp, Nat.zero_le _, ⟨none, none, rfl⟩, upd_same, ds, by rw [upd_ne (Ne.symm hne), upd_same], rfl⟩, ?_⟩
    rintro i m σ H3 ⟨rfl, hi, ⟨y2, y3, rfl⟩, h2, zs, hz, hzl⟩
    by_cases hlt : i < ms.length
    · refine .inr ⟨⟨_, .int ms[i], .of h2, by simp [hlt]⟩, fun σ H => i < ms.length ∧ (∃ y2 y3, σ = [some (.ref a), some (.ref l), y2, y3]) ∧ H q2 = some (.lst (ms.map V.int)) ∧ ∃ zs : List Int, H l = some (.lst (zs.map V.int)) ∧ zs.length = ds.length,
        fun σ' H' ⟨_, h1, h3, h4⟩ => ⟨ms.length - (i + 1), by omega, rfl, hlt, h1, h3, h4⟩, ?_⟩
      rintro x H4 ⟨t, c, rfl, ht, rfl, hc⟩
      have hc' := hc _ (.of h2)
      have hci : c = .int ms[i] := by simpa [hlt] using hc'.symm
      subst hci
      have tl : t ≠ l := fun z => by rw [z, hz] at ht; cases ht
      have tq : t ≠ q2 := fun z => by rw [z, h2] at ht; cases ht
      refine ⟨t, _, rfl, .of upd_same, rfl, .int i, _, rfl, .int ms[i], _, rfl, rfl, ?_⟩
      have h12 : ds.length = 12 := hlm (by omega)
      have hr12 : (i : Int) % 12 = ((i % 12 : Nat) : Int) := by omega
      have hzm : i % 12 < zs.length := by omega
      have hH4 : (upd H3 t (.tup [.int i, .int ms[i]])) l = some (.lst (zs.map V.int)) := by rw [upd_ne (Ne.symm tl)]; exact hz
      have hat : atI (zs.map V.int) ((i % 12 : Nat) : Int) = some (.int zs[i % 12]) := atI_nat (by rw [List.getElem?_map, List.getElem?_eq_getElem hzm]; rfl)
      refine ⟨.ref l, rfl, .int i, rfl, .inl ⟨i, rfl, i, 12, rfl, rfl, (show (0 : Int) < 12 by decide), l, _, _, _, rfl, congrArg V.int hr12, .of hH4, hat, .int ms[i], rfl, _, _, rfl, rfl, ?_⟩⟩
      refine ⟨.ref l, rfl, .int i, rfl, .inl ⟨i, rfl, i, 12, rfl, rfl, (show (0 : Int) < 12 by decide), l, _, _, i % 12, rfl, congrArg V.int hr12, hH4, ?_, ?_⟩⟩
      · unfold ixN
        rw [if_pos (Int.natCast_nonneg _), if_pos (by rw [List.length_map]; exact_mod_cast hzm), Int.toNat_natCast]
      · refine ⟨hlt, ⟨_, _, rfl⟩, ?_, zs.set (i % 12) (zs[i % 12] + ms[i]), ?_, by simp [hzl]⟩
        · rw [upd_ne hne, upd_ne (Ne.symm tq)]; exact h2
        · rw [upd_same, List.map_set]
    · have e : i = ms.length := by omega
      subst e
      refine .inl ⟨⟨_, .of h2, by simp⟩, ?_⟩
      refine ⟨.ref l, rfl, lim_line (show 3 ≤ lim by decide), fun p hp => ?_⟩
      have hpl : p ≠ l := fun z => by rw [z, hz] at hp; cases hp
      exact fin _ p l zs upd_same (by rw [upd_ne (Ne.symm hpl)]; exact hz) hpl
abbrev s__law_spread : Stmt := topS 85
theorem sc__law_spread : FnScope ["cell", "at", "primes", "one", "two", "three"] ["cell", "at"] (defScope s__law_spread) := ⟨rfl, rfl, rfl, by decide +kernel, rfl, by decide +kernel, by decide +kernel⟩
theorem ok__law_spread (T : Txt P w K mg base) : FI P w K mg base 1 "_law_spread" ["cell", "at"] (spF K m__law_spread_v2) := by
  obtain ⟨f, fd, F, g, b⟩ := T.d__law_spread.ex
  refine ⟨f, fd, FnG.pure F sc__law_spread fun cdv A outer s H E hr hg => ?_, g, F.kp, b, Fun.lk F⟩
  have hu := hr.units
  have hv := hv_of hr
  have hx := hx_of hr
  have hw := hu_of hr
  unfold b__law_spread_v2
  exact ⟨_, [], (ss_cons (sIf (O' := []) (t_cmp op_ge l_cmp (e_var 0 (pv 0) (by decide)) (e_op op_pow l_pow e_int e_int) (nomark _)) (ss_one (s_ret (e_var 0 (pv 0) (by decide)))) ss_nil (fun _ h => h) (by decide)) (ss_cons (sSet 2 sc__law_spread.nd rfl (.inl rfl) (e_lst (a_cons e_int (a_cons e_int (a_cons e_int (a_cons e_int (a_cons e_int (a_cons e_int (a_cons e_int (a_cons e_int a_nil))))))))) (by decide) off0) (ss_cons (sSet 2 sc__law_spread.nd rfl (.inl rfl) (e_op (oAdd rfl) l_add (e_var 2 (pv 2) (by decide)) (e_lst (a_cons e_int (a_cons e_int (a_cons e_int (a_cons e_int (a_cons e_int a_nil))))))) (by decide) off0) (ss_cons (sSet 3 sc__law_spread.nd rfl (.inl rfl) (e_op o_mul l_mul (e_op op_mod l_mod (cT call_int1 l_int (by rfl) T.n_int (by decide +kernel) (a_cons (e_var 0 (pv 0) (by decide)) a_nil)) e_int) (e_op (oAdd rfl) l_add (e_op o_mul l_mul e_int (e_var 1 (pv 1) (by decide))) e_int)) (by decide) off0) (ss_cons (sSet 3 sc__law_spread.nd rfl (.inl rfl) (e_op op_mod l_mod (cT call_int1 l_int (by rfl) T.n_int (by decide +kernel) (a_cons (e_op op_pow l_pow (e_op (oAdd rfl) l_add (e_op (oAdd rfl) l_add (e_var 3 (pv 3) (by decide)) (e_op o_mul l_mul (e_var 1 (pv 1) (by decide)) e_int)) e_int) e_int) a_nil)) (e_ix (oIx rfl hw) l_ix (e_var 2 (pv 2) (by decide)) (e_op op_mod l_mod (cT call_int1 l_int (by rfl) T.n_int (by decide +kernel) (a_cons (e_var 1 (pv 1) (by decide)) a_nil)) e_int) (fun _ _ => rfl))) (by decide) off0) (ss_cons (sSet 4 sc__law_spread.nd rfl (.inl rfl) (e_op op_mod l_mod (cT call_int1 l_int (by rfl) T.n_int (by decide +kernel) (a_cons (e_op op_pow l_pow (e_op (oAdd rfl) l_add (e_op (oAdd rfl) l_add (e_op o_mul l_mul (e_var 3 (pv 3) (by decide)) (e_op (oAdd rfl) l_add (e_var 1 (pv 1) (by decide)) e_int)) (e_op op_mod l_mod (cT call_int1 l_int (by rfl) T.n_int (by decide +kernel) (a_cons (e_var 0 (pv 0) (by decide)) a_nil)) e_int)) e_int) e_int) a_nil)) (e_ix (oIx rfl hw) l_ix (e_var 2 (pv 2) (by decide)) (e_op op_mod l_mod (cT call_int1 l_int (by rfl) T.n_int (by decide +kernel) (a_cons (e_op (oAdd rfl) l_add (e_var 1 (pv 1) (by decide)) e_int) a_nil)) e_int) (fun _ _ => rfl))) (by decide) off0) (ss_cons (sSet 5 sc__law_spread.nd rfl (.inl rfl) (e_op op_mod l_mod (cT call_int1 l_int (by rfl) T.n_int (by decide +kernel) (a_cons (e_op op_pow l_pow (e_op (oAdd rfl) l_add (e_op (oAdd rfl) l_add (e_var 4 (pv 4) (by decide)) (e_op op_mod l_mod (cT call_int1 l_int (by rfl) T.n_int (by decide +kernel) (a_cons (e_var 3 (pv 3) (by decide)) a_nil)) e_int)) (e_var 1 (pv 1) (by decide))) e_int) a_nil)) (e_ix (oIx rfl hw) l_ix (e_var 2 (pv 2) (by decide)) (e_op op_mod l_mod (cT call_int1 l_int (by rfl) T.n_int (by decide +kernel) (a_cons (e_op (oAdd rfl) l_add (e_var 1 (pv 1) (by decide)) e_int) a_nil)) e_int) (fun _ _ => rfl))) (by decide) off0) (ss_one (s_ret (e_op (oAdd rfl) l_add (e_op o_mul l_mul (e_op (oAdd rfl) l_add (e_op o_mul l_mul (e_var 3 (pv 3) (by decide)) e_int) (e_var 4 (pv 4) (by decide))) e_int) (e_var 5 (pv 5) (by decide))))))))))))⟩
abbrev s__law_take : Stmt := topS 87
theorem sc__law_take : FnScope ["pen", "many", "at", "cell", "found"] ["pen", "many"] (defScope s__law_take) := ⟨rfl, rfl, rfl, by decide +kernel, rfl, by decide +kernel, by decide +kernel⟩
theorem ok__law_take (T : Txt P w K mg base) : FI P w K mg base 2 "_law_take" ["pen", "many"] (spP K m__law_take_v2) := by
  obtain ⟨f, fd, F, g, b⟩ := T.d__law_take.ex
  obtain ⟨fS, fdS, GS, gS, kS, bS, _⟩ := (ok__law_spread T).ex
  refine ⟨f, fd, FnG.mk' F sc__law_take (fun vs H Q E h => ?_) (fun cdv A outer s H vs Q E hr hg h => ?_), g, F.kp, b, Fun.lk F⟩
  · obtain ⟨a, dr, ws, Fz, ds, n, R, rfl, sm, fa, pa, r, ⟨m, rfl, _⟩, _⟩ := h
    rw [List.length_cons, r.len]; rfl
  · obtain ⟨a, dr, ws, Fz, ds, n, R, rfl, sm, fa, ⟨w0, l0, xs, ha, hd, hw0, hwn, hl0⟩, r, ⟨m, rfl, hm, hm2, hn, q⟩, fin⟩ := h
    obtain ⟨v, ws', rfl, r1, r2⟩ := r.uncons
    cases r2.unnil
    cases r1.int_inv
    have hdH : H dr = some (.lst (xs.map V.int)) := sm _ _ hd
    have hne : dr ≠ a := fun z => by rw [z, fa] at hd; cases hd
    -- the end: found, what is left
    have last : ∀ (H1 : Hp) (w1 l1 : Int) (y2 y3 : Option V), (∀ b o, H b = some o → b ≠ a → H1 b = some o) → H1 a = some (.lst [.ref dr, .int w1, .int l1]) → 0 ≤ w1 → w1 ≤ (n + 1 : Nat) → 0 ≤ l1 →
        (tSeq (tAsg (tOp (rI (fun _ j => 0 < j) fun i j => .int (i % j)) (tCB (fun xs H Q => (∃ i, xs = [.int i] ∧ Q (.int i) H) ∨ ∃ k, xs = [.bl k] ∧ Q (.int (if k then 1 else 0)) H) (tCons (tOp (rIxL K) (tVar 0) (tC (.int 2))) tNil)) (tVar 1)) (gName 4))
          (tSeq (tAsg (tOp (rI CDiv fun i j => .int (i / j)) (tOp (rIxL K) (tVar 0) (tC (.int 2))) (tVar 1)) (gSub (tVar 0) (tC (.int 2)) rSetL)) (tRet (tVar 4)))) { nx := fun _ H' => Q .non H', rt := Q } [some (.ref a), some (.int m), y2, y3, none] H1 := by
      intro H1 w1 l1 y2 y3 kp h1 hw1 hw1n hl1
      refine ⟨.ref a, rfl, a, _, 2, .int l1, rfl, rfl, .of h1, rfl, .inl ⟨l1, rfl, .int m, rfl, l1, m, rfl, rfl, by omega, ?_⟩⟩
      refine ⟨.ref a, rfl, a, _, 2, .int l1, rfl, rfl, .of h1, rfl, .int m, rfl, l1, m, rfl, rfl, ⟨by omega, hm2⟩, ?_⟩
      refine ⟨.ref a, rfl, a, _, 2, 2, rfl, rfl, h1, rfl, ?_⟩
      refine ⟨_, rfl, ?_⟩
      have hx0 : 0 ≤ l1 % m := Int.emod_nonneg _ (by omega)
      have hx1 : l1 % m < m := Int.emod_lt_of_pos _ (by omega)
      refine fin (.int (l1 % m)) (n + 1) _ Fz _ (.refl _) (fun b o e => ?_) (fun b o e hb => ?_) (fun b o e => .inl e) fa ⟨w1, l1 / m, xs, upd_same, hd, hw1, hw1n, Int.ediv_nonneg hl1 (by omega)⟩ (.int _) (q _ hx0 hx1)
      · have hb : b ≠ a := fun z => by rw [z, fa] at e; cases e
        rw [upd_ne hb]
        exact kp _ _ (sm _ _ e) hb
      · rw [upd_ne hb]
        exact kp _ _ e hb
    refine ⟨_, pss_cons (ps_if (pt_cmpR op_lt (pe_ix ix_list (pv 0) pe_int (fun _ _ => rfl)) (pv 1) (nomark _))
        (pss_cons (ps_set (i := 2) sc__law_take.nd rfl (.inl rfl) (pe_ix ix_list (pv 0) pe_int (fun _ _ => rfl)))
        (pss_cons (ps_set (i := 3) sc__law_take.nd rfl (.inl rfl) pe_int)
        (pss_cons (ps_if (pt_cmpR op_lt (pv 2) (pe_callB call_len_seq (by rfl) T.n_len (by decide +kernel) (pa_cons (pe_ix ix_list (pv 0) pe_int (fun _ _ => rfl)) pa_nil)) (nomark _))
            (pss_one (ps_set (i := 3) sc__law_take.nd rfl (.inl rfl) (pe_ix ix_list (pe_ix ix_list (pv 0) pe_int (fun _ _ => rfl)) (pv 2) (fun _ _ => rfl))))
            (pss_one (ps_if (pt_cmpR op_gt (pe_callB call_len_seq (by rfl) T.n_len (by decide +kernel) (pa_cons (pe_ix ix_list (pv 0) pe_int (fun _ _ => rfl)) pa_nil)) pe_int (nomark _))
              (pss_one (ps_set (i := 3) sc__law_take.nd rfl (.inl rfl) (pe_op op_mod (pe_callTy call_int1 (by rfl) T.n_int (by decide +kernel) (pa_cons (pe_ix ix_list (pe_ix ix_list (pv 0) pe_int (fun _ _ => rfl))
                (pe_op op_mod (pe_callTy call_int1 (by rfl) T.n_int (by decide +kernel) (pa_cons (pe_op op_add (pe_op op_mul (pv 2) pe_int) pe_int) pa_nil)) (pe_callB call_len_seq (by rfl) T.n_len (by decide +kernel) (pa_cons (pe_ix ix_list (pv 0) pe_int (fun _ _ => rfl)) pa_nil))) (fun _ _ => rfl)) pa_nil))
                (pe_op op_add (pe_op op_pow pe_int pe_int) (pv 2))))) pss_nil)))
        (pss_cons (ps_asg (pe_op op_add (pv 2) pe_int) (pg_sub (pv 0) pe_int set_list))
        (pss_one (ps_asg (pe_callG GS (hr.mono (by decide)) (hg.le (by decide)) (by rfl) gS kS bS (pa_cons (pv 3) (pa_cons (pv 2) pa_nil))) (pg_sub (pv 0) pe_int set_list)))))))
        pss_nil)
      (pss_cons (ps_set (i := 4) sc__law_take.nd rfl (.inl rfl) (pe_op op_mod (pe_callTy call_int1 (by rfl) T.n_int (by decide +kernel) (pa_cons (pe_ix ix_list (pv 0) pe_int (fun _ _ => rfl)) pa_nil)) (pv 1)))
      (pss_cons (ps_asg (pe_op op_fdiv (pe_ix ix_list (pv 0) pe_int (fun _ _ => rfl)) (pv 1)) (pg_sub (pv 0) pe_int set_list))
      (pss_one (ps_ret (pv 4))))), ?_⟩
    refine ⟨.ref a, rfl, a, _, 2, .int l0, rfl, rfl, .of ha, rfl, .int m, rfl, l0, m, rfl, rfl, _, rfl, ite2 (fun _ => ?_) (fun _ => ?_)⟩
    · -- where, cell
      refine ⟨.ref a, rfl, a, _, 1, .int w0, rfl, rfl, .of ha, rfl, ?_⟩
      have hlen : ((xs.map V.int).length : Int) = xs.length := by rw [List.length_map]
      have hS : SqL K H dr (xs.map V.int) := .of hdH
      -- behind the cell is found
      have put : ∀ c : Int, (tSeq (tAsg (tOp (rI0 fun i j => .int (i + j)) (tVar 2) (tC (.int 1))) (gSub (tVar 0) (tC (.int 1)) rSetL)) (tAsg (tCall (spF K m__law_spread_v2) [] E0 (tCons (tVar 3) (tCons (tVar 2) tNil))) (gSub (tVar 0) (tC (.int 2)) rSetL)))
          { nx := fun σ H1 => (tSeq (tAsg (tOp (rI (fun _ j => 0 < j) fun i j => .int (i % j)) (tCB (fun xs H Q => (∃ i, xs = [.int i] ∧ Q (.int i) H) ∨ ∃ k, xs = [.bl k] ∧ Q (.int (if k then 1 else 0)) H) (tCons (tOp (rIxL K) (tVar 0) (tC (.int 2))) tNil)) (tVar 1)) (gName 4))
          (tSeq (tAsg (tOp (rI CDiv fun i j => .int (i / j)) (tOp (rIxL K) (tVar 0) (tC (.int 2))) (tVar 1)) (gSub (tVar 0) (tC (.int 2)) rSetL)) (tRet (tVar 4)))) { nx := fun _ H' => Q .non H', rt := Q } σ H1, rt := Q } [some (.ref a), some (.int m), some (.int w0), some (.int c), none] H := by
        intro c
        refine ⟨.int w0, rfl, w0, 1, rfl, rfl, .ref a, rfl, a, _, 1, 1, rfl, rfl, ha, rfl, ?_⟩
        refine ⟨.int c, rfl, .int w0, rfl, fun _ => none, [.int c, .int w0], fun d => ∃ z : Int, d = .int z ∧ 0 ≤ z, (fun _ _ e => nomatch e), .cons (.int _) (.cons (.int _) .nil), spread_ok_law_spread_v2 c w0 _ hw0 (by omega) (fun z hz => ⟨z, rfl, hz⟩), fun d v F' H' gr rr ⟨z, ez, hz⟩ => ?_⟩
        subst ez
        cases rr.int_inv
        have h1 : H' a = some (.lst [.ref dr, .int (w0 + 1), .int l0]) := gr.h _ _ upd_same
        refine ⟨.ref a, rfl, a, _, 2, 2, rfl, rfl, h1, rfl, ?_⟩
        refine last _ (w0 + 1) z _ _ (fun b o e hb => ?_) upd_same (by omega) (by omega) hz
        rw [upd_ne hb]
        exact gr.h _ _ (by rw [upd_ne hb]; exact e)
      refine ⟨.int w0, rfl, .ref a, rfl, a, _, 0, .ref dr, rfl, rfl, .of ha, rfl, dr, _, rfl, .inl hS, w0, _, rfl, rfl, _, rfl, ite2 (fun hlt => ?_) (fun hlt => ?_)⟩
      · have hlt' : w0 < ((xs.map V.int).length : Int) := of_decide_eq_true hlt
        obtain ⟨k, hk⟩ := Int.eq_ofNat_of_zero_le hw0
        subst hk
        have hk2 : k < xs.length := by rw [List.length_map] at hlt'; omega
        refine ⟨.ref a, rfl, a, _, 0, .ref dr, rfl, rfl, .of ha, rfl, .int k, rfl, dr, _, k, .int xs[k], rfl, rfl, hS, atI_nat (by rw [List.getElem?_map, List.getElem?_eq_getElem hk2]; rfl), ?_⟩
        exact put _
      · refine ⟨.ref a, rfl, a, _, 0, .ref dr, rfl, rfl, .of ha, rfl, dr, _, rfl, .inl hS, _, 0, rfl, rfl, _, rfl, ite2 (fun hgt => ?_) (fun hgt => ?_)⟩
        · have hpos : 0 < xs.length := by
            have := of_decide_eq_true hgt
            rw [List.length_map] at this
            omega
          have hmod0 : 0 ≤ (w0 * 5 + 3) % ((xs.map V.int).length : Int) := Int.emod_nonneg _ (by rw [List.length_map]; omega)
          have hmod1 : (w0 * 5 + 3) % ((xs.map V.int).length : Int) < (xs.map V.int).length := Int.emod_lt_of_pos _ (by rw [List.length_map]; omega)
          obtain ⟨k, hk⟩ := Int.eq_ofNat_of_zero_le hmod0
          have hk2 : k < xs.length := by rw [List.length_map] at hmod1 hk; omega
          refine ⟨.ref a, rfl, a, _, 0, .ref dr, rfl, rfl, .of ha, rfl, .int w0, rfl, w0, 5, rfl, rfl, .inr ⟨by decide, by decide⟩, w0 * 5, 3, rfl, rfl, .inl ⟨_, rfl, ?_⟩⟩
          refine ⟨.ref a, rfl, a, _, 0, .ref dr, rfl, rfl, .of ha, rfl, dr, _, rfl, .inl hS, w0 * 5 + 3, _, rfl, rfl, by rw [List.length_map]; omega, ?_⟩
          refine ⟨dr, _, (w0 * 5 + 3) % ((xs.map V.int).length : Int), .int xs[k], rfl, rfl, hS, ?_, .inl ⟨_, rfl, ?_⟩⟩
          · rw [hk]
            exact atI_nat (by rw [List.getElem?_map, List.getElem?_eq_getElem hk2]; rfl)
          · refine ⟨10, 17, rfl, rfl, ⟨by decide, by decide, by decide⟩, .int w0, rfl, _, w0, rfl, rfl, xs[k], _, rfl, rfl, ?_, ?_⟩
            · have : (0 : Int) < 10 ^ (17 : Int).toNat := by decide
              omega
            · exact put _
        · exact put 0
    · exact last H w0 l0 _ _ (fun b o e _ => e) ha hw0 (by omega) hl0
abbrev s_far_goals : Stmt := topS 36
theorem sc_far_goals : FnScope ["part", "row"] ["part"] (defScope s_far_goals) := ⟨rfl, rfl, rfl, by decide +kernel, rfl, by decide +kernel, by decide +kernel⟩
theorem okr_far_goals (T : Txt P w K mg base) : FI P w K mg base 1 "far_goals" ["part"] (spFr K m_far_goals) := by
  obtain ⟨f, fd, F, g, b⟩ := T.d_far_goals.ex
  refine ⟨f, fd, FnG.fresh F sc_far_goals fun cdv A outer s H E hr hg => ?_, g, F.kp, b, Fun.lk F⟩
  have hu := hr.units
  have hv := hv_of hr
  have hx := hx_of hr
  have hw := hu_of hr
  unfold b_far_goals
  exact ⟨_, (rsf_ret (fLcIf (own := [("row", 1)]) rfl sc_far_goals.nd (i_seq rfl (e_var 0 (pv 0) (by decide))) (blkOk_by (own := [("row", 1)]) (N := ["part", "row"]) (sc := defScope s_far_goals) (by decide +kernel)) (fun _ _ _ _ _ => (gN 1 sc_far_goals.nd rfl (.inl rfl) (by decide) off0)) (fun _ _ _ _ _ => (t_cmp (oEq rfl hu) l_eq (e_ix (oIx rfl hw) l_ix (e_var 1 (pv 1) (by decide)) e_int (fun _ _ => rfl)) e_str (nomark _))) (fun _ _ _ _ _ => (e_ix (oIx rfl hw) l_ix (e_var 1 (pv 1) (by decide)) e_int (fun _ _ => rfl))) (by decide) offs0))⟩
theorem ok_far_goals (T : Txt P w K mg base) : FI P w K mg base 1 "far_goals" ["part"] (spF K m_far_goals) := (okr_far_goals T).plain
abbrev s_jump_rows : Stmt := topS 29
theorem sc_jump_rows : FnScope ["part", "number", "row"] ["part"] (defScope s_jump_rows) := ⟨rfl, rfl, rfl, by decide +kernel, rfl, by decide +kernel, by decide +kernel⟩
theorem okr_jump_rows (T : Txt P w K mg base) : FI P w K mg base 1 "jump_rows" ["part"] (spFr K m_jump_rows) := by
  obtain ⟨f, fd, F, g, b⟩ := T.d_jump_rows.ex
  refine ⟨f, fd, FnG.fresh F sc_jump_rows fun cdv A outer s H E hr hg => ?_, g, F.kp, b, Fun.lk F⟩
  have hu := hr.units
  have hv := hv_of hr
  have hx := hx_of hr
  have hw := hu_of hr
  unfold b_jump_rows
  exact ⟨_, (rsf_ret (fLcIf (own := [("number", 1), ("row", 2)]) rfl sc_jump_rows.nd (iEn rfl (by rfl) T.n_enumerate (a_cons (e_var 0 (pv 0) (by decide)) a_nil)) (blkOk_by (own := [("number", 1), ("row", 2)]) (N := ["part", "number", "row"]) (sc := defScope s_jump_rows) (by decide +kernel)) (fun _ _ _ _ _ => (gT 2 rfl rfl (gC (gN 1 sc_jump_rows.nd rfl (.inl rfl) (by decide) off0) (gC (gN 2 sc_jump_rows.nd rfl (.inl rfl) (by decide) off0) gs_nil)))) (fun _ _ _ _ _ => (t_cmp (oIn rfl hv) l_in (e_ix (oIx rfl hw) l_ix (e_var 2 (pv 2) (by decide)) e_int (fun _ _ => rfl)) (T.c_JUMPS.choose_spec.e (by rfl) rfl) (by rfl))) (fun _ _ _ _ _ => (e_var 1 (pv 1) (by decide))) (by decide) offs0))⟩
theorem ok_jump_rows (T : Txt P w K mg base) : FI P w K mg base 1 "jump_rows" ["part"] (spF K m_jump_rows) := (okr_jump_rows T).plain
abbrev s_goals_stand : Stmt := topS 33
theorem sc_goals_stand : FnScope ["rows", "goals", "number", "goal"] ["rows"] (defScope s_goals_stand) := ⟨rfl, rfl, rfl, by decide +kernel, rfl, by decide +kernel, by decide +kernel⟩
theorem ok_goals_stand (T : Txt P w K mg base) : FI P w K mg base 2 "goals_stand" ["rows"] (spF K m_goals_stand) := by
  obtain ⟨f, fd, F, g, b⟩ := T.d_goals_stand.ex
  refine ⟨f, fd, FnG.pure F sc_goals_stand fun cdv A outer s H E hr hg => ?_, g, F.kp, b, Fun.lk F⟩
  have hu := hr.units
  have hv := hv_of hr
  have hx := hx_of hr
  have hw := hu_of hr
  unfold b_goals_stand
  exact ⟨_, [], (ss_cons (sLc (own := [("number", 2)]) 1 rfl sc_goals_stand.nd rfl rfl (sw_true rfl rfl rfl (by decide +kernel)) (i_seq rfl (eF (ok_jump_rows T) (hr.mono (by decide)) hg rfl (by rfl) (a_cons (e_var 0 (pv 0) (by decide)) a_nil))) (blkOk_by (own := [("number", 2)]) (N := ["rows", "goals", "number", "goal"]) (sc := defScope s_goals_stand) (by decide +kernel)) (fun _ _ _ _ _ => (gN 2 sc_goals_stand.nd rfl (.inl rfl) (by decide) off0)) (fun _ _ _ _ _ => (e_ix (oIx rfl hw) l_ix (e_ix (oIx rfl hw) l_ix (e_var 0 (pv 0) (by decide)) (e_var 2 (pv 2) (by decide)) (fun _ _ => rfl)) e_int (fun _ _ => rfl))) (by decide) offs0 (by decide) off0) (RSs.pre (O := []) (ss_one (s_ret (cB (fnAll rfl rfl) l_all (by rfl) T.n_all (by decide +kernel) (a_cons (RF.e (fLc (own := [("goal", 3)]) rfl sc_goals_stand.nd (i_seq rfl (e_var 1 (pv 1) (by decide))) (blkOk_by (own := [("goal", 3)]) (N := ["rows", "goals", "number", "goal"]) (sc := defScope s_goals_stand) (by decide +kernel)) (fun _ _ _ _ _ => (gN 3 sc_goals_stand.nd rfl (.inl rfl) (by decide) off0)) (fun _ _ _ _ _ => (e_and (e_cmp op_lt l_cmp (e_var 3 (pv 3) (by decide)) (cB (fnLen rfl) l_len (by rfl) T.n_len (by decide +kernel) (a_cons (e_var 0 (pv 0) (by decide)) a_nil)) (nomark _)) (e_one (e_cmp (oNe rfl hu) l_ne (e_ix (oIx rfl hw) l_ix (e_ix (oIx rfl hw) l_ix (e_var 0 (pv 0) (by decide)) (e_var 3 (pv 3) (by decide)) (fun _ _ => rfl)) e_int (fun _ _ => rfl)) e_str (nomark _))))) (by decide) offs0)) a_nil)))) (by decide)))⟩
abbrev s_is_even : Stmt := topS 32
theorem sc_is_even : FnScope ["part", "row"] ["part"] (defScope s_is_even) := ⟨rfl, rfl, rfl, by decide +kernel, rfl, by decide +kernel, by decide +kernel⟩
theorem ok_is_even (T : Txt P w K mg base) : FI P w K mg base 1 "is_even" ["part"] (spF K m_is_even) := by
  obtain ⟨f, fd, F, g, b⟩ := T.d_is_even.ex
  refine ⟨f, fd, FnG.pure F sc_is_even fun cdv A outer s H E hr hg => ?_, g, F.kp, b, Fun.lk F⟩
  have hu := hr.units
  have hv := hv_of hr
  have hx := hx_of hr
  have hw := hu_of hr
  unfold b_is_even
  exact ⟨_, [], (ss_one (s_ret (cB (fnAll rfl rfl) l_all (by rfl) T.n_all (by decide +kernel) (a_cons (RF.e (fLc (own := [("row", 1)]) rfl sc_is_even.nd (i_seq rfl (e_var 0 (pv 0) (by decide))) (blkOk_by (own := [("row", 1)]) (N := ["part", "row"]) (sc := defScope s_is_even) (by decide +kernel)) (fun _ _ _ _ _ => (gN 1 sc_is_even.nd rfl (.inl rfl) (by decide) off0)) (fun _ _ _ _ _ => (e_cmp (oNe rfl hu) l_ne (e_ix (oIx rfl hw) l_ix (e_var 1 (pv 1) (by decide)) e_int (fun _ _ => rfl)) e_str (nomark _))) (by decide) offs0)) a_nil))))⟩
abbrev s_is_within : Stmt := topS 25
theorem sc_is_within : FnScope ["thing", "low", "high"] ["thing", "low", "high"] (defScope s_is_within) := ⟨rfl, rfl, rfl, by decide +kernel, rfl, by decide +kernel, by decide +kernel⟩
theorem ok_is_within (T : Txt P w K mg base) : FI P w K mg base 1 "is_within" ["thing", "low", "high"] (spF K m_is_within) := by
  obtain ⟨f, fd, F, g, b⟩ := T.d_is_within.ex
  refine ⟨f, fd, FnG.pure F sc_is_within fun cdv A outer s H E hr hg => ?_, g, F.kp, b, Fun.lk F⟩
  have hu := hr.units
  have hv := hv_of hr
  have hx := hx_of hr
  have hw := hu_of hr
  unfold b_is_within
  exact ⟨_, [], (ss_one (s_ret (e_and (eIsi (T := "int") (by decide) rfl (e_var 0 (pv 0) (by decide)) (by rfl) T.n_isinstance (by rfl) T.n_int (by decide +kernel)) (e_and (e_not (eIsi (T := "bool") (by decide) rfl (e_var 0 (pv 0) (by decide)) (by rfl) T.n_isinstance (by rfl) T.n_bool (by decide +kernel))) (e_one (eCh op_le l_cmp op_le l_cmp (e_var 1 (pv 1) (by decide)) (e_var 0 (pv 0) (by decide)) (e_var 2 (pv 2) (by decide))))))))⟩
abbrev s_are_within : Stmt := topS 26
theorem sc_are_within : FnScope ["things", "bounds", "thing", "low", "high"] ["things", "bounds"] (defScope s_are_within) := ⟨rfl, rfl, rfl, by decide +kernel, rfl, by decide +kernel, by decide +kernel⟩
theorem ok_are_within (T : Txt P w K mg base) : FI P w K mg base 2 "are_within" ["things", "bounds"] (spF K m_are_within_v2) := by
  obtain ⟨f, fd, F, g, b⟩ := T.d_are_within.ex
  refine ⟨f, fd, FnG.pure F sc_are_within fun cdv A outer s H E hr hg => ?_, g, F.kp, b, Fun.lk F⟩
  have hu := hr.units
  have hv := hv_of hr
  have hx := hx_of hr
  have hw := hu_of hr
  unfold b_are_within_v2
  exact ⟨_, [], (ss_cons (sIf (O' := []) (t_cmp (oNe rfl hu) l_ne (cB (fnLen rfl) l_len (by rfl) T.n_len (by decide +kernel) (a_cons (e_var 0 (pv 0) (by decide)) a_nil)) (cB (fnLen rfl) l_len (by rfl) T.n_len (by decide +kernel) (a_cons (e_var 1 (pv 1) (by decide)) a_nil)) (nomark _)) (ss_one (s_ret e_bl)) ss_nil (fun _ h => h) (by decide)) (ss_one (s_ret (cB (fnAll rfl rfl) l_all (by rfl) T.n_all (by decide +kernel) (a_cons (RF.e (fLc (own := [("thing", 2), ("low", 3), ("high", 4)]) rfl sc_are_within.nd (iZx rfl (by rfl) T.n_zip (a_cons (e_var 0 (pv 0) (by decide)) (a_cons (e_var 1 (pv 1) (by decide)) a_nil))) (blkOk_by (own := [("thing", 2), ("low", 3), ("high", 4)]) (N := ["things", "bounds", "thing", "low", "high"]) (sc := defScope s_are_within) (by decide +kernel)) (fun _ _ _ _ _ => (gT 2 rfl rfl (gC (gN 2 sc_are_within.nd rfl (.inl rfl) (by decide) off0) (gC (gT 2 rfl rfl (gC (gN 3 sc_are_within.nd rfl (.inl rfl) (by decide) off0) (gC (gN 4 sc_are_within.nd rfl (.inl rfl) (by decide) off0) gs_nil))) gs_nil)))) (fun _ _ _ _ _ => (eF (ok_is_within T) (hr.mono (by decide)) hg rfl (by rfl) (a_cons (e_var 2 (pv 2) (by decide)) (a_cons (e_var 3 (pv 3) (by decide)) (a_cons (e_var 4 (pv 4) (by decide)) a_nil))))) (by decide) offs0)) a_nil)))))⟩
abbrev s_is_row : Stmt := topS 28
theorem sc_is_row : FnScope ["thing"] ["thing"] (defScope s_is_row) := ⟨rfl, rfl, rfl, by decide +kernel, rfl, by decide +kernel, by decide +kernel⟩
theorem ok_is_row (T : Txt P w K mg base) : FI P w K mg base 3 "is_row" ["thing"] (spF K m_is_row_v2) := by
  obtain ⟨f, fd, F, g, b⟩ := T.d_is_row.ex
  refine ⟨f, fd, FnG.pure F sc_is_row fun cdv A outer s H E hr hg => ?_, g, F.kp, b, Fun.lk F⟩
  have hu := hr.units
  have hv := hv_of hr
  have hx := hx_of hr
  have hw := hu_of hr
  unfold b_is_row_v2
  exact ⟨_, [], (ss_cons (sIf (O' := []) (RW.t (w_or (t_not (t_val (eIsi (T := "tuple") (by decide) rfl (e_var 0 (pv 0) (by decide)) (by rfl) T.n_isinstance (by rfl) T.n_tuple (by decide +kernel)))) (w_or1 (t_cmp (oEq rfl hu) l_eq (cB (fnLen rfl) l_len (by rfl) T.n_len (by decide +kernel) (a_cons (e_var 0 (pv 0) (by decide)) a_nil)) e_int (nomark _))))) (ss_one (s_ret e_bl)) ss_nil (fun _ h => h) (by decide)) (ss_cons (sIf (O' := []) (RW.t (w_or (t_not (t_val (eIsi (T := "str") (by decide) rfl (e_ix (oIx rfl hw) l_ix (e_var 0 (pv 0) (by decide)) e_int (fun _ _ => rfl)) (by rfl) T.n_isinstance (by rfl) T.n_str (by decide +kernel)))) (w_or1 (t_ninK T.k_ROW_BOUNDS.choose_spec rfl (by rfl) (e_ix (oIx rfl hw) l_ix (e_var 0 (pv 0) (by decide)) e_int (fun _ _ => rfl)))))) (ss_one (s_ret e_bl)) ss_nil (fun _ h => h) (by decide)) (ss_cons (sIf (O' := []) (t_not (t_val (eF (ok_are_within T) (hr.mono (by decide)) hg rfl (by rfl) (a_cons (e_sl (e_var 0 (pv 0) (by decide)) (p_some e_int) p_none rfl) (a_cons (e_ixK T.k_ROW_BOUNDS.choose_spec rfl (by rfl) (e_ix (oIx rfl hw) l_ix (e_var 0 (pv 0) (by decide)) e_int (fun _ _ => rfl)) (fun _ _ => rfl)) a_nil))))) (ss_one (s_ret e_bl)) ss_nil (fun _ h => h) (by decide)) (ss_one (s_ret (e_or (e_cmp (oNe rfl hu) l_ne (e_ix (oIx rfl hw) l_ix (e_var 0 (pv 0) (by decide)) e_int (fun _ _ => rfl)) e_str (nomark _)) (e_one (e_cmp (oIn rfl hv) l_in (e_ix (oIx rfl hw) l_ix (e_var 0 (pv 0) (by decide)) e_int (fun _ _ => rfl)) (T.c_MULTIPLES.choose_spec.e (by rfl) rfl) (by rfl)))))))))⟩
abbrev s_words_are_shunned : Stmt := topS 34
theorem sc_words_are_shunned : FnScope ["rows", "row", "behind"] ["rows"] (defScope s_words_are_shunned) := ⟨rfl, rfl, rfl, by decide +kernel, rfl, by decide +kernel, by decide +kernel⟩
theorem ok_words_are_shunned (T : Txt P w K mg base) : FI P w K mg base 1 "words_are_shunned" ["rows"] (spF K m_words_are_shunned) := by
  obtain ⟨f, fd, F, g, b⟩ := T.d_words_are_shunned.ex
  refine ⟨f, fd, FnG.pure F sc_words_are_shunned fun cdv A outer s H E hr hg => ?_, g, F.kp, b, Fun.lk F⟩
  have hu := hr.units
  have hv := hv_of hr
  have hx := hx_of hr
  have hw := hu_of hr
  unfold b_words_are_shunned
  exact ⟨_, [], (ss_cons (sIf (O' := []) (RW.t (w_or (t_cmp (oEq rfl hu) l_eq (e_ix (oIx rfl hw) l_ix (e_ix (oIx rfl hw) l_ix (e_var 0 (pv 0) (by decide)) e_int (fun _ _ => rfl)) e_int (fun _ _ => rfl)) e_str (nomark _)) (w_or1 (t_cmp (oIn rfl hv) l_in (e_ix (oIx rfl hw) l_ix (e_ix (oIx rfl hw) l_ix (e_var 0 (pv 0) (by decide)) (e_un un_neg l_neg e_int) (fun _ _ => rfl)) e_int (fun _ _ => rfl)) (T.c_GOING_ON.choose_spec.e (by rfl) rfl) (by rfl))))) (ss_one (s_ret e_bl)) ss_nil (fun _ h => h) (by decide)) (ss_one (s_ret (cB (fnAll rfl rfl) l_all (by rfl) T.n_all (by decide +kernel) (a_cons (RF.e (fLc (own := [("row", 1), ("behind", 2)]) rfl sc_words_are_shunned.nd (iZi rfl (by rfl) T.n_zip (a_cons (e_var 0 (pv 0) (by decide)) (a_cons (e_sl (e_var 0 (pv 0) (by decide)) (p_some e_int) p_none rfl) a_nil))) (blkOk_by (own := [("row", 1), ("behind", 2)]) (N := ["rows", "row", "behind"]) (sc := defScope s_words_are_shunned) (by decide +kernel)) (fun _ _ _ _ _ => (gT 2 rfl rfl (gC (gN 1 sc_words_are_shunned.nd rfl (.inl rfl) (by decide) off0) (gC (gN 2 sc_words_are_shunned.nd rfl (.inl rfl) (by decide) off0) gs_nil)))) (fun _ _ _ _ _ => (e_or (e_cmp (oNotIn rfl hv) l_notIn (e_ix (oIx rfl hw) l_ix (e_var 1 (pv 1) (by decide)) e_int (fun _ _ => rfl)) (T.c_GOING_ON.choose_spec.e (by rfl) rfl) (by rfl)) (e_one (e_cmp (oNe rfl hu) l_ne (e_ix (oIx rfl hw) l_ix (e_var 2 (pv 2) (by decide)) e_int (fun _ _ => rfl)) e_str (nomark _))))) (by decide) offs0)) a_nil)))))⟩
abbrev s_is_part : Stmt := topS 35
theorem sc_is_part : FnScope ["thing", "row"] ["thing"] (defScope s_is_part) := ⟨rfl, rfl, rfl, by decide +kernel, rfl, by decide +kernel, by decide +kernel⟩
theorem ok_is_part (T : Txt P w K mg base) : FI P w K mg base 4 "is_part" ["thing"] (spF K m_is_part_v2) := by
  obtain ⟨f, fd, F, g, b⟩ := T.d_is_part.ex
  refine ⟨f, fd, FnG.pure F sc_is_part fun cdv A outer s H E hr hg => ?_, g, F.kp, b, Fun.lk F⟩
  have hu := hr.units
  have hv := hv_of hr
  have hx := hx_of hr
  have hw := hu_of hr
  unfold b_is_part_v2
  exact ⟨_, [], (ss_cons (sIf (O' := []) (RW.t (w_or (t_not (t_val (eIsi (T := "tuple") (by decide) rfl (e_var 0 (pv 0) (by decide)) (by rfl) T.n_isinstance (by rfl) T.n_tuple (by decide +kernel)))) (w_or1 (t_not (tCh op_le l_cmp op_le l_cmp e_int (cB (fnLen rfl) l_len (by rfl) T.n_len (by decide +kernel) (a_cons (e_var 0 (pv 0) (by decide)) a_nil)) (T.c_MOST_ROWS.e (by rfl) rfl)))))) (ss_one (s_ret e_bl)) ss_nil (fun _ h => h) (by decide)) (ss_cons (sIf (O' := []) (t_not (t_val (cB (fnAll rfl rfl) l_all (by rfl) T.n_all (by decide +kernel) (a_cons (RF.e (fLc (own := [("row", 1)]) rfl sc_is_part.nd (i_seq rfl (e_var 0 (pv 0) (by decide))) (blkOk_by (own := [("row", 1)]) (N := ["thing", "row"]) (sc := defScope s_is_part) (by decide +kernel)) (fun _ _ _ _ _ => (gN 1 sc_is_part.nd rfl (.inl rfl) (by decide) off0)) (fun _ _ _ _ _ => (eF (ok_is_row T) (hr.mono (by decide)) hg rfl (by rfl) (a_cons (e_var 1 (pv 1) (by decide)) a_nil))) (by decide) offs0)) a_nil)))) (ss_one (s_ret e_bl)) ss_nil (fun _ h => h) (by decide)) (ss_cons (sIf (O' := []) (RW.t (w_and (t_not (t_val (eF (ok_is_even T) (hr.mono (by decide)) hg rfl (by rfl) (a_cons (e_var 0 (pv 0) (by decide)) a_nil)))) (w_and1 (t_cmp op_gt l_cmp (cB (fnLen rfl) l_len (by rfl) T.n_len (by decide +kernel) (a_cons (eF (ok_jump_rows T) (hr.mono (by decide)) hg rfl (by rfl) (a_cons (e_var 0 (pv 0) (by decide)) a_nil)) a_nil)) (T.c_MOST_JUMPS_BESIDE_ALIGN.e (by rfl) rfl) (nomark _))))) (ss_one (s_ret e_bl)) ss_nil (fun _ h => h) (by decide)) (ss_one (s_ret (e_and (eF (ok_goals_stand T) (hr.mono (by decide)) hg rfl (by rfl) (a_cons (e_var 0 (pv 0) (by decide)) a_nil)) (e_one (eF (ok_words_are_shunned T) (hr.mono (by decide)) hg rfl (by rfl) (a_cons (e_var 0 (pv 0) (by decide)) a_nil)))))))))⟩
abbrev s_is_book : Stmt := topS 37
theorem sc_is_book : FnScope ["thing", "part", "goal"] ["thing"] (defScope s_is_book) := ⟨rfl, rfl, rfl, by decide +kernel, rfl, by decide +kernel, by decide +kernel⟩
theorem ok_is_book (T : Txt P w K mg base) : FI P w K mg base 5 "is_book" ["thing"] (spF K m_is_book_v2) := by
  obtain ⟨f, fd, F, g, b⟩ := T.d_is_book.ex
  refine ⟨f, fd, FnG.pure F sc_is_book fun cdv A outer s H E hr hg => ?_, g, F.kp, b, Fun.lk F⟩
  have hu := hr.units
  have hv := hv_of hr
  have hx := hx_of hr
  have hw := hu_of hr
  unfold b_is_book_v2
  exact ⟨_, [], (ss_cons (sIf (O' := []) (RW.t (w_or (t_not (t_val (eIsi (T := "tuple") (by decide) rfl (e_var 0 (pv 0) (by decide)) (by rfl) T.n_isinstance (by rfl) T.n_tuple (by decide +kernel)))) (w_or1 (t_not (tCh op_le l_cmp op_le l_cmp e_int (cB (fnLen rfl) l_len (by rfl) T.n_len (by decide +kernel) (a_cons (e_var 0 (pv 0) (by decide)) a_nil)) (T.c_MOST_PARTS.e (by rfl) rfl)))))) (ss_one (s_ret e_bl)) ss_nil (fun _ h => h) (by decide)) (ss_cons (sIf (O' := []) (t_not (t_val (cB (fnAll rfl rfl) l_all (by rfl) T.n_all (by decide +kernel) (a_cons (RF.e (fLc (own := [("part", 1)]) rfl sc_is_book.nd (i_seq rfl (e_var 0 (pv 0) (by decide))) (blkOk_by (own := [("part", 1)]) (N := ["thing", "part", "goal"]) (sc := defScope s_is_book) (by decide +kernel)) (fun _ _ _ _ _ => (gN 1 sc_is_book.nd rfl (.inl rfl) (by decide) off0)) (fun _ _ _ _ _ => (eF (ok_is_part T) (hr.mono (by decide)) hg rfl (by rfl) (a_cons (e_var 1 (pv 1) (by decide)) a_nil))) (by decide) offs0)) a_nil)))) (ss_one (s_ret e_bl)) ss_nil (fun _ h => h) (by decide)) (ss_one (s_ret (cB (fnAll rfl rfl) l_all (by rfl) T.n_all (by decide +kernel) (a_cons (RF.e (fLc2 (own := [("part", 1), ("goal", 2)]) [2] rfl sc_is_book.nd (i_seq rfl (e_var 0 (pv 0) (by decide))) (blkOk_by (own := [("part", 1), ("goal", 2)]) (N := ["thing", "part", "goal"]) (sc := defScope s_is_book) (by decide +kernel)) (by decide) kg_name (fun _ _ _ _ _ => (gN 1 sc_is_book.nd rfl (.inl rfl) (by decide) off0)) (fun _ _ _ _ _ => rts_nil) (fun _ _ _ _ _ => (i_seq rfl (eF (ok_far_goals T) (hr.mono (by decide)) hg rfl (by rfl) (a_cons (e_var 1 (pv 1) (by decide)) a_nil)))) (fun _ _ _ _ _ => (gN 2 sc_is_book.nd rfl (.inl rfl) (by decide) off0)) (fun _ _ _ _ _ => rts_nil) (fun _ _ _ _ _ => (e_cmp op_lt l_cmp (e_var 2 (pv 2) (by decide)) (cB (fnLen rfl) l_len (by rfl) T.n_len (by decide +kernel) (a_cons (e_var 0 (pv 0) (by decide)) a_nil)) (nomark _))) (by decide) (by decide) (by decide) offs0)) a_nil))))))⟩
abbrev s_check_book : Stmt := topS 38
theorem sc_check_book : FnScope ["book"] ["book"] (defScope s_check_book) := ⟨rfl, rfl, rfl, by decide +kernel, rfl, by decide +kernel, by decide +kernel⟩
theorem ok_check_book (T : Txt P w K mg base) : FI P w K mg base 6 "check_book" ["book"] (spF K m_check_book_v2) := by
  obtain ⟨f, fd, F, g, b⟩ := T.d_check_book.ex
  refine ⟨f, fd, FnG.pure F sc_check_book fun cdv A outer s H E hr hg => ?_, g, F.kp, b, Fun.lk F⟩
  have hu := hr.units
  have hv := hv_of hr
  have hx := hx_of hr
  have hw := hu_of hr
  unfold b_check_book_v2
  exact ⟨_, _, (ss_one (sIf (O' := []) (t_not (t_val (eF (ok_is_book T) (hr.mono (by decide)) hg rfl (by rfl) (a_cons (e_var 0 (pv 0) (by decide)) a_nil)))) (ss_one s_never) ss_nil (fun _ h => h) (by decide)))⟩
abbrev s_is_machine : Stmt := topS 27
theorem sc_is_machine : FnScope ["thing"] ["thing"] (defScope s_is_machine) := ⟨rfl, rfl, rfl, by decide +kernel, rfl, by decide +kernel, by decide +kernel⟩
theorem ok_is_machine (T : Txt P w K mg base) : FI P w K mg base 3 "is_machine" ["thing"] (spF K m_is_machine_v2) := by
  obtain ⟨f, fd, F, g, b⟩ := T.d_is_machine.ex
  refine ⟨f, fd, FnG.pure F sc_is_machine fun cdv A outer s H E hr hg => ?_, g, F.kp, b, Fun.lk F⟩
  have hu := hr.units
  have hv := hv_of hr
  have hx := hx_of hr
  have hw := hu_of hr
  unfold b_is_machine_v2
  exact ⟨_, [], (ss_cons (sIf (O' := []) (RW.t (w_or (t_not (t_val (eIsi (T := "tuple") (by decide) rfl (e_var 0 (pv 0) (by decide)) (by rfl) T.n_isinstance (by rfl) T.n_tuple (by decide +kernel)))) (w_or1 (t_not (t_val (eF (ok_are_within T) (hr.mono (by decide)) hg rfl (by rfl) (a_cons (e_var 0 (pv 0) (by decide)) (a_cons (T.c_MACHINE_BOUNDS.choose_spec.e (by rfl) rfl) a_nil)))))))) (ss_one (s_ret e_bl)) ss_nil (fun _ h => h) (by decide)) (ss_one (s_ret (e_cmp op_lt l_cmp (e_ix (oIx rfl hw) l_ix (e_var 0 (pv 0) (by decide)) (T.c_SHORT.e (by rfl) rfl) (fun _ _ => rfl)) (e_ix (oIx rfl hw) l_ix (e_var 0 (pv 0) (by decide)) (T.c_LONG.e (by rfl) rfl) (fun _ _ => rfl)) (nomark _)))))⟩
abbrev s_check_machine : Stmt := topS 39
theorem sc_check_machine : FnScope ["machine"] ["machine"] (defScope s_check_machine) := ⟨rfl, rfl, rfl, by decide +kernel, rfl, by decide +kernel, by decide +kernel⟩
theorem ok_check_machine (T : Txt P w K mg base) : FI P w K mg base 4 "check_machine" ["machine"] (spF K m_check_machine_v2) := by
  obtain ⟨f, fd, F, g, b⟩ := T.d_check_machine.ex
  refine ⟨f, fd, FnG.pure F sc_check_machine fun cdv A outer s H E hr hg => ?_, g, F.kp, b, Fun.lk F⟩
  have hu := hr.units
  have hv := hv_of hr
  have hx := hx_of hr
  have hw := hu_of hr
  unfold b_check_machine_v2
  exact ⟨_, _, (ss_one (sIf (O' := []) (t_not (t_val (eF (ok_is_machine T) (hr.mono (by decide)) hg rfl (by rfl) (a_cons (e_var 0 (pv 0) (by decide)) a_nil)))) (ss_one s_never) ss_nil (fun _ h => h) (by decide)))⟩
abbrev s_is_part_number : Stmt := topS 58
theorem sc_is_part_number : FnScope ["book", "thing"] ["book", "thing"] (defScope s_is_part_number) := ⟨rfl, rfl, rfl, by decide +kernel, rfl, by decide +kernel, by decide +kernel⟩
theorem ok_is_part_number (T : Txt P w K mg base) : FI P w K mg base 2 "is_part_number" ["book", "thing"] (spF K m_is_part_number) := by
  obtain ⟨f, fd, F, g, b⟩ := T.d_is_part_number.ex
  refine ⟨f, fd, FnG.pure F sc_is_part_number fun cdv A outer s H E hr hg => ?_, g, F.kp, b, Fun.lk F⟩
  have hu := hr.units
  have hv := hv_of hr
  have hx := hx_of hr
  have hw := hu_of hr
  unfold b_is_part_number
  exact ⟨_, [], (ss_one (s_ret (eF (ok_is_within T) (hr.mono (by decide)) hg rfl (by rfl) (a_cons (e_var 1 (pv 1) (by decide)) (a_cons e_int (a_cons (e_op op_sub l_sub (cB (fnLen rfl) l_len (by rfl) T.n_len (by decide +kernel) (a_cons (e_var 0 (pv 0) (by decide)) a_nil)) e_int) a_nil))))))⟩
abbrev s_check_order : Stmt := topS 59
theorem sc_check_order : FnScope ["book", "order", "part"] ["book", "order"] (defScope s_check_order) := ⟨rfl, rfl, rfl, by decide +kernel, rfl, by decide +kernel, by decide +kernel⟩
theorem ok_check_order (T : Txt P w K mg base) : FI P w K mg base 3 "check_order" ["book", "order"] (spF K m_check_order) := by
  obtain ⟨f, fd, F, g, b⟩ := T.d_check_order.ex
  refine ⟨f, fd, FnG.pure F sc_check_order fun cdv A outer s H E hr hg => ?_, g, F.kp, b, Fun.lk F⟩
  have hu := hr.units
  have hv := hv_of hr
  have hx := hx_of hr
  have hw := hu_of hr
  unfold b_check_order
  exact ⟨_, _, (ss_cons (sIf (O' := []) (RW.t (w_or (t_not (t_val (eIsi (T := "list") (by decide) rfl (e_var 1 (pv 1) (by decide)) (by rfl) T.n_isinstance (by rfl) T.n_list (by decide +kernel)))) (w_or1 (t_not (t_val (cB (fnAll rfl rfl) l_all (by rfl) T.n_all (by decide +kernel) (a_cons (RF.e (fLc (own := [("part", 2)]) rfl sc_check_order.nd (i_seq rfl (e_var 1 (pv 1) (by decide))) (blkOk_by (own := [("part", 2)]) (N := ["book", "order", "part"]) (sc := defScope s_check_order) (by decide +kernel)) (fun _ _ _ _ _ => (gN 2 sc_check_order.nd rfl (.inl rfl) (by decide) off0)) (fun _ _ _ _ _ => (eF (ok_is_part_number T) (hr.mono (by decide)) hg rfl (by rfl) (a_cons (e_var 0 (pv 0) (by decide)) (a_cons (e_var 2 (pv 2) (by decide)) a_nil)))) (by decide) offs0)) a_nil))))))) (ss_one s_never) ss_nil (fun _ h => h) (by decide)) (ss_one (sIf (O' := []) (t_cmp (oNe rfl hu) l_ne (cB (fnSorted rfl rfl hx) l_sorted (by rfl) T.n_sorted (by decide +kernel) (a_cons (e_var 1 (pv 1) (by decide)) a_nil)) (RF.e (fRgL1 rfl (by rfl) T.n_list (by rfl) T.n_range (cB (fnLen rfl) l_len (by rfl) T.n_len (by decide +kernel) (a_cons (e_var 0 (pv 0) (by decide)) a_nil)))) (nomark _)) (ss_one s_never) ss_nil (fun _ h => h) (by decide))))⟩
abbrev s_check_room : Stmt := topS 60
theorem sc_check_room : FnScope ["book", "room"] ["book", "room"] (defScope s_check_room) := ⟨rfl, rfl, rfl, by decide +kernel, rfl, by decide +kernel, by decide +kernel⟩
theorem ok_check_room (T : Txt P w K mg base) : FI P w K mg base 3 "check_room" ["book", "room"] (spF K m_check_room) := by
  obtain ⟨f, fd, F, g, b⟩ := T.d_check_room.ex
  refine ⟨f, fd, FnG.pure F sc_check_room fun cdv A outer s H E hr hg => ?_, g, F.kp, b, Fun.lk F⟩
  have hu := hr.units
  have hv := hv_of hr
  have hx := hx_of hr
  have hw := hu_of hr
  unfold b_check_room
  exact ⟨_, _, (ss_one (sIf (O' := []) (RW.t (w_or (t_not (t_val (eIsi (T := "list") (by decide) rfl (e_var 1 (pv 1) (by decide)) (by rfl) T.n_isinstance (by rfl) T.n_list (by decide +kernel)))) (w_or1 (t_not (t_val (eF (ok_are_within T) (hr.mono (by decide)) hg rfl (by rfl) (a_cons (e_var 1 (pv 1) (by decide)) (a_cons (e_op (oMulT rfl) l_mulT (e_tup (a_cons (e_tup (a_cons e_int (a_cons (T.c_GREATEST_ROOM.e (by rfl) rfl) a_nil))) a_nil)) (cB (fnLen rfl) l_len (by rfl) T.n_len (by decide +kernel) (a_cons (e_var 0 (pv 0) (by decide)) a_nil))) a_nil)))))))) (ss_one s_never) ss_nil (fun _ h => h) (by decide)))⟩
abbrev s_check_ordered : Stmt := topS 65
theorem sc_check_ordered : FnScope ["book", "machine", "order", "room"] ["book", "machine", "order", "room"] (defScope s_check_ordered) := ⟨rfl, rfl, rfl, by decide +kernel, rfl, by decide +kernel, by decide +kernel⟩
theorem ok_check_ordered (T : Txt P w K mg base) : FI P w K mg base 7 "check_ordered" ["book", "machine", "order", "room"] (spF K m_check_ordered) := by
  obtain ⟨f, fd, F, g, b⟩ := T.d_check_ordered.ex
  refine ⟨f, fd, FnG.pure F sc_check_ordered fun cdv A outer s H E hr hg => ?_, g, F.kp, b, Fun.lk F⟩
  have hu := hr.units
  have hv := hv_of hr
  have hx := hx_of hr
  have hw := hu_of hr
  unfold b_check_ordered
  exact ⟨_, _, (ss_cons (sExpr (eF (ok_check_book T) (hr.mono (by decide)) hg rfl (by rfl) (a_cons (e_var 0 (pv 0) (by decide)) a_nil))) (ss_cons (sExpr (eF (ok_check_machine T) (hr.mono (by decide)) hg rfl (by rfl) (a_cons (e_var 1 (pv 1) (by decide)) a_nil))) (ss_cons (sExpr (eF (ok_check_order T) (hr.mono (by decide)) hg rfl (by rfl) (a_cons (e_var 0 (pv 0) (by decide)) (a_cons (e_var 2 (pv 2) (by decide)) a_nil)))) (ss_one (sExpr (eF (ok_check_room T) (hr.mono (by decide)) hg rfl (by rfl) (a_cons (e_var 0 (pv 0) (by decide)) (a_cons (e_var 3 (pv 3) (by decide)) a_nil))))))))⟩
abbrev s_is_ascending : Stmt := topS 30
theorem sc_is_ascending : FnScope ["members", "member", "behind"] ["members"] (defScope s_is_ascending) := ⟨rfl, rfl, rfl, by decide +kernel, rfl, by decide +kernel, by decide +kernel⟩
theorem ok_is_ascending (T : Txt P w K mg base) : FI P w K mg base 1 "is_ascending" ["members"] (spF K m_is_ascending_v2) := by
  obtain ⟨f, fd, F, g, b⟩ := T.d_is_ascending.ex
  refine ⟨f, fd, FnG.pure F sc_is_ascending fun cdv A outer s H E hr hg => ?_, g, F.kp, b, Fun.lk F⟩
  have hu := hr.units
  have hv := hv_of hr
  have hx := hx_of hr
  have hw := hu_of hr
  unfold b_is_ascending_v2
  exact ⟨_, [], (ss_one (s_ret (cB (fnAll rfl rfl) l_all (by rfl) T.n_all (by decide +kernel) (a_cons (RF.e (fLc (own := [("member", 1), ("behind", 2)]) rfl sc_is_ascending.nd (iZi rfl (by rfl) T.n_zip (a_cons (e_var 0 (pv 0) (by decide)) (a_cons (e_sl (e_var 0 (pv 0) (by decide)) (p_some e_int) p_none rfl) a_nil))) (blkOk_by (own := [("member", 1), ("behind", 2)]) (N := ["members", "member", "behind"]) (sc := defScope s_is_ascending) (by decide +kernel)) (fun _ _ _ _ _ => (gT 2 rfl rfl (gC (gN 1 sc_is_ascending.nd rfl (.inl rfl) (by decide) off0) (gC (gN 2 sc_is_ascending.nd rfl (.inl rfl) (by decide) off0) gs_nil)))) (fun _ _ _ _ _ => (e_cmp (oLtD rfl hu) l_ltD (e_var 1 (pv 1) (by decide)) (e_var 2 (pv 2) (by decide)) (nomark _))) (by decide) offs0)) a_nil))))⟩
abbrev s_are_pairs : Stmt := topS 31
theorem sc_are_pairs : FnScope ["thing", "bounds", "pair"] ["thing", "bounds"] (defScope s_are_pairs) := ⟨rfl, rfl, rfl, by decide +kernel, rfl, by decide +kernel, by decide +kernel⟩
theorem ok_are_pairs (T : Txt P w K mg base) : FI P w K mg base 3 "are_pairs" ["thing", "bounds"] (spF K m_are_pairs_v2) := by
  obtain ⟨f, fd, F, g, b⟩ := T.d_are_pairs.ex
  refine ⟨f, fd, FnG.pure F sc_are_pairs fun cdv A outer s H E hr hg => ?_, g, F.kp, b, Fun.lk F⟩
  have hu := hr.units
  have hv := hv_of hr
  have hx := hx_of hr
  have hw := hu_of hr
  unfold b_are_pairs_v2
  exact ⟨_, [], (ss_cons (sIf (O' := []) (t_not (t_val (eIsi (T := "list") (by decide) rfl (e_var 0 (pv 0) (by decide)) (by rfl) T.n_isinstance (by rfl) T.n_list (by decide +kernel)))) (ss_one (s_ret e_bl)) ss_nil (fun _ h => h) (by decide)) (ss_cons (sIf (O' := []) (t_not (t_val (cB (fnAll rfl rfl) l_all (by rfl) T.n_all (by decide +kernel) (a_cons (RF.e (fLc (own := [("pair", 2)]) rfl sc_are_pairs.nd (i_seq rfl (e_var 0 (pv 0) (by decide))) (blkOk_by (own := [("pair", 2)]) (N := ["thing", "bounds", "pair"]) (sc := defScope s_are_pairs) (by decide +kernel)) (fun _ _ _ _ _ => (gN 2 sc_are_pairs.nd rfl (.inl rfl) (by decide) off0)) (fun _ _ _ _ _ => (e_and (eIsi (T := "tuple") (by decide) rfl (e_var 2 (pv 2) (by decide)) (by rfl) T.n_isinstance (by rfl) T.n_tuple (by decide +kernel)) (e_one (eF (ok_are_within T) (hr.mono (by decide)) hg rfl (by rfl) (a_cons (e_var 2 (pv 2) (by decide)) (a_cons (e_var 1 (pv 1) (by decide)) a_nil)))))) (by decide) offs0)) a_nil)))) (ss_one (s_ret e_bl)) ss_nil (fun _ h => h) (by decide)) (ss_one (s_ret (eF (ok_is_ascending T) (hr.mono (by decide)) hg rfl (by rfl) (a_cons (e_var 0 (pv 0) (by decide)) a_nil))))))⟩
abbrev s_put_islands : Stmt := topS 62
theorem sc_put_islands : FnScope ["book", "islands", "rows", "number", "at", "goal", "part", "behind"] ["book", "islands"] (defScope s_put_islands) := ⟨rfl, rfl, rfl, by decide +kernel, rfl, by decide +kernel, by decide +kernel⟩
theorem ok_put_islands (T : Txt P w K mg base) : FI P w K mg base 1 "put_islands" ["book", "islands"] (spF K m_put_islands) := by
  obtain ⟨f, fd, F, g, b⟩ := T.d_put_islands.ex
  refine ⟨f, fd, FnG.pure F sc_put_islands fun cdv A outer s H E hr hg => ?_, g, F.kp, b, Fun.lk F⟩
  have hu := hr.units
  have hv := hv_of hr
  have hx := hx_of hr
  have hw := hu_of hr
  unfold b_put_islands
  exact ⟨_, [], (ss_cons (sLc (own := [("number", 3)]) 2 rfl sc_put_islands.nd rfl rfl (sw_true rfl rfl rfl (by decide +kernel)) (iR1 (by rfl) T.n_range (a_cons (cB (fnLen rfl) l_len (by rfl) T.n_len (by decide +kernel) (a_cons (e_var 0 (pv 0) (by decide)) a_nil)) a_nil)) (blkOk_by (own := [("number", 3)]) (N := ["book", "islands", "rows", "number", "at", "goal", "part", "behind"]) (sc := defScope s_put_islands) (by decide +kernel)) (fun _ _ _ _ _ => (gN 3 sc_put_islands.nd rfl (.inr rfl) (by decide) off0)) (fun _ _ _ _ _ => (cT (fnTuple rfl) l_tuple (by rfl) T.n_tuple (by decide +kernel) (a_cons (RF.e (fLcIf (own := [("at", 4), ("goal", 5)]) rfl sc_put_islands.nd (i_seq rfl (e_var 1 (pv 1) (by decide))) (blkOk_by (own := [("at", 4), ("goal", 5)]) (N := ["book", "islands", "rows", "number", "at", "goal", "part", "behind"]) (by kernel_rfl)) (fun _ _ _ _ _ => (gT 2 rfl rfl (gC (gN 4 sc_put_islands.nd rfl (.inl rfl) (by decide) off0) (gC (gN 5 sc_put_islands.nd rfl (.inl rfl) (by decide) off0) gs_nil)))) (fun _ _ _ _ _ => (t_cmp (oEq rfl hu) l_eq (e_var 4 (pv 4) (by decide)) (e_var 3 (pv 3) (by decide)) (nomark _))) (fun _ _ _ _ _ => (e_tup (a_cons e_str (a_cons (e_var 5 (pv 5) (by decide)) a_nil)))) (by decide) offs0)) a_nil))) (by decide) offs0 (by decide) off0) (RSs.pre (O := []) (ss_one (s_ret (cT (fnTuple rfl) l_tuple (by rfl) T.n_tuple (by decide +kernel) (a_cons (RF.e (fLc (own := [("part", 6), ("behind", 7)]) rfl sc_put_islands.nd (iZx rfl (by rfl) T.n_zip (a_cons (e_var 0 (pv 0) (by decide)) (a_cons (e_var 2 (pv 2) (by decide)) a_nil))) (blkOk_by (own := [("part", 6), ("behind", 7)]) (N := ["book", "islands", "rows", "number", "at", "goal", "part", "behind"]) (sc := defScope s_put_islands) (by decide +kernel)) (fun _ _ _ _ _ => (gT 2 rfl rfl (gC (gN 6 sc_put_islands.nd rfl (.inl rfl) (by decide) off0) (gC (gN 7 sc_put_islands.nd rfl (.inl rfl) (by decide) off0) gs_nil)))) (fun _ _ _ _ _ => (e_op (oAdd rfl) l_add (e_var 6 (pv 6) (by decide)) (e_var 7 (pv 7) (by decide)))) (by decide) offs0)) a_nil)))) (by decide)))⟩
abbrev s_check_islands : Stmt := topS 63
theorem sc_check_islands : FnScope ["book", "islands"] ["book", "islands"] (defScope s_check_islands) := ⟨rfl, rfl, rfl, by decide +kernel, rfl, by decide +kernel, by decide +kernel⟩
theorem ok_check_islands (T : Txt P w K mg base) : FI P w K mg base 6 "check_islands" ["book", "islands"] (spF K m_check_islands) := by
  obtain ⟨f, fd, F, g, b⟩ := T.d_check_islands.ex
  refine ⟨f, fd, FnG.pure F sc_check_islands fun cdv A outer s H E hr hg => ?_, g, F.kp, b, Fun.lk F⟩
  have hu := hr.units
  have hv := hv_of hr
  have hx := hx_of hr
  have hw := hu_of hr
  unfold b_check_islands
  exact ⟨_, _, (ss_cons (sIf (O' := []) (t_not (t_val (eF (ok_are_pairs T) (hr.mono (by decide)) hg rfl (by rfl) (a_cons (e_var 1 (pv 1) (by decide)) (a_cons (e_op (oMulT rfl) l_mulT (e_tup (a_cons (e_tup (a_cons e_int (a_cons (e_op op_sub l_sub (cB (fnLen rfl) l_len (by rfl) T.n_len (by decide +kernel) (a_cons (e_var 0 (pv 0) (by decide)) a_nil)) e_int) a_nil))) a_nil)) e_int) a_nil))))) (ss_one s_never) ss_nil (fun _ h => h) (by decide)) (ss_one (sIf (O' := []) (t_not (t_val (eF (ok_is_book T) (hr.mono (by decide)) hg rfl (by rfl) (a_cons (eF (ok_put_islands T) (hr.mono (by decide)) hg rfl (by rfl) (a_cons (e_var 0 (pv 0) (by decide)) (a_cons (e_var 1 (pv 1) (by decide)) a_nil))) a_nil)))) (ss_one s_never) ss_nil (fun _ h => h) (by decide))))⟩
abbrev s_check_pairs : Stmt := topS 64
theorem sc_check_pairs : FnScope ["book", "pairs"] ["book", "pairs"] (defScope s_check_pairs) := ⟨rfl, rfl, rfl, by decide +kernel, rfl, by decide +kernel, by decide +kernel⟩
theorem ok_check_pairs (T : Txt P w K mg base) : FI P w K mg base 7 "check_pairs" ["book", "pairs"] (spF K m_check_pairs_v2) := by
  obtain ⟨f, fd, F, g, b⟩ := T.d_check_pairs.ex
  refine ⟨f, fd, FnG.pure F sc_check_pairs fun cdv A outer s H E hr hg => ?_, g, F.kp, b, Fun.lk F⟩
  have hu := hr.units
  have hv := hv_of hr
  have hx := hx_of hr
  have hw := hu_of hr
  unfold b_check_pairs_v2
  exact ⟨_, _, (ss_cons (sExpr (eF (ok_check_islands T) (hr.mono (by decide)) hg rfl (by rfl) (a_cons (e_var 0 (pv 0) (by decide)) (a_cons (e_var 1 (pv 1) (by decide)) a_nil)))) (ss_one (sIf (O' := []) (t_cmp op_gt l_cmp (cB (fnLen rfl) l_len (by rfl) T.n_len (by decide +kernel) (a_cons (e_var 1 (pv 1) (by decide)) a_nil)) (T.c_MOST_PAIRS.e (by rfl) rfl) (nomark _)) (ss_one s_never) ss_nil (fun _ h => h) (by decide))))⟩
abbrev s_far_pairs : Stmt := topS 71
theorem sc_far_pairs : FnScope ["book", "number", "part", "goal"] ["book"] (defScope s_far_pairs) := ⟨rfl, rfl, rfl, by decide +kernel, rfl, by decide +kernel, by decide +kernel⟩
theorem ok_far_pairs (T : Txt P w K mg base) : FI P w K mg base 2 "far_pairs" ["book"] (spF K m_far_pairs) := by
  obtain ⟨f, fd, F, g, b⟩ := T.d_far_pairs.ex
  refine ⟨f, fd, FnG.pure F sc_far_pairs fun cdv A outer s H E hr hg => ?_, g, F.kp, b, Fun.lk F⟩
  have hu := hr.units
  have hv := hv_of hr
  have hx := hx_of hr
  have hw := hu_of hr
  unfold b_far_pairs
  exact ⟨_, [], (ss_one (s_ret (RF.e (fSc2T (own := [("number", 1), ("part", 2), ("goal", 3)]) [3] rfl hu (by rfl) T.n_sorted rfl sc_far_pairs.nd (iEn rfl (by rfl) T.n_enumerate (a_cons (e_var 0 (pv 0) (by decide)) a_nil)) (blkOk_by (own := [("number", 1), ("part", 2), ("goal", 3)]) (N := ["book", "number", "part", "goal"]) (sc := defScope s_far_pairs) (by decide +kernel)) (by decide) (kg_tup (kgs_cons kg_name (kgs_cons kg_name kgs_nil))) (fun _ _ _ _ _ => (gT 2 rfl rfl (gC (gN 1 sc_far_pairs.nd rfl (.inl rfl) (by decide) off0) (gC (gN 2 sc_far_pairs.nd rfl (.inl rfl) (by decide) off0) gs_nil)))) (fun _ _ _ _ _ => rts_nil) (fun _ _ _ _ _ => (i_seq rfl (eF (ok_far_goals T) (hr.mono (by decide)) hg rfl (by rfl) (a_cons (e_var 2 (pv 2) (by decide)) a_nil)))) (fun _ _ _ _ _ => (gN 3 sc_far_pairs.nd rfl (.inl rfl) (by decide) off0)) (fun _ _ _ _ _ => rts_nil) (fun _ _ _ _ _ => (e_tup (a_cons (e_var 1 (pv 1) (by decide)) (a_cons (e_var 3 (pv 3) (by decide)) a_nil)))) (by decide) (by decide) (by decide) offs0))))⟩
abbrev s_sizes_with : Stmt := topS 67
theorem sc_sizes_with : FnScope ["sizes", "machine", "islands", "posts", "part", "goal", "size"] ["sizes", "machine", "islands"] (defScope s_sizes_with) := ⟨rfl, rfl, rfl, by decide +kernel, rfl, by decide +kernel, by decide +kernel⟩
theorem okr_sizes_with (T : Txt P w K mg base) : FI P w K mg base 1 "sizes_with" ["sizes", "machine", "islands"] (spFr K m_sizes_with) := by
  obtain ⟨f, fd, F, g, b⟩ := T.d_sizes_with.ex
  refine ⟨f, fd, FnG.fresh F sc_sizes_with fun cdv A outer s H E hr hg => ?_, g, F.kp, b, Fun.lk F⟩
  have hu := hr.units
  have hv := hv_of hr
  have hx := hx_of hr
  have hw := hu_of hr
  unfold b_sizes_with
  exact ⟨_, (rsf_cons (sSet 3 sc_sizes_with.nd rfl (.inr rfl) (RF.e (fLc (own := [("part", 4), ("goal", 5)]) rfl sc_sizes_with.nd (i_seq rfl (e_var 2 (pv 2) (by decide))) (blkOk_by (own := [("part", 4), ("goal", 5)]) (N := ["sizes", "machine", "islands", "posts", "part", "goal", "size"]) (sc := defScope s_sizes_with) (by decide +kernel)) (fun _ _ _ _ _ => (gT 2 rfl rfl (gC (gN 4 sc_sizes_with.nd rfl (.inl rfl) (by decide) off0) (gC (gN 5 sc_sizes_with.nd rfl (.inl rfl) (by decide) off0) gs_nil)))) (fun _ _ _ _ _ => (e_var 4 (pv 4) (by decide))) (by decide) offs0)) (by decide) off0) nr_set (rsf_ret (fLc (own := [("part", 4), ("size", 6)]) rfl sc_sizes_with.nd (iEn rfl (by rfl) T.n_enumerate (a_cons (e_var 0 (pv 0) (by decide)) a_nil)) (blkOk_by (own := [("part", 4), ("size", 6)]) (N := ["sizes", "machine", "islands", "posts", "part", "goal", "size"]) (sc := defScope s_sizes_with) (by decide +kernel)) (fun _ _ _ _ _ => (gT 2 rfl rfl (gC (gN 4 sc_sizes_with.nd rfl (.inl rfl) (by decide) off0) (gC (gN 6 sc_sizes_with.nd rfl (.inl rfl) (by decide) off0) gs_nil)))) (fun _ _ _ _ _ => (e_op (oAdd rfl) l_add (e_var 6 (pv 6) (by decide)) (e_op o_mul l_mul (e_ix (oIx rfl hw) l_ix (e_var 1 (pv 1) (by decide)) (T.c_FAR.e (by rfl) rfl) (fun _ _ => rfl)) (eCnt rfl hv (e_var 3 (pv 3) (by decide)) (e_var 4 (pv 4) (by decide)))))) (by decide) offs0)))⟩
theorem ok_sizes_with (T : Txt P w K mg base) : FI P w K mg base 1 "sizes_with" ["sizes", "machine", "islands"] (spF K m_sizes_with) := (okr_sizes_with T).plain
abbrev s_spread : Stmt := topS 68
theorem sc_spread : FnScope ["sizes", "order", "room", "found", "first", "part", "end", "number"] ["sizes", "order", "room"] (defScope s_spread) := ⟨rfl, rfl, rfl, by decide +kernel, rfl, by decide +kernel, by decide +kernel⟩
theorem okr_spread (T : Txt P w K mg base) : FI P w K mg base 1 "spread" ["sizes", "order", "room"] (spFr K m_spread) := by
  obtain ⟨f, fd, F, g, b⟩ := T.d_spread.ex
  refine ⟨f, fd, FnG.fresh F sc_spread fun cdv A outer s H E hr hg => ?_, g, F.kp, b, Fun.lk F⟩
  have hu := hr.units
  have hv := hv_of hr
  have hx := hx_of hr
  have hw := hu_of hr
  unfold b_spread
  exact ⟨_, (rsf_cons (sOwn 3 sc_spread.nd rfl (.inr rfl) f_dict0 (by decide) off0) nr_set (rsf_cons (sSet 4 sc_spread.nd rfl (.inl rfl) e_int (by decide) off0) nr_set (rsf_cons (sFor PassesOwn.never rfl (i_seq rfl (e_var 1 (pv 1) (by decide))) (gN 5 sc_spread.nd rfl (.inl rfl) (by decide) off0) (ss_cons (sSet 6 sc_spread.nd rfl (.inl rfl) (e_op (oAdd rfl) l_add (e_op (oAdd rfl) l_add (e_var 4 (pv 4) (by decide)) (e_ix (oIx rfl hw) l_ix (e_var 0 (pv 0) (by decide)) (e_var 5 (pv 5) (by decide)) (fun _ _ => rfl))) (e_ix (oIx rfl hw) l_ix (e_var 2 (pv 2) (by decide)) (e_var 5 (pv 5) (by decide)) (fun _ _ => rfl))) (by decide) off0) (ss_cons (sPutK 3 (hu_of hr) (pv 3) (e_var 5 (pv 5) (by decide)) (e_tup (a_cons (e_var 4 (pv 4) (by decide)) (a_cons (e_var 6 (pv 6) (by decide)) a_nil))) (by decide) off0) (ss_one (sSet 4 sc_spread.nd rfl (.inl rfl) (e_op (oAdd rfl) l_add (e_var 6 (pv 6) (by decide)) (e_op op_mod l_mod (e_un un_neg l_neg (e_var 6 (pv 6) (by decide))) (T.c_GRID.e (by rfl) rfl))) (by decide) off0)))) (by decide)) (nr_for (nr_seq nr_set (nr_seq nr_putK nr_set))) (RSF.pre (O2 := []) (rsf_ret (fLc (own := [("number", 7)]) rfl sc_spread.nd (iR1 (by rfl) T.n_range (a_cons (cB (fnLen rfl) l_len (by rfl) T.n_len (by decide +kernel) (a_cons (e_var 0 (pv 0) (by decide)) a_nil)) a_nil)) (blkOk_by (own := [("number", 7)]) (N := ["sizes", "order", "room", "found", "first", "part", "end", "number"]) (sc := defScope s_spread) (by decide +kernel)) (fun _ _ _ _ _ => (gN 7 sc_spread.nd rfl (.inl rfl) (by decide) off0)) (fun _ _ _ _ _ => (e_ix (oIx rfl hw) l_ix (e_var 3 (pv 3) (by decide)) (e_var 7 (pv 7) (by decide)) (fun _ _ => rfl))) (by decide) offs0)) (by decide)))))⟩
theorem ok_spread (T : Txt P w K mg base) : FI P w K mg base 1 "spread" ["sizes", "order", "room"] (spF K m_spread) := (okr_spread T).plain
abbrev s_reaches : Stmt := topS 69
theorem sc_reaches : FnScope ["spans", "leap", "part", "other", "firsts", "ends"] ["spans", "leap", "part", "other"] (defScope s_reaches) := ⟨rfl, rfl, rfl, by decide +kernel, rfl, by decide +kernel, by decide +kernel⟩
theorem ok_reaches (T : Txt P w K mg base) : FI P w K mg base 1 "reaches" ["spans", "leap", "part", "other"] (spF K m_reaches) := by
  obtain ⟨f, fd, F, g, b⟩ := T.d_reaches.ex
  refine ⟨f, fd, FnG.pure F sc_reaches fun cdv A outer s H E hr hg => ?_, g, F.kp, b, Fun.lk F⟩
  have hu := hr.units
  have hv := hv_of hr
  have hx := hx_of hr
  have hw := hu_of hr
  unfold b_reaches
  exact ⟨_, [], (ss_cons (sSet 4 sc_reaches.nd rfl (.inl rfl) (e_lst (a_cons (e_ix (oIx rfl hw) l_ix (e_ix (oIx rfl hw) l_ix (e_var 0 (pv 0) (by decide)) (e_var 2 (pv 2) (by decide)) (fun _ _ => rfl)) e_int (fun _ _ => rfl)) (a_cons (e_ix (oIx rfl hw) l_ix (e_ix (oIx rfl hw) l_ix (e_var 0 (pv 0) (by decide)) (e_var 3 (pv 3) (by decide)) (fun _ _ => rfl)) e_int (fun _ _ => rfl)) a_nil))) (by decide) off0) (ss_cons (sSet 5 sc_reaches.nd rfl (.inl rfl) (e_lst (a_cons (e_ix (oIx rfl hw) l_ix (e_ix (oIx rfl hw) l_ix (e_var 0 (pv 0) (by decide)) (e_var 2 (pv 2) (by decide)) (fun _ _ => rfl)) e_int (fun _ _ => rfl)) (a_cons (e_ix (oIx rfl hw) l_ix (e_ix (oIx rfl hw) l_ix (e_var 0 (pv 0) (by decide)) (e_var 3 (pv 3) (by decide)) (fun _ _ => rfl)) e_int (fun _ _ => rfl)) a_nil))) (by decide) off0) (ss_one (s_ret (e_cmp op_le l_cmp (e_op op_sub l_sub (cB (fnMaxD rfl rfl hx) l_maxD (by rfl) T.n_max (by decide +kernel) (a_cons (e_var 5 (pv 5) (by decide)) a_nil)) (cB (fnMinD rfl rfl hx) l_minD (by rfl) T.n_min (by decide +kernel) (a_cons (e_var 4 (pv 4) (by decide)) a_nil))) (e_var 1 (pv 1) (by decide)) (nomark _))))))⟩
abbrev s_ways_over : Stmt := topS 70
theorem sc_ways_over : FnScope ["spans", "leap", "islands", "goal", "parts", "posts", "post", "to", "found", "number", "_", "steps", "part", "firsts"] ["spans", "leap", "islands", "goal"] (defScope s_ways_over) := ⟨rfl, rfl, rfl, by decide +kernel, rfl, by decide +kernel, by decide +kernel⟩
theorem ok_ways_over (T : Txt P w K mg base) : FI P w K mg base 2 "ways_over" ["spans", "leap", "islands", "goal"] (spF K m_ways_over) := by
  obtain ⟨f, fd, F, g, b⟩ := T.d_ways_over.ex
  refine ⟨f, fd, FnG.pure F sc_ways_over fun cdv A outer s H E hr hg => ?_, g, F.kp, b, Fun.lk F⟩
  have hu := hr.units
  have hv := hv_of hr
  have hx := hx_of hr
  have hw := hu_of hr
  unfold b_ways_over
  exact ⟨_, [], (ss_cons (sSet 4 sc_ways_over.nd rfl (.inl rfl) (RF.e (fRgL1 rfl (by rfl) T.n_list (by rfl) T.n_range (cB (fnLen rfl) l_len (by rfl) T.n_len (by decide +kernel) (a_cons (e_var 0 (pv 0) (by decide)) a_nil)))) (by decide) off0) (ss_cons (sLcIf (own := [("post", 6), ("to", 7)]) 5 rfl sc_ways_over.nd rfl rfl (sw_true rfl rfl rfl (by decide +kernel)) (i_seq rfl (e_var 2 (pv 2) (by decide))) (blkOk_by (own := [("post", 6), ("to", 7)]) (N := ["spans", "leap", "islands", "goal", "parts", "posts", "post", "to", "found", "number", "_", "steps", "part", "firsts"]) (sc := defScope s_ways_over) (by decide +kernel)) (fun _ _ _ _ _ => (gT 2 rfl rfl (gC (gN 6 sc_ways_over.nd rfl (.inl rfl) (by decide) off0) (gC (gN 7 sc_ways_over.nd rfl (.inl rfl) (by decide) off0) gs_nil)))) (fun _ _ _ _ _ => (t_cmp (oEq rfl hu) l_eq (e_var 7 (pv 7) (by decide)) (e_var 3 (pv 3) (by decide)) (nomark _))) (fun _ _ _ _ _ => (e_var 6 (pv 6) (by decide))) (by decide) offs0 (by decide) off0) (ss_cons (sOwn 8 sc_ways_over.nd rfl (.inr rfl) (fDcIf (own := [("number", 9)]) rfl sc_ways_over.nd (i_seq rfl (e_var 4 (pv 4) (by decide))) (blkOk_by (own := [("number", 9)]) (N := ["spans", "leap", "islands", "goal", "parts", "posts", "post", "to", "found", "number", "_", "steps", "part", "firsts"]) (sc := defScope s_ways_over) (by decide +kernel)) (fun _ _ _ _ _ => (gN 9 sc_ways_over.nd rfl (.inl rfl) (by decide) off0)) (fun _ _ _ _ _ => (t_val (eF (ok_reaches T) (hr.mono (by decide)) hg rfl (by rfl) (a_cons (e_var 0 (pv 0) (by decide)) (a_cons (e_var 1 (pv 1) (by decide)) (a_cons (e_var 9 (pv 9) (by decide)) (a_cons (e_var 3 (pv 3) (by decide)) a_nil))))))) (fun _ _ _ _ _ => (e_var 9 (pv 9) (by decide))) (fun _ _ _ _ _ => (e_lst a_nil)) (by decide) offs0) (by decide) off0) (RSs.pre (O := [8]) (ss_cons (sFor PassesOwn.never rfl (iR1 (by rfl) T.n_range (a_cons (cB (fnLen rfl) l_len (by rfl) T.n_len (by decide +kernel) (a_cons (e_var 4 (pv 4) (by decide)) a_nil)) a_nil)) (gN 10 sc_ways_over.nd rfl (.inl rfl) (by decide) off0) (ss_cons (sLcIfLook (own := [("post", 6)]) 8 rfl 11 rfl sc_ways_over.nd rfl rfl (sw_true rfl rfl rfl (by decide +kernel)) (i_seq rfl (e_var 5 (pv 5) (by decide))) (blkOk_by (own := [("post", 6)]) (N := ["spans", "leap", "islands", "goal", "parts", "posts", "post", "to", "found", "number", "_", "steps", "part", "firsts"]) (sc := defScope s_ways_over) (by decide +kernel)) (fun _ _ _ _ _ => (gN 6 sc_ways_over.nd rfl (.inl rfl) (by decide) off0)) (fun _ _ _ _ _ => (t_cmp (oIn rfl hv) l_in (e_var 6 (pv 6) (by decide)) (e_var 8 (pv 8) (by decide)) (by rfl))) (fun _ _ _ _ _ => (e_var 6 (pv 6) (by decide))) (by decide) offs0 (by decide) off0) (RSs.pre (O := [8]) (ss_one (sFor PassesOwn.never rfl (i_seq rfl (e_var 4 (pv 4) (by decide))) (gN 12 sc_ways_over.nd rfl (.inr rfl) (by decide) off0) (ss_cons (sLcIf (own := [("post", 6)]) 13 rfl sc_ways_over.nd rfl rfl (sw_true rfl rfl rfl (by decide +kernel)) (i_seq rfl (e_var 11 (pv 11) (by decide))) (blkOk_by (own := [("post", 6)]) (N := ["spans", "leap", "islands", "goal", "parts", "posts", "post", "to", "found", "number", "_", "steps", "part", "firsts"]) (sc := defScope s_ways_over) (by decide +kernel)) (fun _ _ _ _ _ => (gN 6 sc_ways_over.nd rfl (.inl rfl) (by decide) off0)) (fun _ _ _ _ _ => (t_val (eF (ok_reaches T) (hr.mono (by decide)) hg rfl (by rfl) (a_cons (e_var 0 (pv 0) (by decide)) (a_cons (e_var 1 (pv 1) (by decide)) (a_cons (e_var 12 (pv 12) (by decide)) (a_cons (e_var 6 (pv 6) (by decide)) a_nil))))))) (fun _ _ _ _ _ => (e_var 6 (pv 6) (by decide))) (by decide) offs0 (by decide) off0) (RSs.pre (O := [8]) (ss_one (sIf (O' := [8]) (tLook 8 (RW.t (w_and (t_cmp (oNotIn rfl hv) l_notIn (e_var 12 (pv 12) (by decide)) (e_var 8 (pv 8) (by decide)) (by rfl)) (w_and1 (tTru rfl (e_var 13 (pv 13) (by decide)))))) rfl) (ss_one (sPutK 8 (hu_of hr) (pv 8) (e_var 12 (pv 12) (by decide)) (RF.e (fLook 8 (f_cat (e_lst (a_cons (e_ix (oIx rfl hw) l_ix (e_var 13 (pv 13) (by decide)) e_int (fun _ _ => rfl)) a_nil)) (e_ix (oIx rfl hw) l_ix (e_var 8 (pv 8) (by decide)) (e_ix (oIx rfl hw) l_ix (e_var 13 (pv 13) (by decide)) e_int (fun _ _ => rfl)) (fun _ _ => rfl))) rfl)) (by decide) off0)) ss_nil (by decide) (by decide))) (by decide))) (by decide))) (by decide))) (by decide)) (RSs.pre (O := []) (ss_one (s_ret (cT (fnTuple rfl) l_tuple (by rfl) T.n_tuple (by decide +kernel) (a_cons (RF.e (fLc (own := [("number", 9)]) rfl sc_ways_over.nd (i_seq rfl (e_var 4 (pv 4) (by decide))) (blkOk_by (own := [("number", 9)]) (N := ["spans", "leap", "islands", "goal", "parts", "posts", "post", "to", "found", "number", "_", "steps", "part", "firsts"]) (sc := defScope s_ways_over) (by decide +kernel)) (fun _ _ _ _ _ => (gN 9 sc_ways_over.nd rfl (.inl rfl) (by decide) off0)) (fun _ _ _ _ _ => (eGet1 (hu_of hr) (e_var 8 (pv 8) (by decide)) (e_var 9 (pv 9) (by decide)) ⟨by rfl, by rfl, by rfl, by rfl⟩)) (by decide) offs0)) a_nil)))) (by decide))) (by decide)))))⟩
abbrev s_lost_pairs : Stmt := topS 72
theorem sc_lost_pairs : FnScope ["pairs", "sizes", "machine", "order", "room", "islands", "spans", "found", "goal", "part"] ["pairs", "sizes", "machine", "order", "room", "islands"] (defScope s_lost_pairs) := ⟨rfl, rfl, rfl, by decide +kernel, rfl, by decide +kernel, by decide +kernel⟩
theorem okr_lost_pairs (T : Txt P w K mg base) : FI P w K mg base 3 "lost_pairs" ["pairs", "sizes", "machine", "order", "room", "islands"] (spFr K m_lost_pairs) := by
  obtain ⟨f, fd, F, g, b⟩ := T.d_lost_pairs.ex
  refine ⟨f, fd, FnG.fresh F sc_lost_pairs fun cdv A outer s H E hr hg => ?_, g, F.kp, b, Fun.lk F⟩
  have hu := hr.units
  have hv := hv_of hr
  have hx := hx_of hr
  have hw := hu_of hr
  unfold b_lost_pairs
  exact ⟨_, (rsf_cons (sSet 6 sc_lost_pairs.nd rfl (.inr rfl) (eF (ok_spread T) (hr.mono (by decide)) hg rfl (by rfl) (a_cons (eF (ok_sizes_with T) (hr.mono (by decide)) hg rfl (by rfl) (a_cons (e_var 1 (pv 1) (by decide)) (a_cons (e_var 2 (pv 2) (by decide)) (a_cons (e_var 5 (pv 5) (by decide)) a_nil)))) (a_cons (e_var 3 (pv 3) (by decide)) (a_cons (e_var 4 (pv 4) (by decide)) a_nil)))) (by decide) off0) nr_set (rsf_cons (sSet 7 sc_lost_pairs.nd rfl (.inr rfl) (RF.e (fLc (own := [("goal", 8)]) rfl sc_lost_pairs.nd (iR1 (by rfl) T.n_range (a_cons (cB (fnLen rfl) l_len (by rfl) T.n_len (by decide +kernel) (a_cons (e_var 1 (pv 1) (by decide)) a_nil)) a_nil)) (blkOk_by (own := [("goal", 8)]) (N := ["pairs", "sizes", "machine", "order", "room", "islands", "spans", "found", "goal", "part"]) (sc := defScope s_lost_pairs) (by decide +kernel)) (fun _ _ _ _ _ => (gN 8 sc_lost_pairs.nd rfl (.inl rfl) (by decide) off0)) (fun _ _ _ _ _ => (eF (ok_ways_over T) (hr.mono (by decide)) hg rfl (by rfl) (a_cons (e_var 6 (pv 6) (by decide)) (a_cons (e_ix (oIx rfl hw) l_ix (e_var 2 (pv 2) (by decide)) (T.c_LEAP.e (by rfl) rfl) (fun _ _ => rfl)) (a_cons (e_var 5 (pv 5) (by decide)) (a_cons (e_var 8 (pv 8) (by decide)) a_nil)))))) (by decide) offs0)) (by decide) off0) nr_set (rsf_ret (fLcIf (own := [("part", 9), ("goal", 8)]) rfl sc_lost_pairs.nd (i_seq rfl (e_var 0 (pv 0) (by decide))) (blkOk_by (own := [("part", 9), ("goal", 8)]) (N := ["pairs", "sizes", "machine", "order", "room", "islands", "spans", "found", "goal", "part"]) (sc := defScope s_lost_pairs) (by decide +kernel)) (fun _ _ _ _ _ => (gT 2 rfl rfl (gC (gN 9 sc_lost_pairs.nd rfl (.inl rfl) (by decide) off0) (gC (gN 8 sc_lost_pairs.nd rfl (.inl rfl) (by decide) off0) gs_nil)))) (fun _ _ _ _ _ => (t_cmp op_isN l_isN (e_ix (oIx rfl hw) l_ix (e_ix (oIx rfl hw) l_ix (e_var 7 (pv 7) (by decide)) (e_var 8 (pv 8) (by decide)) (fun _ _ => rfl)) (e_var 9 (pv 9) (by decide)) (fun _ _ => rfl)) e_non (nomark _))) (fun _ _ _ _ _ => (e_tup (a_cons (e_var 9 (pv 9) (by decide)) (a_cons (e_var 8 (pv 8) (by decide)) a_nil)))) (by decide) offs0))))⟩
theorem ok_lost_pairs (T : Txt P w K mg base) : FI P w K mg base 3 "lost_pairs" ["pairs", "sizes", "machine", "order", "room", "islands"] (spF K m_lost_pairs) := (okr_lost_pairs T).plain
abbrev s_row_size : Stmt := topS 41
theorem sc_row_size : FnScope ["row", "machine", "address", "is_short"] ["row", "machine", "address", "is_short"] (defScope s_row_size) := ⟨rfl, rfl, rfl, by decide +kernel, rfl, by decide +kernel, by decide +kernel⟩
theorem ok_row_size (T : Txt P w K mg base) : FI P w K mg base 1 "row_size" ["row", "machine", "address", "is_short"] (spF K m_row_size) := by
  obtain ⟨f, fd, F, g, b⟩ := T.d_row_size.ex
  refine ⟨f, fd, FnG.pure F sc_row_size fun cdv A outer s H E hr hg => ?_, g, F.kp, b, Fun.lk F⟩
  have hu := hr.units
  have hv := hv_of hr
  have hx := hx_of hr
  have hw := hu_of hr
  unfold b_row_size
  exact ⟨_, [], (ss_cons (sIf (O' := []) (t_cmp (oIn rfl hv) l_in (e_ix (oIx rfl hw) l_ix (e_var 0 (pv 0) (by decide)) e_int (fun _ _ => rfl)) (T.c_JUMPS.choose_spec.e (by rfl) rfl) (by rfl)) (ss_one (s_ret (e_if (t_val (e_var 3 (pv 3) (by decide))) (e_ix (oIx rfl hw) l_ix (e_var 1 (pv 1) (by decide)) (T.c_SHORT.e (by rfl) rfl) (fun _ _ => rfl)) (e_ix (oIx rfl hw) l_ix (e_var 1 (pv 1) (by decide)) (T.c_LONG.e (by rfl) rfl) (fun _ _ => rfl))))) ss_nil (fun _ h => h) (by decide)) (ss_cons (sIf (O' := []) (t_cmp (oEq rfl hu) l_eq (e_ix (oIx rfl hw) l_ix (e_var 0 (pv 0) (by decide)) e_int (fun _ _ => rfl)) e_str (nomark _)) (ss_one (s_ret (e_ix (oIx rfl hw) l_ix (e_var 1 (pv 1) (by decide)) (T.c_FAR.e (by rfl) rfl) (fun _ _ => rfl)))) ss_nil (fun _ h => h) (by decide)) (ss_cons (sIf (O' := []) (t_cmp (oEq rfl hu) l_eq (e_ix (oIx rfl hw) l_ix (e_var 0 (pv 0) (by decide)) e_int (fun _ _ => rfl)) e_str (nomark _)) (ss_one (s_ret (e_ix (oIx rfl hw) l_ix (e_var 1 (pv 1) (by decide)) (T.c_LOAD.e (by rfl) rfl) (fun _ _ => rfl)))) ss_nil (fun _ h => h) (by decide)) (ss_cons (sIf (O' := []) (t_cmp (oEq rfl hu) l_eq (e_ix (oIx rfl hw) l_ix (e_var 0 (pv 0) (by decide)) e_int (fun _ _ => rfl)) e_str (nomark _)) (ss_one (s_ret (e_ix (oIx rfl hw) l_ix (e_var 1 (pv 1) (by decide)) (T.c_WORD.e (by rfl) rfl) (fun _ _ => rfl)))) ss_nil (fun _ h => h) (by decide)) (ss_cons (sIf (O' := []) (t_cmp (oEq rfl hu) l_eq (e_ix (oIx rfl hw) l_ix (e_var 0 (pv 0) (by decide)) e_int (fun _ _ => rfl)) e_str (nomark _)) (ss_one (s_ret (e_op op_mod l_mod (e_un un_neg l_neg (e_var 2 (pv 2) (by decide))) (e_ix (oIx rfl hw) l_ix (e_var 0 (pv 0) (by decide)) e_int (fun _ _ => rfl))))) ss_nil (fun _ h => h) (by decide)) (ss_one (s_ret (e_ix (oIx rfl hw) l_ix (e_var 0 (pv 0) (by decide)) e_int (fun _ _ => rfl)))))))))⟩
abbrev s_addresses_of : Stmt := topS 42
theorem sc_addresses_of : FnScope ["part", "machine", "forms", "addresses", "number", "row", "address"] ["part", "machine", "forms"] (defScope s_addresses_of) := ⟨rfl, rfl, rfl, by decide +kernel, rfl, by decide +kernel, by decide +kernel⟩
theorem okr_addresses_of (T : Txt P w K mg base) : FI P w K mg base 2 "addresses_of" ["part", "machine", "forms"] (spFr K m_addresses_of) := by
  obtain ⟨f, fd, F, g, b⟩ := T.d_addresses_of.ex
  refine ⟨f, fd, FnG.fresh F sc_addresses_of fun cdv A outer s H E hr hg => ?_, g, F.kp, b, Fun.lk F⟩
  have hu := hr.units
  have hv := hv_of hr
  have hx := hx_of hr
  have hw := hu_of hr
  unfold b_addresses_of
  exact ⟨_, (rsf_cons (sOwn 3 sc_addresses_of.nd rfl (.inl rfl) (f_lst (a_cons e_int a_nil)) (by decide) off0) nr_set (rsf_cons (sFor PassesOwn.never rfl (iEn rfl (by rfl) T.n_enumerate (a_cons (e_var 0 (pv 0) (by decide)) a_nil)) (gT 2 rfl rfl (gC (gN 4 sc_addresses_of.nd rfl (.inl rfl) (by decide) off0) (gC (gN 5 sc_addresses_of.nd rfl (.inl rfl) (by decide) off0) gs_nil))) (ss_cons (sSet 6 sc_addresses_of.nd rfl (.inl rfl) (eLook 3 (e_ix (oIx rfl hw) l_ix (e_var 3 (pv 3) (by decide)) (e_un un_neg l_neg e_int) (fun _ _ => rfl)) rfl) (by decide) off0) (ss_one (sApp 3 rfl (pv 3) (e_op (oAdd rfl) l_add (e_var 6 (pv 6) (by decide)) (eF (ok_row_size T) (hr.mono (by decide)) hg rfl (by rfl) (a_cons (e_var 5 (pv 5) (by decide)) (a_cons (e_var 1 (pv 1) (by decide)) (a_cons (e_var 6 (pv 6) (by decide)) (a_cons (e_cmp (oIn rfl hv) l_in (e_var 4 (pv 4) (by decide)) (e_var 2 (pv 2) (by decide)) (by rfl)) a_nil)))))) (by decide)))) (by decide)) (nr_for (nr_seq nr_set nr_append)) (rsf_own 3 (by decide) (pv 3))))⟩
theorem ok_addresses_of (T : Txt P w K mg base) : FI P w K mg base 2 "addresses_of" ["part", "machine", "forms"] (spF K m_addresses_of) := (okr_addresses_of T).plain
abbrev s_distance : Stmt := topS 43
theorem sc_distance : FnScope ["addresses", "row", "other"] ["addresses", "row", "other"] (defScope s_distance) := ⟨rfl, rfl, rfl, by decide +kernel, rfl, by decide +kernel, by decide +kernel⟩
theorem ok_distance (T : Txt P w K mg base) : FI P w K mg base 1 "distance" ["addresses", "row", "other"] (spF K m_distance) := by
  obtain ⟨f, fd, F, g, b⟩ := T.d_distance.ex
  refine ⟨f, fd, FnG.pure F sc_distance fun cdv A outer s H E hr hg => ?_, g, F.kp, b, Fun.lk F⟩
  have hu := hr.units
  have hv := hv_of hr
  have hx := hx_of hr
  have hw := hu_of hr
  unfold b_distance
  exact ⟨_, [], (ss_one (s_ret (cB call_abs l_abs (by rfl) T.n_abs (by decide +kernel) (a_cons (e_op op_sub l_sub (e_ix (oIx rfl hw) l_ix (e_var 0 (pv 0) (by decide)) (e_var 1 (pv 1) (by decide)) (fun _ _ => rfl)) (e_ix (oIx rfl hw) l_ix (e_var 0 (pv 0) (by decide)) (e_var 2 (pv 2) (by decide)) (fun _ _ => rfl))) a_nil))))⟩
abbrev s_unfit_rows : Stmt := topS 44
theorem sc_unfit_rows : FnScope ["part", "machine", "forms", "addresses", "row"] ["part", "machine", "forms"] (defScope s_unfit_rows) := ⟨rfl, rfl, rfl, by decide +kernel, rfl, by decide +kernel, by decide +kernel⟩
theorem okr_unfit_rows (T : Txt P w K mg base) : FI P w K mg base 3 "unfit_rows" ["part", "machine", "forms"] (spFr K m_unfit_rows) := by
  obtain ⟨f, fd, F, g, b⟩ := T.d_unfit_rows.ex
  refine ⟨f, fd, FnG.fresh F sc_unfit_rows fun cdv A outer s H E hr hg => ?_, g, F.kp, b, Fun.lk F⟩
  have hu := hr.units
  have hv := hv_of hr
  have hx := hx_of hr
  have hw := hu_of hr
  unfold b_unfit_rows
  exact ⟨_, (rsf_cons (sSet 3 sc_unfit_rows.nd rfl (.inr rfl) (eF (ok_addresses_of T) (hr.mono (by decide)) hg rfl (by rfl) (a_cons (e_var 0 (pv 0) (by decide)) (a_cons (e_var 1 (pv 1) (by decide)) (a_cons (e_var 2 (pv 2) (by decide)) a_nil)))) (by decide) off0) nr_set (rsf_ret (fLcIf (own := [("row", 4)]) rfl sc_unfit_rows.nd (i_seq rfl (e_var 2 (pv 2) (by decide))) (blkOk_by (own := [("row", 4)]) (N := ["part", "machine", "forms", "addresses", "row"]) (sc := defScope s_unfit_rows) (by decide +kernel)) (fun _ _ _ _ _ => (gN 4 sc_unfit_rows.nd rfl (.inl rfl) (by decide) off0)) (fun _ _ _ _ _ => (t_cmp op_gt l_cmp (eF (ok_distance T) (hr.mono (by decide)) hg rfl (by rfl) (a_cons (e_var 3 (pv 3) (by decide)) (a_cons (e_var 4 (pv 4) (by decide)) (a_cons (e_ix (oIx rfl hw) l_ix (e_ix (oIx rfl hw) l_ix (e_var 0 (pv 0) (by decide)) (e_var 4 (pv 4) (by decide)) (fun _ _ => rfl)) e_int (fun _ _ => rfl)) a_nil)))) (e_ix (oIx rfl hw) l_ix (e_var 1 (pv 1) (by decide)) (T.c_REACH.e (by rfl) rfl) (fun _ _ => rfl)) (nomark _))) (fun _ _ _ _ _ => (e_var 4 (pv 4) (by decide))) (by decide) offs0)))⟩
theorem ok_unfit_rows (T : Txt P w K mg base) : FI P w K mg base 3 "unfit_rows" ["part", "machine", "forms"] (spF K m_unfit_rows) := (okr_unfit_rows T).plain
abbrev s_without : Stmt := topS 46
theorem sc_without : FnScope ["rows", "row", "other"] ["rows", "row"] (defScope s_without) := ⟨rfl, rfl, rfl, by decide +kernel, rfl, by decide +kernel, by decide +kernel⟩
theorem okr_without (T : Txt P w K mg base) : FI P w K mg base 1 "without" ["rows", "row"] (spFr K m_without) := by
  obtain ⟨f, fd, F, g, b⟩ := T.d_without.ex
  refine ⟨f, fd, FnG.fresh F sc_without fun cdv A outer s H E hr hg => ?_, g, F.kp, b, Fun.lk F⟩
  have hu := hr.units
  have hv := hv_of hr
  have hx := hx_of hr
  have hw := hu_of hr
  unfold b_without
  exact ⟨_, (rsf_ret (fLcIf (own := [("other", 2)]) rfl sc_without.nd (i_seq rfl (e_var 0 (pv 0) (by decide))) (blkOk_by (own := [("other", 2)]) (N := ["rows", "row", "other"]) (sc := defScope s_without) (by decide +kernel)) (fun _ _ _ _ _ => (gN 2 sc_without.nd rfl (.inl rfl) (by decide) off0)) (fun _ _ _ _ _ => (t_cmp (oNe rfl hu) l_ne (e_var 2 (pv 2) (by decide)) (e_var 1 (pv 1) (by decide)) (nomark _))) (fun _ _ _ _ _ => (e_var 2 (pv 2) (by decide))) (by decide) offs0))⟩
theorem ok_without (T : Txt P w K mg base) : FI P w K mg base 1 "without" ["rows", "row"] (spF K m_without) := (okr_without T).plain
abbrev s_growth : Stmt := topS 47
theorem sc_growth : FnScope ["part", "machine", "forms", "chain", "unfit"] ["part", "machine"] (defScope s_growth) := ⟨rfl, rfl, rfl, by decide +kernel, rfl, by decide +kernel, by decide +kernel⟩
theorem ok_growth (T : Txt P w K mg base) : FI P w K mg base 4 "growth" ["part", "machine"] (spF K m_growth) := by
  obtain ⟨f, fd, F, g, b⟩ := T.d_growth.ex
  refine ⟨f, fd, FnG.pure F sc_growth fun cdv A outer s H E hr hg => ?_, g, F.kp, b, Fun.lk F⟩
  have hu := hr.units
  have hv := hv_of hr
  have hx := hx_of hr
  have hw := hu_of hr
  unfold b_growth
  exact ⟨_, [], (ss_cons (sSet 2 sc_growth.nd rfl (.inl rfl) (eF (ok_jump_rows T) (hr.mono (by decide)) hg rfl (by rfl) (a_cons (e_var 0 (pv 0) (by decide)) a_nil)) (by decide) off0) (ss_cons (sOwn 3 sc_growth.nd rfl (.inl rfl) (f_lst a_nil) (by decide) off0) (ss_cons (sSet 4 sc_growth.nd rfl (.inl rfl) (eF (ok_unfit_rows T) (hr.mono (by decide)) hg rfl (by rfl) (a_cons (e_var 0 (pv 0) (by decide)) (a_cons (e_var 1 (pv 1) (by decide)) (a_cons (e_var 2 (pv 2) (by decide)) a_nil)))) (by decide) off0) (ss_cons (sWhile PassesOwn.never (tTru rfl (e_var 4 (pv 4) (by decide))) (ss_cons (sApp 3 rfl (pv 3) (e_ix (oIx rfl hw) l_ix (e_var 4 (pv 4) (by decide)) e_int (fun _ _ => rfl)) (by decide)) (ss_cons (sSet 2 sc_growth.nd rfl (.inl rfl) (eF (ok_without T) (hr.mono (by decide)) hg rfl (by rfl) (a_cons (e_var 2 (pv 2) (by decide)) (a_cons (e_ix (oIx rfl hw) l_ix (e_var 4 (pv 4) (by decide)) e_int (fun _ _ => rfl)) a_nil))) (by decide) off0) (ss_one (sSet 4 sc_growth.nd rfl (.inl rfl) (eF (ok_unfit_rows T) (hr.mono (by decide)) hg rfl (by rfl) (a_cons (e_var 0 (pv 0) (by decide)) (a_cons (e_var 1 (pv 1) (by decide)) (a_cons (e_var 2 (pv 2) (by decide)) a_nil)))) (by decide) off0)))) (by decide)) (RSs.pre (O := []) (ss_one (s_ret (e_tup (a_cons (e_var 2 (pv 2) (by decide)) (a_cons (e_var 3 (pv 3) (by decide)) a_nil))))) (by decide))))))⟩
abbrev s_size_of : Stmt := topS 50
theorem sc_size_of : FnScope ["part", "machine", "forms"] ["part", "machine", "forms"] (defScope s_size_of) := ⟨rfl, rfl, rfl, by decide +kernel, rfl, by decide +kernel, by decide +kernel⟩
theorem ok_size_of (T : Txt P w K mg base) : FI P w K mg base 3 "size_of" ["part", "machine", "forms"] (spF K m_size_of) := by
  obtain ⟨f, fd, F, g, b⟩ := T.d_size_of.ex
  refine ⟨f, fd, FnG.pure F sc_size_of fun cdv A outer s H E hr hg => ?_, g, F.kp, b, Fun.lk F⟩
  have hu := hr.units
  have hv := hv_of hr
  have hx := hx_of hr
  have hw := hu_of hr
  unfold b_size_of
  exact ⟨_, [], (ss_one (s_ret (e_ix (oIx rfl hw) l_ix (eF (ok_addresses_of T) (hr.mono (by decide)) hg rfl (by rfl) (a_cons (e_var 0 (pv 0) (by decide)) (a_cons (e_var 1 (pv 1) (by decide)) (a_cons (e_var 2 (pv 2) (by decide)) a_nil)))) (e_un un_neg l_neg e_int) (fun _ _ => rfl))))⟩
abbrev s_sublists : Stmt := topS 49
theorem sc_sublists : FnScope ["members", "many", "some"] ["members"] (defScope s_sublists) := ⟨rfl, rfl, rfl, by decide +kernel, rfl, by decide +kernel, by decide +kernel⟩
theorem okr_sublists (T : Txt P w K mg base) : FI P w K mg base 1 "sublists" ["members"] (spFr K m_sublists) := by
  obtain ⟨f, fd, F, g, b⟩ := T.d_sublists.ex
  refine ⟨f, fd, FnG.fresh F sc_sublists fun cdv A outer s H E hr hg => ?_, g, F.kp, b, Fun.lk F⟩
  have hu := hr.units
  have hv := hv_of hr
  have hx := hx_of hr
  have hw := hu_of hr
  unfold b_sublists
  exact ⟨_, (rsf_ret (fLc2 (own := [("many", 1), ("some", 2)]) [2] rfl sc_sublists.nd (iR1 (by rfl) T.n_range (a_cons (e_op (oAdd rfl) l_add (cB (fnLen rfl) l_len (by rfl) T.n_len (by decide +kernel) (a_cons (e_var 0 (pv 0) (by decide)) a_nil)) e_int) a_nil)) (blkOk_by (own := [("many", 1), ("some", 2)]) (N := ["members", "many", "some"]) (sc := defScope s_sublists) (by decide +kernel)) (by decide) kg_name (fun _ _ _ _ _ => (gN 1 sc_sublists.nd rfl (.inl rfl) (by decide) off0)) (fun _ _ _ _ _ => rts_nil) (fun _ _ _ _ _ => (iCb rfl (by rfl) T.i_combinations (a_cons (e_var 0 (pv 0) (by decide)) (a_cons (e_var 1 (pv 1) (by decide)) a_nil)))) (fun _ _ _ _ _ => (gN 2 sc_sublists.nd rfl (.inl rfl) (by decide) off0)) (fun _ _ _ _ _ => rts_nil) (fun _ _ _ _ _ => (cT (fnList rfl) l_list (by rfl) T.n_list (by decide +kernel) (a_cons (e_var 2 (pv 2) (by decide)) a_nil))) (by decide) (by decide) (by decide) offs0))⟩
theorem ok_sublists (T : Txt P w K mg base) : FI P w K mg base 1 "sublists" ["members"] (spF K m_sublists) := (okr_sublists T).plain
abbrev s_least_forms : Stmt := topS 51
theorem sc_least_forms : FnScope ["part", "machine", "fitting", "forms"] ["part", "machine"] (defScope s_least_forms) := ⟨rfl, rfl, rfl, by decide +kernel, rfl, by decide +kernel, by decide +kernel⟩
theorem ok_least_forms (T : Txt P w K mg base) : FI P w K mg base 4 "least_forms" ["part", "machine"] (spF K m_least_forms) := by
  obtain ⟨f, fd, F, g, b⟩ := T.d_least_forms.ex
  refine ⟨f, fd, FnG.pure F sc_least_forms fun cdv A outer s H E hr hg => ?_, g, F.kp, b, Fun.lk F⟩
  have hu := hr.units
  have hv := hv_of hr
  have hx := hx_of hr
  have hw := hu_of hr
  unfold b_least_forms
  exact ⟨_, [], (ss_cons (sLcIf (own := [("forms", 3)]) 2 rfl sc_least_forms.nd rfl rfl (sw_true rfl rfl rfl (by decide +kernel)) (i_seq rfl (eF (ok_sublists T) (hr.mono (by decide)) hg rfl (by rfl) (a_cons (eF (ok_jump_rows T) (hr.mono (by decide)) hg rfl (by rfl) (a_cons (e_var 0 (pv 0) (by decide)) a_nil)) a_nil))) (blkOk_by (own := [("forms", 3)]) (N := ["part", "machine", "fitting", "forms"]) (sc := defScope s_least_forms) (by decide +kernel)) (fun _ _ _ _ _ => (gN 3 sc_least_forms.nd rfl (.inl rfl) (by decide) off0)) (fun _ _ _ _ _ => (t_not (tTru rfl (eF (ok_unfit_rows T) (hr.mono (by decide)) hg rfl (by rfl) (a_cons (e_var 0 (pv 0) (by decide)) (a_cons (e_var 1 (pv 1) (by decide)) (a_cons (e_var 3 (pv 3) (by decide)) a_nil))))))) (fun _ _ _ _ _ => (e_var 3 (pv 3) (by decide))) (by decide) offs0 (by decide) off0) (RSs.pre (O := []) (ss_one (s_ret (e_ix (oIx rfl hw) l_ix (cB (fnMinD rfl rfl hx) l_minD (by rfl) T.n_min (by decide +kernel) (a_cons (RF.e (fLc (own := [("forms", 3)]) rfl sc_least_forms.nd (i_seq rfl (e_var 2 (pv 2) (by decide))) (blkOk_by (own := [("forms", 3)]) (N := ["part", "machine", "fitting", "forms"]) (sc := defScope s_least_forms) (by decide +kernel)) (fun _ _ _ _ _ => (gN 3 sc_least_forms.nd rfl (.inl rfl) (by decide) off0)) (fun _ _ _ _ _ => (e_tup (a_cons (eF (ok_size_of T) (hr.mono (by decide)) hg rfl (by rfl) (a_cons (e_var 0 (pv 0) (by decide)) (a_cons (e_var 1 (pv 1) (by decide)) (a_cons (e_var 3 (pv 3) (by decide)) a_nil)))) (a_cons (e_un un_neg l_neg (cB (fnLen rfl) l_len (by rfl) T.n_len (by decide +kernel) (a_cons (e_var 3 (pv 3) (by decide)) a_nil))) (a_cons (e_var 3 (pv 3) (by decide)) a_nil))))) (by decide) offs0)) a_nil)) e_int (fun _ _ => rfl)))) (by decide)))⟩
abbrev s_laid_forms : Stmt := topS 52
theorem sc_laid_forms : FnScope ["part", "machine"] ["part", "machine"] (defScope s_laid_forms) := ⟨rfl, rfl, rfl, by decide +kernel, rfl, by decide +kernel, by decide +kernel⟩
theorem ok_laid_forms (T : Txt P w K mg base) : FI P w K mg base 5 "laid_forms" ["part", "machine"] (spF K m_laid_forms) := by
  obtain ⟨f, fd, F, g, b⟩ := T.d_laid_forms.ex
  refine ⟨f, fd, FnG.pure F sc_laid_forms fun cdv A outer s H E hr hg => ?_, g, F.kp, b, Fun.lk F⟩
  have hu := hr.units
  have hv := hv_of hr
  have hx := hx_of hr
  have hw := hu_of hr
  unfold b_laid_forms
  exact ⟨_, [], (ss_cons (sIf (O' := []) (t_val (eF (ok_is_even T) (hr.mono (by decide)) hg rfl (by rfl) (a_cons (e_var 0 (pv 0) (by decide)) a_nil))) (ss_one (s_ret (e_ix (oIx rfl hw) l_ix (eF (ok_growth T) (hr.mono (by decide)) hg rfl (by rfl) (a_cons (e_var 0 (pv 0) (by decide)) (a_cons (e_var 1 (pv 1) (by decide)) a_nil))) e_int (fun _ _ => rfl)))) ss_nil (fun _ h => h) (by decide)) (ss_one (s_ret (eF (ok_least_forms T) (hr.mono (by decide)) hg rfl (by rfl) (a_cons (e_var 0 (pv 0) (by decide)) (a_cons (e_var 1 (pv 1) (by decide)) a_nil))))))⟩
abbrev s_laid_size : Stmt := topS 53
theorem sc_laid_size : FnScope ["part", "machine"] ["part", "machine"] (defScope s_laid_size) := ⟨rfl, rfl, rfl, by decide +kernel, rfl, by decide +kernel, by decide +kernel⟩
theorem ok_laid_size (T : Txt P w K mg base) : FI P w K mg base 6 "laid_size" ["part", "machine"] (spF K m_laid_size) := by
  obtain ⟨f, fd, F, g, b⟩ := T.d_laid_size.ex
  refine ⟨f, fd, FnG.pure F sc_laid_size fun cdv A outer s H E hr hg => ?_, g, F.kp, b, Fun.lk F⟩
  have hu := hr.units
  have hv := hv_of hr
  have hx := hx_of hr
  have hw := hu_of hr
  unfold b_laid_size
  exact ⟨_, [], (ss_one (s_ret (eF (ok_size_of T) (hr.mono (by decide)) hg rfl (by rfl) (a_cons (e_var 0 (pv 0) (by decide)) (a_cons (e_var 1 (pv 1) (by decide)) (a_cons (eF (ok_laid_forms T) (hr.mono (by decide)) hg rfl (by rfl) (a_cons (e_var 0 (pv 0) (by decide)) (a_cons (e_var 1 (pv 1) (by decide)) a_nil))) a_nil))))))⟩
abbrev s_sizes_of : Stmt := topS 66
theorem sc_sizes_of : FnScope ["book", "machine", "part"] ["book", "machine"] (defScope s_sizes_of) := ⟨rfl, rfl, rfl, by decide +kernel, rfl, by decide +kernel, by decide +kernel⟩
theorem okr_sizes_of (T : Txt P w K mg base) : FI P w K mg base 7 "sizes_of" ["book", "machine"] (spFr K m_sizes_of) := by
  obtain ⟨f, fd, F, g, b⟩ := T.d_sizes_of.ex
  refine ⟨f, fd, FnG.fresh F sc_sizes_of fun cdv A outer s H E hr hg => ?_, g, F.kp, b, Fun.lk F⟩
  have hu := hr.units
  have hv := hv_of hr
  have hx := hx_of hr
  have hw := hu_of hr
  unfold b_sizes_of
  exact ⟨_, (rsf_ret (fLc (own := [("part", 2)]) rfl sc_sizes_of.nd (i_seq rfl (e_var 0 (pv 0) (by decide))) (blkOk_by (own := [("part", 2)]) (N := ["book", "machine", "part"]) (sc := defScope s_sizes_of) (by decide +kernel)) (fun _ _ _ _ _ => (gN 2 sc_sizes_of.nd rfl (.inl rfl) (by decide) off0)) (fun _ _ _ _ _ => (eF (ok_laid_size T) (hr.mono (by decide)) hg rfl (by rfl) (a_cons (e_var 2 (pv 2) (by decide)) (a_cons (e_var 1 (pv 1) (by decide)) a_nil)))) (by decide) offs0))⟩
theorem ok_sizes_of (T : Txt P w K mg base) : FI P w K mg base 7 "sizes_of" ["book", "machine"] (spF K m_sizes_of) := (okr_sizes_of T).plain
abbrev s_fewest_islands : Stmt := topS 80
theorem sc_fewest_islands : FnScope ["book", "machine", "order", "room", "pairs", "wanted", "sizes", "islands"] ["book", "machine", "order", "room", "pairs"] (defScope s_fewest_islands) := ⟨rfl, rfl, rfl, by decide +kernel, rfl, by decide +kernel, by decide +kernel⟩
theorem ok_fewest_islands (T : Txt P w K mg base) : FI P w K mg base 8 "fewest_islands" ["book", "machine", "order", "room", "pairs"] (spF K m_fewest_islands) := by
  obtain ⟨f, fd, F, g, b⟩ := T.d_fewest_islands.ex
  refine ⟨f, fd, FnG.pure F sc_fewest_islands fun cdv A outer s H E hr hg => ?_, g, F.kp, b, Fun.lk F⟩
  have hu := hr.units
  have hv := hv_of hr
  have hx := hx_of hr
  have hw := hu_of hr
  unfold b_fewest_islands
  exact ⟨_, [], (ss_cons (sExpr (eF (ok_check_ordered T) (hr.mono (by decide)) hg rfl (by rfl) (a_cons (e_var 0 (pv 0) (by decide)) (a_cons (e_var 1 (pv 1) (by decide)) (a_cons (e_var 2 (pv 2) (by decide)) (a_cons (e_var 3 (pv 3) (by decide)) a_nil)))))) (ss_cons (sExpr (eF (ok_check_pairs T) (hr.mono (by decide)) hg rfl (by rfl) (a_cons (e_var 0 (pv 0) (by decide)) (a_cons (e_var 4 (pv 4) (by decide)) a_nil)))) (ss_cons (sSet 5 sc_fewest_islands.nd rfl (.inl rfl) (eF (ok_far_pairs T) (hr.mono (by decide)) hg rfl (by rfl) (a_cons (e_var 0 (pv 0) (by decide)) a_nil)) (by decide) off0) (ss_cons (sSet 6 sc_fewest_islands.nd rfl (.inl rfl) (eF (ok_sizes_of T) (hr.mono (by decide)) hg rfl (by rfl) (a_cons (e_var 0 (pv 0) (by decide)) (a_cons (e_var 1 (pv 1) (by decide)) a_nil))) (by decide) off0) (ss_cons (sFor PassesOwn.never rfl (i_seq rfl (eF (ok_sublists T) (hr.mono (by decide)) hg rfl (by rfl) (a_cons (e_var 4 (pv 4) (by decide)) a_nil))) (gN 7 sc_fewest_islands.nd rfl (.inl rfl) (by decide) off0) (ss_one (sIf (O' := []) (t_not (tTru rfl (eF (ok_lost_pairs T) (hr.mono (by decide)) hg rfl (by rfl) (a_cons (e_var 5 (pv 5) (by decide)) (a_cons (e_var 6 (pv 6) (by decide)) (a_cons (e_var 1 (pv 1) (by decide)) (a_cons (e_var 2 (pv 2) (by decide)) (a_cons (e_var 3 (pv 3) (by decide)) (a_cons (e_var 7 (pv 7) (by decide)) a_nil))))))))) (ss_one (s_ret (e_var 7 (pv 7) (by decide)))) ss_nil (fun _ h => h) (by decide))) (by decide)) (ss_one (s_ret e_non)))))))⟩
abbrev s__law_w_six_right : Stmt := topS 88
theorem sc__law_w_six_right : FnScope ["pen", "wide", "middle", "made", "posts", "kind", "row", "free"] ["pen"] (defScope s__law_w_six_right) := ⟨rfl, rfl, rfl, by decide +kernel, rfl, by decide +kernel, by decide +kernel⟩
theorem ok__law_w_six_right (T : Txt P w K mg base) : FI P w K mg base 9 "_law_w_six_right" ["pen"] (spP K m__law_w_six_right) := by
  obtain ⟨f, fd, F, g, b⟩ := T.d__law_w_six_right.ex
  refine ⟨f, fd, FnG.pen F sc__law_w_six_right fun a dr cdv A outer s H E hr hg => ?_, g, F.kp, b, Fun.lk F⟩
  have hu := hr.units
  have hv := hv_of hr
  have hx := hx_of hr
  have hw := hu_of hr
  unfold b__law_w_six_right
  exact ⟨_, [], (ss_cons (sSet 1 sc__law_w_six_right.nd rfl (.inl rfl) (e_op (oAdd rfl) l_add e_int (eP (ok__law_take T) (hr.mono (by decide)) hg rfl rfl (by rfl) (pv 0) (a_cons e_int a_nil))) (by decide) (off1 (by decide))) (ss_cons (sSet 2 sc__law_w_six_right.nd rfl (.inl rfl) (e_tup (a_cons (e_tup (a_cons e_str (a_cons (e_var 1 (pv 1) (by decide)) a_nil))) a_nil)) (by decide) (off1 (by decide))) (ss_cons (sSet 3 sc__law_w_six_right.nd rfl (.inl rfl) (e_tup (a_cons (e_tup (a_cons (e_tup (a_cons e_str (a_cons e_int a_nil))) a_nil)) (a_cons (e_var 2 (pv 2) (by decide)) (a_cons (e_var 2 (pv 2) (by decide)) (a_cons (e_var 2 (pv 2) (by decide)) (a_cons (e_tup (a_cons (e_tup (a_cons e_str (a_cons e_int a_nil))) a_nil)) a_nil)))))) (by decide) (off1 (by decide))) (ss_cons (sSet 4 sc__law_w_six_right.nd rfl (.inl rfl) (e_lst (a_cons (e_tup (a_cons e_int (a_cons e_int a_nil))) (a_cons (e_tup (a_cons e_int (a_cons e_int a_nil))) (a_cons (e_tup (a_cons e_int (a_cons e_int a_nil))) (a_cons (e_tup (a_cons e_int (a_cons e_int a_nil))) (a_cons (e_tup (a_cons e_int (a_cons e_int a_nil))) (a_cons (e_tup (a_cons e_int (a_cons e_int a_nil))) a_nil))))))) (by decide) (off1 (by decide))) (ss_cons (sPar3 5 6 7 rfl sc__law_w_six_right.nd rfl rfl rfl (by decide) (by decide) (by decide) rfl rfl rfl (x_sh (e_tup (a_cons e_int (a_cons e_int (a_cons e_int (a_cons e_int (a_cons e_int (a_cons e_int (a_cons e_int (a_cons e_int a_nil))))))))) (x_sh (e_lst (a_cons e_int (a_cons e_int (a_cons e_int (a_cons e_int (a_cons e_int a_nil)))))) (x_sh (e_lst (a_cons e_int (a_cons e_int (a_cons e_int (a_cons e_int (a_cons e_int a_nil)))))) x_nil))) (offsO1 (by decide)) rfl) (ss_cons (sIf (O' := []) (t_cmp (oNe rfl hu) l_ne (eF (ok_fewest_islands T) (hr.mono (by decide)) hg rfl (by rfl) (a_cons (e_var 3 (pv 3) (by decide)) (a_cons (e_var 5 (pv 5) (by decide)) (a_cons (e_var 6 (pv 6) (by decide)) (a_cons (e_var 7 (pv 7) (by decide)) (a_cons (e_var 4 (pv 4) (by decide)) a_nil)))))) (e_var 4 (pv 4) (by decide)) (nomark _)) (ss_one (s_ret e_bl)) ss_nil (fun _ h => h) (by decide)) (ss_one (s_ret (e_cmp op_isN l_isN (eF (ok_fewest_islands T) (hr.mono (by decide)) hg rfl (by rfl) (a_cons (e_var 3 (pv 3) (by decide)) (a_cons (e_var 5 (pv 5) (by decide)) (a_cons (e_var 6 (pv 6) (by decide)) (a_cons (e_var 7 (pv 7) (by decide)) (a_cons (e_sl (e_var 4 (pv 4) (by decide)) (p_some e_int) p_none rfl) a_nil)))))) e_non (nomark _))))))))))⟩
abbrev s_orders_of : Stmt := topS 82
theorem sc_orders_of : FnScope ["book", "others"] ["book"] (defScope s_orders_of) := ⟨rfl, rfl, rfl, by decide +kernel, rfl, by decide +kernel, by decide +kernel⟩
theorem ok_orders_of (T : Txt P w K mg base) : FI P w K mg base 1 "orders_of" ["book"] (spF K m_orders_of) := by
  obtain ⟨f, fd, F, g, b⟩ := T.d_orders_of.ex
  refine ⟨f, fd, FnG.pure F sc_orders_of fun cdv A outer s H E hr hg => ?_, g, F.kp, b, Fun.lk F⟩
  have hu := hr.units
  have hv := hv_of hr
  have hx := hx_of hr
  have hw := hu_of hr
  unfold b_orders_of
  exact ⟨_, [], (ss_one (s_ret (RF.e (fLc (own := [("others", 1)]) rfl sc_orders_of.nd (iPm rfl (by rfl) T.i_permutations (by rfl) T.n_range e_int (cB (fnLen rfl) l_len (by rfl) T.n_len (by decide +kernel) (a_cons (e_var 0 (pv 0) (by decide)) a_nil))) (blkOk_by (own := [("others", 1)]) (N := ["book", "others"]) (sc := defScope s_orders_of) (by decide +kernel)) (fun _ _ _ _ _ => (gN 1 sc_orders_of.nd rfl (.inl rfl) (by decide) off0)) (fun _ _ _ _ _ => (e_op (oAdd rfl) l_add (e_lst (a_cons e_int a_nil)) (cT (fnList rfl) l_list (by rfl) T.n_list (by decide +kernel) (a_cons (e_var 1 (pv 1) (by decide)) a_nil)))) (by decide) offs0))))⟩
abbrev s_best_order : Stmt := topS 83
theorem sc_best_order : FnScope ["book", "machine", "room", "pairs", "wanted", "sizes", "orders", "many", "order", "islands"] ["book", "machine", "room", "pairs"] (defScope s_best_order) := ⟨rfl, rfl, rfl, by decide +kernel, rfl, by decide +kernel, by decide +kernel⟩
theorem ok_best_order (T : Txt P w K mg base) : FI P w K mg base 8 "best_order" ["book", "machine", "room", "pairs"] (spF K m_best_order) := by
  obtain ⟨f, fd, F, g, b⟩ := T.d_best_order.ex
  refine ⟨f, fd, FnG.pure F sc_best_order fun cdv A outer s H E hr hg => ?_, g, F.kp, b, Fun.lk F⟩
  have hu := hr.units
  have hv := hv_of hr
  have hx := hx_of hr
  have hw := hu_of hr
  unfold b_best_order
  exact ⟨_, [], (ss_cons (sExpr (eF (ok_check_book T) (hr.mono (by decide)) hg rfl (by rfl) (a_cons (e_var 0 (pv 0) (by decide)) a_nil))) (ss_cons (sExpr (eF (ok_check_machine T) (hr.mono (by decide)) hg rfl (by rfl) (a_cons (e_var 1 (pv 1) (by decide)) a_nil))) (ss_cons (sExpr (eF (ok_check_room T) (hr.mono (by decide)) hg rfl (by rfl) (a_cons (e_var 0 (pv 0) (by decide)) (a_cons (e_var 2 (pv 2) (by decide)) a_nil)))) (ss_cons (sExpr (eF (ok_check_pairs T) (hr.mono (by decide)) hg rfl (by rfl) (a_cons (e_var 0 (pv 0) (by decide)) (a_cons (e_var 3 (pv 3) (by decide)) a_nil)))) (ss_cons (sSet 4 sc_best_order.nd rfl (.inl rfl) (eF (ok_far_pairs T) (hr.mono (by decide)) hg rfl (by rfl) (a_cons (e_var 0 (pv 0) (by decide)) a_nil)) (by decide) off0) (ss_cons (sSet 5 sc_best_order.nd rfl (.inl rfl) (eF (ok_sizes_of T) (hr.mono (by decide)) hg rfl (by rfl) (a_cons (e_var 0 (pv 0) (by decide)) (a_cons (e_var 1 (pv 1) (by decide)) a_nil))) (by decide) off0) (ss_cons (sSet 6 sc_best_order.nd rfl (.inl rfl) (eF (ok_orders_of T) (hr.mono (by decide)) hg rfl (by rfl) (a_cons (e_var 0 (pv 0) (by decide)) a_nil)) (by decide) off0) (ss_cons (sFor PassesOwn.never rfl (iR1 (by rfl) T.n_range (a_cons (e_op (oAdd rfl) l_add (cB (fnLen rfl) l_len (by rfl) T.n_len (by decide +kernel) (a_cons (e_var 3 (pv 3) (by decide)) a_nil)) e_int) a_nil)) (gN 7 sc_best_order.nd rfl (.inl rfl) (by decide) off0) (ss_one (sFor PassesOwn.never rfl (i_seq rfl (e_var 6 (pv 6) (by decide))) (gN 8 sc_best_order.nd rfl (.inl rfl) (by decide) off0) (ss_one (sFor PassesOwn.never rfl (iCb rfl (by rfl) T.i_combinations (a_cons (e_var 3 (pv 3) (by decide)) (a_cons (e_var 7 (pv 7) (by decide)) a_nil))) (gN 9 sc_best_order.nd rfl (.inl rfl) (by decide) off0) (ss_one (sIf (O' := []) (t_not (tTru rfl (eF (ok_lost_pairs T) (hr.mono (by decide)) hg rfl (by rfl) (a_cons (e_var 4 (pv 4) (by decide)) (a_cons (e_var 5 (pv 5) (by decide)) (a_cons (e_var 1 (pv 1) (by decide)) (a_cons (e_var 8 (pv 8) (by decide)) (a_cons (e_var 2 (pv 2) (by decide)) (a_cons (e_var 9 (pv 9) (by decide)) a_nil))))))))) (ss_one (s_ret (e_tup (a_cons (e_var 8 (pv 8) (by decide)) (a_cons (cT (fnList rfl) l_list (by rfl) T.n_list (by decide +kernel) (a_cons (e_var 9 (pv 9) (by decide)) a_nil)) a_nil))))) ss_nil (fun _ h => h) (by decide))) (by decide))) (by decide))) (by decide)) (ss_one (s_ret e_non))))))))))⟩
abbrev s__law_w_ties_right : Stmt := topS 89
theorem sc__law_w_ties_right : FnScope ["made", "kind", "posts"] [] (defScope s__law_w_ties_right) := ⟨rfl, rfl, rfl, by decide +kernel, rfl, by decide +kernel, by decide +kernel⟩
theorem ok__law_w_ties_right (T : Txt P w K mg base) : FI P w K mg base 9 "_law_w_ties_right" [] (spF K m__law_w_ties_right) := by
  obtain ⟨f, fd, F, g, b⟩ := T.d__law_w_ties_right.ex
  refine ⟨f, fd, FnG.pure F sc__law_w_ties_right fun cdv A outer s H E hr hg => ?_, g, F.kp, b, Fun.lk F⟩
  have hu := hr.units
  have hv := hv_of hr
  have hx := hx_of hr
  have hw := hu_of hr
  unfold b__law_w_ties_right
  exact ⟨_, [], (ss_cons (sSet 0 sc__law_w_ties_right.nd rfl (.inl rfl) (e_tup (a_cons (e_tup (a_cons (e_tup (a_cons e_str (a_cons e_int a_nil))) a_nil)) (a_cons (e_tup (a_cons (e_tup (a_cons e_str (a_cons e_int a_nil))) a_nil)) (a_cons (e_tup (a_cons (e_tup (a_cons e_str (a_cons e_int a_nil))) a_nil)) (a_cons (e_tup (a_cons (e_tup (a_cons e_str (a_cons e_int a_nil))) a_nil)) (a_cons (e_tup (a_cons (e_tup (a_cons e_str (a_cons e_int a_nil))) a_nil)) a_nil)))))) (by decide) off0) (ss_cons (sPar2 1 2 rfl sc__law_w_ties_right.nd rfl rfl (by decide) rfl rfl (x_sh (e_tup (a_cons e_int (a_cons e_int (a_cons e_int (a_cons e_int (a_cons e_int (a_cons e_int (a_cons e_int (a_cons e_int a_nil))))))))) (x_sh (e_lst (a_cons (e_tup (a_cons e_int (a_cons e_int a_nil))) (a_cons (e_tup (a_cons e_int (a_cons e_int a_nil))) (a_cons (e_tup (a_cons e_int (a_cons e_int a_nil))) (a_cons (e_tup (a_cons e_int (a_cons e_int a_nil))) a_nil))))) x_nil)) (offsO0 (by decide)) rfl) (ss_cons (sIf (O' := []) (t_cmp (oNe rfl hu) l_ne (eF (ok_fewest_islands T) (hr.mono (by decide)) hg rfl (by rfl) (a_cons (e_var 0 (pv 0) (by decide)) (a_cons (e_var 1 (pv 1) (by decide)) (a_cons (e_lst (a_cons e_int (a_cons e_int (a_cons e_int (a_cons e_int (a_cons e_int a_nil)))))) (a_cons (e_lst (a_cons e_int (a_cons e_int (a_cons e_int (a_cons e_int (a_cons e_int a_nil)))))) (a_cons (e_var 2 (pv 2) (by decide)) a_nil)))))) (e_lst (a_cons (e_tup (a_cons e_int (a_cons e_int a_nil))) (a_cons (e_tup (a_cons e_int (a_cons e_int a_nil))) a_nil))) (nomark _)) (ss_one (s_ret e_bl)) ss_nil (fun _ h => h) (by decide)) (ss_cons (sSet 0 sc__law_w_ties_right.nd rfl (.inl rfl) (e_tup (a_cons (e_tup (a_cons (e_tup (a_cons e_str (a_cons e_int (a_cons e_int a_nil)))) (a_cons (e_tup (a_cons e_str (a_cons e_int a_nil))) a_nil))) (a_cons (e_tup (a_cons (e_tup (a_cons e_str (a_cons e_int a_nil))) a_nil)) (a_cons (e_tup (a_cons (e_tup (a_cons e_str (a_cons e_int a_nil))) a_nil)) (a_cons (e_tup (a_cons (e_tup (a_cons e_str (a_cons e_int a_nil))) a_nil)) a_nil))))) (by decide) off0) (ss_cons (sSet 1 sc__law_w_ties_right.nd rfl (.inl rfl) (e_tup (a_cons e_int (a_cons e_int (a_cons e_int (a_cons e_int (a_cons e_int (a_cons e_int (a_cons e_int (a_cons e_int a_nil))))))))) (by decide) off0) (ss_one (s_ret (e_cmp (oEq rfl hu) l_eq (eF (ok_best_order T) (hr.mono (by decide)) hg rfl (by rfl) (a_cons (e_var 0 (pv 0) (by decide)) (a_cons (e_var 1 (pv 1) (by decide)) (a_cons (e_lst (a_cons e_int (a_cons e_int (a_cons e_int (a_cons e_int a_nil))))) (a_cons (e_lst (a_cons (e_tup (a_cons e_int (a_cons e_int a_nil))) (a_cons (e_tup (a_cons e_int (a_cons e_int a_nil))) a_nil))) a_nil))))) (e_tup (a_cons (e_lst (a_cons e_int (a_cons e_int (a_cons e_int (a_cons e_int a_nil))))) (a_cons (e_lst (a_cons (e_tup (a_cons e_int (a_cons e_int a_nil))) a_nil)) a_nil))) (nomark _)))))))))⟩
abbrev s_extents : Stmt := topS 75
theorem sc_extents : FnScope ["book", "machine", "order", "room"] ["book", "machine", "order", "room"] (defScope s_extents) := ⟨rfl, rfl, rfl, by decide +kernel, rfl, by decide +kernel, by decide +kernel⟩
theorem okr_extents (T : Txt P w K mg base) : FI P w K mg base 8 "extents" ["book", "machine", "order", "room"] (spFr K m_extents) := by
  obtain ⟨f, fd, F, g, b⟩ := T.d_extents.ex
  refine ⟨f, fd, FnG.fresh F sc_extents fun cdv A outer s H E hr hg => ?_, g, F.kp, b, Fun.lk F⟩
  have hu := hr.units
  have hv := hv_of hr
  have hx := hx_of hr
  have hw := hu_of hr
  unfold b_extents
  exact ⟨_, (rsf_cons (sExpr (eF (ok_check_ordered T) (hr.mono (by decide)) hg rfl (by rfl) (a_cons (e_var 0 (pv 0) (by decide)) (a_cons (e_var 1 (pv 1) (by decide)) (a_cons (e_var 2 (pv 2) (by decide)) (a_cons (e_var 3 (pv 3) (by decide)) a_nil)))))) nr_drop (rsf_ret (fF (okr_spread T) (hr.mono (by decide)) hg rfl (by rfl) (a_cons (eF (ok_sizes_of T) (hr.mono (by decide)) hg rfl (by rfl) (a_cons (e_var 0 (pv 0) (by decide)) (a_cons (e_var 1 (pv 1) (by decide)) a_nil))) (a_cons (e_var 2 (pv 2) (by decide)) (a_cons (e_var 3 (pv 3) (by decide)) a_nil))))))⟩
theorem ok_extents (T : Txt P w K mg base) : FI P w K mg base 8 "extents" ["book", "machine", "order", "room"] (spF K m_extents) := (okr_extents T).plain
abbrev s_lost : Stmt := topS 79
theorem sc_lost : FnScope ["book", "machine", "order", "room", "islands"] ["book", "machine", "order", "room", "islands"] (defScope s_lost) := ⟨rfl, rfl, rfl, by decide +kernel, rfl, by decide +kernel, by decide +kernel⟩
theorem okr_lost (T : Txt P w K mg base) : FI P w K mg base 8 "lost" ["book", "machine", "order", "room", "islands"] (spFr K m_lost) := by
  obtain ⟨f, fd, F, g, b⟩ := T.d_lost.ex
  refine ⟨f, fd, FnG.fresh F sc_lost fun cdv A outer s H E hr hg => ?_, g, F.kp, b, Fun.lk F⟩
  have hu := hr.units
  have hv := hv_of hr
  have hx := hx_of hr
  have hw := hu_of hr
  unfold b_lost
  exact ⟨_, (rsf_cons (sExpr (eF (ok_check_ordered T) (hr.mono (by decide)) hg rfl (by rfl) (a_cons (e_var 0 (pv 0) (by decide)) (a_cons (e_var 1 (pv 1) (by decide)) (a_cons (e_var 2 (pv 2) (by decide)) (a_cons (e_var 3 (pv 3) (by decide)) a_nil)))))) nr_drop (rsf_cons (sExpr (eF (ok_check_islands T) (hr.mono (by decide)) hg rfl (by rfl) (a_cons (e_var 0 (pv 0) (by decide)) (a_cons (e_var 4 (pv 4) (by decide)) a_nil)))) nr_drop (rsf_ret (fF (okr_lost_pairs T) (hr.mono (by decide)) hg rfl (by rfl) (a_cons (eF (ok_far_pairs T) (hr.mono (by decide)) hg rfl (by rfl) (a_cons (e_var 0 (pv 0) (by decide)) a_nil)) (a_cons (eF (ok_sizes_of T) (hr.mono (by decide)) hg rfl (by rfl) (a_cons (e_var 0 (pv 0) (by decide)) (a_cons (e_var 1 (pv 1) (by decide)) a_nil))) (a_cons (e_var 1 (pv 1) (by decide)) (a_cons (e_var 2 (pv 2) (by decide)) (a_cons (e_var 3 (pv 3) (by decide)) (a_cons (e_var 4 (pv 4) (by decide)) a_nil))))))))))⟩
theorem ok_lost (T : Txt P w K mg base) : FI P w K mg base 8 "lost" ["book", "machine", "order", "room", "islands"] (spF K m_lost) := (okr_lost T).plain
abbrev s_check_goal : Stmt := topS 61
theorem sc_check_goal : FnScope ["book", "goal"] ["book", "goal"] (defScope s_check_goal) := ⟨rfl, rfl, rfl, by decide +kernel, rfl, by decide +kernel, by decide +kernel⟩
theorem ok_check_goal (T : Txt P w K mg base) : FI P w K mg base 3 "check_goal" ["book", "goal"] (spF K m_check_goal) := by
  obtain ⟨f, fd, F, g, b⟩ := T.d_check_goal.ex
  refine ⟨f, fd, FnG.pure F sc_check_goal fun cdv A outer s H E hr hg => ?_, g, F.kp, b, Fun.lk F⟩
  have hu := hr.units
  have hv := hv_of hr
  have hx := hx_of hr
  have hw := hu_of hr
  unfold b_check_goal
  exact ⟨_, _, (ss_one (sIf (O' := []) (t_not (t_val (eF (ok_is_part_number T) (hr.mono (by decide)) hg rfl (by rfl) (a_cons (e_var 0 (pv 0) (by decide)) (a_cons (e_var 1 (pv 1) (by decide)) a_nil))))) (ss_one s_never) ss_nil (fun _ h => h) (by decide)))⟩
abbrev s_is_levels : Stmt := topS 74
theorem sc_is_levels : FnScope ["thing", "levels", "one", "level"] ["thing", "levels"] (defScope s_is_levels) := ⟨rfl, rfl, rfl, by decide +kernel, rfl, by decide +kernel, by decide +kernel⟩
theorem ok_is_levels (T : Txt P w K mg base) : FI P w K mg base 2 "is_levels" ["thing", "levels"] (spF K m_is_levels) := by
  obtain ⟨f, fd, F, g, b⟩ := T.d_is_levels.ex
  refine ⟨f, fd, FnG.pure F sc_is_levels fun cdv A outer s H E hr hg => ?_, g, F.kp, b, Fun.lk F⟩
  have hu := hr.units
  have hv := hv_of hr
  have hx := hx_of hr
  have hw := hu_of hr
  unfold b_is_levels
  exact ⟨_, [], (ss_cons (sIf (O' := []) (RW.t (w_or (t_not (t_val (eIsi (T := "tuple") (by decide) rfl (e_var 0 (pv 0) (by decide)) (by rfl) T.n_isinstance (by rfl) T.n_tuple (by decide +kernel)))) (w_or1 (t_cmp (oNe rfl hu) l_ne (cB (fnLen rfl) l_len (by rfl) T.n_len (by decide +kernel) (a_cons (e_var 0 (pv 0) (by decide)) a_nil)) (cB (fnLen rfl) l_len (by rfl) T.n_len (by decide +kernel) (a_cons (e_var 1 (pv 1) (by decide)) a_nil)) (nomark _))))) (ss_one (s_ret e_bl)) ss_nil (fun _ h => h) (by decide)) (ss_one (s_ret (cB (fnAll rfl rfl) l_all (by rfl) T.n_all (by decide +kernel) (a_cons (RF.e (fLc (own := [("one", 2), ("level", 3)]) rfl sc_is_levels.nd (iZx rfl (by rfl) T.n_zip (a_cons (e_var 0 (pv 0) (by decide)) (a_cons (e_var 1 (pv 1) (by decide)) a_nil))) (blkOk_by (own := [("one", 2), ("level", 3)]) (N := ["thing", "levels", "one", "level"]) (sc := defScope s_is_levels) (by decide +kernel)) (fun _ _ _ _ _ => (gT 2 rfl rfl (gC (gN 2 sc_is_levels.nd rfl (.inl rfl) (by decide) off0) (gC (gN 3 sc_is_levels.nd rfl (.inl rfl) (by decide) off0) gs_nil)))) (fun _ _ _ _ _ => (e_if (t_cmp op_isN l_isN (e_var 3 (pv 3) (by decide)) e_non (nomark _)) (e_cmp op_isN l_isN (e_var 2 (pv 2) (by decide)) e_non (nomark _)) (eF (ok_is_within T) (hr.mono (by decide)) hg rfl (by rfl) (a_cons (e_var 2 (pv 2) (by decide)) (a_cons (e_var 3 (pv 3) (by decide)) (a_cons (e_var 3 (pv 3) (by decide)) a_nil)))))) (by decide) offs0)) a_nil)))))⟩
abbrev s_ways_to : Stmt := topS 73
theorem sc_ways_to : FnScope ["book", "machine", "order", "room", "islands", "goal", "spans"] ["book", "machine", "order", "room", "islands", "goal"] (defScope s_ways_to) := ⟨rfl, rfl, rfl, by decide +kernel, rfl, by decide +kernel, by decide +kernel⟩
theorem ok_ways_to (T : Txt P w K mg base) : FI P w K mg base 8 "ways_to" ["book", "machine", "order", "room", "islands", "goal"] (spF K m_ways_to) := by
  obtain ⟨f, fd, F, g, b⟩ := T.d_ways_to.ex
  refine ⟨f, fd, FnG.pure F sc_ways_to fun cdv A outer s H E hr hg => ?_, g, F.kp, b, Fun.lk F⟩
  have hu := hr.units
  have hv := hv_of hr
  have hx := hx_of hr
  have hw := hu_of hr
  unfold b_ways_to
  exact ⟨_, [], (ss_cons (sSet 6 sc_ways_to.nd rfl (.inl rfl) (eF (ok_spread T) (hr.mono (by decide)) hg rfl (by rfl) (a_cons (eF (ok_sizes_with T) (hr.mono (by decide)) hg rfl (by rfl) (a_cons (eF (ok_sizes_of T) (hr.mono (by decide)) hg rfl (by rfl) (a_cons (e_var 0 (pv 0) (by decide)) (a_cons (e_var 1 (pv 1) (by decide)) a_nil))) (a_cons (e_var 1 (pv 1) (by decide)) (a_cons (e_var 4 (pv 4) (by decide)) a_nil)))) (a_cons (e_var 2 (pv 2) (by decide)) (a_cons (e_var 3 (pv 3) (by decide)) a_nil)))) (by decide) off0) (ss_one (s_ret (eF (ok_ways_over T) (hr.mono (by decide)) hg rfl (by rfl) (a_cons (e_var 6 (pv 6) (by decide)) (a_cons (e_ix (oIx rfl hw) l_ix (e_var 1 (pv 1) (by decide)) (T.c_LEAP.e (by rfl) rfl) (fun _ _ => rfl)) (a_cons (e_var 4 (pv 4) (by decide)) (a_cons (e_var 5 (pv 5) (by decide)) a_nil))))))))⟩
abbrev s_shows_levels : Stmt := topS 78
theorem sc_shows_levels : FnScope ["book", "machine", "order", "room", "islands", "goal", "thing", "found", "way"] ["book", "machine", "order", "room", "islands", "goal", "thing"] (defScope s_shows_levels) := ⟨rfl, rfl, rfl, by decide +kernel, rfl, by decide +kernel, by decide +kernel⟩
theorem ok_shows_levels (T : Txt P w K mg base) : FI P w K mg base 9 "shows_levels" ["book", "machine", "order", "room", "islands", "goal", "thing"] (spF K m_shows_levels) := by
  obtain ⟨f, fd, F, g, b⟩ := T.d_shows_levels.ex
  refine ⟨f, fd, FnG.pure F sc_shows_levels fun cdv A outer s H E hr hg => ?_, g, F.kp, b, Fun.lk F⟩
  have hu := hr.units
  have hv := hv_of hr
  have hx := hx_of hr
  have hw := hu_of hr
  unfold b_shows_levels
  exact ⟨_, [], (ss_cons (sExpr (eF (ok_check_ordered T) (hr.mono (by decide)) hg rfl (by rfl) (a_cons (e_var 0 (pv 0) (by decide)) (a_cons (e_var 1 (pv 1) (by decide)) (a_cons (e_var 2 (pv 2) (by decide)) (a_cons (e_var 3 (pv 3) (by decide)) a_nil)))))) (ss_cons (sExpr (eF (ok_check_islands T) (hr.mono (by decide)) hg rfl (by rfl) (a_cons (e_var 0 (pv 0) (by decide)) (a_cons (e_var 4 (pv 4) (by decide)) a_nil)))) (ss_cons (sExpr (eF (ok_check_goal T) (hr.mono (by decide)) hg rfl (by rfl) (a_cons (e_var 0 (pv 0) (by decide)) (a_cons (e_var 5 (pv 5) (by decide)) a_nil)))) (ss_cons (sSet 7 sc_shows_levels.nd rfl (.inl rfl) (eF (ok_ways_to T) (hr.mono (by decide)) hg rfl (by rfl) (a_cons (e_var 0 (pv 0) (by decide)) (a_cons (e_var 1 (pv 1) (by decide)) (a_cons (e_var 2 (pv 2) (by decide)) (a_cons (e_var 3 (pv 3) (by decide)) (a_cons (e_var 4 (pv 4) (by decide)) (a_cons (e_var 5 (pv 5) (by decide)) a_nil))))))) (by decide) off0) (ss_one (s_ret (eF (ok_is_levels T) (hr.mono (by decide)) hg rfl (by rfl) (a_cons (e_var 6 (pv 6) (by decide)) (a_cons (RF.e (fLc (own := [("way", 8)]) rfl sc_shows_levels.nd (i_seq rfl (e_var 7 (pv 7) (by decide))) (blkOk_by (own := [("way", 8)]) (N := ["book", "machine", "order", "room", "islands", "goal", "thing", "found", "way"]) (sc := defScope s_shows_levels) (by decide +kernel)) (fun _ _ _ _ _ => (gN 8 sc_shows_levels.nd rfl (.inl rfl) (by decide) off0)) (fun _ _ _ _ _ => (e_if (t_cmp op_isN l_isN (e_var 8 (pv 8) (by decide)) e_non (nomark _)) e_non (cB (fnLen rfl) l_len (by rfl) T.n_len (by decide +kernel) (a_cons (e_var 8 (pv 8) (by decide)) a_nil)))) (by decide) offs0)) a_nil)))))))))⟩
abbrev s_ways : Stmt := topS 77
theorem sc_ways : FnScope ["book", "machine", "order", "room", "islands", "goal"] ["book", "machine", "order", "room", "islands", "goal"] (defScope s_ways) := ⟨rfl, rfl, rfl, by decide +kernel, rfl, by decide +kernel, by decide +kernel⟩
theorem ok_ways (T : Txt P w K mg base) : FI P w K mg base 9 "ways" ["book", "machine", "order", "room", "islands", "goal"] (spF K m_ways) := by
  obtain ⟨f, fd, F, g, b⟩ := T.d_ways.ex
  refine ⟨f, fd, FnG.pure F sc_ways fun cdv A outer s H E hr hg => ?_, g, F.kp, b, Fun.lk F⟩
  have hu := hr.units
  have hv := hv_of hr
  have hx := hx_of hr
  have hw := hu_of hr
  unfold b_ways
  exact ⟨_, [], (ss_cons (sExpr (eF (ok_check_ordered T) (hr.mono (by decide)) hg rfl (by rfl) (a_cons (e_var 0 (pv 0) (by decide)) (a_cons (e_var 1 (pv 1) (by decide)) (a_cons (e_var 2 (pv 2) (by decide)) (a_cons (e_var 3 (pv 3) (by decide)) a_nil)))))) (ss_cons (sExpr (eF (ok_check_islands T) (hr.mono (by decide)) hg rfl (by rfl) (a_cons (e_var 0 (pv 0) (by decide)) (a_cons (e_var 4 (pv 4) (by decide)) a_nil)))) (ss_cons (sExpr (eF (ok_check_goal T) (hr.mono (by decide)) hg rfl (by rfl) (a_cons (e_var 0 (pv 0) (by decide)) (a_cons (e_var 5 (pv 5) (by decide)) a_nil)))) (ss_one (s_ret (eF (ok_ways_to T) (hr.mono (by decide)) hg rfl (by rfl) (a_cons (e_var 0 (pv 0) (by decide)) (a_cons (e_var 1 (pv 1) (by decide)) (a_cons (e_var 2 (pv 2) (by decide)) (a_cons (e_var 3 (pv 3) (by decide)) (a_cons (e_var 4 (pv 4) (by decide)) (a_cons (e_var 5 (pv 5) (by decide)) a_nil))))))))))))⟩
abbrev s_with_islands : Stmt := topS 76
theorem sc_with_islands : FnScope ["book", "islands"] ["book", "islands"] (defScope s_with_islands) := ⟨rfl, rfl, rfl, by decide +kernel, rfl, by decide +kernel, by decide +kernel⟩
theorem ok_with_islands (T : Txt P w K mg base) : FI P w K mg base 7 "with_islands" ["book", "islands"] (spF K m_with_islands) := by
  obtain ⟨f, fd, F, g, b⟩ := T.d_with_islands.ex
  refine ⟨f, fd, FnG.pure F sc_with_islands fun cdv A outer s H E hr hg => ?_, g, F.kp, b, Fun.lk F⟩
  have hu := hr.units
  have hv := hv_of hr
  have hx := hx_of hr
  have hw := hu_of hr
  unfold b_with_islands
  exact ⟨_, [], (ss_cons (sExpr (eF (ok_check_book T) (hr.mono (by decide)) hg rfl (by rfl) (a_cons (e_var 0 (pv 0) (by decide)) a_nil))) (ss_cons (sExpr (eF (ok_check_islands T) (hr.mono (by decide)) hg rfl (by rfl) (a_cons (e_var 0 (pv 0) (by decide)) (a_cons (e_var 1 (pv 1) (by decide)) a_nil)))) (ss_one (s_ret (eF (ok_put_islands T) (hr.mono (by decide)) hg rfl (by rfl) (a_cons (e_var 0 (pv 0) (by decide)) (a_cons (e_var 1 (pv 1) (by decide)) a_nil)))))))⟩
abbrev s_law : Stmt := topS 90
theorem sc_law : FnScope ["script", "pen", "turn", "wide", "made", "kind", "row", "free", "posts", "found", "told", "levels", "way", "one"] ["script"] (defScope s_law) := ⟨rfl, rfl, rfl, by decide +kernel, rfl, by decide +kernel, by decide +kernel⟩
theorem fn_law (T : Txt P w K mg base) (h : b_c65_law mTrue (List.replicate 14 none) 0) {f : Addr} {fd : FuncData} (F : Fun K "law" "law" (topS 90) f fd) : FnG P w K mg base 10 f fd ["script"] (spLaw K) := by
  obtain ⟨fS, fdS, GS, gS, kS, bS, _⟩ := (ok__law_open T).ex
  refine FnG.law 1 F sc_law (by decide) _ _ rfl (fun cdv A outer s H E hr hg => ⟨?_, fun a dr => ?_⟩) h
  · exact ps_set (i := 1) sc_law.nd rfl (.inl rfl) (pe_callG GS (hr.mono (by decide)) (hg.le (by decide)) (by rfl) gS kS bS (pa_cons (pv 0) pa_nil))
  · have hu := hr.units
    have hv := hv_of hr
    have hx := hx_of hr
    have hw := hu_of hr
    unfold b_c65_law
    exact ⟨_, [], (ss_cons (sIf (O' := []) (RW.t (w_or (t_not (t_val (eP (ok__law_w_six_right T) (hr.mono (by decide)) hg rfl rfl (by rfl) (pv 1) a_nil))) (w_or1 (t_not (t_val (eF0 (ok__law_w_ties_right T) (hr.mono (by decide)) hg rfl (by rfl))))))) (ss_one (s_ret e_bl)) ss_nil (fun _ h => h) (by decide)) (ss_cons (sFor PassesOwn.never rfl (iR1 (by rfl) T.n_range (a_cons e_int a_nil)) (gN 2 sc_law.nd rfl (.inl rfl) (by decide) (offp (by decide))) (ss_cons (sSet 3 sc_law.nd rfl (.inl rfl) (e_op (oAdd rfl) l_add e_int (eP (ok__law_take T) (hr.mono (by decide)) hg rfl rfl (by rfl) (pv 1) (a_cons e_int a_nil))) (by decide) (offp (by decide))) (ss_cons (sSet 4 sc_law.nd rfl (.inl rfl) (e_tup (a_cons (e_tup (a_cons (e_tup (a_cons e_str (a_cons (e_var 3 (pv 3) (by decide)) (a_cons e_int a_nil)))) (a_cons (e_tup (a_cons e_str (a_cons e_int a_nil))) a_nil))) (a_cons (e_tup (a_cons (e_tup (a_cons e_str (a_cons e_int a_nil))) a_nil)) (a_cons (e_tup (a_cons (e_tup (a_cons e_str (a_cons e_int a_nil))) a_nil)) a_nil)))) (by decide) (offp (by decide))) (ss_cons (sParT [5, 6, 7, 8] (x_sh (e_tup (a_cons e_int (a_cons e_int (a_cons e_int (a_cons e_int (a_cons e_int (a_cons e_int (a_cons e_int (a_cons e_int a_nil))))))))) (x_sh (e_lst (a_cons e_int (a_cons e_int (a_cons e_int a_nil)))) (x_sh (e_lst (a_cons e_int (a_cons (eP (ok__law_take T) (hr.mono (by decide)) hg rfl rfl (by rfl) (pv 1) (a_cons e_int a_nil)) (a_cons e_int a_nil)))) (x_sh (e_lst (a_cons (e_tup (a_cons e_int (a_cons e_int a_nil))) a_nil)) x_nil)))) (by decide) (offsOp (by decide)) ⟨rfl, by decide⟩ (pg_tup rfl (pgs_cons (pg_name (i := 5) sc_law.nd rfl (.inl rfl)) (pgs_cons (pg_name (i := 6) sc_law.nd rfl (.inl rfl)) (pgs_cons (pg_name (i := 7) sc_law.nd rfl (.inl rfl)) (pgs_cons (pg_name (i := 8) sc_law.nd rfl (.inl rfl)) pgs_nil)))))) (ss_cons (sSet 9 sc_law.nd rfl (.inl rfl) (eFK (ok_extents T) T.d_extents [3, 2, 1, 0] ["room", "order", "machine", "book"] (hr.mono (by decide)) hg rfl (by rfl) (fun _ _ _ _ _ _ ws hl => match ws, hl with | [_, _, _, _], _ => rfl) (k_cons (e_var 7 (pv 7) (by decide)) (k_cons (e_var 6 (pv 6) (by decide)) (k_cons (e_var 5 (pv 5) (by decide)) (k_cons (e_var 4 (pv 4) (by decide)) k_nil))))) (by decide) (offp (by decide))) (ss_cons (sIf (O' := []) (RW.t (w_or (t_cmp (oNe rfl hu) l_ne (e_var 9 (pv 9) (by decide)) (eF (ok_extents T) (hr.mono (by decide)) hg rfl (by rfl) (a_cons (e_var 4 (pv 4) (by decide)) (a_cons (e_var 5 (pv 5) (by decide)) (a_cons (e_var 6 (pv 6) (by decide)) (a_cons (e_var 7 (pv 7) (by decide)) a_nil))))) (nomark _)) (w_or1 (t_cmp (oNe rfl hu) l_ne (e_ix (oIx rfl hw) l_ix (e_var 9 (pv 9) (by decide)) e_int (fun _ _ => rfl)) (e_tup (a_cons e_int (a_cons (e_op (oAdd rfl) l_add (e_var 3 (pv 3) (by decide)) e_int) a_nil))) (nomark _))))) (ss_one (s_ret e_bl)) ss_nil (fun _ h => h) (by decide)) (ss_cons (sIf (O' := []) (t_cmp (oNeX rfl hu) l_neX (eFK (ok_with_islands T) T.d_with_islands [1, 0] ["islands", "book"] (hr.mono (by decide)) hg rfl (by rfl) (fun _ _ _ _ _ _ ws hl => match ws, hl with | [_, _], _ => rfl) (k_cons (e_var 8 (pv 8) (by decide)) (k_cons (e_var 4 (pv 4) (by decide)) k_nil))) (eF (ok_with_islands T) (hr.mono (by decide)) hg rfl (by rfl) (a_cons (e_var 4 (pv 4) (by decide)) (a_cons (e_var 8 (pv 8) (by decide)) a_nil))) (nomark _)) (ss_one (s_ret e_bl)) ss_nil (fun _ h => h) (by decide)) (ss_cons (sSet 10 sc_law.nd rfl (.inl rfl) (eFK (ok_ways T) T.d_ways [5, 4, 3, 2, 1, 0] ["goal", "islands", "room", "order", "machine", "book"] (hr.mono (by decide)) hg rfl (by rfl) (fun _ _ _ _ _ _ ws hl => match ws, hl with | [_, _, _, _, _, _], _ => rfl) (k_cons e_int (k_cons (e_var 8 (pv 8) (by decide)) (k_cons (e_var 7 (pv 7) (by decide)) (k_cons (e_var 6 (pv 6) (by decide)) (k_cons (e_var 5 (pv 5) (by decide)) (k_cons (e_var 4 (pv 4) (by decide)) k_nil))))))) (by decide) (offp (by decide))) (ss_cons (sIf (O' := []) (RW.t (w_or (t_cmp (oNe rfl hu) l_ne (e_var 10 (pv 10) (by decide)) (eF (ok_ways T) (hr.mono (by decide)) hg rfl (by rfl) (a_cons (e_var 4 (pv 4) (by decide)) (a_cons (e_var 5 (pv 5) (by decide)) (a_cons (e_var 6 (pv 6) (by decide)) (a_cons (e_var 7 (pv 7) (by decide)) (a_cons (e_var 8 (pv 8) (by decide)) (a_cons e_int a_nil))))))) (nomark _)) (w_or1 (t_cmp (oNe rfl hu) l_ne (e_ix (oIx rfl hw) l_ix (e_var 10 (pv 10) (by decide)) e_int (fun _ _ => rfl)) (e_lst a_nil) (nomark _))))) (ss_one (s_ret e_bl)) ss_nil (fun _ h => h) (by decide)) (ss_cons (sSet 11 sc_law.nd rfl (.inl rfl) (cT (fnTuple rfl) l_tuple (by rfl) T.n_tuple (by decide +kernel) (a_cons (RF.e (fLc (own := [("way", 12)]) rfl sc_law.nd (i_seq rfl (e_var 10 (pv 10) (by decide))) (blkOk_by (own := [("way", 12)]) (N := ["script", "pen", "turn", "wide", "made", "kind", "row", "free", "posts", "found", "told", "levels", "way", "one"]) (sc := defScope s_law) (by decide +kernel)) (fun _ _ _ _ _ => (gN 12 sc_law.nd rfl (.inl rfl) (by decide) (offp (by decide)))) (fun _ _ _ _ _ => (e_if (t_cmp op_isN l_isN (e_var 12 (pv 12) (by decide)) e_non (nomark _)) e_non (cB (fnLen rfl) l_len (by rfl) T.n_len (by decide +kernel) (a_cons (e_var 12 (pv 12) (by decide)) a_nil)))) (by decide) (offsp (by decide)))) a_nil)) (by decide) (offp (by decide))) (ss_cons (sIf (O' := []) (t_not (t_val (eFK (ok_shows_levels T) T.d_shows_levels [6, 5, 4, 3, 2, 1, 0] ["thing", "goal", "islands", "room", "order", "machine", "book"] (hr.mono (by decide)) hg rfl (by rfl) (fun _ _ _ _ _ _ ws hl => match ws, hl with | [_, _, _, _, _, _, _], _ => rfl) (k_cons (e_var 11 (pv 11) (by decide)) (k_cons e_int (k_cons (e_var 8 (pv 8) (by decide)) (k_cons (e_var 7 (pv 7) (by decide)) (k_cons (e_var 6 (pv 6) (by decide)) (k_cons (e_var 5 (pv 5) (by decide)) (k_cons (e_var 4 (pv 4) (by decide)) k_nil)))))))))) (ss_one (s_ret e_bl)) ss_nil (fun _ h => h) (by decide)) (ss_cons (sIf (O' := []) (t_cmp (oNeX rfl hu) l_neX (eFK (ok_lost T) T.d_lost [4, 3, 2, 1, 0] ["islands", "room", "order", "machine", "book"] (hr.mono (by decide)) hg rfl (by rfl) (fun _ _ _ _ _ _ ws hl => match ws, hl with | [_, _, _, _, _], _ => rfl) (k_cons (e_var 8 (pv 8) (by decide)) (k_cons (e_var 7 (pv 7) (by decide)) (k_cons (e_var 6 (pv 6) (by decide)) (k_cons (e_var 5 (pv 5) (by decide)) (k_cons (e_var 4 (pv 4) (by decide)) k_nil)))))) (eF (ok_lost T) (hr.mono (by decide)) hg rfl (by rfl) (a_cons (e_var 4 (pv 4) (by decide)) (a_cons (e_var 5 (pv 5) (by decide)) (a_cons (e_var 6 (pv 6) (by decide)) (a_cons (e_var 7 (pv 7) (by decide)) (a_cons (e_var 8 (pv 8) (by decide)) a_nil)))))) (nomark _)) (ss_one (s_ret e_bl)) ss_nil (fun _ h => h) (by decide)) (ss_cons (sSet 13 sc_law.nd rfl (.inl rfl) (eFK (ok_fewest_islands T) T.d_fewest_islands [4, 3, 2, 1, 0] ["pairs", "room", "order", "machine", "book"] (hr.mono (by decide)) hg rfl (by rfl) (fun _ _ _ _ _ _ ws hl => match ws, hl with | [_, _, _, _, _], _ => rfl) (k_cons (e_var 8 (pv 8) (by decide)) (k_cons (e_var 7 (pv 7) (by decide)) (k_cons (e_var 6 (pv 6) (by decide)) (k_cons (e_var 5 (pv 5) (by decide)) (k_cons (e_var 4 (pv 4) (by decide)) k_nil)))))) (by decide) (offp (by decide))) (ss_cons (sIf (O' := []) (t_cmp (oNe rfl hu) l_ne (e_var 13 (pv 13) (by decide)) (eF (ok_fewest_islands T) (hr.mono (by decide)) hg rfl (by rfl) (a_cons (e_var 4 (pv 4) (by decide)) (a_cons (e_var 5 (pv 5) (by decide)) (a_cons (e_var 6 (pv 6) (by decide)) (a_cons (e_var 7 (pv 7) (by decide)) (a_cons (e_var 8 (pv 8) (by decide)) a_nil)))))) (nomark _)) (ss_one (s_ret e_bl)) ss_nil (fun _ h => h) (by decide)) (ss_one (sIf (O' := []) (t_cmp (oNeX rfl hu) l_neX (eFK (ok_best_order T) T.d_best_order [3, 2, 1, 0] ["pairs", "room", "machine", "book"] (hr.mono (by decide)) hg rfl (by rfl) (fun _ _ _ _ _ _ ws hl => match ws, hl with | [_, _, _, _], _ => rfl) (k_cons (e_var 8 (pv 8) (by decide)) (k_cons (e_var 7 (pv 7) (by decide)) (k_cons (e_var 5 (pv 5) (by decide)) (k_cons (e_var 4 (pv 4) (by decide)) k_nil))))) (eF (ok_best_order T) (hr.mono (by decide)) hg rfl (by rfl) (a_cons (e_var 4 (pv 4) (by decide)) (a_cons (e_var 5 (pv 5) (by decide)) (a_cons (e_var 7 (pv 7) (by decide)) (a_cons (e_var 8 (pv 8) (by decide)) a_nil))))) (nomark _)) (ss_one (s_ret e_bl)) ss_nil (fun _ h => h) (by decide)))))))))))))))) (by decide)) (ss_one (s_ret e_bl))))⟩
end K65
end
section
namespace RC
open PySem PySem.Spec L2 RR
open PyProof.Rows hiding St
theorem vFun_of {N : List Str} {np : Nat} {b : VS} {ds : List D} {d : D} (h : ds.length = np) (k : b (startD N (ds.map some)) = some (.rt d)) : vFun N np b ds = some d := by
  unfold vFun
  rw [if_pos h, k]; rfl
theorem vSeq_nx {t u : VS} {Γ Γ1 : DEnv} {r : Option Rs} (h : t Γ = some (.nx Γ1)) (k : u Γ1 = r) : vSeqS t u Γ = r := by
  unfold vSeqS
  rw [h]; exact k
theorem vSeq_rt {t u : VS} {Γ : DEnv} {d : D} (h : t Γ = some (.rt d)) : vSeqS t u Γ = some (.rt d) := by
  unfold vSeqS
  rw [h]; rfl
theorem vIfS_t {t : VT} {x y : VS} {Γ : DEnv} {r : Option Rs} (h : t Γ = some true) (k : x Γ = r) : vIfS t x y Γ = r := by
  unfold vIfS
  rw [h]; exact k
theorem vIfS_f {t : VT} {x y : VS} {Γ : DEnv} {r : Option Rs} (h : t Γ = some false) (k : y Γ = r) : vIfS t x y Γ = r := by
  unfold vIfS
  rw [h]; exact k
theorem vRet_of {a : VE} {Γ : DEnv} {d : D} (h : a Γ = some d) : vRet a Γ = some (.rt d) := by
  unfold vRet
  rw [h]; rfl
theorem vSet_of {i : Nat} {a : VE} {Γ : DEnv} {d : D} (h : a Γ = some d) : vSet i a Γ = some (.nx (Γ.set i (some d))) := by
  unfold vSet
  rw [h]; rfl
theorem vDrop_of {a : VE} {Γ : DEnv} {d : D} (h : a Γ = some d) : vDrop a Γ = some (.nx Γ) := by
  unfold vDrop
  rw [h]; rfl
theorem vOp_of {f : D → D → Option D} {a b : VE} {Γ : DEnv} {x y : D} (h : a Γ = some x) (k : b Γ = some y) : vOp f a b Γ = f x y := by
  unfold vOp
  rw [h, Option.bind_some, k]; rfl
theorem vCl_of {f : List D → Option D} {a : VA} {Γ : DEnv} {x : List D} (h : a Γ = some x) : vCl f a Γ = f x := by
  unfold vCl
  rw [h]; rfl
theorem vCall_of {f : VP} {a : VA} {Γ : DEnv} {x : List D} (h : a Γ = some x) : vCall f a Γ = f x := by
  unfold vCall
  rw [h]; rfl
theorem vCons_of {a : VE} {r : VA} {Γ : DEnv} {x : D} {xs : List D} (h : a Γ = some x) (k : r Γ = some xs) : vCons a r Γ = some (x :: xs) := by
  unfold vCons
  rw [h, Option.bind_some, k]; rfl
theorem vTest_of {a : VE} {Γ : DEnv} {b : Bool} (h : a Γ = some (.bool b)) : vTest a Γ = some b := by
  unfold vTest
  rw [h]; rfl
theorem vOr_of {a b : VT} {Γ : DEnv} {x y : Bool} (h : a Γ = some x) (k : x = false → b Γ = some y) : vOr a b Γ = some (x || y) := by
  unfold vOr
  rw [h]
  cases x with
  | true => rfl
  | false => exact k rfl
theorem vNot_t {a : VT} {Γ : DEnv} (h : a Γ = some false) : vNot a Γ = some true := by
  unfold vNot
  rw [h]; rfl
theorem vNot_f {a : VT} {Γ : DEnv} (h : a Γ = some true) : vNot a Γ = some false := by
  unfold vNot
  rw [h]; rfl
theorem vIsi_of {T : String} {a : VE} {Γ : DEnv} {x : D} (h : a Γ = some x) : vIsi T a Γ = some (.bool (isiB x T)) := by
  unfold vIsi
  rw [h]; rfl
theorem vUn_of {f : D → Option D} {a : VE} {Γ : DEnv} {x : D} (h : a Γ = some x) : vUn f a Γ = f x := by
  unfold vUn
  rw [h]; rfl
theorem vNotV_of {a : VE} {Γ : DEnv} {x : Bool} (h : a Γ = some (.bool x)) : vNotV a Γ = some (.bool (!x)) := by
  unfold vNotV
  rw [h]; rfl
theorem vNot_of {a : VT} {Γ : DEnv} {x : Bool} (h : a Γ = some x) : vNot a Γ = some (!x) := by
  unfold vNot
  rw [h]; rfl
theorem okR_nat {n : Nat} (h : n ≤ 1000000) : okR (n : Int) := ⟨Int.le_trans (show (-(2 ^ 62) : Int) ≤ 0 by decide) (Int.natCast_nonneg _), Int.lt_of_lt_of_le (show (n : Int) < 1000001 by omega) (show (1000001 : Int) ≤ 2 ^ 62 by decide)⟩
end RC
end
section
namespace RC
open PySem PySem.Spec L2 RR
open PyProof.Rows hiding St
abbrev k65E (x0 x1 x2 x3 x4 x5 x6 x7 x8 x9 x10 x11 x12 x13 : Option D) : DEnv := [x0, x1, x2, x3, x4, x5, x6, x7, x8, x9, x10, x11, x12, x13]
abbrev k65T : MS := (mSeq (mSet 9 (mCallK m_extents [3, 2, 1, 0] (mCons (mVar 7) (mCons (mVar 6) (mCons (mVar 5) (mCons (mVar 4) mNil)))))) (mSeq (mIfS (mOr (mTest (mOp dNe (mVar 9) (mCall m_extents (mCons (mVar 4) (mCons (mVar 5) (mCons (mVar 6) (mCons (mVar 7) mNil))))))) (mTest (mOp dNe (mOp dIx (mVar 9) (mC (.int 0))) (mTup (mCons (mC (.int 0)) (mCons (mOp dAdd (mVar 3) (mC (.int 2))) mNil)))))) (mRet (mC (.bool false))) mNext) (mSeq (mIfS (mTest (mOp dNeX (mCallK m_with_islands [1, 0] (mCons (mVar 8) (mCons (mVar 4) mNil))) (mCall m_with_islands (mCons (mVar 4) (mCons (mVar 8) mNil))))) (mRet (mC (.bool false))) mNext) (mSeq (mSet 10 (mCallK m_ways [5, 4, 3, 2, 1, 0] (mCons (mC (.int 2)) (mCons (mVar 8) (mCons (mVar 7) (mCons (mVar 6) (mCons (mVar 5) (mCons (mVar 4) mNil)))))))) (mSeq (mIfS (mOr (mTest (mOp dNe (mVar 10) (mCall m_ways (mCons (mVar 4) (mCons (mVar 5) (mCons (mVar 6) (mCons (mVar 7) (mCons (mVar 8) (mCons (mC (.int 2)) mNil))))))))) (mTest (mOp dNe (mOp dIx (mVar 10) (mC (.int 2))) (mLst mNil)))) (mRet (mC (.bool false))) mNext) (mSeq (mSet 11 (mCl cTuple (mCons (mLc (mISeq (mVar 10)) (mgName 12) mYes (mIf (mTest (mOp dIsN (mVar 12) (mC .none))) (mC .none) (mCl cLen (mCons (mVar 12) mNil))) [12]) mNil))) (mSeq (mIfS (mNot (mTest (mCallK m_shows_levels [6, 5, 4, 3, 2, 1, 0] (mCons (mVar 11) (mCons (mC (.int 2)) (mCons (mVar 8) (mCons (mVar 7) (mCons (mVar 6) (mCons (mVar 5) (mCons (mVar 4) mNil)))))))))) (mRet (mC (.bool false))) mNext) (mSeq (mIfS (mTest (mOp dNeX (mCallK m_lost [4, 3, 2, 1, 0] (mCons (mVar 8) (mCons (mVar 7) (mCons (mVar 6) (mCons (mVar 5) (mCons (mVar 4) mNil)))))) (mCall m_lost (mCons (mVar 4) (mCons (mVar 5) (mCons (mVar 6) (mCons (mVar 7) (mCons (mVar 8) mNil)))))))) (mRet (mC (.bool false))) mNext) (mSeq (mSet 13 (mCallK m_fewest_islands [4, 3, 2, 1, 0] (mCons (mVar 8) (mCons (mVar 7) (mCons (mVar 6) (mCons (mVar 5) (mCons (mVar 4) mNil))))))) (mSeq (mIfS (mTest (mOp dNe (mVar 13) (mCall m_fewest_islands (mCons (mVar 4) (mCons (mVar 5) (mCons (mVar 6) (mCons (mVar 7) (mCons (mVar 8) mNil)))))))) (mRet (mC (.bool false))) mNext) (mIfS (mTest (mOp dNeX (mCallK m_best_order [3, 2, 1, 0] (mCons (mVar 8) (mCons (mVar 7) (mCons (mVar 5) (mCons (mVar 4) mNil))))) (mCall m_best_order (mCons (mVar 4) (mCons (mVar 5) (mCons (mVar 7) (mCons (mVar 8) mNil))))))) (mRet (mC (.bool false))) mNext)))))))))))
def v65T : VS := (vSeqS (vSet 9 (vCallK v_extents [3, 2, 1, 0] (vCons (vVar 7) (vCons (vVar 6) (vCons (vVar 5) (vCons (vVar 4) vNil)))))) (vSeqS (vIfS (vOr (vTest (vOp dNe (vVar 9) (vCall v_extents (vCons (vVar 4) (vCons (vVar 5) (vCons (vVar 6) (vCons (vVar 7) vNil))))))) (vTest (vOp dNe (vOp dIx (vVar 9) (vC (.int 0))) (vTup (vCons (vC (.int 0)) (vCons (vOp dAdd (vVar 3) (vC (.int 2))) vNil)))))) (vRet (vC (.bool false))) vNext) (vSeqS (vIfS (vTest (vOp dNeX (vCallK v_with_islands [1, 0] (vCons (vVar 8) (vCons (vVar 4) vNil))) (vCall v_with_islands (vCons (vVar 4) (vCons (vVar 8) vNil))))) (vRet (vC (.bool false))) vNext) (vSeqS (vSet 10 (vCallK v_ways [5, 4, 3, 2, 1, 0] (vCons (vC (.int 2)) (vCons (vVar 8) (vCons (vVar 7) (vCons (vVar 6) (vCons (vVar 5) (vCons (vVar 4) vNil)))))))) (vSeqS (vIfS (vOr (vTest (vOp dNe (vVar 10) (vCall v_ways (vCons (vVar 4) (vCons (vVar 5) (vCons (vVar 6) (vCons (vVar 7) (vCons (vVar 8) (vCons (vC (.int 2)) vNil))))))))) (vTest (vOp dNe (vOp dIx (vVar 10) (vC (.int 2))) (vLst vNil)))) (vRet (vC (.bool false))) vNext) (vSeqS (vSet 11 (vCl cTuple (vCons (vLc (vISeq (vVar 10)) (vgName 12) vYes (vIf (vTest (vOp dIsN (vVar 12) (vC .none))) (vC .none) (vCl cLen (vCons (vVar 12) vNil))) [12]) vNil))) (vSeqS (vIfS (vNot (vTest (vCallK v_shows_levels [6, 5, 4, 3, 2, 1, 0] (vCons (vVar 11) (vCons (vC (.int 2)) (vCons (vVar 8) (vCons (vVar 7) (vCons (vVar 6) (vCons (vVar 5) (vCons (vVar 4) vNil)))))))))) (vRet (vC (.bool false))) vNext) (vSeqS (vIfS (vTest (vOp dNeX (vCallK v_lost [4, 3, 2, 1, 0] (vCons (vVar 8) (vCons (vVar 7) (vCons (vVar 6) (vCons (vVar 5) (vCons (vVar 4) vNil)))))) (vCall v_lost (vCons (vVar 4) (vCons (vVar 5) (vCons (vVar 6) (vCons (vVar 7) (vCons (vVar 8) vNil)))))))) (vRet (vC (.bool false))) vNext) (vSeqS (vSet 13 (vCallK v_fewest_islands [4, 3, 2, 1, 0] (vCons (vVar 8) (vCons (vVar 7) (vCons (vVar 6) (vCons (vVar 5) (vCons (vVar 4) vNil))))))) (vSeqS (vIfS (vTest (vOp dNe (vVar 13) (vCall v_fewest_islands (vCons (vVar 4) (vCons (vVar 5) (vCons (vVar 6) (vCons (vVar 7) (vCons (vVar 8) vNil)))))))) (vRet (vC (.bool false))) vNext) (vIfS (vTest (vOp dNeX (vCallK v_best_order [3, 2, 1, 0] (vCons (vVar 8) (vCons (vVar 7) (vCons (vVar 5) (vCons (vVar 4) vNil))))) (vCall v_best_order (vCons (vVar 4) (vCons (vVar 5) (vCons (vVar 7) (vCons (vVar 8) vNil))))))) (vRet (vC (.bool false))) vNext)))))))))))
theorem f65T : FS k65T v65T := (f_Seq (f_Set (f_CallK fp_extents (f_Cons f_Var (f_Cons f_Var (f_Cons f_Var (f_Cons f_Var f_Nil)))))) (f_Seq (f_IfS (f_Or (f_Test (f_Op f_Var (f_Call fp_extents (f_Cons f_Var (f_Cons f_Var (f_Cons f_Var (f_Cons f_Var f_Nil))))))) (f_Test (f_Op (f_Op f_Var f_C) (f_Tup (f_Cons f_C (f_Cons (f_Op f_Var f_C) f_Nil)))))) (f_Ret f_C) f_Next) (f_Seq (f_IfS (f_Test (f_Op (f_CallK fp_with_islands (f_Cons f_Var (f_Cons f_Var f_Nil))) (f_Call fp_with_islands (f_Cons f_Var (f_Cons f_Var f_Nil))))) (f_Ret f_C) f_Next) (f_Seq (f_Set (f_CallK fp_ways (f_Cons f_C (f_Cons f_Var (f_Cons f_Var (f_Cons f_Var (f_Cons f_Var (f_Cons f_Var f_Nil)))))))) (f_Seq (f_IfS (f_Or (f_Test (f_Op f_Var (f_Call fp_ways (f_Cons f_Var (f_Cons f_Var (f_Cons f_Var (f_Cons f_Var (f_Cons f_Var (f_Cons f_C f_Nil))))))))) (f_Test (f_Op (f_Op f_Var f_C) (f_Lst f_Nil)))) (f_Ret f_C) f_Next) (f_Seq (f_Set (f_Cl (f_Cons (f_Lc (f_ISeq f_Var) f_gName f_Yes (f_If (f_Test (f_Op f_Var f_C)) f_C (f_Cl (f_Cons f_Var f_Nil)))) f_Nil))) (f_Seq (f_IfS (f_Not (f_Test (f_CallK fp_shows_levels (f_Cons f_Var (f_Cons f_C (f_Cons f_Var (f_Cons f_Var (f_Cons f_Var (f_Cons f_Var (f_Cons f_Var f_Nil)))))))))) (f_Ret f_C) f_Next) (f_Seq (f_IfS (f_Test (f_Op (f_CallK fp_lost (f_Cons f_Var (f_Cons f_Var (f_Cons f_Var (f_Cons f_Var (f_Cons f_Var f_Nil)))))) (f_Call fp_lost (f_Cons f_Var (f_Cons f_Var (f_Cons f_Var (f_Cons f_Var (f_Cons f_Var f_Nil)))))))) (f_Ret f_C) f_Next) (f_Seq (f_Set (f_CallK fp_fewest_islands (f_Cons f_Var (f_Cons f_Var (f_Cons f_Var (f_Cons f_Var (f_Cons f_Var f_Nil))))))) (f_Seq (f_IfS (f_Test (f_Op f_Var (f_Call fp_fewest_islands (f_Cons f_Var (f_Cons f_Var (f_Cons f_Var (f_Cons f_Var (f_Cons f_Var f_Nil)))))))) (f_Ret f_C) f_Next) (f_IfS (f_Test (f_Op (f_CallK fp_best_order (f_Cons f_Var (f_Cons f_Var (f_Cons f_Var (f_Cons f_Var f_Nil))))) (f_Call fp_best_order (f_Cons f_Var (f_Cons f_Var (f_Cons f_Var (f_Cons f_Var f_Nil))))))) (f_Ret f_C) f_Next)))))))))))
def kd65 : D := .tuple [.int 1, .int 9, .int 3, .int 2, .int 60, .int 1, .int 9, .int 1]
def mk65 (x : Int) : D := .tuple [.tuple [.tuple [.str "plain", .int x, .int 1], .tuple [.str "far", .int 2]], .tuple [.tuple [.str "stop", .int 20]], .tuple [.tuple [.str "stop", .int 4]]]
def rw65 : D := .list [.int 0, .int 1, .int 2]
def fr65 (y : Int) : D := .list [.int 0, .int y, .int 30]
def ps65 : D := .list [.tuple [.int 1, .int 2]]
theorem ties65 : v__law_w_ties_right [] = some (.bool true) := by kernel_rfl
def mk6 (w : Int) : D := .tuple [.tuple [.tuple [.str "far", .int 4]], .tuple [.tuple [.str "stop", .int w]], .tuple [.tuple [.str "stop", .int w]], .tuple [.tuple [.str "stop", .int w]], .tuple [.tuple [.str "far", .int 0]]]
def kd6 : D := .tuple [.int 1, .int 9, .int 3, .int 2, .int 30, .int 2, .int 20, .int 4]
def pl6 : List D := [.tuple [.int 1, .int 0], .tuple [.int 1, .int 4], .tuple [.int 2, .int 0], .tuple [.int 2, .int 4], .tuple [.int 3, .int 0], .tuple [.int 3, .int 4]]
def rw6 : D := .list [.int 0, .int 1, .int 2, .int 3, .int 4]
def fr6 : D := .list [.int 0, .int 0, .int 0, .int 0, .int 0]
abbrev sz65 (x : Int) : D := .list [.int (x + 2), .int 20, .int 4]
def far65 : D := .list [.tuple [.int 0, .int 2]]
theorem x16 {x : Int} (h1 : 1 ≤ x) (h2 : x ≤ 16) : x = 1 ∨ x = 2 ∨ x = 3 ∨ x = 4 ∨ x = 5 ∨ x = 6 ∨ x = 7 ∨ x = 8 ∨ x = 9 ∨ x = 10 ∨ x = 11 ∨ x = 12 ∨ x = 13 ∨ x = 14 ∨ x = 15 ∨ x = 16 := by omega
theorem y9 {y : Int} (h1 : 0 ≤ y) (h2 : y < 9) : y = 0 ∨ y = 1 ∨ y = 2 ∨ y = 3 ∨ y = 4 ∨ y = 5 ∨ y = 6 ∨ y = 7 ∨ y = 8 := by omega
/-- what is the same for every room -/
structure Bk65 (x : Int) : Prop where
  b : v_check_book_v2 [mk65 x] = some .none
  i : v_check_islands [mk65 x, ps65] = some .none
  p : v_check_pairs_v2 [mk65 x, ps65] = some .none
  s : v_sizes_of [mk65 x, kd65] = some (sz65 x)
theorem bk65 {x : Int} (h1 : 1 ≤ x) (h2 : x ≤ 16) : Bk65 x := by
  rcases x16 h1 h2 with rfl | rfl | rfl | rfl | rfl | rfl | rfl | rfl | rfl | rfl | rfl | rfl | rfl | rfl | rfl | rfl <;> exact ⟨by kernel_rfl, by kernel_rfl, by kernel_rfl, by kernel_rfl⟩
theorem ma65 : v_check_machine_v2 [kd65] = some .none := by kernel_rfl
theorem or65 (x : Int) : v_check_order [mk65 x, rw65] = some .none := by kernel_rfl
theorem rm65 (x : Int) {y : Int} (h1 : 0 ≤ y) (h2 : y < 9) : v_check_room [mk65 x, fr65 y] = some .none := by
  rcases y9 h1 h2 with rfl | rfl | rfl | rfl | rfl | rfl | rfl | rfl | rfl <;> kernel_rfl
theorem go65 (x : Int) : v_check_goal [mk65 x, .int 2] = some .none := by kernel_rfl
theorem fa65 (x : Int) : v_far_pairs [mk65 x] = some far65 := by kernel_rfl
theorem os65 (x : Int) : v_orders_of [mk65 x] = some (.list [.list [.int 0, .int 1, .int 2], .list [.int 0, .int 2, .int 1]]) := by kernel_rfl
def wi65 (x : Int) : D := .tuple [.tuple [.tuple [.str "plain", .int x, .int 1], .tuple [.str "far", .int 2]], .tuple [.tuple [.str "stop", .int 20], .tuple [.str "far", .int 2]], .tuple [.tuple [.str "stop", .int 4]]]
theorem pu65 (x : Int) : v_put_islands [mk65 x, ps65] = some (wi65 x) := by kernel_rfl
theorem ord65 {x y : Int} (b : Bk65 x) (h1 : 0 ≤ y) (h2 : y < 9) : v_check_ordered [mk65 x, kd65, rw65, fr65 y] = some .none := by
  have e : vb_check_ordered [some (mk65 x), some kd65, some rw65, some (fr65 y)] = some (.nx [some (mk65 x), some kd65, some rw65, some (fr65 y)]) :=
    vSeq_nx (vDrop_of ((vCall_of rfl).trans b.b)) (vSeq_nx (vDrop_of ((vCall_of rfl).trans ma65)) (vSeq_nx (vDrop_of ((vCall_of rfl).trans (or65 x))) (vDrop_of ((vCall_of rfl).trans (rm65 x h1 h2)))))
  unfold v_check_ordered vFun
  rw [if_pos (show [mk65 x, kd65, rw65, fr65 y].length = 4 from rfl)]
  show Option.bind (vb_check_ordered [some (mk65 x), some kd65, some rw65, some (fr65 y)]) _ = _
  rw [e]
  rfl
def fwE65 : VS := (vSeqS (vFor (vISeq (vCall v_sublists (vCons (vVar 4) vNil))) (vgName 7) (vIfS (vNot (vTru (vCall v_lost_pairs (vCons (vVar 5) (vCons (vVar 6) (vCons (vVar 1) (vCons (vVar 2) (vCons (vVar 3) (vCons (vVar 7) vNil))))))))) (vRet (vVar 7)) vNext)) (vRet (vC .none)))
def boE65 : VS := (vSeqS (vFor (vIR1 (vCons (vOp dAdd (vCl cLen (vCons (vVar 3) vNil)) (vC (.int 1))) vNil)) (vgName 7) (vFor (vISeq (vVar 6)) (vgName 8) (vFor (vICb (vCons (vVar 3) (vCons (vVar 7) vNil))) (vgName 9) (vIfS (vNot (vTru (vCall v_lost_pairs (vCons (vVar 4) (vCons (vVar 5) (vCons (vVar 1) (vCons (vVar 8) (vCons (vVar 2) (vCons (vVar 9) vNil))))))))) (vRet (vTup (vCons (vVar 8) (vCons (vCl cList (vCons (vVar 9) vNil)) vNil)))) vNext)))) (vRet (vC .none)))
def rtD (r : Option Rs) : D := match r with | some (.rt d) => d | _ => .none
abbrev same65 (d : D) : Prop := dNe d d = some (.bool false)
def ex65 (x y : Int) : D := (v_spread [sz65 x, rw65, fr65 y]).getD .none
def sw65 (x : Int) : D := .list [.int (x + 2), .int 22, .int 4]
def sp65 (x y : Int) : D := (v_spread [sw65 x, rw65, fr65 y]).getD .none
def wy65 (x y : Int) : D := (v_ways_over [sp65 x y, .int 60, ps65, .int 2]).getD .none
def lo65 (x y : Int) : D := (v_lost_pairs [far65, sz65 x, kd65, rw65, fr65 y, ps65]).getD .none
def lv65 (x y : Int) : D := ((vCl cTuple (vCons (vLc (vISeq (vVar 0)) (vgName 1) vYes (vIf (vTest (vOp dIsN (vVar 1) (vC .none))) (vC .none) (vCl cLen (vCons (vVar 1) vNil))) [1]) vNil)) [some (wy65 x y), none]).getD .none
def ll65 (x y : Int) : D := ((vLc (vISeq (vVar 0)) (vgName 1) vYes (vIf (vTest (vOp dIsN (vVar 1) (vC .none))) (vC .none) (vCl cLen (vCons (vVar 1) vNil))) [1]) [some (wy65 x y), none]).getD .none
def fwG65 (m : D) (x y : Int) : DEnv := [some m, some kd65, some rw65, some (fr65 y), some ps65, some far65, some (sz65 x), none]
def boG65 (m : D) (x y : Int) : DEnv := [some m, some kd65, some (fr65 y), some ps65, some far65, some (sz65 x), some (.list [.list [.int 0, .int 1, .int 2], .list [.int 0, .int 2, .int 1]]), none, none, none]
structure Rm65 (m : D) (x y : Int) : Prop where
  e : v_spread [sz65 x, rw65, fr65 y] = some (ex65 x y)
  e0 : dIx (ex65 x y) (.int 0) = some (.tuple [.int 0, .int (x + 2)])
  es : same65 (ex65 x y)
  ps : same65 (.tuple [.int 0, .int (x + 2)])
  w0 : v_sizes_with [sz65 x, kd65, ps65] = some (sw65 x)
  w1 : v_spread [sw65 x, rw65, fr65 y] = some (sp65 x y)
  w2 : v_ways_over [sp65 x y, .int 60, ps65, .int 2] = some (wy65 x y)
  wg : dIx (wy65 x y) (.int 2) = some (.list [])
  ws : same65 (wy65 x y)
  l : v_lost_pairs [far65, sz65 x, kd65, rw65, fr65 y, ps65] = some (lo65 x y)
  ls : dNeX (lo65 x y) (lo65 x y) = some (.bool false)
  f : fwE65 (fwG65 m x y) = some (.rt (rtD (fwE65 (fwG65 m x y))))
  fs : same65 (rtD (fwE65 (fwG65 m x y)))
  b : boE65 (boG65 m x y) = some (.rt (rtD (boE65 (boG65 m x y))))
  bs : dNeX (rtD (boE65 (boG65 m x y))) (rtD (boE65 (boG65 m x y))) = some (.bool false)
  lt : ∀ {x0 x1 x2 x3 x4 x5 x6 x7 x8 x9 x11 x12 x13 : Option D}, vCl cTuple (vCons (vLc (vISeq (vVar 10)) (vgName 12) vYes (vIf (vTest (vOp dIsN (vVar 12) (vC .none))) (vC .none) (vCl cLen (vCons (vVar 12) vNil))) [12]) vNil) (k65E x0 x1 x2 x3 x4 x5 x6 x7 x8 x9 (some (wy65 x y)) x11 x12 x13) = some (lv65 x y)
  ll : vLc (vISeq (vVar 7)) (vgName 8) vYes (vIf (vTest (vOp dIsN (vVar 8) (vC .none))) (vC .none) (vCl cLen (vCons (vVar 8) vNil))) [8] [some m, some kd65, some rw65, some (fr65 y), some ps65, some (.int 2), some (lv65 x y), some (wy65 x y), none] = some (ll65 x y)
  li : v_is_levels [lv65 x y, ll65 x y] = some (.bool true)
end RC
end
section
namespace RC
open PySem PySem.Spec L2 RR
open PyProof.Rows hiding St
theorem rm65_0 (m : D) {x : Int} (h1 : 1 ≤ x) (h2 : x ≤ 16) : Rm65 m x 0 := by
  rcases x16 h1 h2 with rfl | rfl | rfl | rfl | rfl | rfl | rfl | rfl | rfl | rfl | rfl | rfl | rfl | rfl | rfl | rfl <;> constructor <;> (intros; kernel_rfl)
theorem rm65_1 (m : D) {x : Int} (h1 : 1 ≤ x) (h2 : x ≤ 16) : Rm65 m x 1 := by
  rcases x16 h1 h2 with rfl | rfl | rfl | rfl | rfl | rfl | rfl | rfl | rfl | rfl | rfl | rfl | rfl | rfl | rfl | rfl <;> constructor <;> (intros; kernel_rfl)
theorem rm65_2 (m : D) {x : Int} (h1 : 1 ≤ x) (h2 : x ≤ 16) : Rm65 m x 2 := by
  rcases x16 h1 h2 with rfl | rfl | rfl | rfl | rfl | rfl | rfl | rfl | rfl | rfl | rfl | rfl | rfl | rfl | rfl | rfl <;> constructor <;> (intros; kernel_rfl)
theorem rm65_3 (m : D) {x : Int} (h1 : 1 ≤ x) (h2 : x ≤ 16) : Rm65 m x 3 := by
  rcases x16 h1 h2 with rfl | rfl | rfl | rfl | rfl | rfl | rfl | rfl | rfl | rfl | rfl | rfl | rfl | rfl | rfl | rfl <;> constructor <;> (intros; kernel_rfl)
theorem rm65_4 (m : D) {x : Int} (h1 : 1 ≤ x) (h2 : x ≤ 16) : Rm65 m x 4 := by
  rcases x16 h1 h2 with rfl | rfl | rfl | rfl | rfl | rfl | rfl | rfl | rfl | rfl | rfl | rfl | rfl | rfl | rfl | rfl <;> constructor <;> (intros; kernel_rfl)
theorem rm65_5 (m : D) {x : Int} (h1 : 1 ≤ x) (h2 : x ≤ 16) : Rm65 m x 5 := by
  rcases x16 h1 h2 with rfl | rfl | rfl | rfl | rfl | rfl | rfl | rfl | rfl | rfl | rfl | rfl | rfl | rfl | rfl | rfl <;> constructor <;> (intros; kernel_rfl)
theorem rm65_6 (m : D) {x : Int} (h1 : 1 ≤ x) (h2 : x ≤ 16) : Rm65 m x 6 := by
  rcases x16 h1 h2 with rfl | rfl | rfl | rfl | rfl | rfl | rfl | rfl | rfl | rfl | rfl | rfl | rfl | rfl | rfl | rfl <;> constructor <;> (intros; kernel_rfl)
theorem rm65_7 (m : D) {x : Int} (h1 : 1 ≤ x) (h2 : x ≤ 16) : Rm65 m x 7 := by
  rcases x16 h1 h2 with rfl | rfl | rfl | rfl | rfl | rfl | rfl | rfl | rfl | rfl | rfl | rfl | rfl | rfl | rfl | rfl <;> constructor <;> (intros; kernel_rfl)
theorem rm65_8 (m : D) {x : Int} (h1 : 1 ≤ x) (h2 : x ≤ 16) : Rm65 m x 8 := by
  rcases x16 h1 h2 with rfl | rfl | rfl | rfl | rfl | rfl | rfl | rfl | rfl | rfl | rfl | rfl | rfl | rfl | rfl | rfl <;> constructor <;> (intros; kernel_rfl)
theorem rm65_all (m : D) {x y : Int} (h1 : 1 ≤ x) (h2 : x ≤ 16) (g1 : 0 ≤ y) (g2 : y < 9) : Rm65 m x y := by
  rcases y9 g1 g2 with rfl | rfl | rfl | rfl | rfl | rfl | rfl | rfl | rfl
  · exact rm65_0 m h1 h2
  · exact rm65_1 m h1 h2
  · exact rm65_2 m h1 h2
  · exact rm65_3 m h1 h2
  · exact rm65_4 m h1 h2
  · exact rm65_5 m h1 h2
  · exact rm65_6 m h1 h2
  · exact rm65_7 m h1 h2
  · exact rm65_8 m h1 h2
end RC
end
section
namespace RC
open PySem PySem.Spec L2 RR
open PyProof.Rows hiding St
theorem wis65 {x : Int} (h1 : 1 ≤ x) (h2 : x ≤ 16) : dNeX (wi65 x) (wi65 x) = some (.bool false) := by
  rcases x16 h1 h2 with rfl | rfl | rfl | rfl | rfl | rfl | rfl | rfl | rfl | rfl | rfl | rfl | rfl | rfl | rfl | rfl <;> kernel_rfl
theorem emp65 : dNe (.list []) (.list []) = some (.bool false) := by kernel_rfl
theorem vCallK_of65 {f : VP} {is : List Nat} {r : VA} {Γ : DEnv} {ds es : List D} {d : D} (h : r Γ = some ds) (hl : ds.length = is.length) (hp : permL is ds = es) (k : f es = some d) : vCallK f is r Γ = some d := by
  unfold vCallK
  rw [h, Option.bind_some, if_pos hl, hp]
  exact k
section
variable {x y : Int}
theorem ext65 (b : Bk65 x) (h1 : 0 ≤ y) (h2 : y < 9) (r : Rm65 (mk65 x) x y) : v_extents [mk65 x, kd65, rw65, fr65 y] = some (ex65 x y) :=
  vFun_of rfl (vSeq_nx (vDrop_of ((vCall_of rfl).trans (ord65 b h1 h2))) (vRet_of ((vCall_of (x := [sz65 x, rw65, fr65 y]) (vCons_of ((vCall_of rfl).trans b.s) rfl)).trans r.e)))
theorem wit65 (b : Bk65 x) : v_with_islands [mk65 x, ps65] = some (wi65 x) :=
  vFun_of rfl (vSeq_nx (vDrop_of ((vCall_of rfl).trans b.b)) (vSeq_nx (vDrop_of ((vCall_of rfl).trans b.i)) (vRet_of ((vCall_of rfl).trans (pu65 x)))))
theorem wt65 (b : Bk65 x) (r : Rm65 (mk65 x) x y) : v_ways_to [mk65 x, kd65, rw65, fr65 y, ps65, .int 2] = some (wy65 x y) :=
  vFun_of rfl (vSeq_nx (vSet_of ((vCall_of (x := [sw65 x, rw65, fr65 y]) (vCons_of ((vCall_of (x := [sz65 x, kd65, ps65]) (vCons_of ((vCall_of rfl).trans b.s) rfl)).trans r.w0) rfl)).trans r.w1)) (vRet_of ((vCall_of (x := [sp65 x y, .int 60, ps65, .int 2]) rfl).trans r.w2)))
theorem way65 (b : Bk65 x) (h1 : 0 ≤ y) (h2 : y < 9) (r : Rm65 (mk65 x) x y) : v_ways [mk65 x, kd65, rw65, fr65 y, ps65, .int 2] = some (wy65 x y) :=
  vFun_of rfl (vSeq_nx (vDrop_of ((vCall_of rfl).trans (ord65 b h1 h2))) (vSeq_nx (vDrop_of ((vCall_of rfl).trans b.i)) (vSeq_nx (vDrop_of ((vCall_of rfl).trans (go65 x))) (vRet_of ((vCall_of rfl).trans (wt65 b r))))))
theorem lev65 (b : Bk65 x) (h1 : 0 ≤ y) (h2 : y < 9) (r : Rm65 (mk65 x) x y) : v_shows_levels [mk65 x, kd65, rw65, fr65 y, ps65, .int 2, lv65 x y] = some (.bool true) := by
  have wt := wt65 b r
  have rl := r.ll
  have ri := r.li
  generalize lv65 x y = l at rl ri ⊢
  generalize ll65 x y = m at rl ri
  generalize wy65 x y = z at rl wt
  exact vFun_of rfl (vSeq_nx (vDrop_of ((vCall_of rfl).trans (ord65 b h1 h2))) (vSeq_nx (vDrop_of ((vCall_of rfl).trans b.i)) (vSeq_nx (vDrop_of ((vCall_of rfl).trans (go65 x))) (vSeq_nx (vSet_of ((vCall_of rfl).trans wt)) (vRet_of ((vCall_of (x := [l, m]) (vCons_of rfl (vCons_of rl rfl))).trans ri))))))
theorem los65 (b : Bk65 x) (h1 : 0 ≤ y) (h2 : y < 9) (r : Rm65 (mk65 x) x y) : v_lost [mk65 x, kd65, rw65, fr65 y, ps65] = some (lo65 x y) :=
  vFun_of rfl (vSeq_nx (vDrop_of ((vCall_of rfl).trans (ord65 b h1 h2))) (vSeq_nx (vDrop_of ((vCall_of rfl).trans b.i)) (vRet_of ((vCall_of (x := [far65, sz65 x, kd65, rw65, fr65 y, ps65]) (vCons_of ((vCall_of rfl).trans (fa65 x)) (vCons_of ((vCall_of rfl).trans b.s) rfl))).trans r.l))))
theorem few65 (b : Bk65 x) (h1 : 0 ≤ y) (h2 : y < 9) (r : Rm65 (mk65 x) x y) : v_fewest_islands [mk65 x, kd65, rw65, fr65 y, ps65] = some (rtD (fwE65 (fwG65 (mk65 x) x y))) :=
  vFun_of rfl (vSeq_nx (vDrop_of ((vCall_of rfl).trans (ord65 b h1 h2))) (vSeq_nx (vDrop_of ((vCall_of rfl).trans b.p)) (vSeq_nx (vSet_of ((vCall_of rfl).trans (fa65 x))) (vSeq_nx (vSet_of ((vCall_of rfl).trans b.s)) r.f))))
theorem bes65 (b : Bk65 x) (h1 : 0 ≤ y) (h2 : y < 9) (r : Rm65 (mk65 x) x y) : v_best_order [mk65 x, kd65, fr65 y, ps65] = some (rtD (boE65 (boG65 (mk65 x) x y))) :=
  vFun_of rfl (vSeq_nx (vDrop_of ((vCall_of rfl).trans b.b)) (vSeq_nx (vDrop_of ((vCall_of rfl).trans ma65)) (vSeq_nx (vDrop_of ((vCall_of rfl).trans (rm65 x h1 h2))) (vSeq_nx (vDrop_of ((vCall_of rfl).trans b.p)) (vSeq_nx (vSet_of ((vCall_of rfl).trans (fa65 x))) (vSeq_nx (vSet_of ((vCall_of rfl).trans b.s)) (vSeq_nx (vSet_of ((vCall_of rfl).trans (os65 x))) r.b)))))))
theorem goes65T (k1 : 1 ≤ x) (k2 : x ≤ 16) (b : Bk65 x) (h1 : 0 ≤ y) (h2 : y < 9) (r : Rm65 (mk65 x) x y) (x0 x1 x2 x9 x10 x11 x12 x13 : Option D) :
    v65T (k65E x0 x1 x2 (some (.int x)) (some (mk65 x)) (some kd65) (some rw65) (some (fr65 y)) (some ps65) x9 x10 x11 x12 x13) =
      some (.nx (k65E x0 x1 x2 (some (.int x)) (some (mk65 x)) (some kd65) (some rw65) (some (fr65 y)) (some ps65) (some (ex65 x y)) (some (wy65 x y)) (some (lv65 x y)) x12 (some (rtD (fwE65 (fwG65 (mk65 x) x y)))))) := by
  have e1 := ext65 b h1 h2 r
  have e2 := wit65 b
  have e3 := way65 b h1 h2 r
  have e4 := lev65 b h1 h2 r
  have e5 := los65 b h1 h2 r
  have e6 := few65 b h1 h2 r
  have e7 := bes65 b h1 h2 r
  have es := r.es
  have e0 := r.e0
  have pp := r.ps
  have ws := r.ws
  have wg := r.wg
  have lt := @Rm65.lt _ _ _ r
  have ls := r.ls
  have fs := r.fs
  have bs := r.bs
  have wi := wis65 k1 k2
  generalize ex65 x y = E at e1 es e0 ⊢
  generalize wy65 x y = Wy at e3 ws wg lt ⊢
  generalize lv65 x y = Lv at e4 lt ⊢
  generalize lo65 x y = Lo at e5 ls
  generalize rtD (fwE65 (fwG65 (mk65 x) x y)) = Fw at e6 fs ⊢
  generalize rtD (boE65 (boG65 (mk65 x) x y)) = Bo at e7 bs
  generalize wi65 x = Wi at e2 wi
  unfold v65T
  refine vSeq_nx (vSet_of (vCallK_of65 rfl rfl rfl e1)) ?_
  refine vSeq_nx (vIfS_f (vOr_of (x := false) (y := false) (vTest_of ((vOp_of (x := E) (y := E) rfl ((vCall_of rfl).trans e1)).trans es)) fun _ => vTest_of ((vOp_of (x := .tuple [.int 0, .int (x + 2)]) (y := .tuple [.int 0, .int (x + 2)]) ((vOp_of (x := E) (y := .int 0) rfl rfl).trans e0) rfl).trans pp)) rfl) ?_
  refine vSeq_nx (vIfS_f (vTest_of ((vOp_of (x := Wi) (y := Wi) (vCallK_of65 rfl rfl rfl e2) ((vCall_of rfl).trans e2)).trans wi)) rfl) ?_
  refine vSeq_nx (vSet_of (vCallK_of65 rfl rfl rfl e3)) ?_
  refine vSeq_nx (vIfS_f (vOr_of (x := false) (y := false) (vTest_of ((vOp_of (x := Wy) (y := Wy) rfl ((vCall_of rfl).trans e3)).trans ws)) fun _ => vTest_of ((vOp_of (x := .list []) (y := .list []) ((vOp_of (x := Wy) (y := .int 2) rfl rfl).trans wg) rfl).trans emp65)) rfl) ?_
  refine vSeq_nx (vSet_of lt) ?_
  refine vSeq_nx (vIfS_f (vNot_of (x := true) (vTest_of (vCallK_of65 rfl rfl rfl e4))) rfl) ?_
  refine vSeq_nx (vIfS_f (vTest_of ((vOp_of (x := Lo) (y := Lo) (vCallK_of65 rfl rfl rfl e5) ((vCall_of rfl).trans e5)).trans ls)) rfl) ?_
  refine vSeq_nx (vSet_of (vCallK_of65 rfl rfl rfl e6)) ?_
  refine vSeq_nx (vIfS_f (vTest_of ((vOp_of (x := Fw) (y := Fw) rfl ((vCall_of rfl).trans e6)).trans fs)) rfl) ?_
  exact vIfS_f (vTest_of ((vOp_of (x := Bo) (y := Bo) (vCallK_of65 rfl rfl rfl e7) ((vCall_of rfl).trans e7)).trans bs)) rfl
end
end RC
end
section
namespace RC
open PySem PySem.Spec L2 RR
open PyProof.Rows hiding St
def s6 (is : List Nat) : D := .list (is.map fun i => pl6.getD i .none)
def far6 : D := .list [.tuple [.int 0, .int 4], .tuple [.int 4, .int 0]]
abbrev sz6 (w : Int) : D := .list [.int 2, .int w, .int w, .int w, .int 2]
def tst6 (w : Int) (d : D) : Bool := match v_lost_pairs [far6, sz6 w, kd6, rw6, fr6, d] with
  | some (.list (_ :: _)) => true
  | _ => false
def ch6_0 : List (List Nat) := [[], [0], [1], [2], [3], [4], [5], [0,1], [0,2]]
def ch6_1 : List (List Nat) := [[0,3], [0,4], [0,5], [1,2], [1,3], [1,4], [1,5], [2,3], [2,4]]
def ch6_2 : List (List Nat) := [[2,5], [3,4], [3,5], [4,5], [0,1,2], [0,1,3], [0,1,4], [0,1,5], [0,2,3]]
def ch6_3 : List (List Nat) := [[0,2,4], [0,2,5], [0,3,4], [0,3,5], [0,4,5], [1,2,3], [1,2,4], [1,2,5], [1,3,4]]
def ch6_4 : List (List Nat) := [[1,3,5], [1,4,5], [2,3,4], [2,3,5], [2,4,5], [3,4,5], [0,1,2,3], [0,1,2,4], [0,1,2,5]]
def ch6_5 : List (List Nat) := [[0,1,3,4], [0,1,3,5], [0,1,4,5], [0,2,3,4], [0,2,3,5], [0,2,4,5], [0,3,4,5], [1,2,3,4], [1,2,3,5]]
def ch6_6 : List (List Nat) := [[1,2,4,5], [1,3,4,5], [2,3,4,5], [0,1,2,3,4], [0,1,2,3,5], [0,1,2,4,5], [0,1,3,4,5], [0,2,3,4,5], [1,2,3,4,5]]
def ix6 : List (List Nat) := ch6_0 ++ ch6_1 ++ ch6_2 ++ ch6_3 ++ ch6_4 ++ ch6_5 ++ ch6_6
def ix5 : List (List Nat) := [[], [1], [2], [3], [4], [5], [1,2], [1,3], [1,4], [1,5], [2,3], [2,4], [2,5], [3,4], [3,5], [4,5], [1,2,3], [1,2,4], [1,2,5], [1,3,4], [1,3,5], [1,4,5], [2,3,4], [2,3,5], [2,4,5], [3,4,5], [1,2,3,4], [1,2,3,5], [1,2,4,5], [1,3,4,5], [2,3,4,5], [1,2,3,4,5]]
theorem sub6 : v_sublists [.list pl6] = some (.list (ix6.map s6 ++ [.list pl6])) := by kernel_rfl
theorem sub5 : v_sublists [.list (pl6.drop 1)] = some (.list (ix5.map s6)) := by kernel_rfl
theorem ix56 : ∀ is ∈ ix5, is ∈ ix6 := by decide +kernel
theorem out6 {w : Int} (h0 : (ch6_0.all fun is => tst6 w (s6 is)) = true) (h1 : (ch6_1.all fun is => tst6 w (s6 is)) = true) (h2 : (ch6_2.all fun is => tst6 w (s6 is)) = true) (h3 : (ch6_3.all fun is => tst6 w (s6 is)) = true) (h4 : (ch6_4.all fun is => tst6 w (s6 is)) = true) (h5 : (ch6_5.all fun is => tst6 w (s6 is)) = true) (h6 : (ch6_6.all fun is => tst6 w (s6 is)) = true) : ∀ is ∈ ix6, tst6 w (s6 is) = true := fun is h => by
  unfold ix6 at h
  simp only [List.mem_append] at h
  rcases h with (((((h | h) | h) | h) | h) | h) | h
  · exact List.all_eq_true.mp h0 is h
  · exact List.all_eq_true.mp h1 is h
  · exact List.all_eq_true.mp h2 is h
  · exact List.all_eq_true.mp h3 is h
  · exact List.all_eq_true.mp h4 is h
  · exact List.all_eq_true.mp h5 is h
  · exact List.all_eq_true.mp h6 is h
theorem last6 (w : Int) (h : w = 7 ∨ w = 8 ∨ w = 9 ∨ w = 10) : v_lost_pairs [far6, sz6 w, kd6, rw6, fr6, .list pl6] = some (.list []) := by
  rcases h with rfl | rfl | rfl | rfl <;> kernel_rfl
def fwB6 : VS := vIfS (vNot (vTru (vCall v_lost_pairs (vCons (vVar 5) (vCons (vVar 6) (vCons (vVar 1) (vCons (vVar 2) (vCons (vVar 3) (vCons (vVar 7) vNil))))))))) (vRet (vVar 7)) vNext
def g6 (m : D) (P : List D) (w : Int) (x : Option D) : DEnv := [some m, some kd6, some rw6, some fr6, some (.list P), some far6, some (sz6 w), x]
theorem walk6 (m : D) (P : List D) (w : Int) : ∀ (ds : List D) (x : Option D) (ys : List D) (r : Option Rs), (∀ d ∈ ds, tst6 w d = true) → (∀ x, vfor (vgName 7) fwB6 ys (g6 m P w x) = r) → vfor (vgName 7) fwB6 (ds ++ ys) (g6 m P w x) = r
  | [], x, ys, r, _, h => h x
  | d :: ds, x, ys, r, hd, h => by
    rw [List.cons_append]
    unfold vfor
    have e := hd d (List.mem_cons_self ..)
    have b : fwB6 (g6 m P w (some d)) = some (.nx (g6 m P w (some d))) := by
      unfold tst6 at e
      split at e
      · rename_i a as q
        refine vIfS_f (vNot_of (x := true) ?_) rfl
        show Option.bind (v_lost_pairs [far6, sz6 w, kd6, rw6, fr6, d]) truD = _
        rw [q]; rfl
      · cases e
    rw [show vgName 7 d (g6 m P w x) = some (g6 m P w (some d)) from rfl, Option.bind_some, b, Option.bind_some]
    exact walk6 m P w ds (some d) ys r (fun z hz => hd z (List.mem_cons_of_mem _ hz)) h
theorem few6 {w : Int} {P : List D} {r : D} (hc : v_check_ordered [mk6 w, kd6, rw6, fr6] = some .none) (hp : v_check_pairs_v2 [mk6 w, .list P] = some .none) (hs : v_sizes_of [mk6 w, kd6] = some (sz6 w)) (he : fwE65 (g6 (mk6 w) P w none) = some (.rt r)) : v_fewest_islands [mk6 w, kd6, rw6, fr6, .list P] = some r :=
  vFun_of rfl (vSeq_nx (vDrop_of ((vCall_of rfl).trans hc)) (vSeq_nx (vDrop_of ((vCall_of rfl).trans hp)) (vSeq_nx (vSet_of (d := far6) ((vCall_of rfl).trans (by kernel_rfl))) (vSeq_nx (vSet_of ((vCall_of rfl).trans hs)) he))))
structure Out6 (w : Int) : Prop where
  c : v_check_ordered [mk6 w, kd6, rw6, fr6] = some .none
  p : v_check_pairs_v2 [mk6 w, .list pl6] = some .none
  p1 : v_check_pairs_v2 [mk6 w, .list (pl6.drop 1)] = some .none
  s : v_sizes_of [mk6 w, kd6] = some (sz6 w)
theorem out6c {w : Int} (h : w = 7 ∨ w = 8 ∨ w = 9 ∨ w = 10) : Out6 w := by
  rcases h with rfl | rfl | rfl | rfl <;> exact ⟨by kernel_rfl, by kernel_rfl, by kernel_rfl, by kernel_rfl⟩
theorem vFor_of65 {i : VI} {g : VG} {b : VS} {Γ : DEnv} {ds : List D} (h : i Γ = some ds) : vFor i g b Γ = vfor g b ds Γ := by
  unfold vFor
  rw [h, Option.bind_some]
theorem isub6 {m : D} {P L : List D} {w : Int} {x : Option D} (h : v_sublists [.list P] = some (.list L)) : vISeq (vCall v_sublists (vCons (vVar 4) vNil)) (g6 m P w x) = some L := by
  unfold vISeq
  rw [show vCall v_sublists (vCons (vVar 4) vNil) (g6 m P w x) = some (.list L) from (vCall_of (x := [.list P]) rfl).trans h]
  rfl
theorem fwE6 : fwE65 = vSeqS (vFor (vISeq (vCall v_sublists (vCons (vVar 4) vNil))) (vgName 7) fwB6) (vRet (vC .none)) := rfl
theorem sixA {w : Int} {m last : D} {P L : List D} (e : v_sublists [.list P] = some (.list (L ++ [last]))) (t : ∀ d ∈ L, tst6 w d = true) (hl : v_lost_pairs [far6, sz6 w, kd6, rw6, fr6, last] = some (.list [])) : fwE65 (g6 m P w none) = some (.rt last) := by
  rw [fwE6]
  refine vSeq_rt ?_
  rw [vFor_of65 (isub6 e)]
  refine walk6 m P w L none [last] _ t fun x => ?_
  unfold vfor
  have b : fwB6 (g6 m P w (some last)) = some (.rt last) := by
    refine vIfS_t (vNot_of (x := false) ?_) rfl
    show Option.bind (v_lost_pairs [far6, sz6 w, kd6, rw6, fr6, last]) truD = _
    rw [hl]; rfl
  rw [show vgName 7 last (g6 m P w x) = some (g6 m P w (some last)) from rfl, Option.bind_some, b]
  rfl
theorem sixB {w : Int} {m : D} {P L : List D} (e : v_sublists [.list P] = some (.list L)) (t : ∀ d ∈ L, tst6 w d = true) : fwE65 (g6 m P w none) = some (.rt .none) := by
  rw [fwE6]
  have hw : ∀ (ds : List D) (x : Option D), (∀ d ∈ ds, tst6 w d = true) → ∃ y, vfor (vgName 7) fwB6 ds (g6 m P w x) = some (.nx (g6 m P w y)) := by
    intro ds
    induction ds with
    | nil => exact fun x _ => ⟨x, rfl⟩
    | cons d ds ih =>
      intro x hd
      obtain ⟨y, hy⟩ := ih (some d) fun z hz => hd z (List.mem_cons_of_mem _ hz)
      refine ⟨y, ?_⟩
      have e := hd d (List.mem_cons_self ..)
      have b : fwB6 (g6 m P w (some d)) = some (.nx (g6 m P w (some d))) := by
        unfold tst6 at e
        split at e
        · rename_i a as q
          refine vIfS_f (vNot_of (x := true) ?_) rfl
          show Option.bind (v_lost_pairs [far6, sz6 w, kd6, rw6, fr6, d]) truD = _
          rw [q]; rfl
        · cases e
      unfold vfor
      rw [show vgName 7 d (g6 m P w x) = some (g6 m P w (some d)) from rfl, Option.bind_some, b, Option.bind_some]
      exact hy
  obtain ⟨y, hy⟩ := hw L none t
  exact vSeq_nx ((vFor_of65 (isub6 e)).trans hy) rfl
theorem map6 {w : Int} {ixs : List (List Nat)} (t : ∀ is ∈ ixs, tst6 w (s6 is) = true) : ∀ d ∈ ixs.map s6, tst6 w d = true := fun d hd => by
  obtain ⟨is, hi, rfl⟩ := List.mem_map.mp hd
  exact t is hi
theorem six6 {w : Int} (h : w = 7 ∨ w = 8 ∨ w = 9 ∨ w = 10) (t : ∀ is ∈ ix6, tst6 w (s6 is) = true) : v_fewest_islands [mk6 w, kd6, rw6, fr6, .list pl6] = some (.list pl6) := few6 (out6c h).c (out6c h).p (out6c h).s (sixA sub6 (map6 t) (last6 w h))
theorem five6 {w : Int} (h : w = 7 ∨ w = 8 ∨ w = 9 ∨ w = 10) (t : ∀ is ∈ ix6, tst6 w (s6 is) = true) : v_fewest_islands [mk6 w, kd6, rw6, fr6, .list (pl6.drop 1)] = some .none := few6 (out6c h).c (out6c h).p1 (out6c h).s (sixB sub5 (map6 fun is hi => t is (ix56 is hi)))
end RC
end
section
namespace RC
open PySem PySem.Spec L2 RR
open PyProof.Rows hiding St
theorem c6_7_0 : (ch6_0.all fun is => tst6 7 (s6 is)) = true := by kernel_rfl
theorem c6_7_1 : (ch6_1.all fun is => tst6 7 (s6 is)) = true := by kernel_rfl
theorem c6_7_2 : (ch6_2.all fun is => tst6 7 (s6 is)) = true := by kernel_rfl
theorem c6_7_3 : (ch6_3.all fun is => tst6 7 (s6 is)) = true := by kernel_rfl
theorem c6_7_4 : (ch6_4.all fun is => tst6 7 (s6 is)) = true := by kernel_rfl
theorem c6_7_5 : (ch6_5.all fun is => tst6 7 (s6 is)) = true := by kernel_rfl
theorem c6_7_6 : (ch6_6.all fun is => tst6 7 (s6 is)) = true := by kernel_rfl
theorem a6_7 : ∀ is ∈ ix6, tst6 7 (s6 is) = true := out6 c6_7_0 c6_7_1 c6_7_2 c6_7_3 c6_7_4 c6_7_5 c6_7_6
theorem c6_8_0 : (ch6_0.all fun is => tst6 8 (s6 is)) = true := by kernel_rfl
theorem c6_8_1 : (ch6_1.all fun is => tst6 8 (s6 is)) = true := by kernel_rfl
theorem c6_8_2 : (ch6_2.all fun is => tst6 8 (s6 is)) = true := by kernel_rfl
theorem c6_8_3 : (ch6_3.all fun is => tst6 8 (s6 is)) = true := by kernel_rfl
theorem c6_8_4 : (ch6_4.all fun is => tst6 8 (s6 is)) = true := by kernel_rfl
theorem c6_8_5 : (ch6_5.all fun is => tst6 8 (s6 is)) = true := by kernel_rfl
theorem c6_8_6 : (ch6_6.all fun is => tst6 8 (s6 is)) = true := by kernel_rfl
theorem a6_8 : ∀ is ∈ ix6, tst6 8 (s6 is) = true := out6 c6_8_0 c6_8_1 c6_8_2 c6_8_3 c6_8_4 c6_8_5 c6_8_6
end RC
end
section
namespace RC
open PySem PySem.Spec L2 RR
open PyProof.Rows hiding St
theorem c6_9_0 : (ch6_0.all fun is => tst6 9 (s6 is)) = true := by kernel_rfl
theorem c6_9_1 : (ch6_1.all fun is => tst6 9 (s6 is)) = true := by kernel_rfl
theorem c6_9_2 : (ch6_2.all fun is => tst6 9 (s6 is)) = true := by kernel_rfl
theorem c6_9_3 : (ch6_3.all fun is => tst6 9 (s6 is)) = true := by kernel_rfl
theorem c6_9_4 : (ch6_4.all fun is => tst6 9 (s6 is)) = true := by kernel_rfl
theorem c6_9_5 : (ch6_5.all fun is => tst6 9 (s6 is)) = true := by kernel_rfl
theorem c6_9_6 : (ch6_6.all fun is => tst6 9 (s6 is)) = true := by kernel_rfl
theorem a6_9 : ∀ is ∈ ix6, tst6 9 (s6 is) = true := out6 c6_9_0 c6_9_1 c6_9_2 c6_9_3 c6_9_4 c6_9_5 c6_9_6
theorem c6_10_0 : (ch6_0.all fun is => tst6 10 (s6 is)) = true := by kernel_rfl
theorem c6_10_1 : (ch6_1.all fun is => tst6 10 (s6 is)) = true := by kernel_rfl
theorem c6_10_2 : (ch6_2.all fun is => tst6 10 (s6 is)) = true := by kernel_rfl
theorem c6_10_3 : (ch6_3.all fun is => tst6 10 (s6 is)) = true := by kernel_rfl
theorem c6_10_4 : (ch6_4.all fun is => tst6 10 (s6 is)) = true := by kernel_rfl
theorem c6_10_5 : (ch6_5.all fun is => tst6 10 (s6 is)) = true := by kernel_rfl
theorem c6_10_6 : (ch6_6.all fun is => tst6 10 (s6 is)) = true := by kernel_rfl
theorem a6_10 : ∀ is ∈ ix6, tst6 10 (s6 is) = true := out6 c6_10_0 c6_10_1 c6_10_2 c6_10_3 c6_10_4 c6_10_5 c6_10_6
end RC
end
section
namespace RC
open PySem PySem.Spec L2 RR
open PyProof.Rows hiding St
theorem w_ret {me : ME} {v : VE} {E : EndsD} {Γ : DEnv} {n : Nat} {d : D} (h : FE me v) (e : v Γ = some d) (k : E.rt d n) : mRet me E Γ n := h Γ n d _ e k
theorem w_exp {me : ME} {v : VE} {Γ : DEnv} {n : Nat} {d : D} {Q : D → Nat → Prop} (h : FE me v) (e : v Γ = some d) (k : Q d n) : me Γ n Q := h Γ n d _ e k
theorem w_seq {m u : MS} {E : EndsD} {Γ : DEnv} {n : Nat} (h : m { E with nx := u E } Γ n) : mSeq m u E Γ n := h
theorem s_set {m : ME} {i : Nat} {E : EndsD} {Γ : DEnv} {n : Nat} (h : m Γ n fun d n1 => E.nx (Γ.set i (some d)) n1) : mSet i m E Γ n := h
theorem s_cons {a : ME} {u : MA} {Γ : DEnv} {n : Nat} {Q : List D → Nat → Prop} (h : a Γ n fun d n1 => u Γ n1 fun ds n2 => Q (d :: ds) n2) : mCons a u Γ n Q := h
theorem s_nil {Γ : DEnv} {n : Nat} {Q : List D → Nat → Prop} (h : Q [] n) : mNil Γ n Q := h
theorem s_callP {mf : MF} {ma : MA} {Γ : DEnv} {n : Nat} {Q : D → Nat → Prop} (h : ma Γ n fun ds n1 => mf ds n1 Q) : mCallP mf ma Γ n Q := h
theorem s_C {d : D} {Γ : DEnv} {n : Nat} {Q : D → Nat → Prop} (h : Q d n) : mC d Γ n Q := h
theorem q_set {me : ME} {v : VE} {u : MS} {E : EndsD} {Γ : DEnv} {n i : Nat} {d : D} (h : FE me v) (e : v Γ = some d) (k : u E (Γ.set i (some d)) n) : mSeq (mSet i me) u E Γ n := h Γ n d _ e k
theorem q_par {m : MA} {is : List Nat} {u : MS} {E : EndsD} {Γ : DEnv} {n : Nat} (h : m Γ n fun ds n1 => ds.length = is.length ∧ u E (setsD Γ is ds) n1) : mSeq (mPar is m) u E Γ n := h
theorem q_setM {m : ME} {i : Nat} {u : MS} {E : EndsD} {Γ : DEnv} {n : Nat} (h : m Γ n fun d n1 => u E (Γ.set i (some d)) n1) : mSeq (mSet i m) u E Γ n := h
theorem q_no {mt : MT} {t : VT} {x u : MS} {E : EndsD} {Γ : DEnv} {n : Nat} (h : FT mt t) (e : t Γ = some false) (k : u E Γ n) : mSeq (mIfS mt x mNext) u E Γ n := by
  refine h Γ n false _ e ?_
  rw [if_neg (by decide)]; exact k
theorem w_for {g : MG} {tb : MS} {E : EndsD} (I : List D → DEnv → Nat → Prop) (step : ∀ d ds Γ n, I (d :: ds) Γ n → ∀ K : DEnv → Nat → Prop, (∀ Γ' n', I ds Γ' n' → K Γ' n') → g d Γ fun Γ1 => tb { E with nx := K, ct := K, bk := E.nx } Γ1 n) (fin : ∀ Γ n, I [] Γ n → E.nx Γ n) : ∀ ds Γ n, I ds Γ n → forW g tb E ds Γ n
  | [], Γ, n, h => fin Γ n h
  | d :: ds, Γ, n, h => step d ds Γ n h _ fun Γ' n' h' => w_for I step fin ds Γ' n' h'
end RC
end
section
namespace RC
open PySem PySem.Spec L2 RR
open PyProof.Rows hiding St
inductive Row
  | plain (s a : Int)
  | stop (s : Int)
  | jump (k : Int)
  | branch (k : Int)
  | far (p : Int)
  | load (v : Int)
  | word (v : Int)
  | align (n : Int)
abbrev Part := List Row
abbrev Book := List Part
def within (x lo hi : Int) : Bool := decide (lo ≤ x) && decide (x ≤ hi)
def Row.ok : Row → Bool
  | .plain s a => within s 1 99 && within a 0 999
  | .stop s => within s 1 99
  | .jump k => within k 0 19
  | .branch k => within k 0 19
  | .far p => within p 0 4
  | .load v => within v 0 65535
  | .word v => within v 0 65535
  | .align n => n == 2 || n == 4 || n == 8 || n == 16
def Row.isJump : Row → Bool
  | .jump _ => true
  | .branch _ => true
  | _ => false
/-- the first number of a row -/
def Row.num : Row → Int
  | .plain s _ => s
  | .stop s => s
  | .jump k => k
  | .branch k => k
  | .far p => p
  | .load v => v
  | .word v => v
  | .align n => n
theorem eqv_str (a b : Str) : PyData.eqv (.str a) (.str b) = decide (a = b) := by rw [PyData.eqv]; rfl
structure NoWord (w : Str) : Prop where
  h1 : ("plain" : Str) ≠ w
  h2 : ("stop" : Str) ≠ w
  h3 : ("jump" : Str) ≠ w
  h4 : ("branch" : Str) ≠ w
  h5 : ("far" : Str) ≠ w
  h6 : ("load" : Str) ≠ w
  h7 : ("word" : Str) ≠ w
  h8 : ("align" : Str) ≠ w
def keep (r : Row) : Option Row := if r.ok = true then some r else none
def rowOf : D → Option Row
  | .tuple [.str w, .int x] => if "stop" = w then keep (.stop x) else if "jump" = w then keep (.jump x) else if "branch" = w then keep (.branch x) else if "far" = w then keep (.far x) else
      if "load" = w then keep (.load x) else if "word" = w then keep (.word x) else if "align" = w then keep (.align x) else none
  | .tuple [.str w, .int x, .int y] => if "plain" = w then keep (.plain x y) else none
  | _ => none
/-- the rest of a row behind its word -/
theorem NoWord.row {w : Str} {xs : List D} (h : NoWord w) : rowOf (.tuple (.str w :: xs)) = none := by
  unfold rowOf
  split
  · rename_i e
    cases e
    rw [if_neg h.h2, if_neg h.h3, if_neg h.h4, if_neg h.h5, if_neg h.h6, if_neg h.h7, if_neg h.h8]
  · rename_i e
    cases e
    rw [if_neg h.h1]
  · rfl
end RC
end
section
namespace RC
open PySem PySem.Spec L2 RR
open PyProof.Rows hiding St
def Row.w : Row → Str
  | .plain _ _ => "plain"
  | .stop _ => "stop"
  | .jump _ => "jump"
  | .branch _ => "branch"
  | .far _ => "far"
  | .load _ => "load"
  | .word _ => "word"
  | .align _ => "align"
end RC
end
section
namespace RC
open PySem PySem.Spec L2 RR
open PyProof.Rows hiding St
end RC
end
section
namespace RC
open PySem PySem.Spec L2 RR
open PyProof.Rows hiding St
def At (b : Book) (i k : Nat) (r : Row) : Prop := ∃ p, b[i]? = some p ∧ p[k]? = some r
def rowAt (b : Book) (i k : Nat) : Option Row := (b[i]?).bind fun p => p[k]?
theorem At.row {b : Book} {i k : Nat} {r : Row} (h : At b i k r) : rowAt b i k = some r := by
  obtain ⟨p, h1, h2⟩ := h
  unfold rowAt
  rw [h1, Option.bind_some, h2]
end RC
end
section
namespace RC
open PySem PySem.Spec L2 RR
open PyProof.Rows hiding St
/-- rows that are jumps or branches of the part, their goals among its rows -/
def JumpAt (p : Part) (i : Nat) : Prop := ∃ r, p[i]? = some r ∧ r.isJump = true ∧ r.ok = true ∧ r.num.toNat < p.length
theorem JumpAt.lt {p : Part} {i : Nat} (h : JumpAt p i) : i < p.length := by
  obtain ⟨r, h1, _⟩ := h
  exact (List.getElem?_eq_some_iff.mp h1).1
end RC
end
section
namespace RC
open PySem PySem.Spec L2 RR
open PyProof.Rows hiding St
end RC
end
section
namespace RC
open PySem PySem.Spec L2 RR
open PyProof.Rows hiding St
local macro_rules | `(tactic| walk_at "st") => `(tactic| first
  | refine ⟨_, rfl, ?_⟩
  | refine ⟨rfl, ?_⟩
  | refine ⟨by decide, ?_⟩
  | refine ⟨by simp only [List.length_cons, List.length_nil]; decide, ?_⟩)
theorem take_ok {k : Int} {n : Nat} {R : D → Nat → Prop} (h1 : 1 ≤ k) (h2 : k < 1073741824) (hn : n < 1048576) (q : ∀ x : Int, 0 ≤ x → x < k → R (.int x) (n + 1)) : m_take [.int k] n R := ⟨k, rfl, h1, h2, hn, q⟩
end RC
end
section
namespace RC
open PySem PySem.Spec L2 RR
open PyProof.Rows hiding St
structure Tame (k w : Nat) (d : D) : Prop where
  lay : d.canLay0 = true
  dep : d.depth ≤ k
  wt : d.weight ≤ w
  sh : d.intsShort 13 = true
  sw : d.showable = true
theorem Tame.mono {k w k' w' : Nat} {d : D} (h : Tame k w d) (hk : k ≤ k') (hw : w ≤ w') : Tame k' w' d := ⟨h.lay, Nat.le_trans h.dep hk, Nat.le_trans h.wt hw, h.sh, h.sw⟩
theorem Tame.int {x : Int} (h : x.natAbs < 10 ^ 12) : Tame 0 41 (.int x) := by
  have hl : x.natAbs.log2 < 40 ∨ x.natAbs = 0 := by
    by_cases h0 : x.natAbs = 0
    · exact .inr h0
    · exact .inl ((Nat.log2_lt h0).mpr (Nat.lt_trans h (by decide)))
  refine ⟨by simp only [PyData.canLay0], by simp [PyData.depth], ?_, ?_, ?_⟩
  · unfold PyData.weight
    split
    · omega
    · rcases hl with hl | hl
      · omega
      · rw [hl]; decide
  · unfold PyData.intsShort
    exact decide_eq_true (PyData.shown_int_le h)
  · unfold PyData.showable
    refine decide_eq_true ?_
    rcases hl with hl | hl
    · omega
    · rw [hl]; decide
theorem Tame.none : Tame 0 0 .none := ⟨by simp only [PyData.canLay0], by simp [PyData.depth], by simp [PyData.weight], by simp [PyData.intsShort], by simp [PyData.showable]⟩
theorem Tame.bool (b : Bool) : Tame 0 0 (.bool b) := ⟨by simp only [PyData.canLay0], by simp [PyData.depth], by simp [PyData.weight], by simp [PyData.intsShort], by simp [PyData.showable]⟩
theorem Tame.str {x : Str} {w : Nat} (h : PyData.strOk x = true) (hw : x.cps.size ≤ w) : Tame 0 w (.str x) := ⟨by simpa only [PyData.canLay0] using h, by simp [PyData.depth], by simpa [PyData.weight] using hw, by simp [PyData.intsShort], by simp [PyData.showable]⟩
structure TameAll (k w : Nat) (xs : List D) : Prop where
  lay : PyData.canLayAll0 xs = true
  dep : PyData.depthAll xs ≤ k
  wt : PyData.weightAll xs ≤ (w + 1) * xs.length
  sh : PyData.intsShortAll 13 xs = true
  sw : PyData.showableAll xs = true
theorem TameAll.of {k w : Nat} : ∀ {xs : List D}, (∀ x ∈ xs, Tame k w x) → TameAll k w xs
  | [], _ => ⟨by simp only [PyData.canLayAll0], by simp [PyData.depthAll], by simp [PyData.weightAll], by simp [PyData.intsShortAll], by simp [PyData.showableAll]⟩
  | x :: xs, h => by
    have h1 := h x (List.mem_cons_self ..)
    have h2 := TameAll.of fun y hy => h y (List.mem_cons_of_mem _ hy)
    have := h1.wt
    have := h2.wt
    have := h1.dep
    have := h2.dep
    refine ⟨by rw [PyData.canLayAll0, h1.lay, h2.lay]; rfl, by rw [PyData.depthAll]; omega, ?_, by rw [PyData.intsShortAll, h1.sh, h2.sh]; rfl, by rw [PyData.showableAll, h1.sw, h2.sw]; rfl⟩
    rw [PyData.weightAll, List.length_cons, Nat.mul_add, Nat.mul_one]
    omega
theorem Tame.tup {k w : Nat} {xs : List D} (h : ∀ x ∈ xs, Tame k w x) : Tame (k + 1) ((w + 1) * xs.length) (.tuple xs) := by
  have a := TameAll.of h
  exact ⟨by rw [PyData.canLay0]; exact a.lay, by rw [PyData.depth]; exact Nat.succ_le_succ a.dep, by rw [PyData.weight]; exact a.wt, by rw [PyData.intsShort]; exact a.sh, by rw [PyData.showable]; exact a.sw⟩
theorem Tame.lst {k w : Nat} {xs : List D} (h : ∀ x ∈ xs, Tame k w x) : Tame (k + 1) ((w + 1) * xs.length) (.list xs) := by
  have a := TameAll.of h
  exact ⟨by rw [PyData.canLay0]; exact a.lay, by rw [PyData.depth]; exact Nat.succ_le_succ a.dep, by rw [PyData.weight]; exact a.wt, by rw [PyData.intsShort]; exact a.sh, by rw [PyData.showable]; exact a.sw⟩
theorem Tame.shaped {k w : Nat} {d : D} (h : Tame k w d) (hk : k ≤ 64) : SeqAt.shaped d = true := by
  unfold SeqAt.shaped
  rw [h.lay, decide_eq_true (Nat.le_trans h.dep hk)]; rfl
theorem Tame.rep {k w : Nat} {d : D} (h : Tame k w d) (hk : k ≤ 64) (hw : w ≤ 2 ^ 20) : repOkD d = true := by
  have hd := decide_eq_true (Nat.le_trans h.dep hk)
  have hl : d.layable0 = true := by
    unfold PyData.layable0
    rw [h.lay, hd, decide_eq_true (Nat.le_trans h.wt hw)]; rfl
  unfold repOkD
  rw [h.sw, hd, decide_eq_true (PyData.shown_fits_of_layable0 (by decide) (by decide) hl h.sh)]; rfl
theorem Tame.eqv {k w : Nat} {d : D} (h : Tame k w d) : PyData.eqv d d = true := SeqAt.eqv_refl d h.lay
end RC
end
section
namespace RC
open PySem PySem.Spec L2 RR
open PyProof.Rows hiding St
end RC
end
section
namespace RC
open PySem PySem.Spec L2 RR
open PyProof.Rows hiding St
open PySem.W (alike dataLt minD maxD)
theorem vTup_of {r : VA} {Γ : DEnv} {xs : List D} (h : r Γ = some xs) (l : xs.length ≤ lim) : vTup r Γ = some (.tuple xs) := by
  unfold vTup
  rw [h, Option.bind_some, if_pos l]
end RC
end
section
namespace RC
open PySem PySem.Spec L2 RR
open PyProof.Rows hiding St cutD
theorem o2 {f : D → D → Option D} {a b : VE} {Γ : DEnv} {x y d : D} (h : a Γ = some x) (k : b Γ = some y) (e : f x y = some d) : vOp f a b Γ = some d := (vOp_of h k).trans e
theorem o1 {f : D → Option D} {a : VE} {Γ : DEnv} {x d : D} (h : a Γ = some x) (e : f x = some d) : vUn f a Γ = some d := (vUn_of h).trans e
theorem o_cl {f : List D → Option D} {a : VA} {Γ : DEnv} {x : List D} {d : D} (h : a Γ = some x) (e : f x = some d) : vCl f a Γ = some d := (vCl_of h).trans e
theorem o_call {f : VP} {a : VA} {Γ : DEnv} {x : List D} {d : D} (h : a Γ = some x) (e : f x = some d) : vCall f a Γ = some d := (vCall_of h).trans e
theorem o_tup {r : VA} {Γ : DEnv} {xs : List D} (h : r Γ = some xs) (l : xs.length ≤ lim) : vTup r Γ = some (.tuple xs) := vTup_of h l
theorem o_lst {r : VA} {Γ : DEnv} {xs : List D} (h : r Γ = some xs) (l : xs.length ≤ lim) : vLst r Γ = some (.list xs) := by
  unfold vLst
  rw [h, Option.bind_some, if_pos l]
theorem o_sl {a : VE} {lo hi : VO} {Γ : DEnv} {x d : D} {l h : Option Int} (e : a Γ = some x) (e1 : lo Γ = some l) (e2 : hi Γ = some h) (k : dSl l h x = some d) : vSl a lo hi Γ = some d := by
  unfold vSl
  rw [e, Option.bind_some, e1, Option.bind_some, e2, Option.bind_some]; exact k
theorem o_part {a : VE} {Γ : DEnv} {i : Int} (h : a Γ = some (.int i)) : vPart a Γ = some (some i) := by
  unfold vPart
  rw [h]; rfl
theorem s_ret {me : ME} {E : EndsD} {Γ : DEnv} {n : Nat} (h : me Γ n fun d n1 => E.rt d n1) : mRet me E Γ n := h
theorem s_lst {m : MA} {Γ : DEnv} {n : Nat} {Q : D → Nat → Prop} (h : m Γ n fun ds n1 => ds.length ≤ lim ∧ Q (.list ds) n1) : mLst m Γ n Q := h
theorem s_op {f : D → D → Option D} {ma mb : ME} {Γ : DEnv} {n : Nat} {Q : D → Nat → Prop} (h : ma Γ n fun x n1 => mb Γ n1 fun y n2 => ∃ d, f x y = some d ∧ Q d n2) : mOp f ma mb Γ n Q := h
theorem s_if {mt : MT} {x y : MS} {E : EndsD} {Γ : DEnv} {n : Nat} (h : mt Γ n fun c n1 => if c = true then x E Γ n1 else y E Γ n1) : mIfS mt x y E Γ n := h
theorem w_tst {mt : MT} {v : VT} {Γ : DEnv} {n : Nat} {Q : Bool → Nat → Prop} {b : Bool} (h : FT mt v) (e : v Γ = some b) (k : Q b n) : mt Γ n Q := h Γ n b _ e k
theorem w_args {m : MA} {v : VA} {Γ : DEnv} {n : Nat} {ds : List D} {Q : List D → Nat → Prop} (h : FA m v) (e : v Γ = some ds) (k : Q ds n) : m Γ n Q := h Γ n ds _ e k
theorem w_it {m : MI} {v : VI} {Γ : DEnv} {n : Nat} {ds : List D} {Q : List D → Nat → Prop} (h : FI' m v) (e : v Γ = some ds) (k : Q ds n) : m Γ n Q := h Γ n ds _ e k
theorem s_gName {i : Nat} {d : D} {Γ : DEnv} {Q : DEnv → Prop} (h : Q (Γ.set i (some d))) : mgName i d Γ Q := h
theorem s_for {mi : MI} {g : MG} {tb : MS} {E : EndsD} {Γ : DEnv} {n : Nat} (h : mi Γ n fun ds n1 => forW g tb E ds Γ n1) : mFor mi g tb E Γ n := h
end RC
end
section
namespace RC
open PySem PySem.Spec L2 RR
open PyProof.Rows hiding St cutD
local macro_rules | `(tactic| walk_at "fp") => `(tactic| with_reducible first | exact fp__law_w_ties_right)
local macro_rules | `(tactic| walk_at "fe") => `(tactic| with_reducible first
  | exact f_Var | exact f_C | exact f_Nil | exact f_Dict0 | exact f_NoPart | exact f_Yes | exact f_gName | exact f_gNil | exact f_pNil
  | (apply f_Cl <;> walk_at "fe") | (apply f_Op <;> walk_at "fe") | (apply f_Un <;> walk_at "fe") | (apply f_Cons <;> walk_at "fe")
  | (apply f_Test <;> walk_at "fe") | (apply f_Tru <;> walk_at "fe")
  | (apply f_Call (by walk_at "fp") <;> walk_at "fe") | (apply f_CallK (by walk_at "fp") <;> walk_at "fe")
  | (apply f_Tup <;> walk_at "fe") | (apply f_Lst <;> walk_at "fe") | (apply f_Isi <;> walk_at "fe") | (apply f_Isi2 <;> walk_at "fe")
  | (apply f_Sl <;> walk_at "fe") | (apply f_Part <;> walk_at "fe")
  | (apply f_And <;> walk_at "fe") | (apply f_Or <;> walk_at "fe") | (apply f_Not <;> walk_at "fe")
  | (apply f_AndV <;> walk_at "fe") | (apply f_OrV <;> walk_at "fe") | (apply f_NotV <;> walk_at "fe")
  | (apply f_If <;> walk_at "fe") | (apply f_Chain <;> walk_at "fe") | (apply f_Look <;> walk_at "fe") | (apply f_LookL <;> walk_at "fe") | (apply f_Rev <;> walk_at "fe")
  | (apply f_ISeq <;> walk_at "fe") | (apply f_IEn <;> walk_at "fe") | (apply f_IZ <;> walk_at "fe") | (apply f_IR1 <;> walk_at "fe") | (apply f_IR2 <;> walk_at "fe") | exact f_IKeys | exact f_IVals | exact f_IItems
  | (apply f_gTup <;> walk_at "fe") | (apply f_gCons <;> walk_at "fe") | (apply f_Lc <;> walk_at "fe")
  | (apply f_Disp <;> walk_at "fe") | (apply f_pCons <;> walk_at "fe")
  | (apply f_Seq <;> walk_at "fe") | (apply f_IfS <;> walk_at "fe") | (apply f_Ret <;> walk_at "fe") | exact f_Next | (apply f_Set <;> walk_at "fe") | (apply f_Par <;> walk_at "fe") | (apply f_Asg <;> walk_at "fe") | (apply f_Drop <;> walk_at "fe") | (apply f_Append <;> walk_at "fe") | (apply f_For <;> walk_at "fe"))
local macro_rules | `(tactic| walk_at "len") => `(tactic| first | (simp only [List.length_cons, List.length_nil]; decide) | assumption)
local macro_rules | `(tactic| walk_at "ev") => `(tactic| first
  | with_reducible assumption
  | ((with_reducible apply o2) <;> walk_at "ev") | ((with_reducible apply o1) <;> walk_at "ev") | ((with_reducible apply vCons_of) <;> walk_at "ev") | ((with_reducible apply o_cl) <;> walk_at "ev") | ((with_reducible apply o_call) <;> walk_at "ev")
  | ((with_reducible apply vTest_of) <;> walk_at "ev") | ((with_reducible apply o_tup) <;> first | walk_at "len" | walk_at "ev") | ((with_reducible apply o_lst) <;> first | walk_at "len" | walk_at "ev")
  | ((with_reducible apply vNot_t) <;> walk_at "ev") | ((with_reducible apply vNot_f) <;> walk_at "ev") | ((with_reducible apply vNot_of) <;> walk_at "ev") | ((with_reducible apply vIsi_of) <;> walk_at "ev") | ((with_reducible apply vNotV_of) <;> walk_at "ev") | ((with_reducible apply o_sl) <;> walk_at "ev") | ((with_reducible apply o_part) <;> walk_at "ev")
  | rfl)
local macro_rules | `(tactic| walk_at "we") => `(tactic| (apply w_exp; (case h => walk_at "fe"); (case e => walk_at "ev")))
local macro_rules | `(tactic| walk_at "wa") => `(tactic| (apply w_args; (case h => walk_at "fe"); (case e => walk_at "ev")))
local macro_rules | `(tactic| walk_at "wt") => `(tactic| (apply w_tst; (case h => walk_at "fe"); (case e => walk_at "ev")))
local macro_rules | `(tactic| walk_at "wi") => `(tactic| (apply w_it; (case h => walk_at "fe"); (case e => walk_at "ev")))
local macro_rules | `(tactic| walk_at "qs") => `(tactic| (apply q_set; (case h => walk_at "fe"); (case e => walk_at "ev")))
local macro_rules | `(tactic| walk_at "qn") => `(tactic| (apply q_no; (case h => walk_at "fe"); (case e => walk_at "ev")))
local macro_rules | `(tactic| walk_at "wr") => `(tactic| (apply w_ret; (case h => walk_at "fe"); (case e => walk_at "ev")))
local macro_rules | `(tactic| walk_at "sp") => `(tactic| (apply s_callP; (apply w_args; (case h => walk_at "fe"); (case e => walk_at "ev"))))
theorem sevenUp {w : Int} (h1 : 0 ≤ w) (h2 : w < 4) : v_fewest_islands [mk6 (7 + w), kd6, rw6, fr6, .list pl6] = some (.list pl6) ∧ v_fewest_islands [mk6 (7 + w), kd6, rw6, fr6, .list (pl6.drop 1)] = some .none := by
  have h4 : w = 0 ∨ w = 1 ∨ w = 2 ∨ w = 3 := by omega
  rcases h4 with rfl | rfl | rfl | rfl
  · exact ⟨six6 (.inl rfl) a6_7, five6 (.inl rfl) a6_7⟩
  · exact ⟨six6 (.inr (.inl rfl)) a6_8, five6 (.inr (.inl rfl)) a6_8⟩
  · exact ⟨six6 (.inr (.inr (.inl rfl))) a6_9, five6 (.inr (.inr (.inl rfl))) a6_9⟩
  · exact ⟨six6 (.inr (.inr (.inr rfl))) a6_10, five6 (.inr (.inr (.inr rfl))) a6_10⟩
theorem pls6 : dNe (.list pl6) (.list pl6) = some (.bool false) := by kernel_rfl
theorem w_six65 {n : Nat} {R : D → Nat → Prop} (hn : n < 900000) (q : ∀ n', n' ≤ n + 1 → R (.bool true) n') : m__law_w_six_right [] n R := by
  refine ⟨rfl, ?_⟩
  unfold b__law_w_six_right
  refine q_setM (s_op (s_C (s_callP (s_cons (s_C (s_nil ?_))))))
  with_reducible refine take_ok (by decide) (by decide) (by omega) fun w w0 w1 => ?_
  refine ⟨.int (7 + w), rfl, ?_⟩
  obtain ⟨e1, e2⟩ := sevenUp w0 w1
  generalize hz : 7 + w = z at e1 e2 ⊢
  refine q_set (d := .tuple [.tuple [.str "stop", .int z]]) (by walk_at "fe") rfl ?_
  refine q_set (d := mk6 z) (by walk_at "fe") rfl ?_
  refine q_set (d := .list pl6) (by walk_at "fe") rfl ?_
  refine q_par (w_args (ds := [kd6, rw6, fr6]) (by walk_at "fe") rfl ⟨rfl, ?_⟩)
  refine q_no (t := vTest (vOp dNe (vCall v_fewest_islands (vCons (vVar 3) (vCons (vVar 5) (vCons (vVar 6) (vCons (vVar 7) (vCons (vVar 4) vNil)))))) (vVar 4))) (f_Test (f_Op (f_Call fp_fewest_islands (f_Cons f_Var (f_Cons f_Var (f_Cons f_Var (f_Cons f_Var (f_Cons f_Var f_Nil)))))) f_Var)) (vTest_of ((vOp_of (x := .list pl6) (y := .list pl6) ((vCall_of rfl).trans e1) rfl).trans pls6)) ?_
  refine w_ret (d := .bool true) (v := vOp dIsN (vCall v_fewest_islands (vCons (vVar 3) (vCons (vVar 5) (vCons (vVar 6) (vCons (vVar 7) (vCons (vSl (vVar 4) (vPart (vC (.int 1))) vNoPart) vNil)))))) (vC .none)) (f_Op (f_Call fp_fewest_islands (f_Cons f_Var (f_Cons f_Var (f_Cons f_Var (f_Cons f_Var (f_Cons (f_Sl f_Var (f_Part f_C) f_NoPart) f_Nil)))))) f_C) ((vOp_of (x := .none) (y := .none) ((vCall_of (x := [mk6 z, kd6, rw6, fr6, .list (pl6.drop 1)]) rfl).trans e2) rfl).trans rfl) (q _ (by omega))
theorem turn65 {E : EndsD} {x0 x1 x2 x3 x4 x5 x6 x7 x8 x9 x10 x11 x12 x13 : Option D} {n : Nat} (hn : n < 600000)
    (k : ∀ z3 z4 z5 z6 z7 z8 z9 z10 z11 z13 n', n' ≤ n + 5 → E.nx (k65E x0 x1 x2 z3 z4 z5 z6 z7 z8 z9 z10 z11 x12 z13) n') :
    (mSeq (mSet 3 (mOp dAdd (mC (.int 1)) (mCallP m__law_take_v2 (mCons (mC (.int 16)) mNil)))) (mSeq (mSet 4 (mTup (mCons (mTup (mCons (mTup (mCons (mC (.str "plain")) (mCons (mVar 3) (mCons (mC (.int 1)) mNil)))) (mCons (mTup (mCons (mC (.str "far")) (mCons (mC (.int 2)) mNil))) mNil))) (mCons (mTup (mCons (mTup (mCons (mC (.str "stop")) (mCons (mC (.int 20)) mNil))) mNil)) (mCons (mTup (mCons (mTup (mCons (mC (.str "stop")) (mCons (mC (.int 4)) mNil))) mNil)) mNil))))) (mSeq (mPar [5, 6, 7, 8] (mCons (mTup (mCons (mC (.int 1)) (mCons (mC (.int 9)) (mCons (mC (.int 3)) (mCons (mC (.int 2)) (mCons (mC (.int 60)) (mCons (mC (.int 1)) (mCons (mC (.int 9)) (mCons (mC (.int 1)) mNil))))))))) (mCons (mLst (mCons (mC (.int 0)) (mCons (mC (.int 1)) (mCons (mC (.int 2)) mNil)))) (mCons (mLst (mCons (mC (.int 0)) (mCons (mCallP m__law_take_v2 (mCons (mC (.int 9)) mNil)) (mCons (mC (.int 30)) mNil)))) (mCons (mLst (mCons (mTup (mCons (mC (.int 1)) (mCons (mC (.int 2)) mNil))) mNil)) mNil))))) k65T))) E (k65E x0 x1 x2 x3 x4 x5 x6 x7 x8 x9 x10 x11 x12 x13) n := by
  refine q_setM (s_op (s_C (s_callP (s_cons (s_C (s_nil ?_))))))
  with_reducible refine take_ok (by decide) (by decide) (by omega) fun x' a0 a1 => ?_
  refine ⟨.int (1 + x'), rfl, ?_⟩
  have p1 : 1 ≤ 1 + x' := by omega
  have p2 : 1 + x' ≤ 16 := by omega
  generalize 1 + x' = x at p1 p2 ⊢
  refine q_set (d := mk65 x) (by walk_at "fe") rfl ?_
  refine q_par (s_cons (w_exp (d := kd65) (by walk_at "fe") rfl (s_cons (w_exp (d := rw65) (by walk_at "fe") rfl (s_cons (s_lst (s_cons (s_C (s_cons (s_callP (s_cons (s_C (s_nil ?_)))))))))))))
  with_reducible refine take_ok (by decide) (by decide) (by omega) fun y b0 b1 => ?_
  refine s_cons (s_C (s_nil ⟨by show 3 ≤ lim; decide, ?_⟩))
  refine w_args (ds := [ps65]) (by walk_at "fe") rfl ⟨rfl, ?_⟩
  have bk := bk65 p1 p2
  have rm := rm65_all (mk65 x) p1 p2 b0 b1
  exact f65T _ _ _ _ (goes65T p1 p2 bk b0 b1 rm x0 x1 x2 x9 x10 x11 x12 x13) (k _ _ _ _ _ _ _ _ _ _ _ (by omega))
theorem law65 : b_c65_law mTrue (List.replicate 14 none) 0 := by
  unfold b_c65_law
  have t1 : ∀ {Q : Bool → Nat → Prop} {Γ : DEnv}, (∀ n', n' ≤ 1 → Q false n') → (mOr (mNot (mTest (mCallP m__law_w_six_right mNil))) (mNot (mTest (mCall m__law_w_ties_right mNil)))) Γ 0 Q := fun {Q Γ} h => by
    show m__law_w_six_right [] 0 _
    refine w_six65 (by decide) fun n' h' => ⟨true, rfl, ?_⟩
    show (if (!true) = true then Q true n' else _)
    rw [if_neg (by decide)]
    show m__law_w_ties_right [] _
    exact fp__law_w_ties_right [] (.bool true) _ ties65 ⟨true, rfl, h n' (by omega)⟩
  refine t1 fun n1 hn1 => ?_
  rw [if_neg (by decide)]
  refine w_seq ⟨2, rfl, (okR_nat (n := 2) (by decide) : okR 2), ?_⟩
  refine w_for (fun ds Γ n => (∃ x0 x1 x2 x3 x4 x5 x6 x7 x8 x9 x10 x11 x12 x13, Γ = k65E x0 x1 x2 x3 x4 x5 x6 x7 x8 x9 x10 x11 x12 x13) ∧ n + 600 * ds.length ≤ 3000) (fun d0 ds Γ n h K hK => ?_) (fun Γ n h => ?_) _ _ _ ⟨⟨_, _, _, _, _, _, _, _, _, _, _, _, _, _, rfl⟩, by rw [rangeD_len]; show n1 + 600 * 2 ≤ 3000; omega⟩
  · obtain ⟨⟨x0, x1, x2, x3, x4, x5, x6, x7, x8, x9, x10, x11, x12, x13, rfl⟩, hn⟩ := h
    rw [List.length_cons] at hn
    exact s_gName (turn65 (by omega) fun _ _ _ _ _ _ _ _ _ _ n' h => hK _ _ ⟨⟨_, _, _, _, _, _, _, _, _, _, _, _, _, _, rfl⟩, by omega⟩)
  · show mRet (mC (.bool true)) mTrue Γ n
    refine w_ret (d := .bool true) f_C rfl ?_
    exact rfl
end RC
end
section
open PySem PySem.W PyProof.Rows
set_option maxHeartbeats 0 in
theorem PySem.Challenge.cw_reachrows_k65_islands_and_orders_by_name_holds : PySem.Challenge.rw_reachrows_k65_islands_and_orders_by_name.Holds := by
  w_on; o_law; k_head; (case hw => w_witness2)
  k_fill
  refine RR.walkG (l := PySem.Challenge.rw_reachrows_k65_islands_and_orders_by_name) (k := 10) (x := "script") rfl rfl rfl ⟨rfl, by decide, by decide⟩ (fun w h Y => PySem.W.kIn_of Y) ?F
  case F =>
    intro w mg fa h KX G hmg
    refine' RR.fin_mk (l := PySem.Challenge.rw_reachrows_k65_islands_and_orders_by_name) (st := K65.topS 90) KX G hmg ?la ?ll ?lc ?lk ?lb (fun base fd sy FF => K65.fn_law (base := base) (K65.Txt.mk sy (PySem.W.mg_none_of KX G ?q1) (PySem.W.mg_none_of KX G ?q2) (PySem.W.mg_none_of KX G ?q3) (PySem.W.mg_none_of KX G ?q4) (PySem.W.mg_none_of KX G ?q5) (PySem.W.mg_none_of KX G ?q6) (PySem.W.mg_none_of KX G ?q7) (PySem.W.mg_none_of KX G ?q8) (PySem.W.mg_none_of KX G ?q9) (PySem.W.mg_none_of KX G ?q10) (PySem.W.mg_none_of KX G ?q11) (PySem.W.mg_none_of KX G ?q12) (PySem.W.mg_none_of KX G ?q13) (PySem.W.mg_none_of KX G ?q14) (PySem.W.mg_none_of KX G ?q15) (PySem.W.mg_of KX G ?q16) (PySem.W.mg_of KX G ?q17) (RR.ci_int KX G ?q18 ?q19) (RR.ci_int KX G ?q20 ?q21) (RR.ci_int KX G ?q22 ?q23) (RR.ci_int KX G ?q24 ?q25) (RR.ci_int KX G ?q26 ?q27) (RR.ci_int KX G ?q28 ?q29) (RR.ci_int KX G ?q30 ?q31) ⟨_, RR.ci_tup KX G ?q32 ?q33 ?q34 (RR.rqs_cons (RR.rq_tup ?q36 ?q37 (RR.rqs_cons RR.rq_int (RR.rqs_cons RR.rq_int RR.rqs_nil)) ?q38) (RR.rqs_cons (RR.rq_tup ?q39 ?q40 (RR.rqs_cons RR.rq_int (RR.rqs_cons RR.rq_int RR.rqs_nil)) ?q41) (RR.rqs_cons (RR.rq_tup ?q42 ?q43 (RR.rqs_cons RR.rq_int (RR.rqs_cons RR.rq_int RR.rqs_nil)) ?q44) (RR.rqs_cons (RR.rq_tup ?q45 ?q46 (RR.rqs_cons RR.rq_int (RR.rqs_cons RR.rq_int RR.rqs_nil)) ?q47) (RR.rqs_cons (RR.rq_tup ?q48 ?q49 (RR.rqs_cons RR.rq_int (RR.rqs_cons RR.rq_int RR.rqs_nil)) ?q50) (RR.rqs_cons (RR.rq_tup ?q51 ?q52 (RR.rqs_cons RR.rq_int (RR.rqs_cons RR.rq_int RR.rqs_nil)) ?q53) (RR.rqs_cons (RR.rq_tup ?q54 ?q55 (RR.rqs_cons RR.rq_int (RR.rqs_cons RR.rq_int RR.rqs_nil)) ?q56) (RR.rqs_cons (RR.rq_tup ?q57 ?q58 (RR.rqs_cons RR.rq_int (RR.rqs_cons RR.rq_int RR.rqs_nil)) ?q59) RR.rqs_nil)))))))) ?q35⟩ ⟨_, RR.dk_mk KX G ?q60 ?q61 ?q62 ?q63 ?q115⟩ (RR.ci_int KX G ?q116 ?q117) (RR.ci_int KX G ?q118 ?q119) (RR.ci_int KX G ?q120 ?q121) ⟨_, RR.ci_tup KX G ?q122 ?q123 ?q124 (RR.rqs_cons RR.rq_int (RR.rqs_cons RR.rq_int (RR.rqs_cons RR.rq_int (RR.rqs_cons RR.rq_int RR.rqs_nil)))) ?q125⟩ ⟨_, RR.ci_tup KX G ?q126 ?q127 ?q128 (RR.rqs_cons RR.rq_str (RR.rqs_cons RR.rq_str RR.rqs_nil)) ?q129⟩ ⟨_, RR.ci_tup KX G ?q130 ?q131 ?q132 (RR.rqs_cons RR.rq_str (RR.rqs_cons RR.rq_str (RR.rqs_cons RR.rq_str (RR.rqs_cons RR.rq_str RR.rqs_nil)))) ?q133⟩ (RR.ci_int KX G ?q134 ?q135) (RR.ci_int KX G ?q136 ?q137) (RR.ci_int KX G ?q138 ?q139) (RR.fd_mk (st := K65.topS 86) KX G ?q140 ?q141 ?q142 ?q143 (fun _ _ _ _ _ _ us hl => match us, hl with | [_], _ => rfl)) (RR.fd_mk (st := K65.topS 85) KX G ?q144 ?q145 ?q146 ?q147 (fun _ _ _ _ _ _ us hl => match us, hl with | [_, _], _ => rfl)) (RR.fd_mk (st := K65.topS 87) KX G ?q148 ?q149 ?q150 ?q151 (fun _ _ _ _ _ _ us hl => match us, hl with | [_, _], _ => rfl)) (RR.fd_mk (st := K65.topS 36) KX G ?q152 ?q153 ?q154 ?q155 (fun _ _ _ _ _ _ us hl => match us, hl with | [_], _ => rfl)) (RR.fd_mk (st := K65.topS 29) KX G ?q156 ?q157 ?q158 ?q159 (fun _ _ _ _ _ _ us hl => match us, hl with | [_], _ => rfl)) (RR.fd_mk (st := K65.topS 33) KX G ?q160 ?q161 ?q162 ?q163 (fun _ _ _ _ _ _ us hl => match us, hl with | [_], _ => rfl)) (RR.fd_mk (st := K65.topS 32) KX G ?q164 ?q165 ?q166 ?q167 (fun _ _ _ _ _ _ us hl => match us, hl with | [_], _ => rfl)) (RR.fd_mk (st := K65.topS 25) KX G ?q168 ?q169 ?q170 ?q171 (fun _ _ _ _ _ _ us hl => match us, hl with | [_, _, _], _ => rfl)) (RR.fd_mk (st := K65.topS 26) KX G ?q172 ?q173 ?q174 ?q175 (fun _ _ _ _ _ _ us hl => match us, hl with | [_, _], _ => rfl)) (RR.fd_mk (st := K65.topS 28) KX G ?q176 ?q177 ?q178 ?q179 (fun _ _ _ _ _ _ us hl => match us, hl with | [_], _ => rfl)) (RR.fd_mk (st := K65.topS 34) KX G ?q180 ?q181 ?q182 ?q183 (fun _ _ _ _ _ _ us hl => match us, hl with | [_], _ => rfl)) (RR.fd_mk (st := K65.topS 35) KX G ?q184 ?q185 ?q186 ?q187 (fun _ _ _ _ _ _ us hl => match us, hl with | [_], _ => rfl)) (RR.fd_mk (st := K65.topS 37) KX G ?q188 ?q189 ?q190 ?q191 (fun _ _ _ _ _ _ us hl => match us, hl with | [_], _ => rfl)) (RR.fd_mk (st := K65.topS 38) KX G ?q192 ?q193 ?q194 ?q195 (fun _ _ _ _ _ _ us hl => match us, hl with | [_], _ => rfl)) (RR.fd_mk (st := K65.topS 27) KX G ?q196 ?q197 ?q198 ?q199 (fun _ _ _ _ _ _ us hl => match us, hl with | [_], _ => rfl)) (RR.fd_mk (st := K65.topS 39) KX G ?q200 ?q201 ?q202 ?q203 (fun _ _ _ _ _ _ us hl => match us, hl with | [_], _ => rfl)) (RR.fd_mk (st := K65.topS 58) KX G ?q204 ?q205 ?q206 ?q207 (fun _ _ _ _ _ _ us hl => match us, hl with | [_, _], _ => rfl)) (RR.fd_mk (st := K65.topS 59) KX G ?q208 ?q209 ?q210 ?q211 (fun _ _ _ _ _ _ us hl => match us, hl with | [_, _], _ => rfl)) (RR.fd_mk (st := K65.topS 60) KX G ?q212 ?q213 ?q214 ?q215 (fun _ _ _ _ _ _ us hl => match us, hl with | [_, _], _ => rfl)) (RR.fd_mk (st := K65.topS 65) KX G ?q216 ?q217 ?q218 ?q219 (fun _ _ _ _ _ _ us hl => match us, hl with | [_, _, _, _], _ => rfl)) (RR.fd_mk (st := K65.topS 30) KX G ?q220 ?q221 ?q222 ?q223 (fun _ _ _ _ _ _ us hl => match us, hl with | [_], _ => rfl)) (RR.fd_mk (st := K65.topS 31) KX G ?q224 ?q225 ?q226 ?q227 (fun _ _ _ _ _ _ us hl => match us, hl with | [_, _], _ => rfl)) (RR.fd_mk (st := K65.topS 62) KX G ?q228 ?q229 ?q230 ?q231 (fun _ _ _ _ _ _ us hl => match us, hl with | [_, _], _ => rfl)) (RR.fd_mk (st := K65.topS 63) KX G ?q232 ?q233 ?q234 ?q235 (fun _ _ _ _ _ _ us hl => match us, hl with | [_, _], _ => rfl)) (RR.fd_mk (st := K65.topS 64) KX G ?q236 ?q237 ?q238 ?q239 (fun _ _ _ _ _ _ us hl => match us, hl with | [_, _], _ => rfl)) (RR.fd_mk (st := K65.topS 71) KX G ?q240 ?q241 ?q242 ?q243 (fun _ _ _ _ _ _ us hl => match us, hl with | [_], _ => rfl)) (RR.fd_mk (st := K65.topS 67) KX G ?q244 ?q245 ?q246 ?q247 (fun _ _ _ _ _ _ us hl => match us, hl with | [_, _, _], _ => rfl)) (RR.fd_mk (st := K65.topS 68) KX G ?q248 ?q249 ?q250 ?q251 (fun _ _ _ _ _ _ us hl => match us, hl with | [_, _, _], _ => rfl)) (RR.fd_mk (st := K65.topS 69) KX G ?q252 ?q253 ?q254 ?q255 (fun _ _ _ _ _ _ us hl => match us, hl with | [_, _, _, _], _ => rfl)) (RR.fd_mk (st := K65.topS 70) KX G ?q256 ?q257 ?q258 ?q259 (fun _ _ _ _ _ _ us hl => match us, hl with | [_, _, _, _], _ => rfl)) (RR.fd_mk (st := K65.topS 72) KX G ?q260 ?q261 ?q262 ?q263 (fun _ _ _ _ _ _ us hl => match us, hl with | [_, _, _, _, _, _], _ => rfl)) (RR.fd_mk (st := K65.topS 41) KX G ?q264 ?q265 ?q266 ?q267 (fun _ _ _ _ _ _ us hl => match us, hl with | [_, _, _, _], _ => rfl)) (RR.fd_mk (st := K65.topS 42) KX G ?q268 ?q269 ?q270 ?q271 (fun _ _ _ _ _ _ us hl => match us, hl with | [_, _, _], _ => rfl)) (RR.fd_mk (st := K65.topS 43) KX G ?q272 ?q273 ?q274 ?q275 (fun _ _ _ _ _ _ us hl => match us, hl with | [_, _, _], _ => rfl)) (RR.fd_mk (st := K65.topS 44) KX G ?q276 ?q277 ?q278 ?q279 (fun _ _ _ _ _ _ us hl => match us, hl with | [_, _, _], _ => rfl)) (RR.fd_mk (st := K65.topS 46) KX G ?q280 ?q281 ?q282 ?q283 (fun _ _ _ _ _ _ us hl => match us, hl with | [_, _], _ => rfl)) (RR.fd_mk (st := K65.topS 47) KX G ?q284 ?q285 ?q286 ?q287 (fun _ _ _ _ _ _ us hl => match us, hl with | [_, _], _ => rfl)) (RR.fd_mk (st := K65.topS 50) KX G ?q288 ?q289 ?q290 ?q291 (fun _ _ _ _ _ _ us hl => match us, hl with | [_, _, _], _ => rfl)) (RR.fd_mk (st := K65.topS 49) KX G ?q292 ?q293 ?q294 ?q295 (fun _ _ _ _ _ _ us hl => match us, hl with | [_], _ => rfl)) (RR.fd_mk (st := K65.topS 51) KX G ?q296 ?q297 ?q298 ?q299 (fun _ _ _ _ _ _ us hl => match us, hl with | [_, _], _ => rfl)) (RR.fd_mk (st := K65.topS 52) KX G ?q300 ?q301 ?q302 ?q303 (fun _ _ _ _ _ _ us hl => match us, hl with | [_, _], _ => rfl)) (RR.fd_mk (st := K65.topS 53) KX G ?q304 ?q305 ?q306 ?q307 (fun _ _ _ _ _ _ us hl => match us, hl with | [_, _], _ => rfl)) (RR.fd_mk (st := K65.topS 66) KX G ?q308 ?q309 ?q310 ?q311 (fun _ _ _ _ _ _ us hl => match us, hl with | [_, _], _ => rfl)) (RR.fd_mk (st := K65.topS 80) KX G ?q312 ?q313 ?q314 ?q315 (fun _ _ _ _ _ _ us hl => match us, hl with | [_, _, _, _, _], _ => rfl)) (RR.fd_mk (st := K65.topS 88) KX G ?q316 ?q317 ?q318 ?q319 (fun _ _ _ _ _ _ us hl => match us, hl with | [_], _ => rfl)) (RR.fd_mk (st := K65.topS 82) KX G ?q320 ?q321 ?q322 ?q323 (fun _ _ _ _ _ _ us hl => match us, hl with | [_], _ => rfl)) (RR.fd_mk (st := K65.topS 83) KX G ?q324 ?q325 ?q326 ?q327 (fun _ _ _ _ _ _ us hl => match us, hl with | [_, _, _, _], _ => rfl)) (RR.fd_mk (st := K65.topS 89) KX G ?q328 ?q329 ?q330 ?q331 (fun _ _ _ _ _ _ us hl => match us, hl with | [], _ => rfl)) (RR.fd_mk (st := K65.topS 75) KX G ?q332 ?q333 ?q334 ?q335 (fun _ _ _ _ _ _ us hl => match us, hl with | [_, _, _, _], _ => rfl)) (RR.fd_mk (st := K65.topS 79) KX G ?q336 ?q337 ?q338 ?q339 (fun _ _ _ _ _ _ us hl => match us, hl with | [_, _, _, _, _], _ => rfl)) (RR.fd_mk (st := K65.topS 61) KX G ?q340 ?q341 ?q342 ?q343 (fun _ _ _ _ _ _ us hl => match us, hl with | [_, _], _ => rfl)) (RR.fd_mk (st := K65.topS 74) KX G ?q344 ?q345 ?q346 ?q347 (fun _ _ _ _ _ _ us hl => match us, hl with | [_, _], _ => rfl)) (RR.fd_mk (st := K65.topS 73) KX G ?q348 ?q349 ?q350 ?q351 (fun _ _ _ _ _ _ us hl => match us, hl with | [_, _, _, _, _, _], _ => rfl)) (RR.fd_mk (st := K65.topS 78) KX G ?q352 ?q353 ?q354 ?q355 (fun _ _ _ _ _ _ us hl => match us, hl with | [_, _, _, _, _, _, _], _ => rfl)) (RR.fd_mk (st := K65.topS 77) KX G ?q356 ?q357 ?q358 ?q359 (fun _ _ _ _ _ _ us hl => match us, hl with | [_, _, _, _, _, _], _ => rfl)) (RR.fd_mk (st := K65.topS 76) KX G ?q360 ?q361 ?q362 ?q363 (fun _ _ _ _ _ _ us hl => match us, hl with | [_, _], _ => rfl)) (RR.fd_mk (st := K65.topS 90) KX G ?q364 ?q365 ?q366 ?q367 (fun _ _ _ _ _ _ us hl => match us, hl with | [_], _ => rfl))) RC.law65 FF)
    (case la => k_is)
    (case ll => k_is)
    (case lc => k_is)
    (case lk => k_is)
    (case lb => exact fun _ _ => PySem.BindsTo.of_eq rfl)
    (case q1 => k_is)
    (case q2 => k_is)
    (case q3 => k_is)
    (case q4 => k_is)
    (case q5 => k_is)
    (case q6 => k_is)
    (case q7 => k_is)
    (case q8 => k_is)
    (case q9 => k_is)
    (case q10 => k_is)
    (case q11 => k_is)
    (case q12 => k_is)
    (case q13 => k_is)
    (case q14 => k_is)
    (case q15 => k_is)
    (case q16 => k_is)
    (case q17 => k_is)
    (case q18 => k_is)
    (case q19 => exact ⟨_, rfl⟩)
    (case q20 => k_is)
    (case q21 => exact ⟨_, rfl⟩)
    (case q22 => k_is)
    (case q23 => exact ⟨_, rfl⟩)
    (case q24 => k_is)
    (case q25 => exact ⟨_, rfl⟩)
    (case q26 => k_is)
    (case q27 => exact ⟨_, rfl⟩)
    (case q28 => k_is)
    (case q29 => exact ⟨_, rfl⟩)
    (case q30 => k_is)
    (case q31 => exact ⟨_, rfl⟩)
    (case q32 => k_is)
    (case q33 => k_is)
    (case q34 => decide)
    (case q35 => exact (.cons rfl (.cons rfl (.cons rfl (.cons rfl (.cons rfl (.cons rfl (.cons rfl (.cons rfl .nil)))))))))
    (case q36 => k_is)
    (case q37 => decide)
    (case q38 => exact (.cons ⟨_, rfl⟩ (.cons ⟨_, rfl⟩ .nil)))
    (case q39 => k_is)
    (case q40 => decide)
    (case q41 => exact (.cons ⟨_, rfl⟩ (.cons ⟨_, rfl⟩ .nil)))
    (case q42 => k_is)
    (case q43 => decide)
    (case q44 => exact (.cons ⟨_, rfl⟩ (.cons ⟨_, rfl⟩ .nil)))
    (case q45 => k_is)
    (case q46 => decide)
    (case q47 => exact (.cons ⟨_, rfl⟩ (.cons ⟨_, rfl⟩ .nil)))
    (case q48 => k_is)
    (case q49 => decide)
    (case q50 => exact (.cons ⟨_, rfl⟩ (.cons ⟨_, rfl⟩ .nil)))
    (case q51 => k_is)
    (case q52 => decide)
    (case q53 => exact (.cons ⟨_, rfl⟩ (.cons ⟨_, rfl⟩ .nil)))
    (case q54 => k_is)
    (case q55 => decide)
    (case q56 => exact (.cons ⟨_, rfl⟩ (.cons ⟨_, rfl⟩ .nil)))
    (case q57 => k_is)
    (case q58 => decide)
    (case q59 => exact (.cons ⟨_, rfl⟩ (.cons ⟨_, rfl⟩ .nil)))
    (case q60 => k_is)
    (case q61 => k_is)
    (case q62 => k_keys)
    (case q63 => decide)
    (case q115 => (refine' (.cons (v := L2.V.ref _) rfl (RR.rq_tup ?q64 ?q65 (RR.rqs_cons (RR.rq_tup ?q67 ?q68 (RR.rqs_cons RR.rq_int (RR.rqs_cons RR.rq_int RR.rqs_nil)) ?q69) (RR.rqs_cons (RR.rq_tup ?q70 ?q71 (RR.rqs_cons RR.rq_int (RR.rqs_cons RR.rq_int RR.rqs_nil)) ?q72) RR.rqs_nil)) ?q66) (.cons (v := L2.V.ref _) rfl (RR.rq_tup ?q73 ?q74 (RR.rqs_cons (RR.rq_tup ?q76 ?q77 (RR.rqs_cons RR.rq_int (RR.rqs_cons RR.rq_int RR.rqs_nil)) ?q78) RR.rqs_nil) ?q75) (.cons (v := L2.V.ref _) rfl (RR.rq_tup ?q79 ?q80 (RR.rqs_cons (RR.rq_tup ?q82 ?q83 (RR.rqs_cons RR.rq_int (RR.rqs_cons RR.rq_int RR.rqs_nil)) ?q84) RR.rqs_nil) ?q81) (.cons (v := L2.V.ref _) rfl (RR.rq_tup ?q85 ?q86 (RR.rqs_cons (RR.rq_tup ?q88 ?q89 (RR.rqs_cons RR.rq_int (RR.rqs_cons RR.rq_int RR.rqs_nil)) ?q90) RR.rqs_nil) ?q87) (.cons (v := L2.V.ref _) rfl (RR.rq_tup ?q91 ?q92 (RR.rqs_cons (RR.rq_tup ?q94 ?q95 (RR.rqs_cons RR.rq_int (RR.rqs_cons RR.rq_int RR.rqs_nil)) ?q96) RR.rqs_nil) ?q93) (.cons (v := L2.V.ref _) rfl (RR.rq_tup ?q97 ?q98 (RR.rqs_cons (RR.rq_tup ?q100 ?q101 (RR.rqs_cons RR.rq_int (RR.rqs_cons RR.rq_int RR.rqs_nil)) ?q102) RR.rqs_nil) ?q99) (.cons (v := L2.V.ref _) rfl (RR.rq_tup ?q103 ?q104 (RR.rqs_cons (RR.rq_tup ?q106 ?q107 (RR.rqs_cons RR.rq_int (RR.rqs_cons RR.rq_int RR.rqs_nil)) ?q108) RR.rqs_nil) ?q105) (.cons (v := L2.V.ref _) rfl (RR.rq_tup ?q109 ?q110 (RR.rqs_cons (RR.rq_tup ?q112 ?q113 (RR.rqs_cons RR.rq_int (RR.rqs_cons RR.rq_int RR.rqs_nil)) ?q114) RR.rqs_nil) ?q111) .nil)))))))); (case q64 => k_is); (case q65 => decide); (case q66 => exact (.cons rfl (.cons rfl .nil))); (case q67 => k_is); (case q68 => decide); (case q69 => exact (.cons ⟨_, rfl⟩ (.cons ⟨_, rfl⟩ .nil))); (case q70 => k_is); (case q71 => decide); (case q72 => exact (.cons ⟨_, rfl⟩ (.cons ⟨_, rfl⟩ .nil))); (case q73 => k_is); (case q74 => decide); (case q75 => exact (.cons rfl .nil)); (case q76 => k_is); (case q77 => decide); (case q78 => exact (.cons ⟨_, rfl⟩ (.cons ⟨_, rfl⟩ .nil))); (case q79 => k_is); (case q80 => decide); (case q81 => exact (.cons rfl .nil)); (case q82 => k_is); (case q83 => decide); (case q84 => exact (.cons ⟨_, rfl⟩ (.cons ⟨_, rfl⟩ .nil))); (case q85 => k_is); (case q86 => decide); (case q87 => exact (.cons rfl .nil)); (case q88 => k_is); (case q89 => decide); (case q90 => exact (.cons ⟨_, rfl⟩ (.cons ⟨_, rfl⟩ .nil))); (case q91 => k_is); (case q92 => decide); (case q93 => exact (.cons rfl .nil)); (case q94 => k_is); (case q95 => decide); (case q96 => exact (.cons ⟨_, rfl⟩ (.cons ⟨_, rfl⟩ .nil))); (case q97 => k_is); (case q98 => decide); (case q99 => exact (.cons rfl .nil)); (case q100 => k_is); (case q101 => decide); (case q102 => exact (.cons ⟨_, rfl⟩ (.cons ⟨_, rfl⟩ .nil))); (case q103 => k_is); (case q104 => decide); (case q105 => exact (.cons rfl .nil)); (case q106 => k_is); (case q107 => decide); (case q108 => exact (.cons ⟨_, rfl⟩ (.cons ⟨_, rfl⟩ .nil))); (case q109 => k_is); (case q110 => decide); (case q111 => exact (.cons rfl .nil)); (case q112 => k_is); (case q113 => decide); (case q114 => exact (.cons ⟨_, rfl⟩ (.cons ⟨_, rfl⟩ .nil)))))
    (case q116 => k_is)
    (case q117 => exact ⟨_, rfl⟩)
    (case q118 => k_is)
    (case q119 => exact ⟨_, rfl⟩)
    (case q120 => k_is)
    (case q121 => exact ⟨_, rfl⟩)
    (case q122 => k_is)
    (case q123 => k_is)
    (case q124 => decide)
    (case q125 => exact (.cons ⟨_, rfl⟩ (.cons ⟨_, rfl⟩ (.cons ⟨_, rfl⟩ (.cons ⟨_, rfl⟩ .nil)))))
    (case q126 => k_is)
    (case q127 => k_is)
    (case q128 => decide)
    (case q129 => exact (.cons ⟨_, rfl⟩ (.cons ⟨_, rfl⟩ .nil)))
    (case q130 => k_is)
    (case q131 => k_is)
    (case q132 => decide)
    (case q133 => exact (.cons ⟨_, rfl⟩ (.cons ⟨_, rfl⟩ (.cons ⟨_, rfl⟩ (.cons ⟨_, rfl⟩ .nil)))))
    (case q134 => k_is)
    (case q135 => exact ⟨_, rfl⟩)
    (case q136 => k_is)
    (case q137 => exact ⟨_, rfl⟩)
    (case q138 => k_is)
    (case q139 => exact ⟨_, rfl⟩)
    (case q140 => k_is)
    (case q141 => k_is)
    (case q142 => k_is)
    (case q143 => k_is)
    (case q144 => k_is)
    (case q145 => k_is)
    (case q146 => k_is)
    (case q147 => k_is)
    (case q148 => k_is)
    (case q149 => k_is)
    (case q150 => k_is)
    (case q151 => k_is)
    (case q152 => k_is)
    (case q153 => k_is)
    (case q154 => k_is)
    (case q155 => k_is)
    (case q156 => k_is)
    (case q157 => k_is)
    (case q158 => k_is)
    (case q159 => k_is)
    (case q160 => k_is)
    (case q161 => k_is)
    (case q162 => k_is)
    (case q163 => k_is)
    (case q164 => k_is)
    (case q165 => k_is)
    (case q166 => k_is)
    (case q167 => k_is)
    (case q168 => k_is)
    (case q169 => k_is)
    (case q170 => k_is)
    (case q171 => k_is)
    (case q172 => k_is)
    (case q173 => k_is)
    (case q174 => k_is)
    (case q175 => k_is)
    (case q176 => k_is)
    (case q177 => k_is)
    (case q178 => k_is)
    (case q179 => k_is)
    (case q180 => k_is)
    (case q181 => k_is)
    (case q182 => k_is)
    (case q183 => k_is)
    (case q184 => k_is)
    (case q185 => k_is)
    (case q186 => k_is)
    (case q187 => k_is)
    (case q188 => k_is)
    (case q189 => k_is)
    (case q190 => k_is)
    (case q191 => k_is)
    (case q192 => k_is)
    (case q193 => k_is)
    (case q194 => k_is)
    (case q195 => k_is)
    (case q196 => k_is)
    (case q197 => k_is)
    (case q198 => k_is)
    (case q199 => k_is)
    (case q200 => k_is)
    (case q201 => k_is)
    (case q202 => k_is)
    (case q203 => k_is)
    (case q204 => k_is)
    (case q205 => k_is)
    (case q206 => k_is)
    (case q207 => k_is)
    (case q208 => k_is)
    (case q209 => k_is)
    (case q210 => k_is)
    (case q211 => k_is)
    (case q212 => k_is)
    (case q213 => k_is)
    (case q214 => k_is)
    (case q215 => k_is)
    (case q216 => k_is)
    (case q217 => k_is)
    (case q218 => k_is)
    (case q219 => k_is)
    (case q220 => k_is)
    (case q221 => k_is)
    (case q222 => k_is)
    (case q223 => k_is)
    (case q224 => k_is)
    (case q225 => k_is)
    (case q226 => k_is)
    (case q227 => k_is)
    (case q228 => k_is)
    (case q229 => k_is)
    (case q230 => k_is)
    (case q231 => k_is)
    (case q232 => k_is)
    (case q233 => k_is)
    (case q234 => k_is)
    (case q235 => k_is)
    (case q236 => k_is)
    (case q237 => k_is)
    (case q238 => k_is)
    (case q239 => k_is)
    (case q240 => k_is)
    (case q241 => k_is)
    (case q242 => k_is)
    (case q243 => k_is)
    (case q244 => k_is)
    (case q245 => k_is)
    (case q246 => k_is)
    (case q247 => k_is)
    (case q248 => k_is)
    (case q249 => k_is)
    (case q250 => k_is)
    (case q251 => k_is)
    (case q252 => k_is)
    (case q253 => k_is)
    (case q254 => k_is)
    (case q255 => k_is)
    (case q256 => k_is)
    (case q257 => k_is)
    (case q258 => k_is)
    (case q259 => k_is)
    (case q260 => k_is)
    (case q261 => k_is)
    (case q262 => k_is)
    (case q263 => k_is)
    (case q264 => k_is)
    (case q265 => k_is)
    (case q266 => k_is)
    (case q267 => k_is)
    (case q268 => k_is)
    (case q269 => k_is)
    (case q270 => k_is)
    (case q271 => k_is)
    (case q272 => k_is)
    (case q273 => k_is)
    (case q274 => k_is)
    (case q275 => k_is)
    (case q276 => k_is)
    (case q277 => k_is)
    (case q278 => k_is)
    (case q279 => k_is)
    (case q280 => k_is)
    (case q281 => k_is)
    (case q282 => k_is)
    (case q283 => k_is)
    (case q284 => k_is)
    (case q285 => k_is)
    (case q286 => k_is)
    (case q287 => k_is)
    (case q288 => k_is)
    (case q289 => k_is)
    (case q290 => k_is)
    (case q291 => k_is)
    (case q292 => k_is)
    (case q293 => k_is)
    (case q294 => k_is)
    (case q295 => k_is)
    (case q296 => k_is)
    (case q297 => k_is)
    (case q298 => k_is)
    (case q299 => k_is)
    (case q300 => k_is)
    (case q301 => k_is)
    (case q302 => k_is)
    (case q303 => k_is)
    (case q304 => k_is)
    (case q305 => k_is)
    (case q306 => k_is)
    (case q307 => k_is)
    (case q308 => k_is)
    (case q309 => k_is)
    (case q310 => k_is)
    (case q311 => k_is)
    (case q312 => k_is)
    (case q313 => k_is)
    (case q314 => k_is)
    (case q315 => k_is)
    (case q316 => k_is)
    (case q317 => k_is)
    (case q318 => k_is)
    (case q319 => k_is)
    (case q320 => k_is)
    (case q321 => k_is)
    (case q322 => k_is)
    (case q323 => k_is)
    (case q324 => k_is)
    (case q325 => k_is)
    (case q326 => k_is)
    (case q327 => k_is)
    (case q328 => k_is)
    (case q329 => k_is)
    (case q330 => k_is)
    (case q331 => k_is)
    (case q332 => k_is)
    (case q333 => k_is)
    (case q334 => k_is)
    (case q335 => k_is)
    (case q336 => k_is)
    (case q337 => k_is)
    (case q338 => k_is)
    (case q339 => k_is)
    (case q340 => k_is)
    (case q341 => k_is)
    (case q342 => k_is)
    (case q343 => k_is)
    (case q344 => k_is)
    (case q345 => k_is)
    (case q346 => k_is)
    (case q347 => k_is)
    (case q348 => k_is)
    (case q349 => k_is)
    (case q350 => k_is)
    (case q351 => k_is)
    (case q352 => k_is)
    (case q353 => k_is)
    (case q354 => k_is)
    (case q355 => k_is)
    (case q356 => k_is)
    (case q357 => k_is)
    (case q358 => k_is)
    (case q359 => k_is)
    (case q360 => k_is)
    (case q361 => k_is)
    (case q362 => k_is)
    (case q363 => k_is)
    (case q364 => k_is)
    (case q365 => k_is)
    (case q366 => k_is)
    (case q367 => k_is)
end
