import PyProof.Rows.All
import HandS.ForMost
import HandS.TupAny
import HandS.IsInst
import HandS.Deep
import HandS.Zip
import HandS.Lambda
import KE.GoesMore
import KE.GoesEnum
import HandS.Style
import HandS.More
import KE.DataMinMax
import HandS.DictComp
import HandS.SortInts
import KE.SortData
import KE.DataFind
import KE.KDictCopyH
import KE.KDictSum
import HandS.ExcValue
import KE.DataCmp
import HandS.ExcOwn
import HandS.ExcIs
import HandS.RepeatKit
import HandS.Iter
import PyProof.Rows.SortShell
import HandS.TupMul
import KE.GoesSet
import HandS.Strs
import KE.KEqDict
import HandS.RaiseMore
import HandS.FStr
import HandS.TupSets
import HandS.Conv
import KE.GoesZip
import HandS.ReCall
import PyProof.DictUpdate
import PyProof.EqAt
import HandS.Steps
import KE.LtData
import KE.DatumOrd
import PySem.Challenge.RW_reachrows_k66_reserved_room
set_option Elab.async false
set_option linter.all false
set_option maxRecDepth 100000
set_option maxHeartbeats 4000000
section
namespace RR
open PySem PySem.Spec L2
open PyProof.Rows hiding St
abbrev D := PyData
abbrev DEnv := List (Option D)
def keyD : Key → D
  | .inl i => .int i
  | .inr x => .str x
/-- what stands for a datum, all of it in F -/
inductive Rp (K : PySem.W.Frag) (F : Hp) : D → V → Prop
  | non : Rp K F .none .non
  | bl (b : Bool) : Rp K F (.bool b) (.bl b)
  | int (i : Int) : Rp K F (.int i) (.int i)
  | str (x : Str) : Rp K F (.str x) (.str x)
  | lst {a : Addr} {xs : List V} {ds : List D} : F a = some (.lst xs) → xs.length = ds.length → (∀ (i : Nat) x d, xs[i]? = some x → ds[i]? = some d → Rp K F d x) → Rp K F (.list ds) (.ref a)
  | tup {a : Addr} {xs : List V} {ds : List D} : SqT K F a xs → xs.length = ds.length → (∀ (i : Nat) x d, xs[i]? = some x → ds[i]? = some d → Rp K F d x) → Rp K F (.tuple ds) (.ref a)
  | dct {a : Addr} {kvs : List (Key × V)} {ds : List (D × D)} : Rd F a (.dK kvs) → ds.map (·.1) = kvs.map (fun p => keyD p.1) → (∀ (i : Nat) x d, kvs[i]? = some x → ds[i]? = some d → Rp K F d.2 x.2) → Rp K F (.dict ds) (.ref a)
/-- the same of lists, one by one -/
structure Rps (K : PySem.W.Frag) (F : Hp) (ds : List D) (xs : List V) : Prop where
  len : xs.length = ds.length
  at_ : ∀ (i : Nat) x d, xs[i]? = some x → ds[i]? = some d → Rp K F d x
section
variable {K : PySem.W.Frag} {F F' H H' : Hp} {d : D} {v : V}
theorem Same.sqt {a : Addr} {xs : List V} (e : Same F F') (h : SqT K F a xs) : SqT K F' a xs := by
  rcases h with (h | ⟨o, h⟩) | h
  · exact .inl (.inl (e _ _ h))
  · exact .inl (.inr ⟨o, e _ _ h⟩)
  · exact .inr h
theorem Same.rd {a : Addr} {u : HO} (e : Same F F') (h : Rd F a u) : Rd F' a u := by
  rcases h with h | ⟨o, h⟩
  · exact .inl (e _ _ h)
  · exact .inr ⟨o, e _ _ h⟩
theorem Rp.mono (h : Rp K F d v) (e : Same F F') : Rp K F' d v := by
  induction h with
  | non => exact .non
  | bl b => exact .bl b
  | int i => exact .int i
  | str x => exact .str x
  | lst h1 h2 _ ih => exact .lst (e _ _ h1) h2 ih
  | tup h1 h2 _ ih => exact .tup (Same.sqt e h1) h2 ih
  | dct h1 h2 _ ih => exact .dct (Same.rd e h1) h2 ih
theorem Rps.mono {ds : List D} {xs : List V} (h : Rps K F ds xs) (e : Same F F') : Rps K F' ds xs := ⟨h.len, fun i x d a b => (h.at_ i x d a b).mono e⟩
theorem Rps.nil : Rps K F [] [] := ⟨rfl, fun i x d a => by simp at a⟩
theorem Rps.cons {ds : List D} {xs : List V} (h : Rp K F d v) (t : Rps K F ds xs) : Rps K F (d :: ds) (v :: xs) := by
  refine ⟨by simp [t.len], fun i x d' a b => ?_⟩
  cases i with
  | zero =>
    simp at a b
    subst a b
    exact h
  | succ i =>
    simp at a b
    exact t.at_ i x d' a b
theorem Rps.uncons {ds : List D} {xs : List V} (h : Rps K F (d :: ds) xs) : ∃ v r, xs = v :: r ∧ Rp K F d v ∧ Rps K F ds r := by
  cases xs with
  | nil => have := h.len; simp at this
  | cons v r =>
    refine ⟨v, r, rfl, h.at_ 0 v d rfl rfl, ?_, fun i x d' a b => h.at_ (i + 1) x d' (by simpa using a) (by simpa using b)⟩
    have := h.len
    simpa using this
theorem Rps.unnil {xs : List V} (h : Rps K F [] xs) : xs = [] := List.length_eq_zero_iff.mp h.len
theorem Rps.append {ds es : List D} {xs ys : List V} (h : Rps K F ds xs) (t : Rps K F es ys) : Rps K F (ds ++ es) (xs ++ ys) := by
  induction ds generalizing xs with
  | nil => rw [h.unnil]; exact t
  | cons d ds ih =>
    obtain ⟨v, r, rfl, h1, h2⟩ := h.uncons
    exact .cons h1 (ih h2)
theorem Rps.get {ds : List D} {xs : List V} (h : Rps K F ds xs) {i : Nat} (e : ds[i]? = some d) : ∃ v, xs[i]? = some v ∧ Rp K F d v := by
  have hi : i < xs.length := by rw [h.len]; exact (List.getElem?_eq_some_iff.mp e).1
  exact ⟨xs[i], by simp [hi], h.at_ i _ d (by simp [hi]) e⟩
theorem Rps.set {ds : List D} {xs : List V} (h : Rps K F ds xs) (i : Nat) (r : Rp K F d v) : Rps K F (ds.set i d) (xs.set i v) := by
  refine ⟨by simp [h.len], fun j x d' a b => ?_⟩
  by_cases e : i = j
  · subst e
    rw [List.getElem?_set] at a b
    simp at a b
    obtain ⟨_, rfl⟩ := a
    obtain ⟨_, rfl⟩ := b
    exact r
  · rw [List.getElem?_set_ne e] at a b
    exact h.at_ j x d' a b
theorem Rps.take {ds : List D} {xs : List V} (h : Rps K F ds xs) (n : Nat) : Rps K F (ds.take n) (xs.take n) := by
  refine ⟨by simp [h.len], fun j x d' a b => ?_⟩
  rw [List.getElem?_take] at a b
  split at a
  · rename_i hj
    rw [if_pos hj] at b
    exact h.at_ j x d' a b
  · cases a
theorem Rps.drop {ds : List D} {xs : List V} (h : Rps K F ds xs) (n : Nat) : Rps K F (ds.drop n) (xs.drop n) := by
  refine ⟨by simp [h.len], fun j x d' a b => ?_⟩
  rw [List.getElem?_drop] at a b
  exact h.at_ _ x d' a b
theorem Rps.reverse {ds : List D} {xs : List V} (h : Rps K F ds xs) : Rps K F ds.reverse xs.reverse := by
  induction ds generalizing xs with
  | nil => rw [h.unnil]; exact .nil
  | cons d ds ih =>
    obtain ⟨v, r, rfl, h1, h2⟩ := h.uncons
    rw [List.reverse_cons, List.reverse_cons]
    exact (ih h2).append (.cons h1 .nil)
theorem Rp.int_inv {i : Int} (h : Rp K F (.int i) v) : v = .int i := by cases h; rfl
theorem Rp.bl_inv {b : Bool} (h : Rp K F (.bool b) v) : v = .bl b := by cases h; rfl
theorem Rp.str_inv {x : Str} (h : Rp K F (.str x) v) : v = .str x := by cases h; rfl
theorem Rp.lst_inv {ds : List D} (h : Rp K F (.list ds) v) : ∃ a xs, v = .ref a ∧ F a = some (.lst xs) ∧ Rps K F ds xs := by
  cases h with
  | lst h1 h2 h3 => exact ⟨_, _, rfl, h1, h2, h3⟩
theorem Rp.tup_inv {ds : List D} (h : Rp K F (.tuple ds) v) : ∃ a xs, v = .ref a ∧ SqT K F a xs ∧ Rps K F ds xs := by
  cases h with
  | tup h1 h2 h3 => exact ⟨_, _, rfl, h1, h2, h3⟩
theorem Rp.of_lst {ds : List D} {a : Addr} {xs : List V} (h : F a = some (.lst xs)) (r : Rps K F ds xs) : Rp K F (.list ds) (.ref a) := .lst h r.len r.at_
theorem Rp.of_tup {ds : List D} {a : Addr} {xs : List V} (h : SqT K F a xs) (r : Rps K F ds xs) : Rp K F (.tuple ds) (.ref a) := .tup h r.len r.at_
end
/-- new things alone -/
structure Gr (F H F' H' : Hp) : Prop where
  f : Same F F'
  fh : Same F' H'
  h : Same H H'
  new : ∀ a o, F' a = some o → F a = some o ∨ H a = none
theorem Gr.refl {F H : Hp} (h : Same F H) : Gr F H F H := ⟨.refl _, h, .refl _, fun _ _ e => .inl e⟩
theorem Gr.trans {F H F1 H1 F2 H2 : Hp} (a : Gr F H F1 H1) (b : Gr F1 H1 F2 H2) : Gr F H F2 H2 := by
  refine ⟨a.f.trans b.f, b.fh, a.h.trans b.h, fun p o e => ?_⟩
  rcases b.new p o e with q | q
  · exact a.new p o q
  · exact .inr (a.h.free q)
theorem same_up {H : Hp} {p : Addr} {o : HO} (h : H p = none) : Same H (upd H p o) := fun b x e => by
  rw [upd_ne (ne_of_none e h)]
  exact e
/-- a new object, frozen at once -/
theorem Gr.new1 {F H : Hp} {p : Addr} (h : Same F H) (n : H p = none) (o : HO) : Gr F H (upd F p o) (upd H p o) := by
  refine ⟨same_up (h.free n), fun b x e => ?_, same_up n, fun b x e => ?_⟩
  · by_cases hb : b = p
    · subst hb; rw [upd_same] at e ⊢; exact e
    · rw [upd_ne hb] at e ⊢; exact h _ _ e
  · by_cases hb : b = p
    · subst hb; exact .inr n
    · rw [upd_ne hb] at e; exact .inl e
/-- a new object, not frozen -/
theorem Gr.new0 {F H : Hp} {p : Addr} (h : Same F H) (n : H p = none) (o : HO) : Gr F H F (upd H p o) :=
  ⟨.refl _, h.trans (same_up n), same_up n, fun _ _ e => .inl e⟩
/-- the drawing list: its drawn cells, how many were spread, what is left -/
def PenAt (dr : Addr) (F H : Hp) (a : Addr) (n : Nat) : Prop := ∃ (w l : Int) (xs : List Int), H a = some (.lst [.ref dr, .int w, .int l]) ∧ F dr = some (.lst (xs.map V.int)) ∧ 0 ≤ w ∧ w ≤ n ∧ 0 ≤ l
/-- the list of drawn cells; the tables of code objects, each with its lambdas' name -/
structure DrT where
  ad : Addr
  tb : List (Addr × Str)
instance {n : Nat} : OfNat DrT n := ⟨⟨n, []⟩⟩
structure Pm where
  K : PySem.W.Frag
  /-- the drawing list's address and slot -/
  ap : Option (Addr × Nat)
  /-- the list of its drawn cells -/
  dr : DrT
/-- what may change: the drawing list, the tables -/
def Pm.isPen (p : Pm) (a : Addr) : Prop := ∃ b i, p.ap = some (b, i) ∧ (a = b ∨ ∃ q ∈ p.dr.tb, q.1 = a)
/-- the tables: each code object that they tell is frozen and bears the name -/
def TabF (T : List (Addr × Str)) (F H : Hp) : Prop := ∀ q ∈ T, F q.1 = none ∧ ∃ ps : Array Value, H q.1 = some (.tbl ps) ∧ TriplesOk ps.toList ∧ ∀ (pos : Pos) (cv : Value), codeAmong pos ps.toList = some cv → ∃ c, cv = .ref c ∧ F c = some (LamX.CodeO c q.2)
theorem TabF.nil {F H : Hp} : TabF [] F H := fun _ h => nomatch h
theorem TabF.up {T : List (Addr × Str)} {F H F' H' : Hp} (t : TabF T F H) (ff : Same F F') (fn : ∀ q ∈ T, F' q.1 = none) (hh : ∀ q ∈ T, ∀ o, H q.1 = some o → H' q.1 = some o) : TabF T F' H' := fun q hq => by
  obtain ⟨_, ps, e, t3, c⟩ := t q hq
  refine ⟨fn q hq, ps, hh q hq _ e, t3, fun pos cv h => ?_⟩
  obtain ⟨c, e1, e2⟩ := c pos cv h
  exact ⟨c, e1, ff _ _ e2⟩
/-- a local's own list or dict: nobody else knows it -/
inductive Own (K : PySem.W.Frag) (F H : Hp) : D → Addr → Prop
  | lst {a : Addr} {xs : List V} {ds : List D} : H a = some (.lst xs) → Rps K F ds xs → Own K F H (.list ds) a
  | dct {a : Addr} {kvs : List (Key × V)} {ds : List (D × D)} : H a = some (.dK kvs) → ds.map (·.1) = kvs.map (fun p => keyD p.1) → (∀ (i : Nat) x d, kvs[i]? = some x → ds[i]? = some d → Rp K F d.2 x.2) → Own K F H (.dict ds) a
/-- F: what stands frozen; O: the slots that hold things of their own; F0, H0: at the def's entry -/
structure Sep (p : Pm) (F0 H0 : Hp) (O : List Nat) (F H : Hp) (σ : St) (Γ : DEnv) (n : Nat) : Prop where
  f0 : Same F0 F
  fh : Same F H
  stay : ∀ a o, H0 a = some o → ¬ p.isPen a → H a = some o
  newF : ∀ a o, F a = some o → F0 a = some o ∨ H0 a = none
  pen : ∀ a i, p.ap = some (a, i) → F a = none ∧ σ[i]? = some (some (.ref a)) ∧ PenAt p.dr.ad F H a n ∧ TabF p.dr.tb F H
  len : σ.length = Γ.length
  sh : ∀ i d, i ∉ O → Γ[i]? = some (some d) → ∃ v, σ[i]? = some (some v) ∧ Rp p.K F d v
  ow : ∀ i ∈ O, ∀ d, Γ[i]? = some (some d) → ∃ a, σ[i]? = some (some (.ref a)) ∧ Own p.K F H d a ∧ F a = none ∧ H0 a = none ∧ ¬ p.isPen a
  dj : ∀ i ∈ O, ∀ j ∈ O, i ≠ j → ∀ a di dj, Γ[i]? = some (some di) → Γ[j]? = some (some dj) → σ[i]? = some (some (.ref a)) → σ[j]? = some (some (.ref a)) → False
section
variable {p : Pm} {F0 H0 F H F' H' : Hp} {O O' : List Nat} {σ : St} {Γ : DEnv} {n : Nat}
theorem Own.gr {K : PySem.W.Frag} {d : D} {a : Addr} (h : Own K F H d a) (g : Gr F H F' H') : Own K F' H' d a := by
  cases h with
  | lst e r => exact .lst (g.h _ _ e) (r.mono g.f)
  | dct e q r => exact .dct (g.h _ _ e) q fun i x d a b => (r i x d a b).mono g.f
theorem Own.notCode {K : PySem.W.Frag} {d : D} {a : Addr} {o : HO} {q : Str} (h : Own K F H d a) (e : H a = some o) : ∀ c : Addr, o = LamX.CodeO c q → False := fun c z => by
  subst z
  unfold LamX.CodeO at e
  cases h with
  | lst e1 _ => rw [e] at e1; cases e1
  | dct e1 _ _ => rw [e] at e1; cases e1
theorem Own.at {K : PySem.W.Frag} {d : D} {a : Addr} (h : Own K F H d a) : ∃ o, H a = some o := by
  cases h with
  | lst e r => exact ⟨_, e⟩
  | dct e q r => exact ⟨_, e⟩
theorem PenAt.at {a dr : Addr} (h : PenAt dr F H a n) : ∃ o, H a = some o := by
  obtain ⟨_, _, _, e, _⟩ := h
  exact ⟨_, e⟩
theorem PenAt.gr {a dr : Addr} (h : PenAt dr F H a n) (g : Gr F H F' H') : PenAt dr F' H' a n := by
  obtain ⟨w, l, xs, e, q, r⟩ := h
  exact ⟨w, l, xs, g.h _ _ e, g.f _ _ q, r⟩
theorem Gr.none {a : Addr} (g : Gr F H F' H') (h : F a = none) (e : ∃ o, H a = some o) : F' a = none := by
  cases q : F' a with
  | none => rfl
  | some o =>
    obtain ⟨u, e⟩ := e
    rcases g.new a o q with z | z
    · rw [h] at z; cases z
    · rw [e] at z; cases z
theorem Sep.gr (s : Sep p F0 H0 O F H σ Γ n) (g : Gr F H F' H') : Sep p F0 H0 O F' H' σ Γ n where
  f0 := s.f0.trans g.f
  fh := g.fh
  stay := fun a o e q => g.h _ _ (s.stay a o e q)
  newF := fun a o e => by
    rcases g.new a o e with z | z
    · exact s.newF a o z
    · cases q : H0 a with
      | none => exact .inr rfl
      | some u =>
        by_cases hp : p.isPen a
        · obtain ⟨b, i, hp, rfl | ⟨qt, hq, rfl⟩⟩ := hp
          · obtain ⟨x, e1⟩ := (s.pen _ i hp).2.2.1.at
            rw [e1] at z; cases z
          · obtain ⟨_, ps, e1, _⟩ := (s.pen b i hp).2.2.2 qt hq
            rw [e1] at z; cases z
        · have := s.stay a u q hp
          rw [this] at z; cases z
  pen := fun a i e => let ⟨h1, h2, h3⟩ := s.pen a i e; ⟨g.none h1 h3.1.at, h2, h3.1.gr g, h3.2.up g.f (fun q hq => g.none (h3.2 q hq).1 (let ⟨_, ps, e, _⟩ := h3.2 q hq; ⟨_, e⟩)) (fun q _ o e => g.h _ _ e)⟩
  len := s.len
  sh := fun i d h e => let ⟨v, e1, r⟩ := s.sh i d h e; ⟨v, e1, r.mono g.f⟩
  ow := fun i hi d e => let ⟨a, e1, o, f, h, q⟩ := s.ow i hi d e; ⟨a, e1, o.gr g, g.none f o.at, h, q⟩
  dj := s.dj
end
/-- what an expression may do: new things, and draws -/
structure Gp (p : Pm) (F H F' H' : Hp) : Prop where
  f : Same F F'
  h : ∀ a o, H a = some o → ¬ p.isPen a → H' a = some o
  new : ∀ a o, F' a = some o → F a = some o ∨ H a = none ∨ p.isPen a
theorem Gp.refl {p : Pm} {F H : Hp} : Gp p F H F H := ⟨.refl _, fun _ _ e _ => e, fun _ _ e => .inl e⟩
theorem Gp.trans {p : Pm} {F H F1 H1 F2 H2 : Hp} (a : Gp p F H F1 H1) (b : Gp p F1 H1 F2 H2) : Gp p F H F2 H2 := by
  refine ⟨a.f.trans b.f, fun q o e hp => b.h q o (a.h q o e hp) hp, fun q o e => ?_⟩
  rcases b.new q o e with z | z | z
  · exact a.new q o z
  · by_cases hp : p.isPen q
    · exact .inr (.inr hp)
    · cases w : H q with
      | none => exact .inr (.inl rfl)
      | some u =>
        rw [a.h q u w hp] at z
        cases z
  · exact .inr (.inr z)
theorem Gr.gp {p : Pm} {F H F' H' : Hp} (g : Gr F H F' H') : Gp p F H F' H' := ⟨g.f, fun a o e _ => g.h a o e, fun a o e => (g.new a o e).elim .inl fun z => .inr (.inl z)⟩
abbrev ME := DEnv → Nat → (D → Nat → Prop) → Prop
abbrev MT := DEnv → Nat → (Bool → Nat → Prop) → Prop
abbrev MA := DEnv → Nat → (List D → Nat → Prop) → Prop
abbrev MF := List D → Nat → (D → Nat → Prop) → Prop
structure EndsD where
  nx : DEnv → Nat → Prop
  rt : D → Nat → Prop
  bk : DEnv → Nat → Prop := fun _ _ => False
  ct : DEnv → Nat → Prop := fun _ _ => False
abbrev MS := EndsD → DEnv → Nat → Prop
abbrev MG := D → DEnv → (DEnv → Prop) → Prop
/-- a reading t tells the meaning m -/
def LE (p : Pm) (O : List Nat) (t : TE) (m : ME) : Prop :=
  ∀ F0 H0 F H σ Γ n (Q : D → Nat → Prop), Sep p F0 H0 O F H σ Γ n → m Γ n Q → ∀ Q' : VK,
    (∀ d v F' H' n', Sep p F0 H0 O F' H' σ Γ n' → Gp p F H F' H' → Rp p.K F' d v → Q d n' → Q' v H') → t σ H Q'
def LT (p : Pm) (O : List Nat) (t : TT) (m : MT) : Prop :=
  ∀ F0 H0 F H σ Γ n (Q : Bool → Nat → Prop), Sep p F0 H0 O F H σ Γ n → m Γ n Q → ∀ Q' : Bool → Hp → Prop,
    (∀ b F' H' n', Sep p F0 H0 O F' H' σ Γ n' → Gp p F H F' H' → Q b n' → Q' b H') → t σ H Q'
def LA (p : Pm) (O : List Nat) (t : TA) (m : MA) : Prop :=
  ∀ F0 H0 F H σ Γ n (Q : List D → Nat → Prop), Sep p F0 H0 O F H σ Γ n → m Γ n Q → ∀ Q' : List V → Hp → Prop,
    (∀ ds vs F' H' n', Sep p F0 H0 O F' H' σ Γ n' → Gp p F H F' H' → Rps p.K F' ds vs → Q ds n' → Q' vs H') → t σ H Q'
/-- behind a return: what the slots hold is nothing to us -/
structure Fin0 (p : Pm) (F0 H0 F H : Hp) (n : Nat) : Prop where
  f0 : Same F0 F
  fh : Same F H
  stay : ∀ a o, H0 a = some o → ¬ p.isPen a → H a = some o
  newF : ∀ a o, F a = some o → F0 a = some o ∨ H0 a = none
  pen : ∀ a i, p.ap = some (a, i) → F a = none ∧ PenAt p.dr.ad F H a n ∧ TabF p.dr.tb F H
theorem Sep.fin {p : Pm} {F0 H0 F H : Hp} {O : List Nat} {σ : St} {Γ : DEnv} {n : Nat} (s : Sep p F0 H0 O F H σ Γ n) : Fin0 p F0 H0 F H n :=
  ⟨s.f0, s.fh, s.stay, s.newF, fun a i e => ⟨(s.pen a i e).1, (s.pen a i e).2.2⟩⟩
def LS (p : Pm) (Ob O O' : List Nat) (t : TS) (m : MS) : Prop :=
  ∀ F0 H0 F H σ Γ n (E : EndsD), Sep p F0 H0 O F H σ Γ n → m E Γ n → ∀ E' : Ends,
    (∀ F' H' σ' Γ' n', Sep p F0 H0 O' F' H' σ' Γ' n' → Same F F' → E.nx Γ' n' → E'.nx σ' H') →
    (∀ d v F' H' n', Fin0 p F0 H0 F' H' n' → Rp p.K F' d v → E.rt d n' → E'.rt v H') →
    (∀ F' H' σ' Γ' n', Sep p F0 H0 Ob F' H' σ' Γ' n' → Same F F' → E.bk Γ' n' → E'.bk σ' H') →
    (∀ F' H' σ' Γ' n', Sep p F0 H0 Ob F' H' σ' Γ' n' → Same F F' → E.ct Γ' n' → E'.ct σ' H') → t E' σ H
structure RE (X : Cx) (p : Pm) (O : List Nat) (e : Expr) (t : TE) (m : ME) : Prop where
  pe : PE X e t
  le : LE p O t m
structure RT (X : Cx) (p : Pm) (O : List Nat) (e : Expr) (t : TT) (m : MT) : Prop where
  pt : PT X e t
  le : LT p O t m
structure RW (X : Cx) (p : Pm) (O : List Nat) (e : Expr) (t : TT) (m : MT) : Prop where
  pw : PW X e t
  le : LT p O t m
structure RA (X : Cx) (p : Pm) (O : List Nat) (es : List Expr) (t : TA) (m : MA) : Prop where
  pa : PA X es t
  le : LA p O t m
structure RS (X : Cx) (p : Pm) (Ob O O' : List Nat) (st : Stmt) (t : TS) (m : MS) : Prop where
  ps : PS X st t
  le : LS p Ob O O' t m
structure RSs (X : Cx) (p : Pm) (Ob O O' : List Nat) (sts : List Stmt) (t : TS) (m : MS) : Prop where
  ps : PSs X sts t
  le : LS p Ob O O' t m
end RR
end
section
namespace RR
open PySem PySem.Spec L2
open PyProof.Rows hiding St
section
variable {X : Cx} {p : Pm} {O : List Nat} {a b c e : Expr} {pos : Pos} {ta tb tc te : TE} {ma mb mc me : ME}
@[reducible] def mVar (i : Nat) : ME := fun Γ n Q => ∃ d, Γ[i]? = some (some d) ∧ Q d n
@[reducible] def mC (d : D) : ME := fun _ n Q => Q d n
theorem e_var {x : Str} (i : Nat) (h : PE X (.Name x pos) (tVar i)) (hO : i ∉ O) : RE X p O (.Name x pos) (tVar i) (mVar i) :=
  ⟨h, fun F0 H0 F H σ Γ n Q s ⟨d, e, q⟩ Q' k => by
    obtain ⟨v, e1, r⟩ := s.sh i d hO e
    exact ⟨v, e1, k d v F H n s .refl r q⟩⟩
theorem le_c {v : V} {d : D} (r : ∀ K F, Rp K F d v) : LE p O (tC v) (mC d) := fun F0 H0 F H σ Γ n Q s q Q' k => k d v F H n s .refl (r _ _) q
theorem e_int {i j} : RE X p O (.Constant (.int i) j pos) (tC (.int i)) (mC (.int i)) := ⟨pe_int, le_c fun _ _ => .int i⟩
theorem e_bl {i j} : RE X p O (.Constant (.bool i) j pos) (tC (.bl i)) (mC (.bool i)) := ⟨pe_bl, le_c fun _ _ => .bl i⟩
theorem e_non {j} : RE X p O (.Constant .none j pos) (tC .non) (mC .none) := ⟨pe_non, le_c fun _ _ => .non⟩
theorem e_str {i j} : RE X p O (.Constant (.str i) j pos) (tC (.str i)) (mC (.str i)) := ⟨pe_str, le_c fun _ _ => .str i⟩
/-- a constant of the module -/
theorem e_glob {x : Str} {v : V} {u : Value} {d : D} (hg : Gl X x) (hm : X.mg x = some u) (r : RelV v u) (w : ∀ F, Rp p.K F d v) (hd : (x == ("__debug__" : Str)) = false := by decide) : RE X p O (.Name x pos) (tC v) (mC d) :=
  ⟨pe_glob hg hm r hd, fun F0 H0 F H σ Γ n Q s q Q' k => k d v F H n s .refl (w F) q⟩
/-- a reading by values tells a partial function of data -/
def OpL (K : PySem.W.Frag) (r : R2) (f : D → D → Option D) : Prop := ∀ F H x y dx dy d, Same F H → Rp K F dx x → Rp K F dy y → f dx dy = some d →
  ∀ Q' : VK, (∀ v F' H', Gr F H F' H' → Rp K F' d v → Q' v H') → r x y H Q'
def UnL (K : PySem.W.Frag) (r : V → Hp → VK → Prop) (f : D → Option D) : Prop := ∀ F H x dx d, Same F H → Rp K F dx x → f dx = some d →
  ∀ Q' : VK, (∀ v F' H', Gr F H F' H' → Rp K F' d v → Q' v H') → r x H Q'
def ClL (K : PySem.W.Frag) (r : List V → Hp → VK → Prop) (f : List D → Option D) : Prop := ∀ F H xs ds d, Same F H → Rps K F ds xs → f ds = some d →
  ∀ Q' : VK, (∀ v F' H', Gr F H F' H' → Rp K F' d v → Q' v H') → r xs H Q'
@[reducible] def mOp (f : D → D → Option D) (ma mb : ME) : ME := fun Γ n Q => ma Γ n fun x n1 => mb Γ n1 fun y n2 => ∃ d, f x y = some d ∧ Q d n2
@[reducible] def mUn (f : D → Option D) (ma : ME) : ME := fun Γ n Q => ma Γ n fun x n1 => ∃ d, f x = some d ∧ Q d n1
theorem le_op {r : R2} {f : D → D → Option D} (l : OpL p.K r f) (ha : LE p O ta ma) (hb : LE p O tb mb) : LE p O (tOp r ta tb) (mOp f ma mb) :=
  fun F0 H0 F H σ Γ n Q s q Q' k => by
    refine ha F0 H0 F H σ Γ n _ s q _ fun dx x F1 H1 n1 s1 e1 r1 q1 => ?_
    refine hb F0 H0 F1 H1 σ Γ n1 _ s1 q1 _ fun dy y F2 H2 n2 s2 e2 r2 ⟨d, fe, q2⟩ => ?_
    refine l F2 H2 x y dx dy d s2.fh (r1.mono e2.f) r2 fe _ fun v F3 H3 g r3 => ?_
    exact k d v F3 H3 n2 (s2.gr g) ((e1.trans e2).trans g.gp) r3 q2
theorem le_un {r : V → Hp → VK → Prop} {f : D → Option D} (l : UnL p.K r f) (ha : LE p O ta ma) : LE p O (tUn r ta) (mUn f ma) :=
  fun F0 H0 F H σ Γ n Q s q Q' k => by
    refine ha F0 H0 F H σ Γ n _ s q _ fun dx x F1 H1 n1 s1 e1 r1 ⟨d, fe, q1⟩ => ?_
    refine l F1 H1 x dx d s1.fh r1 fe _ fun v F3 H3 g r3 => ?_
    exact k d v F3 H3 n1 (s1.gr g) (e1.trans g.gp) r3 q1
theorem e_op {op : Operator} {r : R2} {f : D → D → Option D} (ho : OpR X (binaryOp op) r) (l : OpL p.K r f) (ha : RE X p O a ta ma) (hb : RE X p O b tb mb) : RE X p O (.BinOp a op b pos) (tOp r ta tb) (mOp f ma mb) :=
  ⟨pe_op ho ha.pe hb.pe, le_op l ha.le hb.le⟩
theorem e_un {op : UnaryOp} {r : V → Hp → VK → Prop} {f : D → Option D} (ho : UnR X (unaryOp op) r) (l : UnL p.K r f) (ha : RE X p O a ta ma) : RE X p O (.UnaryOp op a pos) (tUn r ta) (mUn f ma) :=
  ⟨pe_un ho ha.pe, le_un l ha.le⟩
theorem e_cmp {op : CmpOp} {r : R2} {f : D → D → Option D} (ho : OpR X (compareOp op) r) (l : OpL p.K r f) (ha : RE X p O a ta ma) (hb : RE X p O b tb mb) (hm : behindInMarks op b = false) : RE X p O (.Compare a [op] [b] pos) (tOp r ta tb) (mOp f ma mb) :=
  ⟨pe_cmpR ho ha.pe hb.pe hm, le_op l ha.le hb.le⟩
/-- a value that is True or False, as a test -/
@[reducible] def mTest (m : ME) : MT := fun Γ n Q => m Γ n fun d n1 => ∃ b, d = .bool b ∧ Q b n1
theorem lt_test {t : TE} {m : ME} (h : LE p O t m) : LT p O (tTest t) (mTest m) := fun F0 H0 F H σ Γ n Q s q Q' k =>
  h F0 H0 F H σ Γ n _ s q _ fun d v F1 H1 n1 s1 e1 r1 ⟨b, eb, q1⟩ => by
    subst eb
    exact ⟨b, r1.bl_inv, k b F1 H1 n1 s1 e1 q1⟩
theorem t_cmp {op : CmpOp} {r : R2} {f : D → D → Option D} (ho : OpR X (compareOp op) r) (l : OpL p.K r f) (ha : RE X p O a ta ma) (hb : RE X p O b tb mb) (hm : behindInMarks op b = false) : RT X p O (.Compare a [op] [b] pos) (tTest (tOp r ta tb)) (mTest (mOp f ma mb)) :=
  ⟨pt_cmpR ho ha.pe hb.pe hm, lt_test (le_op l ha.le hb.le)⟩
theorem t_val (ha : RE X p O a ta ma) (he : ∀ whole, isTrue a X.env whole = (do let v ← whole; standAt a.pos; holding [v] (truthy v)) := by intro _; rfl) : RT X p O a (tB ta) (mTest ma) :=
  ⟨pt_val ha.pe he, lt_test ha.le⟩
/-- a < b < c -/
@[reducible] def mChain (f g : D → D → Option D) (ma mb mc : ME) : ME := fun Γ n Q => ma Γ n fun x n1 => mb Γ n1 fun y n2 => ∃ k, f x y = some (.bool k) ∧ if k = true then mc Γ n2 fun z n3 => ∃ d, g y z = some d ∧ Q d n3 else Q (.bool false) n2
theorem le_chain {r r' : R2} {f g : D → D → Option D} (l : OpL p.K r f) (l' : OpL p.K r' g) (ha : LE p O ta ma) (hb : LE p O tb mb) (hc : LE p O tc mc) : LE p O (tChain r r' ta tb tc) (mChain f g ma mb mc) :=
  fun F0 H0 F H σ Γ n Q s q Q' k => by
    refine ha F0 H0 F H σ Γ n _ s q _ fun dx x F1 H1 n1 s1 e1 r1 q1 => ?_
    refine hb F0 H0 F1 H1 σ Γ n1 _ s1 q1 _ fun dy y F2 H2 n2 s2 e2 r2 ⟨d, fe, q2⟩ => ?_
    refine l F2 H2 x y dx dy _ s2.fh (r1.mono e2.f) r2 fe _ fun v F3 H3 g3 r3 => ?_
    refine ⟨d, r3.bl_inv, ?_⟩
    cases d with
    | true =>
      rw [if_pos rfl] at q2 ⊢
      refine hc F0 H0 F3 H3 σ Γ n2 _ (s2.gr g3) q2 _ fun dz z F4 H4 n4 s4 e4 r4 ⟨d, ge, q4⟩ => ?_
      refine l' F4 H4 y z dy dz d s4.fh (r2.mono (g3.f.trans e4.f)) r4 ge _ fun v F5 H5 g5 r5 => ?_
      exact k d v F5 H5 n4 (s4.gr g5) ((((e1.trans e2).trans g3.gp).trans e4).trans g5.gp) r5 q4
    | false =>
      rw [if_neg (by decide)] at q2 ⊢
      exact k _ _ F3 H3 n2 (s2.gr g3) ((e1.trans e2).trans g3.gp) (.bl false) q2
theorem e_chain {op op' : CmpOp} {r r' : R2} {f g : D → D → Option D} (ho : OpR X (compareOp op) r) (l : OpL p.K r f) (ho' : OpR X (compareOp op') r') (l' : OpL p.K r' g) (ha : RE X p O a ta ma) (hb : RE X p O b tb mb) (hc : RE X p O c tc mc)
    (h : PE X (.Compare a [op, op'] [b, c] pos) (tChain r r' ta tb tc)) : RE X p O (.Compare a [op, op'] [b, c] pos) (tChain r r' ta tb tc) (mChain f g ma mb mc) := ⟨h, le_chain l l' ha.le hb.le hc.le⟩
theorem t_chain {op op' : CmpOp} {r r' : R2} {f g : D → D → Option D} (ho : OpR X (compareOp op) r) (l : OpL p.K r f) (ho' : OpR X (compareOp op') r') (l' : OpL p.K r' g) (ha : RE X p O a ta ma) (hb : RE X p O b tb mb) (hc : RE X p O c tc mc)
    (h : PT X (.Compare a [op, op'] [b, c] pos) (tTest (tChain r r' ta tb tc))) : RT X p O (.Compare a [op, op'] [b, c] pos) (tTest (tChain r r' ta tb tc)) (mTest (mChain f g ma mb mc)) := ⟨h, lt_test (le_chain l l' ha.le hb.le hc.le)⟩
variable {tA tB' : TT} {mA mB : MT} {rest : List Expr}
@[reducible] def mAnd (m u : MT) : MT := fun Γ n Q => m Γ n fun c n1 => if c = true then u Γ n1 Q else Q false n1
@[reducible] def mOr (m u : MT) : MT := fun Γ n Q => m Γ n fun c n1 => if c = true then Q true n1 else u Γ n1 Q
@[reducible] def mNot (m : MT) : MT := fun Γ n Q => m Γ n fun c n1 => Q (!c) n1
theorem lt_and (ha : LT p O tA mA) (hb : LT p O tB' mB) : LT p O (tAnd tA tB') (mAnd mA mB) := fun F0 H0 F H σ Γ n Q s q Q' k =>
  ha F0 H0 F H σ Γ n _ s q _ fun c F1 H1 n1 s1 e1 q1 => by
    cases c with
    | true =>
      rw [if_pos rfl] at q1 ⊢
      exact hb F0 H0 F1 H1 σ Γ n1 Q s1 q1 Q' fun b F2 H2 n2 s2 e2 q2 => k b F2 H2 n2 s2 (e1.trans e2) q2
    | false =>
      rw [if_neg (by decide)] at q1 ⊢
      exact k false F1 H1 n1 s1 e1 q1
theorem lt_or (ha : LT p O tA mA) (hb : LT p O tB' mB) : LT p O (tOr tA tB') (mOr mA mB) := fun F0 H0 F H σ Γ n Q s q Q' k =>
  ha F0 H0 F H σ Γ n _ s q _ fun c F1 H1 n1 s1 e1 q1 => by
    cases c with
    | true =>
      rw [if_pos rfl] at q1 ⊢
      exact k true F1 H1 n1 s1 e1 q1
    | false =>
      rw [if_neg (by decide)] at q1 ⊢
      exact hb F0 H0 F1 H1 σ Γ n1 Q s1 q1 Q' fun b F2 H2 n2 s2 e2 q2 => k b F2 H2 n2 s2 (e1.trans e2) q2
theorem lt_not (ha : LT p O tA mA) : LT p O (tNot tA) (mNot mA) := fun F0 H0 F H σ Γ n Q s q Q' k =>
  ha F0 H0 F H σ Γ n _ s q _ fun c F1 H1 n1 s1 e1 q1 => k (!c) F1 H1 n1 s1 e1 q1
theorem w_and1 (ha : RT X p O a tA mA) : RW X p O (.BoolOp .And [a] pos) tA mA := ⟨pw_and1 ha.pt, ha.le⟩
theorem w_or1 (ha : RT X p O a tA mA) : RW X p O (.BoolOp .Or [a] pos) tA mA := ⟨pw_or1 ha.pt, ha.le⟩
theorem w_and (ha : RT X p O a tA mA) (hb : RW X p O (.BoolOp .And (b :: rest) pos) tB' mB) : RW X p O (.BoolOp .And (a :: b :: rest) pos) (tAnd tA tB') (mAnd mA mB) := ⟨pw_and ha.pt hb.pw, lt_and ha.le hb.le⟩
theorem w_or (ha : RT X p O a tA mA) (hb : RW X p O (.BoolOp .Or (b :: rest) pos) tB' mB) : RW X p O (.BoolOp .Or (a :: b :: rest) pos) (tOr tA tB') (mOr mA mB) := ⟨pw_or ha.pt hb.pw, lt_or ha.le hb.le⟩
theorem RW.t (h : RW X p O a tA mA) : RT X p O a tA mA := ⟨h.pw.pt, h.le⟩
theorem t_not (ha : RT X p O a tA mA) : RT X p O (.UnaryOp .Not a pos) (tNot tA) (mNot mA) := ⟨pt_not ha.pt, lt_not ha.le⟩
/-- as values -/
@[reducible] def mAndV (m u : ME) : ME := fun Γ n Q => m Γ n fun x n1 => ∃ c, x = .bool c ∧ if c = true then u Γ n1 Q else Q (.bool false) n1
@[reducible] def mOrV (m u : ME) : ME := fun Γ n Q => m Γ n fun x n1 => ∃ c, x = .bool c ∧ if c = true then Q (.bool true) n1 else u Γ n1 Q
@[reducible] def mNotV (m : ME) : ME := fun Γ n Q => m Γ n fun x n1 => ∃ c, x = .bool c ∧ Q (.bool (!c)) n1
theorem le_andV (ha : LE p O ta ma) (hb : LE p O tb mb) : LE p O (tAndV ta tb) (mAndV ma mb) := fun F0 H0 F H σ Γ n Q s q Q' k =>
  ha F0 H0 F H σ Γ n _ s q _ fun d v F1 H1 n1 s1 e1 r1 ⟨c, ec, q1⟩ => by
    subst ec
    refine ⟨c, r1.bl_inv, ?_⟩
    cases c with
    | true =>
      rw [if_pos rfl] at q1 ⊢
      exact hb F0 H0 F1 H1 σ Γ n1 Q s1 q1 Q' fun d v F2 H2 n2 s2 e2 r2 q2 => k d v F2 H2 n2 s2 (e1.trans e2) r2 q2
    | false =>
      rw [if_neg (by decide)] at q1 ⊢
      exact k _ _ F1 H1 n1 s1 e1 (.bl false) q1
theorem le_orV (ha : LE p O ta ma) (hb : LE p O tb mb) : LE p O (tOrV ta tb) (mOrV ma mb) := fun F0 H0 F H σ Γ n Q s q Q' k =>
  ha F0 H0 F H σ Γ n _ s q _ fun d v F1 H1 n1 s1 e1 r1 ⟨c, ec, q1⟩ => by
    subst ec
    refine ⟨c, r1.bl_inv, ?_⟩
    cases c with
    | true =>
      rw [if_pos rfl] at q1 ⊢
      exact k _ _ F1 H1 n1 s1 e1 (.bl true) q1
    | false =>
      rw [if_neg (by decide)] at q1 ⊢
      exact hb F0 H0 F1 H1 σ Γ n1 Q s1 q1 Q' fun d v F2 H2 n2 s2 e2 r2 q2 => k d v F2 H2 n2 s2 (e1.trans e2) r2 q2
theorem le_notV (ha : LE p O ta ma) : LE p O (tNotV ta) (mNotV ma) := fun F0 H0 F H σ Γ n Q s q Q' k =>
  ha F0 H0 F H σ Γ n _ s q _ fun d v F1 H1 n1 s1 e1 r1 ⟨c, ec, q1⟩ => by
    subst ec
    exact ⟨c, r1.bl_inv, k _ _ F1 H1 n1 s1 e1 (.bl _) q1⟩
theorem e_one {op} (h : RE X p O a ta ma) : RE X p O (.BoolOp op [a] pos) ta ma := ⟨pe_one h.pe, h.le⟩
theorem e_and (ha : RE X p O a ta ma) (hb : RE X p O (.BoolOp .And (b :: rest) pos) tb mb) : RE X p O (.BoolOp .And (a :: b :: rest) pos) (tAndV ta tb) (mAndV ma mb) := ⟨pe_and ha.pe hb.pe, le_andV ha.le hb.le⟩
theorem e_or (ha : RE X p O a ta ma) (hb : RE X p O (.BoolOp .Or (b :: rest) pos) tb mb) : RE X p O (.BoolOp .Or (a :: b :: rest) pos) (tOrV ta tb) (mOrV ma mb) := ⟨pe_or ha.pe hb.pe, le_orV ha.le hb.le⟩
theorem e_not (ha : RE X p O a ta ma) : RE X p O (.UnaryOp .Not a pos) (tNotV ta) (mNotV ma) := ⟨pe_not ha.pe, le_notV ha.le⟩
@[reducible] def mIf (t : MT) (ma mb : ME) : ME := fun Γ n Q => t Γ n fun c n1 => if c = true then ma Γ n1 Q else mb Γ n1 Q
theorem le_if (hc : LT p O tA mA) (ha : LE p O ta ma) (hb : LE p O tb mb) : LE p O (tIf tA ta tb) (mIf mA ma mb) := fun F0 H0 F H σ Γ n Q s q Q' k =>
  hc F0 H0 F H σ Γ n _ s q _ fun c F1 H1 n1 s1 e1 q1 => by
    cases c with
    | true =>
      rw [if_pos rfl] at q1 ⊢
      exact ha F0 H0 F1 H1 σ Γ n1 Q s1 q1 Q' fun d v F2 H2 n2 s2 e2 r2 q2 => k d v F2 H2 n2 s2 (e1.trans e2) r2 q2
    | false =>
      rw [if_neg (by decide)] at q1 ⊢
      exact hb F0 H0 F1 H1 σ Γ n1 Q s1 q1 Q' fun d v F2 H2 n2 s2 e2 r2 q2 => k d v F2 H2 n2 s2 (e1.trans e2) r2 q2
theorem e_if (hc : RT X p O c tA mA) (ha : RE X p O a ta ma) (hb : RE X p O b tb mb) : RE X p O (.IfExp c a b pos) (tIf tA ta tb) (mIf mA ma mb) := ⟨pe_ifExp hc.pt ha.pe hb.pe, le_if hc.le ha.le hb.le⟩
@[reducible] def mNil : MA := fun _ n Q => Q [] n
@[reducible] def mCons (m : ME) (u : MA) : MA := fun Γ n Q => m Γ n fun d n1 => u Γ n1 fun ds n2 => Q (d :: ds) n2
variable {es : List Expr} {t : TA} {m : MA}
theorem a_nil : RA X p O [] tNil mNil := ⟨pa_nil, fun F0 H0 F H σ Γ n Q s q Q' k => k [] [] F H n s .refl .nil q⟩
theorem la_cons (ha : LE p O te me) (hr : LA p O t m) : LA p O (tCons te t) (mCons me m) := fun F0 H0 F H σ Γ n Q s q Q' k =>
  ha F0 H0 F H σ Γ n _ s q _ fun d v F1 H1 n1 s1 e1 r1 q1 =>
    hr F0 H0 F1 H1 σ Γ n1 _ s1 q1 _ fun ds vs F2 H2 n2 s2 e2 r2 q2 => k (d :: ds) (v :: vs) F2 H2 n2 s2 (e1.trans e2) (.cons (r1.mono e2.f) r2) q2
theorem a_cons (ha : RE X p O e te me) (hr : RA X p O es t m) (hs : starEach (e :: es) X.env = (false, eval e X.env) :: starEach es X.env := by rfl) : RA X p O (e :: es) (tCons te t) (mCons me m) := ⟨pa_cons ha.pe hr.pa hs, la_cons ha.le hr.le⟩
/-- sizes: a list, a tuple, a text of at most so many -/
def lim : Nat := 100000
theorem lim_line {n : Nat} (h : n ≤ lim) : n ≤ sizeLine := Nat.le_trans h (by decide)
theorem lim_lt {n : Nat} (h : n ≤ lim) : n < sizeLine := Nat.lt_of_le_of_lt h (by decide)
@[reducible] def mTup (m : MA) : ME := fun Γ n Q => m Γ n fun ds n1 => ds.length ≤ lim ∧ Q (.tuple ds) n1
@[reducible] def mLst (m : MA) : ME := fun Γ n Q => m Γ n fun ds n1 => ds.length ≤ lim ∧ Q (.list ds) n1
theorem Rp.new_tup {K : PySem.W.Frag} {F H : Hp} {q : Addr} {ds : List D} {vs : List V} (r : Rps K F ds vs) (f : F q = none) : Rp K (upd F q (.tup vs)) (.tuple ds) (.ref q) := .of_tup (.inl (.inl upd_same)) (r.mono (same_up f))
theorem Rp.new_lst {K : PySem.W.Frag} {F H : Hp} {q : Addr} {ds : List D} {vs : List V} (r : Rps K F ds vs) (f : F q = none) : Rp K (upd F q (.lst vs)) (.list ds) (.ref q) := .of_lst upd_same (r.mono (same_up f))
theorem le_tup (h : LA p O t m) : LE p O (tTup t) (mTup m) := fun F0 H0 F H σ Γ n Q s q Q' k =>
  h F0 H0 F H σ Γ n _ s q _ fun ds vs F1 H1 n1 s1 e1 r1 ⟨l, q1⟩ => by
    refine ⟨by rw [r1.len]; exact lim_line l, fun x hx => ?_⟩
    have g := Gr.new1 (F := F1) s1.fh hx (.tup vs)
    exact k _ _ _ _ n1 (s1.gr g) (e1.trans g.gp) (Rp.new_tup (H := H1) r1 (s1.fh.free hx)) q1
theorem le_lst (h : LA p O t m) : LE p O (tLst t) (mLst m) := fun F0 H0 F H σ Γ n Q s q Q' k =>
  h F0 H0 F H σ Γ n _ s q _ fun ds vs F1 H1 n1 s1 e1 r1 ⟨l, q1⟩ => by
    refine ⟨by rw [r1.len]; exact lim_line l, fun x hx => ?_⟩
    have g := Gr.new1 (F := F1) s1.fh hx (.lst vs)
    exact k _ _ _ _ n1 (s1.gr g) (e1.trans g.gp) (Rp.new_lst (H := H1) r1 (s1.fh.free hx)) q1
theorem e_tup {x1} (h : RA X p O es t m) : RE X p O (.Tuple es x1 pos) (tTup t) (mTup m) := ⟨pe_tup h.pa, le_tup h.le⟩
theorem e_lst (h : RA X p O es t m) : RE X p O (.List es pos) (tLst t) (mLst m) := ⟨pe_lst h.pa, le_lst h.le⟩
@[reducible] def mCl (f : List D → Option D) (m : MA) : ME := fun Γ n Q => m Γ n fun ds n1 => ∃ d, f ds = some d ∧ Q d n1
theorem le_cl {r : List V → Hp → VK → Prop} {f : List D → Option D} (l : ClL p.K r f) (h : LA p O t m) : LE p O (tCB r t) (mCl f m) := fun F0 H0 F H σ Γ n Q s q Q' k =>
  h F0 H0 F H σ Γ n _ s q _ fun ds vs F1 H1 n1 s1 e1 r1 ⟨d, fe, q1⟩ =>
    l F1 H1 vs ds d s1.fh r1 fe _ fun v F3 H3 g r3 => k d v F3 H3 n1 (s1.gr g) (e1.trans g.gp) r3 q1
theorem e_ix {r : R2} {f : D → D → Option D} (hr : IxR X r) (l : OpL p.K r f) (ha : RE X p O a ta ma) (hb : RE X p O b tb mb) (hs : PlainIx b) : RE X p O (.Subscript a b pos) (tOp r ta tb) (mOp f ma mb) := ⟨pe_ix hr ha.pe hb.pe hs, le_op l ha.le hb.le⟩
end
end RR
end
section
namespace RR
open PySem PySem.Spec L2
open PyProof.Rows hiding St
def dAdd : D → D → Option D
  | .int i, .int j => some (.int (i + j))
  | .list xs, .list ys => if xs.length + ys.length ≤ lim then some (.list (xs ++ ys)) else none
  | .tuple xs, .tuple ys => if xs.length + ys.length ≤ lim then some (.tuple (xs ++ ys)) else none
  | _, _ => none
def dAddI : D → D → Option D
  | .int i, .int j => some (.int (i + j))
  | _, _ => none
def dSub : D → D → Option D
  | .int i, .int j => some (.int (i - j))
  | _, _ => none
def dMul : D → D → Option D
  | .int i, .int j => if (-(2 ^ 64) < i ∧ i < 2 ^ 64) ∨ (-(2 ^ 64) < j ∧ j < 2 ^ 64) then some (.int (i * j)) else none
  | .list xs, .int k => if xs.length * k.toNat ≤ lim ∧ -(2 ^ 63) ≤ k ∧ k < 2 ^ 63 then some (.list (List.replicate k.toNat xs).flatten) else none
  | _, _ => none
def dMod : D → D → Option D
  | .int i, .int j => if 0 < j then some (.int (i % j)) else none
  | _, _ => none
def dPow : D → D → Option D
  | .int i, .int j => if 0 ≤ j ∧ j ≤ 1000000 ∧ i.natAbs < 2 ^ 64 then some (.int (i ^ j.toNat)) else none
  | _, _ => none
def dCmp (p : Int → Int → Bool) : D → D → Option D
  | .int i, .int j => some (.bool (p i j))
  | _, _ => none
@[reducible] def dLt := dCmp fun i j => decide (i < j)
@[reducible] def dLe := dCmp fun i j => decide (i ≤ j)
@[reducible] def dGt := dCmp fun i j => decide (j < i)
@[reducible] def dGe := dCmp fun i j => decide (j ≤ i)
def dNeg : D → Option D
  | .int i => some (.int (-i))
  | _ => none
def scalD : D → D → Bool
  | .int _, .int _ => true
  | .str _, .str _ => true
  | .bool _, .bool _ => true
  | _, _ => false
def dEq (x y : D) : Option D := if scalD x y = true ∨ (SeqAt.shaped x = true ∧ SeqAt.shaped y = true) then some (.bool (PyData.eqv x y)) else none
def dNe (x y : D) : Option D := if scalD x y = true ∨ (SeqAt.shaped x = true ∧ SeqAt.shaped y = true) then some (.bool (!PyData.eqv x y)) else none
/-- of a dict -/
def keyOf : D → Option Key
  | .int i => some (.inl i)
  | .str x => some (.inr x)
  | _ => none
def dLook (kvs : List (D × D)) (k : D) : Option D := (kvs.find? fun q => PyData.eqv q.1 k).map (·.2)
def isKey (d : D) : Bool := (keyOf d).isSome
def flatD : D → Bool
  | .none => true
  | .bool _ => true
  | .int _ => true
  | .str _ => true
  | _ => false
def anyEq (x : D) (xs : List D) : Bool := xs.any fun y => PyData.eqv y x
def dIn (x : D) : D → Option D
  | .list xs => if SeqAt.shaped x = true ∧ SeqAt.shaped (.list xs) = true then some (.bool (anyEq x xs)) else none
  | .tuple xs => if flatD x = true ∧ xs.all flatD = true then some (.bool (anyEq x xs)) else none
  | .dict kvs => if isKey x = true then some (.bool (dLook kvs x).isSome) else none
  | _ => none
def dNotIn (x : D) : D → Option D
  | .list xs => if SeqAt.shaped x = true ∧ SeqAt.shaped (.list xs) = true then some (.bool (!anyEq x xs)) else none
  | .tuple xs => if flatD x = true ∧ xs.all flatD = true then some (.bool (!anyEq x xs)) else none
  | .dict kvs => if isKey x = true then some (.bool (!(dLook kvs x).isSome)) else none
  | _ => none
def dIx : D → D → Option D
  | .list xs, .int i => atI xs i
  | .tuple xs, .int i => atI xs i
  | .dict kvs, k => if isKey k = true then dLook kvs k else none
  | _, _ => none
section
variable {X : Cx} {K : PySem.W.Frag}
theorem OpL.or {r r' : R2} {f g : D → D → Option D} (l : OpL K r f) (l' : OpL K r' g) {h : D → D → Option D} (e : ∀ x y d, h x y = some d → f x y = some d ∨ g x y = some d) : OpL K (fun x y H Q => r x y H Q ∨ r' x y H Q) h :=
  fun F H x y dx dy d s rx ry fe Q' k => (e _ _ _ fe).elim (fun z => .inl (l F H x y dx dy d s rx ry z Q' k)) fun z => .inr (l' F H x y dx dy d s rx ry z Q' k)
theorem OpL.imp {r : R2} {f h : D → D → Option D} (l : OpL K r f) (e : ∀ x y d, h x y = some d → f x y = some d) : OpL K r h := fun F H x y dx dy d s rx ry fe => l F H x y dx dy d s rx ry (e _ _ _ fe)
/-- ints alone -/
theorem opl_int {C : Int → Int → Prop} {g : Int → Int → V} {f : D → D → Option D} (h : ∀ x y d, f x y = some d → ∃ i j, x = .int i ∧ y = .int j ∧ C i j ∧ ∀ F, Rp K F d (g i j)) : OpL K (rI C g) f :=
  fun F H x y dx dy d s rx ry fe Q' k => by
    obtain ⟨i, j, rfl, rfl, c, w⟩ := h _ _ _ fe
    exact ⟨i, j, rx.int_inv, ry.int_inv, c, k _ F H (.refl s) (w F)⟩
theorem opl_int0 {g : Int → Int → V} {f : D → D → Option D} (h : ∀ x y d, f x y = some d → ∃ i j, x = .int i ∧ y = .int j ∧ ∀ F, Rp K F d (g i j)) : OpL K (rI0 g) f :=
  fun F H x y dx dy d s rx ry fe Q' k => by
    obtain ⟨i, j, rfl, rfl, w⟩ := h _ _ _ fe
    exact ⟨i, j, rx.int_inv, ry.int_inv, k _ F H (.refl s) (w F)⟩
theorem l_addI : OpL K (rI0 fun i j => .int (i + j)) (fun x y => match x, y with | .int i, .int j => some (.int (i + j)) | _, _ => none) := opl_int0 fun x y d e => by
  split at e <;> first | (cases e; exact ⟨_, _, rfl, rfl, fun _ => .int _⟩) | cases e
theorem l_cat : OpL K rCat (fun x y => match x, y with | .list xs, .list ys => if xs.length + ys.length ≤ lim then some (.list (xs ++ ys)) else none | _, _ => none) := fun F H x y dx dy d s rx ry fe Q' k => by
  dsimp only at fe
  split at fe
  · rename_i xs ys
    split at fe
    · rename_i hl
      cases fe
      obtain ⟨a, vs, rfl, e1, r1⟩ := rx.lst_inv
      obtain ⟨b, ws, rfl, e2, r2⟩ := ry.lst_inv
      refine ⟨a, b, vs, ws, rfl, rfl, s _ _ e1, s _ _ e2, by rw [r1.len, r2.len]; exact lim_line hl, fun q hq => ?_⟩
      exact k _ _ _ (Gr.new1 s hq _) (Rp.new_lst (H := H) (r1.append r2) (s.free hq))
    · cases fe
  · cases fe
theorem l_catT : OpL K (rCatA K) (fun x y => match x, y with | .tuple xs, .tuple ys => if xs.length + ys.length ≤ lim then some (.tuple (xs ++ ys)) else none | _, _ => none) := fun F H x y dx dy d s rx ry fe Q' k => by
  dsimp only at fe
  split at fe
  · rename_i xs ys
    split at fe
    · rename_i hl
      cases fe
      obtain ⟨a, vs, rfl, e1, r1⟩ := rx.tup_inv
      obtain ⟨b, ws, rfl, e2, r2⟩ := ry.tup_inv
      refine ⟨a, b, vs, ws, rfl, rfl, Same.sqt s e1, Same.sqt s e2, by rw [r1.len, r2.len]; exact lim_line hl, fun z => ?_, fun _ z => ?_, fun _ _ q hq => ?_⟩
      · subst z
        have : xs = [] := List.length_eq_zero_iff.mp r1.len.symm
        subst this
        exact k _ F H (.refl s) (.of_tup e2 r2)
      · subst z
        have : ys = [] := List.length_eq_zero_iff.mp r2.len.symm
        subst this
        rw [List.append_nil] at k
        exact k _ F H (.refl s) (.of_tup e1 r1)
      · exact k _ _ _ (Gr.new1 s hq _) (Rp.new_tup (H := H) (r1.append r2) (s.free hq))
    · cases fe
  · cases fe
def rAddA (K : PySem.W.Frag) : R2 := fun x y H Q => rI0 (fun i j => .int (i + j)) x y H Q ∨ (fun x y H Q => rCat x y H Q ∨ rCatA K x y H Q) x y H Q
theorem o_add : OpR X (binaryOp .Add) (rAddA X.K) := op_add.or (op_cat.or op_catA)
theorem l_add : OpL K (rAddA K) dAdd := l_addI.or (l_cat.or l_catT (h := fun x y => match x, y with
    | .list xs, .list ys => if xs.length + ys.length ≤ lim then some (.list (xs ++ ys)) else none
    | .tuple xs, .tuple ys => if xs.length + ys.length ≤ lim then some (.tuple (xs ++ ys)) else none
    | _, _ => none) (fun x y d e => by split at e <;> first | exact .inl e | exact .inr e | cases e)) (fun x y d e => by
  unfold dAdd at e
  split at e <;> first | exact .inl e | exact .inr e | cases e)
theorem l_sub : OpL K (rI0 fun i j => .int (i - j)) dSub := opl_int0 fun x y d e => by
  unfold dSub at e
  split at e <;> first | (cases e; exact ⟨_, _, rfl, rfl, fun _ => .int _⟩) | cases e
theorem Rps.rep {F : Hp} {ds : List D} {xs : List V} (h : Rps K F ds xs) : ∀ n, Rps K F (List.replicate n ds).flatten (List.replicate n xs).flatten
  | 0 => .nil
  | n + 1 => by rw [List.replicate_succ, List.replicate_succ]; exact h.append (h.rep n)
theorem l_mulI : OpL K (rI CMul fun i j => .int (i * j)) (fun x y => match x, y with | .int i, .int j => if (-(2 ^ 64) < i ∧ i < 2 ^ 64) ∨ (-(2 ^ 64) < j ∧ j < 2 ^ 64) then some (.int (i * j)) else none | _, _ => none) := opl_int fun x y d e => by
  split at e
  · split at e
    · rename_i h
      cases e
      exact ⟨_, _, rfl, rfl, h, fun _ => .int _⟩
    · cases e
  · cases e
theorem l_mul : OpL K (fun x y H Q => rI CMul (fun i j => .int (i * j)) x y H Q ∨ rRep x y H Q) dMul := l_mulI.or (g := fun x y => match x, y with | .list xs, .int k => if xs.length * k.toNat ≤ lim ∧ -(2 ^ 63) ≤ k ∧ k < 2 ^ 63 then some (.list (List.replicate k.toNat xs).flatten) else none | _, _ => none) (fun F H x y dx dy d s rx ry fe Q' k => by
  dsimp only at fe
  split at fe
  · split at fe
    · rename_i hl
      cases fe
      obtain ⟨a, vs, rfl, e1, r1⟩ := rx.lst_inv
      cases ry.int_inv
      refine ⟨a, _, vs, rfl, rfl, s _ _ e1, hl.2.1, hl.2.2, by rw [r1.len]; exact lim_line hl.1, fun q hq => ?_⟩
      exact k _ _ _ (Gr.new1 s hq _) (Rp.new_lst (H := H) (r1.rep _) (s.free hq))
    · cases fe
  · cases fe) (fun x y d e => by
  unfold dMul at e
  split at e <;> first | exact .inl e | exact .inr e | cases e)
theorem o_mul : OpR X (binaryOp .Mult) (fun x y H Q => rI CMul (fun i j => .int (i * j)) x y H Q ∨ rRep x y H Q) := op_mul.or op_rep
theorem l_mod : OpL K (rI (fun _ j => 0 < j) fun i j => .int (i % j)) dMod := opl_int fun x y d e => by
  unfold dMod at e
  split at e
  · split at e
    · rename_i h
      cases e
      exact ⟨_, _, rfl, rfl, h, fun _ => .int _⟩
    · cases e
  · cases e
theorem l_pow : OpL K (rI CPow fun i j => .int (i ^ j.toNat)) dPow := opl_int fun x y d e => by
  unfold dPow at e
  split at e
  · split at e
    · rename_i h
      cases e
      exact ⟨_, _, rfl, rfl, h, fun _ => .int _⟩
    · cases e
  · cases e
theorem l_cmp {p : Int → Int → Bool} : OpL K (rI0 fun i j => .bl (p i j)) (dCmp p) := opl_int0 fun x y d e => by
  unfold dCmp at e
  split at e <;> first | (cases e; exact ⟨_, _, rfl, rfl, fun _ => .bl _⟩) | cases e
theorem l_neg : UnL K (rU fun i => .int (-i)) dNeg := fun F H x dx d s rx fe Q' k => by
  unfold dNeg at fe
  split at fe
  · cases fe
    exact ⟨_, rx.int_inv, k _ F H (.refl s) (.int _)⟩
  · cases fe
mutual
theorem Rp.dp {F : Hp} : ∀ (d : D) (v : V), d.canLay0 = true → Rp K F d v → Dp K F v d
  | .none, v, _, h => by cases h; exact .non
  | .bool b, v, _, h => by cases h; exact .bl b
  | .int i, v, _, h => by cases h; exact .int i
  | .str x, v, _, h => by cases h; exact .str x
  | .list ds, v, c, h => by
    obtain ⟨a, xs, rfl, e, r⟩ := h.lst_inv
    exact .lst (.of e) (Rp.dps ds xs (by simpa [PyData.canLay0] using c) r)
  | .tuple ds, v, c, h => by
    obtain ⟨a, xs, rfl, e, r⟩ := h.tup_inv
    exact .tup e (Rp.dps ds xs (by simpa [PyData.canLay0] using c) r)
  | .dict _, v, c, h => by simp [PyData.canLay0] at c
theorem Rp.dps {F : Hp} : ∀ (ds : List D) (vs : List V), PyData.canLayAll0 ds = true → Rps K F ds vs → DpAll K F vs ds
  | [], vs, _, h => by rw [h.unnil]; exact .nil
  | d :: ds, vs, c, h => by
    obtain ⟨v, r, rfl, h1, h2⟩ := h.uncons
    rw [PyData.canLayAll0, Bool.and_eq_true] at c
    exact .cons (Rp.dp d v c.1 h1) (Rp.dps ds r c.2 h2)
end
theorem Rp.dpS {F : Hp} {d : D} {v : V} (c : SeqAt.shaped d = true) (h : Rp K F d v) : Dp K F v d := Rp.dp d v (SeqAt.canLay_of_shaped c) h
theorem Rp.scal {F : Hp} {d e : D} {x y : V} (c : scalD d e = true) (h : Rp K F d x) (h' : Rp K F e y) : L2.scal x y = true ∧ decide (x = y) = PyData.eqv d e := by
  cases d <;> cases e <;> (try (exfalso; unfold scalD at c; cases c; done))
  · cases h.bl_inv; cases h'.bl_inv; exact ⟨rfl, by rw [dec_bl]; simp [PyData.eqv]⟩
  · cases h.int_inv; cases h'.int_inv; exact ⟨rfl, by rw [dec_int]; simp [PyData.eqv]⟩
  · cases h.str_inv; cases h'.str_inv; exact ⟨rfl, by rw [dec_str]; simp [PyData.eqv]⟩
def rEqA (K : PySem.W.Frag) : R2 := fun x y H Q => rEq x y H Q ∨ rEqD K x y H Q
def rNeA (K : PySem.W.Frag) : R2 := fun x y H Q => rNe x y H Q ∨ rNeD K x y H Q
theorem o_eq (hu : X.A.units + 64 < cLine) : OpR X (compareOp .Eq) (rEqA X.K) := op_eq.or (op_eqD hu)
theorem o_ne (hu : X.A.units + 64 < cLine) : OpR X (compareOp .NotEq) (rNeA X.K) := op_ne.or (op_neD hu)
theorem l_eq : OpL K (rEqA K) dEq := fun F H x y dx dy d s rx ry fe Q' k => by
  unfold dEq at fe
  split at fe
  · rename_i h
    cases fe
    rcases h with h | h
    · obtain ⟨h1, h2⟩ := rx.scal h ry
      exact .inl ⟨h1, by rw [h2]; exact k _ F H (.refl s) (.bl _)⟩
    · exact .inr ⟨dx, dy, (rx.mono s).dpS h.1, (ry.mono s).dpS h.2, h.1, h.2, k _ F H (.refl s) (.bl _)⟩
  · cases fe
theorem l_ne : OpL K (rNeA K) dNe := fun F H x y dx dy d s rx ry fe Q' k => by
  unfold dNe at fe
  split at fe
  · rename_i h
    cases fe
    rcases h with h | h
    · obtain ⟨h1, h2⟩ := rx.scal h ry
      exact .inl ⟨h1, by rw [h2]; exact k _ F H (.refl s) (.bl _)⟩
    · exact .inr ⟨dx, dy, (rx.mono s).dpS h.1, (ry.mono s).dpS h.2, h.1, h.2, k _ F H (.refl s) (.bl _)⟩
  · cases fe
theorem Rp.flat {F : Hp} {d : D} {v : V} (f : flatD d = true) (h : Rp K F d v) : flatV v = true := by
  cases h <;> first | rfl | (unfold flatD at f; cases f)
theorem Rp.eqV {F : Hp} {d e : D} {x y : V} (f : flatD d = true) (g : flatD e = true) (h : Rp K F d x) (h' : Rp K F e y) : eqV x y = PyData.eqv d e := by
  cases h <;> (try (unfold flatD at f; cases f)) <;> cases h' <;> (try (unfold flatD at g; cases g)) <;> simp [L2.eqV, PyData.eqv]
theorem Rps.all_flat {F : Hp} : ∀ {ds : List D} {xs : List V}, ds.all flatD = true → Rps K F ds xs → xs.all flatV = true
  | [], xs, _, h => by rw [h.unnil]; rfl
  | d :: ds, xs, f, h => by
    obtain ⟨v, r, rfl, h1, h2⟩ := h.uncons
    rw [List.all_cons, Bool.and_eq_true] at f ⊢
    exact ⟨h1.flat f.1, Rps.all_flat f.2 h2⟩
theorem Rps.anyEq {F : Hp} {d : D} {x : V} (fd : flatD d = true) (rx : Rp K F d x) : ∀ {ds : List D} {xs : List V}, ds.all flatD = true → Rps K F ds xs → inV x xs = anyEq d ds
  | [], xs, _, h => by rw [h.unnil]; rfl
  | e :: ds, xs, f, h => by
    obtain ⟨v, r, rfl, h1, h2⟩ := h.uncons
    rw [List.all_cons, Bool.and_eq_true] at f
    show (eqV v x || inV x r) = (PyData.eqv e d || RR.anyEq d ds)
    rw [Rps.anyEq fd rx f.2 h2, Rp.eqV f.1 fd h1 rx]
/-- a dict's entry -/
theorem keyD_of {F : Hp} {d : D} {v : V} (i : isKey d = true) (h : Rp K F d v) : ∃ k : Key, v = kV k ∧ d = keyD k := by
  cases h <;> first | (exfalso; simp [isKey, keyOf] at i; done) | exact ⟨.inl _, rfl, rfl⟩ | exact ⟨.inr _, rfl, rfl⟩
theorem eqv_key (j k : Key) : PyData.eqv (keyD j) (keyD k) = decide (j = k) := by
  cases j <;> cases k
  · simp only [keyD, PyData.eqv]; rw [key_ll]
  · simp only [keyD, PyData.eqv]; exact (key_lr _ _).symm
  · simp only [keyD, PyData.eqv]; exact (key_rl _ _).symm
  · simp only [keyD, PyData.eqv]; rw [key_rr]; rename_i a b; by_cases e : a = b <;> simp [e]
theorem dct_look {F : Hp} (k : Key) : ∀ {kvs : List (Key × V)} {ds : List (D × D)}, ds.map (·.1) = kvs.map (fun p => keyD p.1) → (∀ (i : Nat) x d, kvs[i]? = some x → ds[i]? = some d → Rp K F d.2 x.2) →
    match dLook ds (keyD k) with | some d => ∃ v, valV kvs k = some v ∧ Rp K F d v | none => valV kvs k = none
  | [], [], _, _ => rfl
  | [], _ :: _, e, _ => by simp at e
  | _ :: _, [], e, _ => by simp at e
  | q :: kvs, d :: ds, e, r => by
    obtain ⟨d1, d2⟩ := d
    simp only [List.map_cons, List.cons.injEq] at e
    obtain ⟨e1, e2⟩ := e
    subst e1
    by_cases hk : q.1 = k
    · have h1 : dLook ((keyD q.1, d2) :: ds) (keyD k) = some d2 := by
        unfold dLook
        rw [List.find?_cons_of_pos (by rw [eqv_key]; exact decide_eq_true hk)]
        rfl
      rw [h1]
      exact ⟨_, valV_pos hk, r 0 q (_, d2) rfl rfl⟩
    · have h1 : dLook ((keyD q.1, d2) :: ds) (keyD k) = dLook ds (keyD k) := by
        unfold dLook
        rw [List.find?_cons_of_neg (by rw [eqv_key, decide_eq_false hk]; decide)]
      rw [h1, valV_neg hk]
      exact dct_look k e2 fun i x d a b => r (i + 1) x d (by simpa using a) (by simpa using b)
theorem dct_get {F : Hp} {ds : List (D × D)} {a : V} {d : D} {y : V} (h : Rp K F (.dict ds) a) (i : isKey d = true) (ry : Rp K F d y) :
    ∃ b o, a = .ref b ∧ DGet F b y o ∧ (match dLook ds d with | some e => ∃ v, o = some v ∧ Rp K F e v | none => o = none) := by
  obtain ⟨k, rfl, rfl⟩ := keyD_of i ry
  cases h with
  | dct h1 h2 h3 =>
    rename_i b kvs
    refine ⟨b, valV kvs k, rfl, .inl ⟨kvs, k, h1, rfl, rfl⟩, ?_⟩
    exact dct_look k h2 h3
def rDIn (neg : Bool) : R2 := fun y x H Q => ∃ a o, x = .ref a ∧ DGet H a y o ∧ Q (.bl (if neg then !o.isSome else o.isSome)) H
theorem op_din (hu : X.A.units + 1 < cLine) : OpR X (compareOp .In) (rDIn false) := fun pins s σ H x y v u Q I rx ry h => by
  obtain ⟨a, o, rfl, g, q⟩ := h
  cases ry
  exact d_in hu I g rx fun s' I' => ⟨.bl o.isSome, H, I', rfl, q⟩
theorem op_dnotin (hu : X.A.units + 1 < cLine) : OpR X (compareOp .NotIn) (rDIn true) := fun pins s σ H x y v u Q I rx ry h => by
  obtain ⟨a, o, rfl, g, q⟩ := h
  cases ry
  exact d_notIn hu I g rx fun s' I' => ⟨.bl (!o.isSome), H, I', rfl, q⟩
theorem l_din {neg : Bool} : OpL K (rDIn neg) (fun x y => match y with | .dict kvs => if isKey x = true then some (.bool (if neg then !(dLook kvs x).isSome else (dLook kvs x).isSome)) else none | _ => none) := fun F H x y dx dy d s rx ry fe Q' k => by
  dsimp only at fe
  split at fe
  · rename_i kvs
    by_cases hk : isKey dx = true
    · rw [if_pos hk] at fe
      cases fe
      obtain ⟨b, o, rfl, g, w⟩ := dct_get (ry.mono s) hk (rx.mono s)
      refine ⟨b, o, rfl, g, k _ F H (.refl s) ?_⟩
      have e : o.isSome = (dLook kvs dx).isSome := by
        split at w
        · rename_i e1
          obtain ⟨v, rfl, _⟩ := w
          rw [e1]; rfl
        · rename_i e1
          rw [w, e1]; rfl
      rw [e]
      exact .bl _
    · rw [if_neg hk] at fe
      cases fe
  · cases fe
def rInA (K : PySem.W.Frag) : R2 := fun x y H Q => rInD K x y H Q ∨ (fun x y H Q => rIn K false x y H Q ∨ rDIn false x y H Q) x y H Q
def rNotInA (K : PySem.W.Frag) : R2 := fun x y H Q => rNotInD K x y H Q ∨ (fun x y H Q => rIn K true x y H Q ∨ rDIn true x y H Q) x y H Q
theorem o_in (hu : X.A.units + 65 < cLine) : OpR X (compareOp .In) (rInA X.K) := (op_inD hu).or (op_in_seq.or (op_din (by omega)))
theorem o_notIn (hu : X.A.units + 65 < cLine) : OpR X (compareOp .NotIn) (rNotInA X.K) := (op_notInD hu).or (op_notIn_seq.or (op_dnotin (by omega)))
theorem l_inD : OpL K (rInD K) (fun x y => match y with | .list xs => if SeqAt.shaped x = true ∧ SeqAt.shaped (.list xs) = true then some (.bool (anyEq x xs)) else none | _ => none) := fun F H x y dx dy d s rx ry fe Q' k => by
  dsimp only at fe
  split at fe
  · split at fe
    · rename_i h
      cases fe
      exact ⟨dx, _, (rx.mono s).dpS h.1, (ry.mono s).dpS h.2, h.1, h.2, k _ F H (.refl s) (.bl _)⟩
    · cases fe
  · cases fe
theorem l_notInD : OpL K (rNotInD K) (fun x y => match y with | .list xs => if SeqAt.shaped x = true ∧ SeqAt.shaped (.list xs) = true then some (.bool (!anyEq x xs)) else none | _ => none) := fun F H x y dx dy d s rx ry fe Q' k => by
  dsimp only at fe
  split at fe
  · split at fe
    · rename_i h
      cases fe
      exact ⟨dx, _, (rx.mono s).dpS h.1, (ry.mono s).dpS h.2, h.1, h.2, k _ F H (.refl s) (.bl _)⟩
    · cases fe
  · cases fe
theorem l_inT {neg : Bool} : OpL K (rIn K neg) (fun x y => match y with | .tuple xs => if flatD x = true ∧ xs.all flatD = true then some (.bool (if neg then !anyEq x xs else anyEq x xs)) else none | _ => none) := fun F H x y dx dy d s rx ry fe Q' k => by
  dsimp only at fe
  split at fe
  · split at fe
    · rename_i h
      cases fe
      obtain ⟨a, vs, rfl, e1, r1⟩ := ry.tup_inv
      refine ⟨a, vs, rfl, .inr (Same.sqt s e1), rx.flat h.1, r1.all_flat h.2, ?_⟩
      rw [Rps.anyEq h.1 rx h.2 r1]
      exact k _ F H (.refl s) (.bl _)
    · cases fe
  · cases fe
theorem l_in : OpL K (rInA K) dIn := l_inD.or (l_inT.or l_din (h := fun x y => match y with
    | .tuple xs => if flatD x = true ∧ xs.all flatD = true then some (.bool (anyEq x xs)) else none
    | .dict kvs => if isKey x = true then some (.bool (dLook kvs x).isSome) else none
    | _ => none) (fun x y d e => by split at e <;> first | exact .inl e | exact .inr e | cases e)) (fun x y d e => by
  unfold dIn at e
  split at e <;> first | exact .inl e | exact .inr e | cases e)
theorem l_notIn : OpL K (rNotInA K) dNotIn := l_notInD.or (l_inT.or l_din (h := fun x y => match y with
    | .tuple xs => if flatD x = true ∧ xs.all flatD = true then some (.bool (!anyEq x xs)) else none
    | .dict kvs => if isKey x = true then some (.bool (!(dLook kvs x).isSome)) else none
    | _ => none) (fun x y d e => by split at e <;> first | exact .inl e | exact .inr e | cases e)) (fun x y d e => by
  unfold dNotIn at e
  split at e <;> first | exact .inl e | exact .inr e | cases e)
theorem ixN_eq {ds : List D} {xs : List V} {F : Hp} (h : Rps K F ds xs) {i : Int} {d : D} (e : atI ds i = some d) : ∃ v, atI xs i = some v ∧ Rp K F d v := by
  unfold atI at e ⊢
  rw [h.len]
  cases q : ixN ds.length i with
  | none => rw [q] at e; cases e
  | some j =>
    rw [q] at e
    exact h.get (by simpa using e)
def rIxD : R2 := fun x y H Q => ∃ a v, x = .ref a ∧ DGet H a y (some v) ∧ Q v H
theorem ix_dict (hu : X.A.units + 1 < cLine) : IxR X rIxD := fun value slice pins s σ H x y v u Q I rx ry h hs => by
  obtain ⟨a, z, rfl, g, q⟩ := h
  cases rx
  exact tail_any (dict_typeIs I g) PySem.F.slot_dict_getitem.lookup (d_getItem hu I g ry fun w' s3 I3 rw' => ⟨z, H, I3, rw', q⟩) hs
end
end RR
end
section
namespace RR
open PySem PySem.Spec L2
open PyProof.Rows hiding St
section
variable {X : Cx} {K : PySem.W.Frag} {p : Pm} {O : List Nat} {a b c e : Expr} {pos : Pos} {ta tb tc te : TE} {ma mb mc me : ME} {es : List Expr} {t : TA} {m : MA}
def rIxA (K : PySem.W.Frag) : R2 := fun x y H Q => rIxL K x y H Q ∨ (fun x y H Q => rIxT K x y H Q ∨ rIxD x y H Q) x y H Q
theorem o_ix (hu : X.A.units + 1 < cLine) : IxR X (rIxA X.K) := ix_list.or (ix_tup.or (ix_dict hu))
theorem l_ixL : OpL K (rIxL K) (fun x y => match x, y with | .list xs, .int i => atI xs i | _, _ => none) := fun F H x y dx dy d s rx ry fe Q' k => by
  dsimp only at fe
  split at fe
  · obtain ⟨a, vs, rfl, e1, r1⟩ := rx.lst_inv
    obtain ⟨v, e2, r2⟩ := ixN_eq r1 fe
    exact ⟨a, vs, _, v, rfl, ry.int_inv, .of (s _ _ e1), e2, k v F H (.refl s) r2⟩
  · cases fe
theorem l_ixT : OpL K (rIxT K) (fun x y => match x, y with | .tuple xs, .int i => atI xs i | _, _ => none) := fun F H x y dx dy d s rx ry fe Q' k => by
  dsimp only at fe
  split at fe
  · obtain ⟨a, vs, rfl, e1, r1⟩ := rx.tup_inv
    obtain ⟨v, e2, r2⟩ := ixN_eq r1 fe
    exact ⟨a, vs, _, v, rfl, ry.int_inv, Same.sqt s e1, e2, k v F H (.refl s) r2⟩
  · cases fe
theorem l_ixD : OpL K rIxD (fun x y => match x with | .dict kvs => if isKey y = true then dLook kvs y else none | _ => none) := fun F H x y dx dy d s rx ry fe Q' k => by
  dsimp only at fe
  split at fe
  · rename_i kvs
    by_cases hk : isKey dy = true
    · rw [if_pos hk] at fe
      obtain ⟨b, o, rfl, g, w⟩ := dct_get rx hk ry
      rw [fe] at w
      obtain ⟨v, rfl, r⟩ := w
      refine ⟨b, v, rfl, ?_, k v F H (.refl s) r⟩
      rcases g with ⟨q1, q2, z1, z2, z3⟩ | ⟨q1, q2, q3, z1, z2, z3, z4⟩
      · exact .inl ⟨q1, q2, Same.rd s z1, z2, z3⟩
      · exact .inr ⟨q1, q2, q3, Same.rd s z1, z2, s _ _ z3, z4⟩
    · rw [if_neg hk] at fe
      cases fe
  · cases fe
theorem l_ix : OpL K (rIxA K) dIx := l_ixL.or (l_ixT.or l_ixD (h := fun x y => match x, y with
    | .tuple xs, .int i => atI xs i
    | .dict kvs, k => if isKey k = true then dLook kvs k else none
    | _, _ => none) (fun x y d e => by split at e <;> first | exact .inl e | exact .inr e | cases e)) (fun x y d e => by
  unfold dIx at e
  split at e <;> first | exact .inl e | exact .inr e | cases e)
def cutD (xs : List D) (lo hi : Option Int) : List D := (xs.drop (HT.sIx xs.length 0 lo)).take (HT.sIx xs.length xs.length hi - HT.sIx xs.length 0 lo)
def dSl (lo hi : Option Int) : D → Option D
  | .list xs => some (.list (cutD xs lo hi))
  | .tuple xs => some (.tuple (cutD xs lo hi))
  | _ => none
abbrev MO := DEnv → Nat → (Option Int → Nat → Prop) → Prop
@[reducible] def mNoPart : MO := fun _ n Q => Q none n
@[reducible] def mPart (m : ME) : MO := fun Γ n Q => m Γ n fun d n1 => ∃ i, d = .int i ∧ Q (some i) n1
def LO (p : Pm) (O : List Nat) (t : TO) (m : MO) : Prop :=
  ∀ F0 H0 F H σ Γ n (Q : Option Int → Nat → Prop), Sep p F0 H0 O F H σ Γ n → m Γ n Q → ∀ Q' : Option Int → Hp → Prop,
    (∀ b F' H' n', Sep p F0 H0 O F' H' σ Γ n' → Gp p F H F' H' → Q b n' → Q' b H') → t σ H Q'
structure RO (X : Cx) (p : Pm) (O : List Nat) (e : Option Expr) (t : TO) (m : MO) : Prop where
  po : PO X e t
  le : LO p O t m
theorem p_none : RO X p O none tNoPart mNoPart := ⟨po_none, fun F0 H0 F H σ Γ n Q s q Q' k => k none F H n s .refl q⟩
theorem p_some (h : RE X p O e te me) : RO X p O (some e) (tPart te) (mPart me) := ⟨po_some h.pe, fun F0 H0 F H σ Γ n Q s q Q' k =>
  h.le F0 H0 F H σ Γ n _ s q _ fun d v F1 H1 n1 s1 e1 r1 ⟨i, ei, q1⟩ => by
    subst ei
    exact ⟨i, r1.int_inv, k _ F1 H1 n1 s1 e1 q1⟩⟩
def rSlX (K : PySem.W.Frag) : V → Option Int → Option Int → Hp → VK → Prop := fun x lo hi H Q => rSlL K x lo hi H Q ∨ rSlA K x lo hi H Q
theorem o_sl : SlR X (rSlX X.K) := sl_list.or sl_tupA
@[reducible] def mSl (me : ME) (ml mh : MO) : ME := fun Γ n Q => me Γ n fun x n1 => ml Γ n1 fun lo n2 => mh Γ n2 fun hi n3 => ∃ d, dSl lo hi x = some d ∧ Q d n3
theorem Rps.cut {F : Hp} {ds : List D} {xs : List V} (h : Rps K F ds xs) (lo hi : Option Int) : Rps K F (cutD ds lo hi) (cutV xs lo hi) := by
  unfold cutD cutV
  rw [h.len]
  exact (h.drop _).take _
theorem cut_whole {ds : List D} {lo hi : Option Int} (h : HT.sIx ds.length 0 lo = 0 ∧ HT.sIx ds.length ds.length hi = ds.length) : cutD ds lo hi = ds := by
  unfold cutD
  rw [h.1, h.2]
  simp
theorem l_sl {F H : Hp} {x : V} {dx d : D} {lo hi : Option Int} (s : Same F H) (rx : Rp K F dx x) (fe : dSl lo hi dx = some d) {Q' : VK} (k : ∀ v F' H', Gr F H F' H' → Rp K F' d v → Q' v H') : rSlX K x lo hi H Q' := by
  unfold dSl at fe
  split at fe
  · cases fe
    obtain ⟨a, vs, rfl, e1, r1⟩ := rx.lst_inv
    refine .inl ⟨a, vs, rfl, .of (s _ _ e1), fun q hq => ?_⟩
    exact k _ _ _ (Gr.new1 s hq _) (Rp.new_lst (H := H) (r1.cut lo hi) (s.free hq))
  · cases fe
    obtain ⟨a, vs, rfl, e1, r1⟩ := rx.tup_inv
    refine .inr ⟨a, vs, rfl, Same.sqt s e1, fun w => ?_, fun _ q hq => ?_⟩
    · rw [r1.len] at w
      rw [cut_whole w] at k
      exact k _ F H (.refl s) rx
    · exact k _ _ _ (Gr.new1 s hq _) (Rp.new_tup (H := H) (r1.cut lo hi) (s.free hq))
  · cases fe
theorem e_sl {lo hi : Option Expr} {tl th : TO} {ml mh : MO} {p2 : Pos} (he : RE X p O e te me) (hl : RO X p O lo tl ml) (hh : RO X p O hi th mh) (hK : p.K = X.K) : RE X p O (.Subscript e (.Slice lo hi none p2) pos) (tSl (rSlX p.K) te tl th) (mSl me ml mh) :=
  ⟨pe_slice (hK ▸ o_sl) he.pe hl.po hh.po, fun F0 H0 F H σ Γ n Q s q Q' k => by
    refine he.le F0 H0 F H σ Γ n _ s q _ fun dx x F1 H1 n1 s1 e1 r1 q1 => ?_
    refine hl.le F0 H0 F1 H1 σ Γ n1 _ s1 q1 _ fun l F2 H2 n2 s2 e2 q2 => ?_
    refine hh.le F0 H0 F2 H2 σ Γ n2 _ s2 q2 _ fun h F3 H3 n3 s3 e3 ⟨d, fe, q3⟩ => ?_
    exact l_sl s3.fh ((r1.mono e2.f).mono e3.f) fe fun v F4 H4 g r4 => k d v F4 H4 n3 (s3.gr g) (((e1.trans e2).trans e3).trans g.gp) r4 q3⟩
def cLen : List D → Option D
  | [.list xs] => some (.int xs.length)
  | [.tuple xs] => some (.int xs.length)
  | _ => none
def rLen (K : PySem.W.Frag) : List V → Hp → VK → Prop := fun xs H Q => ∃ q ys, xs = [.ref q] ∧ (SqL K H q ys ∨ SqT K H q ys) ∧ Q (.int ys.length) H
theorem l_len : ClL K (rLen K) cLen := fun F H xs ds d s r fe Q' k => by
  unfold cLen at fe
  split at fe
  · cases fe
    obtain ⟨v, w, rfl, r1, r2⟩ := r.uncons
    cases r2.unnil
    obtain ⟨a, vs, rfl, e1, r3⟩ := r1.lst_inv
    exact ⟨a, vs, rfl, .inl (.of (s _ _ e1)), k _ F H (.refl s) (by rw [r3.len]; exact .int _)⟩
  · cases fe
    obtain ⟨v, w, rfl, r1, r2⟩ := r.uncons
    cases r2.unnil
    obtain ⟨a, vs, rfl, e1, r3⟩ := r1.tup_inv
    exact ⟨a, vs, rfl, .inr (Same.sqt s e1), k _ F H (.refl s) (by rw [r3.len]; exact .int _)⟩
  · cases fe
def cAbs : List D → Option D
  | [.int i] => some (.int (if i < 0 then -i else i))
  | _ => none
theorem l_abs : ClL K (fun xs H Q => ∃ i, xs = [.int i] ∧ Q (.int (if i < 0 then -i else i)) H) cAbs := fun F H xs ds d s r fe Q' k => by
  unfold cAbs at fe
  split at fe
  · cases fe
    obtain ⟨v, w, rfl, r1, r2⟩ := r.uncons
    cases r2.unnil
    cases r1.int_inv
    exact ⟨_, rfl, k _ F H (.refl s) (.int _)⟩
  · cases fe
def cInt : List D → Option D
  | [.int i] => some (.int i)
  | [.bool b] => some (.int (if b then 1 else 0))
  | _ => none
theorem l_int : ClL K (fun xs H Q => (∃ i, xs = [.int i] ∧ Q (.int i) H) ∨ ∃ k, xs = [.bl k] ∧ Q (.int (if k then 1 else 0)) H) cInt := fun F H xs ds d s r fe Q' k => by
  unfold cInt at fe
  split at fe
  · cases fe
    obtain ⟨v, w, rfl, r1, r2⟩ := r.uncons
    cases r2.unnil
    cases r1.int_inv
    exact .inl ⟨_, rfl, k _ F H (.refl s) (.int _)⟩
  · cases fe
    obtain ⟨v, w, rfl, r1, r2⟩ := r.uncons
    cases r2.unnil
    cases r1.bl_inv
    exact .inr ⟨_, rfl, k _ F H (.refl s) (.int _)⟩
  · cases fe
def cList : List D → Option D
  | [.list xs] => some (.list xs)
  | [.tuple xs] => some (.list xs)
  | _ => none
def rListOf (K : PySem.W.Frag) : List V → Hp → VK → Prop := fun xs H Q => ∃ q ys, xs = [.ref q] ∧ (SqL K H q ys ∨ SqT K H q ys) ∧ ∀ l, H l = none → Q (.ref l) (upd H l (.lst ys))
theorem l_list : ClL K (rListOf K) cList := fun F H xs ds d s r fe Q' k => by
  unfold cList at fe
  split at fe
  · cases fe
    obtain ⟨v, w, rfl, r1, r2⟩ := r.uncons
    cases r2.unnil
    obtain ⟨a, vs, rfl, e1, r3⟩ := r1.lst_inv
    exact ⟨a, vs, rfl, .inl (.of (s _ _ e1)), fun q hq => k _ _ _ (Gr.new1 s hq _) (Rp.new_lst (H := H) r3 (s.free hq))⟩
  · cases fe
    obtain ⟨v, w, rfl, r1, r2⟩ := r.uncons
    cases r2.unnil
    obtain ⟨a, vs, rfl, e1, r3⟩ := r1.tup_inv
    exact ⟨a, vs, rfl, .inr (Same.sqt s e1), fun q hq => k _ _ _ (Gr.new1 s hq _) (Rp.new_lst (H := H) r3 (s.free hq))⟩
  · cases fe
def cTuple : List D → Option D
  | [.list xs] => some (.tuple xs)
  | [.tuple xs] => some (.tuple xs)
  | _ => none
def rTupOf (K : PySem.W.Frag) : List V → Hp → VK → Prop := fun xs H Q => ∃ q ys, xs = [.ref q] ∧ ((SqL K H q ys ∧ ∀ l, H l = none → Q (.ref l) (upd H l (.tup ys))) ∨ (SqT K H q ys ∧ Q (.ref q) H))
theorem l_tuple : ClL K (rTupOf K) cTuple := fun F H xs ds d s r fe Q' k => by
  unfold cTuple at fe
  split at fe
  · cases fe
    obtain ⟨v, w, rfl, r1, r2⟩ := r.uncons
    cases r2.unnil
    obtain ⟨a, vs, rfl, e1, r3⟩ := r1.lst_inv
    exact ⟨a, vs, rfl, .inl ⟨.of (s _ _ e1), fun q hq => k _ _ _ (Gr.new1 s hq _) (Rp.new_tup (H := H) r3 (s.free hq))⟩⟩
  · cases fe
    obtain ⟨v, w, rfl, r1, r2⟩ := r.uncons
    cases r2.unnil
    obtain ⟨a, vs, rfl, e1, r3⟩ := r1.tup_inv
    exact ⟨a, vs, rfl, .inr ⟨Same.sqt s e1, k _ F H (.refl s) r1⟩⟩
  · cases fe
def boolsD : List D → Option (List Bool)
  | [] => some []
  | .bool i :: r => (boolsD r).map (i :: ·)
  | _ :: _ => none
theorem boolsD_map (ns : List Bool) : boolsD (ns.map .bool) = some ns := by
  induction ns with
  | nil => rfl
  | cons n r ih => show (boolsD (r.map .bool)).map _ = _; rw [ih]; rfl
theorem boolsD_eq : ∀ {ds : List D} {ns : List Bool}, boolsD ds = some ns → ds = ns.map .bool
  | [], ns, h => by cases h; rfl
  | .bool i :: r, ns, h => by
    unfold boolsD at h
    cases q : boolsD r with
    | none => rw [q] at h; cases h
    | some z =>
      rw [q] at h
      cases h
      rw [boolsD_eq q]
      rfl
  | .none :: _, _, h => by cases h
  | .int _ :: _, _, h => by cases h
  | .str _ :: _, _, h => by cases h
  | .list _ :: _, _, h => by cases h
  | .tuple _ :: _, _, h => by cases h
  | .dict _ :: _, _, h => by cases h
theorem Rps.bools {F : Hp} : ∀ {ns : List Bool} {xs : List V}, Rps K F (ns.map .bool) xs → xs = ns.map V.bl
  | [], xs, h => h.unnil
  | n :: r, xs, h => by
    obtain ⟨v, w, rfl, r1, r2⟩ := h.uncons
    cases r1.bl_inv
    rw [Rps.bools r2]
    rfl
def cAll : List D → Option D
  | [.list xs] => (boolsD xs).map fun bs => .bool (bs.all id)
  | _ => none
theorem l_all : ClL K (rAll K) cAll := fun F H xs ds d s r fe Q' k => by
  unfold cAll at fe
  split at fe
  · rename_i ys
    cases q : boolsD ys with
    | none => rw [q] at fe; cases fe
    | some bs =>
      rw [q] at fe
      cases fe
      obtain ⟨v, w, rfl, r1, r2⟩ := r.uncons
      cases r2.unnil
      obtain ⟨a, vs, rfl, e1, r3⟩ := r1.lst_inv
      rw [boolsD_eq q] at r3
      rw [r3.bools] at e1
      exact ⟨a, bs, rfl, .of (s _ _ e1), k _ F H (.refl s) (.bl _)⟩
  · cases fe
def tyD : D → String
  | .none => "NoneType"
  | .bool _ => "bool"
  | .int _ => "int"
  | .str _ => "str"
  | .list _ => "list"
  | .tuple _ => "tuple"
  | .dict _ => "dict"
theorem Rp.tyX {F : Hp} {d : D} {v : V} (h : Rp K F d v) : TyX K F v (.type (tyD d)) := by
  cases h with
  | non => exact .base .non
  | bl b => exact .base (.bl b)
  | int i => exact .base (.int i)
  | str x => exact .base (.str x)
  | lst h1 => exact .base (.lst h1)
  | tup h1 =>
    rcases h1 with (h1 | ⟨o, h1⟩) | ⟨o, its, n, h1, h2, _⟩
    · exact .base (.tup h1)
    · exact .fTuple h1
    · exact .kTuple h1 h2
  | dct h1 =>
    rcases h1 with h1 | ⟨o, h1⟩
    · exact .base (.dK h1)
    · exact .fDict h1
def isiB (d : D) (T : String) : Bool := tyD d == T || (T == "int" && tyD d == "bool")
/-- the kinds asked here -/
def okTy (T : String) : Bool := T == "int" || T == "bool" || T == "str" || T == "list" || T == "tuple" || T == "dict"
theorem kit_isi : ∀ (d : D) (T : String), okTy T = true → kitB (tyD d) T = some (isiB d T) := by
  have all : ∀ u ∈ ["NoneType", "bool", "int", "str", "list", "tuple", "dict"], ∀ T ∈ ["int", "bool", "str", "list", "tuple", "dict"], kitB u T = some (u == T || (T == "int" && u == "bool")) := by
    decide +kernel
  intro d T h
  refine all _ ?_ T ?_
  · cases d <;> simp [tyD]
  · simp only [okTy, Bool.or_eq_true, beq_iff_eq] at h
    rcases h with ((((h | h) | h) | h) | h) | h <;> subst h <;> simp
@[reducible] def mIsi (T : String) (me : ME) : ME := fun Γ n Q => me Γ n fun d n1 => Q (.bool (isiB d T)) n1
theorem e_isi {T : String} (x : Str) {q q2 : Pos} (hT : okTy T = true) (hK : p.K = X.K) (he : RE X p O e te me) (hg : Gl X "isinstance") (hm : X.mg "isinstance" = none) (hx : PE X (.Name x q2) (tC (.ty T)))
    (h : PE X (.Call (.Name "isinstance" q) [e, .Name x q2] [] pos) (tCB (rIsi X.K) (tCons te (tCons (tC (.ty T)) tNil)))) : RE X p O (.Call (.Name "isinstance" q) [e, .Name x q2] [] pos) (tCB (rIsi p.K) (tCons te (tCons (tC (.ty T)) tNil))) (mIsi T me) :=
  ⟨hK ▸ h, fun F0 H0 F H σ Γ n Q s qq Q' k =>
    he.le F0 H0 F H σ Γ n _ s qq _ fun d v F1 H1 n1 s1 e1 r1 q1 =>
      ⟨v, .ty T, _, _, _, rfl, .ty T, (r1.mono s1.fh).tyX, kit_ty (kit_isi d T hT), k _ _ F1 H1 n1 s1 e1 (.bl _) q1⟩⟩
@[reducible] def mIsi2 (T U : String) (me : ME) : ME := fun Γ n Q => me Γ n fun d n1 => Q (.bool (isiB d T || isiB d U)) n1
end
end RR
end
section
namespace RR
open PySem PySem.Spec L2
open PyProof.Rows hiding St
section
variable {p : Pm} {F0 H0 F H F' H' : Hp} {O O' : List Nat} {σ : St} {Γ : DEnv} {n : Nat}
theorem set_at {α : Type} {l : List α} {i j : Nat} {x : α} : (l.set i x)[j]? = if i = j then (if j < l.length then some x else none) else l[j]? := by
  rw [List.getElem?_set]
  by_cases e : i = j
  · subst e; rfl
  · rw [if_neg e, if_neg e]
/-- a slot gets a shared thing -/
theorem Sep.put (s : Sep p F0 H0 O F H σ Γ n) {i : Nat} {d : D} {v : V} (hi : i ∉ O) (hp : ∀ a j, p.ap = some (a, j) → j ≠ i) (r : Rp p.K F d v) : Sep p F0 H0 O F H (σ.set i (some v)) (Γ.set i (some d)) n where
  f0 := s.f0
  fh := s.fh
  stay := s.stay
  newF := s.newF
  pen := fun a j e => by
    obtain ⟨h1, h2, h3⟩ := s.pen a j e
    exact ⟨h1, by rw [List.getElem?_set_ne (Ne.symm (hp a j e))]; exact h2, h3⟩
  len := by simp [s.len]
  sh := fun j e hj h => by
    by_cases hij : i = j
    · subst hij
      rw [set_at, if_pos rfl] at h
      split at h
      · rename_i hl
        cases h
        refine ⟨v, ?_, r⟩
        rw [set_at, if_pos rfl, if_pos (by rw [s.len]; exact hl)]
      · cases h
    · rw [List.getElem?_set_ne hij] at h ⊢
      exact s.sh j e hj h
  ow := fun j hj e h => by
    have hij : i ≠ j := fun z => hi (z ▸ hj)
    rw [List.getElem?_set_ne hij] at h ⊢
    exact s.ow j hj e h
  dj := fun j hj k hk hjk a dj dk h1 h2 h3 h4 => by
    have e1 : i ≠ j := fun z => hi (z ▸ hj)
    have e2 : i ≠ k := fun z => hi (z ▸ hk)
    rw [List.getElem?_set_ne e1] at h1 h3
    rw [List.getElem?_set_ne e2] at h2 h4
    exact s.dj j hj k hk hjk a dj dk h1 h2 h3 h4
/-- what a new thing of one's own must be -/
structure Free (p : Pm) (H0 : Hp) (O : List Nat) (F H : Hp) (σ : St) (Γ : DEnv) (d : D) (a : Addr) : Prop where
  own : Own p.K F H d a
  f : F a = none
  h0 : H0 a = none
  pen : ¬ p.isPen a
  sl : ∀ j ∈ O, ∀ dj, Γ[j]? = some (some dj) → σ[j]? ≠ some (some (.ref a))
/-- a slot gets a thing of its own -/
theorem Sep.putOwn (s : Sep p F0 H0 O F H σ Γ n) {i : Nat} {d : D} {a : Addr} (hp : ∀ b j, p.ap = some (b, j) → j ≠ i) (w : Free p H0 O F H σ Γ d a) : Sep p F0 H0 (i :: O) F H (σ.set i (some (.ref a))) (Γ.set i (some d)) n where
  f0 := s.f0
  fh := s.fh
  stay := s.stay
  newF := s.newF
  pen := fun a j e => by
    obtain ⟨h1, h2, h3⟩ := s.pen a j e
    exact ⟨h1, by rw [List.getElem?_set_ne (Ne.symm (hp a j e))]; exact h2, h3⟩
  len := by simp [s.len]
  sh := fun j e hj h => by
    have hij : i ≠ j := fun z => hj (by rw [z]; exact List.mem_cons_self ..)
    rw [List.getElem?_set_ne hij] at h ⊢
    exact s.sh j e (fun z => hj (List.mem_cons_of_mem _ z)) h
  ow := fun j hj e h => by
    by_cases hij : i = j
    · subst hij
      rw [set_at, if_pos rfl] at h
      split at h
      · rename_i hl
        cases h
        refine ⟨a, ?_, w.own, w.f, w.h0, w.pen⟩
        rw [set_at, if_pos rfl, if_pos (by rw [s.len]; exact hl)]
      · cases h
    · rw [List.getElem?_set_ne hij] at h ⊢
      rcases List.mem_cons.mp hj with z | z
      · exact absurd z.symm hij
      · exact s.ow j z e h
  dj := fun j hj k hk hjk b dj dk h1 h2 h3 h4 => by
    have hl : ∀ {m : Nat} {e : D}, i = m → (Γ.set i (some d))[m]? = some (some e) → m < σ.length := fun {m e} z h => by
      subst z
      rw [set_at, if_pos rfl] at h
      split at h
      · rename_i hl; rw [s.len]; exact hl
      · cases h
    by_cases e1 : i = j
    · by_cases e2 : i = k
      · exact hjk (e1.symm.trans e2)
      · rw [List.getElem?_set_ne e2] at h2 h4
        have q := hl e1 h1
        subst e1
        rw [set_at, if_pos rfl, if_pos q] at h3
        cases h3
        rcases List.mem_cons.mp hk with z | z
        · exact e2 z.symm
        · exact w.sl k z dk h2 h4
    · rw [List.getElem?_set_ne e1] at h1 h3
      have hj' : j ∈ O := (List.mem_cons.mp hj).elim (fun z => absurd z.symm e1) id
      by_cases e2 : i = k
      · have q := hl e2 h2
        subst e2
        rw [set_at, if_pos rfl, if_pos q] at h4
        cases h4
        exact w.sl j hj' dj h1 h3
      · rw [List.getElem?_set_ne e2] at h2 h4
        have hk' : k ∈ O := (List.mem_cons.mp hk).elim (fun z => absurd z.symm e2) id
        exact s.dj j hj' k hk' hjk b dj dk h1 h2 h3 h4
/-- a free thing is frozen -/
theorem Sep.freeze0 (s : Sep p F0 H0 O F H σ Γ n) {d : D} {a : Addr} (w : Free p H0 O F H σ Γ d a) : ∃ F', Sep p F0 H0 O F' H σ Γ n ∧ Same F F' ∧ Gp p F H F' H = Gp p F H F' H ∧ Rp p.K F' d (.ref a) ∧ (∀ b o, F' b = some o → F b = some o ∨ b = a) := by
  obtain ⟨o, e⟩ := w.own.at
  have sm : Same F (upd F a o) := same_up w.f
  have nw : ∀ b u, (upd F a o) b = some u → F b = some u ∨ b = a := fun b u q => by
    by_cases hb : b = a
    · exact .inr hb
    · rw [upd_ne hb] at q; exact .inl q
  refine ⟨upd F a o, ⟨s.f0.trans sm, fun b u q => ?_, s.stay, fun b u q => ?_, fun b j q => ?_, s.len, fun j e hj h => ?_, fun j hj e h => ?_, s.dj⟩, sm, rfl, ?_, nw⟩
  · rcases nw b u q with z | z
    · exact s.fh _ _ z
    · subst z
      rw [upd_same] at q
      cases q
      exact e
  · rcases nw b u q with z | z
    · exact s.newF _ _ z
    · subst z; exact .inr w.h0
  · obtain ⟨h1, h2, ⟨x, l, xs, z1, z2, z3⟩, zt⟩ := s.pen b j q
    have hb : b ≠ a := fun z => w.pen ⟨b, j, q, .inl z.symm⟩
    exact ⟨by rw [upd_ne hb]; exact h1, h2, ⟨x, l, xs, z1, sm _ _ z2, z3⟩, zt.up sm (fun y hy => by rw [upd_ne fun z => w.pen ⟨b, j, q, .inr ⟨y, hy, z⟩⟩]; exact (zt y hy).1) (fun _ _ _ h => h)⟩
  · obtain ⟨v, q, r⟩ := s.sh j e hj h
    exact ⟨v, q, r.mono sm⟩
  · obtain ⟨b, q, r, z1, z2, z3⟩ := s.ow j hj e h
    have hb : b ≠ a := fun z => w.sl j hj e h (z ▸ q)
    refine ⟨b, q, ?_, by rw [upd_ne hb]; exact z1, z2, z3⟩
    cases r with
    | lst q1 q2 => exact .lst q1 (q2.mono sm)
    | dct q1 q2 q3 => exact .dct q1 q2 fun i x d a b => (q3 i x d a b).mono sm
  · have hw := w.own
    cases hw with
    | lst q1 q2 =>
      rw [e] at q1
      cases q1
      exact .of_lst upd_same (q2.mono sm)
    | dct q1 q2 q3 =>
      rw [e] at q1
      cases q1
      exact .dct (.inl upd_same) q2 fun i x d a b => (q3 i x d a b).mono sm
/-- an own slot's thing -/
theorem Sep.at_own (s : Sep p F0 H0 O F H σ Γ n) {i : Nat} (hi : i ∈ O) {d : D} (e : Γ[i]? = some (some d)) : ∃ a, σ[i]? = some (some (.ref a)) ∧ Free p H0 (O.filter (· ≠ i)) F H σ Γ d a := by
  obtain ⟨a, q, r, z1, z2, z3⟩ := s.ow i hi d e
  refine ⟨a, q, r, z1, z2, z3, fun j hj dj h z => ?_⟩
  obtain ⟨h1, h2⟩ := List.mem_filter.mp hj
  exact s.dj i hi j h1 (fun w => by simp [w] at h2) a d dj e h q z
/-- forgetting that a slot's thing is its own: for an unset slot nothing is to be done -/
theorem Sep.fewer (s : Sep p F0 H0 O F H σ Γ n) {i : Nat} (h : ∀ d, Γ[i]? ≠ some (some d)) : Sep p F0 H0 (O.filter (· ≠ i)) F H σ Γ n :=
  ⟨s.f0, s.fh, s.stay, s.newF, s.pen, s.len, fun j d hj e => by
    by_cases q : j = i
    · subst q; exact absurd e (h d)
    · exact s.sh j d (fun z => hj (List.mem_filter.mpr ⟨z, by simpa using q⟩)) e, fun j hj => s.ow j (List.mem_filter.mp hj).1, fun j hj k hk => s.dj j (List.mem_filter.mp hj).1 k (List.mem_filter.mp hk).1⟩
theorem Sep.freeze (s : Sep p F0 H0 O F H σ Γ n) (i : Nat) : ∃ F', Same F F' ∧ Sep p F0 H0 (O.filter (· ≠ i)) F' H σ Γ n := by
  by_cases hi : i ∈ O
  · cases e : Γ[i]? with
    | none => exact ⟨F, .refl _, s.fewer fun d z => by rw [e] at z; cases z⟩
    | some o =>
      cases o with
      | none => exact ⟨F, .refl _, s.fewer fun d z => by rw [e] at z; cases z⟩
      | some d =>
        obtain ⟨a, q, w⟩ := s.at_own hi e
        -- first out of O, then frozen
        obtain ⟨o, ho⟩ := w.own.at
        have s1 : Sep p F0 H0 (O.filter (· ≠ i)) F H σ (Γ.set i none) n := by
          have gi : ∀ j, j ≠ i → (Γ.set i none)[j]? = Γ[j]? := fun j hj => List.getElem?_set_ne (Ne.symm hj)
          refine ⟨s.f0, s.fh, s.stay, s.newF, s.pen, by simp [s.len], fun j d' hj h => ?_, fun j hj d' h => ?_, fun j hj k hk hjk a' dj dk h1 h2 h3 h4 => ?_⟩
          · by_cases z : j = i
            · subst z
              rw [set_at, if_pos rfl] at h
              split at h <;> cases h
            · rw [gi j z] at h
              exact s.sh j d' (fun z' => hj (List.mem_filter.mpr ⟨z', by simpa using z⟩)) h
          · have z : j ≠ i := by simpa using (List.mem_filter.mp hj).2
            rw [gi j z] at h
            exact s.ow j (List.mem_filter.mp hj).1 d' h
          · have z1 : j ≠ i := by simpa using (List.mem_filter.mp hj).2
            have z2 : k ≠ i := by simpa using (List.mem_filter.mp hk).2
            rw [gi j z1] at h1
            rw [gi k z2] at h2
            exact s.dj j (List.mem_filter.mp hj).1 k (List.mem_filter.mp hk).1 hjk a' dj dk h1 h2 h3 h4
        have w1 : Free p H0 (O.filter (· ≠ i)) F H σ (Γ.set i none) d a := ⟨w.own, w.f, w.h0, w.pen, fun j hj dj h => by
          have z : j ≠ i := by simpa using (List.mem_filter.mp hj).2
          rw [List.getElem?_set_ne (Ne.symm z)] at h
          exact w.sl j hj dj h⟩
        obtain ⟨F1, s2, sm, _, r, _⟩ := s1.freeze0 w1
        refine ⟨F1, sm, ⟨s2.f0, s2.fh, s2.stay, s2.newF, s2.pen, s.len, fun j d' hj h => ?_, fun j hj d' h => ?_, fun j hj k hk hjk a' dj dk h1 h2 h3 h4 => ?_⟩⟩
        · by_cases z : j = i
          · subst z
            rw [e] at h
            cases h
            exact ⟨_, q, r⟩
          · exact s2.sh j d' hj (by rw [List.getElem?_set_ne (Ne.symm z)]; exact h)
        · have z : j ≠ i := by simpa using (List.mem_filter.mp hj).2
          exact s2.ow j hj d' (by rw [List.getElem?_set_ne (Ne.symm z)]; exact h)
        · have z1 : j ≠ i := by simpa using (List.mem_filter.mp hj).2
          have z2 : k ≠ i := by simpa using (List.mem_filter.mp hk).2
          exact s2.dj j hj k hk hjk a' dj dk (by rw [List.getElem?_set_ne (Ne.symm z1)]; exact h1) (by rw [List.getElem?_set_ne (Ne.symm z2)]; exact h2) h3 h4
  · refine ⟨F, .refl _, ?_⟩
    have e : O.filter (· ≠ i) = O := List.filter_eq_self.mpr fun j hj => by simpa using fun z : j = i => hi (z ▸ hj)
    rw [e]
    exact s
theorem Sep.congr (s : Sep p F0 H0 O F H σ Γ n) (h : ∀ i, i ∈ O ↔ i ∈ O') : Sep p F0 H0 O' F H σ Γ n :=
  ⟨s.f0, s.fh, s.stay, s.newF, s.pen, s.len, fun j d hj => s.sh j d fun z => hj ((h j).mp z), fun j hj => s.ow j ((h j).mpr hj), fun j hj k hk => s.dj j ((h j).mpr hj) k ((h k).mpr hk)⟩
theorem Sep.weak (s : Sep p F0 H0 O F H σ Γ n) (h : ∀ i ∈ O', i ∈ O) : ∃ F', Same F F' ∧ Sep p F0 H0 O' F' H σ Γ n := by
  have go : ∀ (R : List Nat) (O : List Nat) (F : Hp), Sep p F0 H0 O F H σ Γ n → ∃ F', Same F F' ∧ Sep p F0 H0 (O.filter fun i => decide (i ∉ R)) F' H σ Γ n := by
    intro R
    induction R with
    | nil => intro O F s; exact ⟨F, .refl _, s.congr fun i => by simp⟩
    | cons r R ih =>
      intro O F s
      obtain ⟨F1, e1, s1⟩ := s.freeze r
      obtain ⟨F2, e2, s2⟩ := ih _ _ s1
      refine ⟨F2, e1.trans e2, s2.congr fun i => ?_⟩
      simp only [List.mem_filter, List.mem_cons, decide_eq_true_eq, not_or, ne_eq]
      constructor
      · rintro ⟨⟨a, b⟩, c⟩; exact ⟨a, b, c⟩
      · rintro ⟨a, b, c⟩; exact ⟨⟨a, b⟩, c⟩
  obtain ⟨F1, e1, s1⟩ := go (O.filter fun i => decide (i ∉ O')) O F s
  refine ⟨F1, e1, s1.congr fun i => ?_⟩
  simp only [List.mem_filter, decide_eq_true_eq, not_and, Decidable.not_not]
  constructor
  · rintro ⟨a, b⟩; exact b a
  · intro a; exact ⟨h i a, fun _ => a⟩
end
section
variable {X : Cx} {p : Pm} {Ob O O1 O2 O' : List Nat} {a b c e : Expr} {pos : Pos} {te : TE} {me : ME} {tA : TT} {mA : MT} {st : Stmt} {sts : List Stmt} {t u : TS} {m mu : MS}
@[reducible] def mNext : MS := fun E Γ n => E.nx Γ n
@[reducible] def mSeq (t u : MS) : MS := fun E Γ n => t { E with nx := u E } Γ n
theorem ls_weak {Ox : List Nat} (h : LS p Ob O O' t m) (k : ∀ i ∈ Ox, i ∈ O') : LS p Ob O Ox t m := fun F0 H0 F H σ Γ n E s q E' hn hr hb hc =>
  h F0 H0 F H σ Γ n E s q E' (fun F1 H1 σ1 Γ1 n1 s1 e1 q1 => let ⟨F2, e2, s2⟩ := s1.weak k; hn F2 H1 σ1 Γ1 n1 s2 (e1.trans e2) q1) hr hb hc
/-- a step that is none: what a slot holds is its own no more -/
theorem ls_pre {Ox : List Nat} (h : LS p Ob O O' t m) (k : ∀ i ∈ O, i ∈ Ox) : LS p Ob Ox O' t m := fun F0 H0 F H σ Γ n E s q E' hn hr hb hc => by
  obtain ⟨F1, e1, s1⟩ := s.weak k
  exact h F0 H0 F1 H σ Γ n E s1 q E' (fun F2 H2 σ2 Γ2 n2 s2 e2 q2 => hn F2 H2 σ2 Γ2 n2 s2 (e1.trans e2) q2) hr (fun F2 H2 σ2 Γ2 n2 s2 e2 q2 => hb F2 H2 σ2 Γ2 n2 s2 (e1.trans e2) q2) (fun F2 H2 σ2 Γ2 n2 s2 e2 q2 => hc F2 H2 σ2 Γ2 n2 s2 (e1.trans e2) q2)
theorem RSs.weak {Ox : List Nat} (h : RSs X p Ob O O' sts t m) (k : ∀ i ∈ Ox, i ∈ O') : RSs X p Ob O Ox sts t m := ⟨h.ps, ls_weak h.le k⟩
theorem RSs.pre {Ox : List Nat} (h : RSs X p Ob O O' sts t m) (k : ∀ i ∈ O, i ∈ Ox) : RSs X p Ob Ox O' sts t m := ⟨h.ps, ls_pre h.le k⟩
theorem ss_nil : RSs X p Ob O O [] tNext mNext := ⟨pss_nil, fun F0 H0 F H σ Γ n E s q E' hn _ _ _ => hn F H σ Γ n s (.refl _) q⟩
theorem ls_seq (h1 : LS p Ob O O1 t m) (h2 : LS p Ob O1 O' u mu) : LS p Ob O O' (tSeq t u) (mSeq m mu) := fun F0 H0 F H σ Γ n E s q E' hn hr hb hc =>
  h1 F0 H0 F H σ Γ n _ s q _ (fun F1 H1 σ1 Γ1 n1 s1 e1 q1 => h2 F0 H0 F1 H1 σ1 Γ1 n1 E s1 q1 E' (fun F2 H2 σ2 Γ2 n2 s2 e2 q2 => hn F2 H2 σ2 Γ2 n2 s2 (e1.trans e2) q2) hr
    (fun F2 H2 σ2 Γ2 n2 s2 e2 q2 => hb F2 H2 σ2 Γ2 n2 s2 (e1.trans e2) q2) (fun F2 H2 σ2 Γ2 n2 s2 e2 q2 => hc F2 H2 σ2 Γ2 n2 s2 (e1.trans e2) q2)) hr hb hc
theorem ss_cons (h1 : RS X p Ob O O1 st t m) (h2 : RSs X p Ob O1 O' sts u mu) : RSs X p Ob O O' (st :: sts) (tSeq t u) (mSeq m mu) := ⟨pss_cons h1.ps h2.ps, ls_seq h1.le h2.le⟩
theorem ss_one (h1 : RS X p Ob O O' st t m) : RSs X p Ob O O' [st] t m := ⟨pss_one h1.ps, h1.le⟩
/-- never reached -/
@[reducible] def mNever : MS := fun _ _ _ => False
theorem s_never : RS X p Ob O O' st tNever mNever := ⟨ps_never, fun F0 H0 F H σ Γ n E s q => q.elim⟩
@[reducible] def mDrop (me : ME) : MS := fun E Γ n => me Γ n fun _ n1 => E.nx Γ n1
theorem s_expr (he : RE X p O e te me) (h : PS X (.Expr e pos) (tDrop te)) : RS X p Ob O O (.Expr e pos) (tDrop te) (mDrop me) := ⟨h, fun F0 H0 F H σ Γ n E s q E' hn _ _ _ =>
  he.le F0 H0 F H σ Γ n _ s q _ fun d v F1 H1 n1 s1 e1 r1 q1 => hn F1 H1 σ Γ n1 s1 e1.f q1⟩
@[reducible] def mRet (me : ME) : MS := fun E Γ n => me Γ n E.rt
theorem s_ret (he : RE X p O e te me) : RS X p Ob O O' (.Return (some e) pos) (tRet te) (mRet me) := ⟨ps_ret he.pe, fun F0 H0 F H σ Γ n E s q E' _ hr _ _ =>
  he.le F0 H0 F H σ Γ n _ s q _ fun d v F1 H1 n1 s1 e1 r1 q1 => hr d v F1 H1 n1 s1.fin r1 q1⟩
@[reducible] def mIfS (c : MT) (t u : MS) : MS := fun E Γ n => c Γ n fun b n1 => if b = true then t E Γ n1 else u E Γ n1
theorem s_if {x y : List Stmt} (hc : RT X p O c tA mA) (ha : RSs X p Ob O O' x t m) (hb : RSs X p Ob O O' y u mu) : RS X p Ob O O' (.If c x y pos) (tIfS tA t u) (mIfS mA m mu) := ⟨ps_if hc.pt ha.ps hb.ps, fun F0 H0 F H σ Γ n E s q E' hn hr hb' hc' =>
  hc.le F0 H0 F H σ Γ n _ s q _ fun d F1 H1 n1 s1 e1 q1 => by
    cases d with
    | true =>
      rw [if_pos rfl] at q1 ⊢
      exact ha.le F0 H0 F1 H1 σ Γ n1 E s1 q1 E' (fun F2 H2 σ2 Γ2 n2 s2 e2 q2 => hn F2 H2 σ2 Γ2 n2 s2 (e1.f.trans e2) q2) hr (fun F2 H2 σ2 Γ2 n2 s2 e2 q2 => hb' F2 H2 σ2 Γ2 n2 s2 (e1.f.trans e2) q2) (fun F2 H2 σ2 Γ2 n2 s2 e2 q2 => hc' F2 H2 σ2 Γ2 n2 s2 (e1.f.trans e2) q2)
    | false =>
      rw [if_neg (by decide)] at q1 ⊢
      exact hb.le F0 H0 F1 H1 σ Γ n1 E s1 q1 E' (fun F2 H2 σ2 Γ2 n2 s2 e2 q2 => hn F2 H2 σ2 Γ2 n2 s2 (e1.f.trans e2) q2) hr (fun F2 H2 σ2 Γ2 n2 s2 e2 q2 => hb' F2 H2 σ2 Γ2 n2 s2 (e1.f.trans e2) q2) (fun F2 H2 σ2 Γ2 n2 s2 e2 q2 => hc' F2 H2 σ2 Γ2 n2 s2 (e1.f.trans e2) q2)⟩
@[reducible] def mSet (i : Nat) (me : ME) : MS := fun E Γ n => me Γ n fun d n1 => E.nx (Γ.set i (some d)) n1
def Pm.off (p : Pm) (i : Nat) : Prop := ∀ a j, p.ap = some (a, j) → j ≠ i
theorem s_set {tg : Expr} {i : Nat} (he : RE X p O e te me) (hi : i ∉ O) (hp : p.off i) (h : PS X (.Assign [tg] e pos) (tAsg te (gName i))) : RS X p Ob O O (.Assign [tg] e pos) (tAsg te (gName i)) (mSet i me) := ⟨h, fun F0 H0 F H σ Γ n E s q E' hn _ _ _ =>
  he.le F0 H0 F H σ Γ n _ s q _ fun d v F1 H1 n1 s1 e1 r1 q1 => hn F1 H1 _ _ n1 (s1.put hi hp r1) e1.f q1⟩
@[reducible] def mAug (i : Nat) (f : D → D → Option D) (me : ME) : MS := fun E Γ n => ∃ x, Γ[i]? = some (some x) ∧ me Γ n fun y n1 => ∃ d, f x y = some d ∧ E.nx (Γ.set i (some d)) n1
end
end RR
end
section
namespace RR
open PySem PySem.Spec L2
open PyProof.Rows hiding St
def Agree (is : List Nat) (σ σ' : St) : Prop := σ'.length = σ.length ∧ ∀ j, j ∉ is → σ'[j]? = σ[j]?
def LG (p : Pm) (O : List Nat) (is : List Nat) (g : TG) (mg : MG) : Prop := ∀ F0 H0 F H σ Γ n d v, Sep p F0 H0 O F H σ Γ n → Rp p.K F d v → ∀ (Q : DEnv → Prop) (Q' : St → Hp → Prop), mg d Γ Q →
  (∀ σ' Γ', Sep p F0 H0 O F H σ' Γ' n → Agree is σ σ' → Q Γ' → Q' σ' H) → g v σ H Q'
def LGs (p : Pm) (O : List Nat) (is : List Nat) (g : TGs) (mg : List D → DEnv → (DEnv → Prop) → Prop) : Prop := ∀ F0 H0 F H σ Γ n ds vs, Sep p F0 H0 O F H σ Γ n → Rps p.K F ds vs → ∀ (Q : DEnv → Prop) (Q' : St → Hp → Prop), mg ds Γ Q →
  (∀ σ' Γ', Sep p F0 H0 O F H σ' Γ' n → Agree is σ σ' → Q Γ' → Q' σ' H) → g vs σ H Q'
structure RG (X : Cx) (p : Pm) (O : List Nat) (is : List Nat) (tg : Expr) (g : TG) (mg : MG) : Prop where
  pg : PG X tg g
  le : LG p O is g mg
structure RGs (X : Cx) (p : Pm) (O : List Nat) (is : List Nat) (tg : List Expr) (g : TGs) (mg : List D → DEnv → (DEnv → Prop) → Prop) : Prop where
  pg : PGs X tg g
  le : LGs p O is g mg
@[reducible] def mgName (i : Nat) : MG := fun d Γ Q => Q (Γ.set i (some d))
@[reducible] def mgNil : List D → DEnv → (DEnv → Prop) → Prop := fun ds Γ Q => ds = [] ∧ Q Γ
@[reducible] def mgCons (g : MG) (u : List D → DEnv → (DEnv → Prop) → Prop) : List D → DEnv → (DEnv → Prop) → Prop := fun ds Γ Q => ∃ d r, ds = d :: r ∧ g d Γ fun Γ1 => u r Γ1 Q
@[reducible] def mgTup (n : Nat) (u : List D → DEnv → (DEnv → Prop) → Prop) : MG := fun d Γ Q => ∃ ds, d = .tuple ds ∧ ds.length = n ∧ u ds Γ Q
section
variable {X : Cx} {p : Pm} {O is js : List Nat} {tg : Expr} {tgs : List Expr} {g : TG} {gs : TGs} {mg : MG} {mgs : List D → DEnv → (DEnv → Prop) → Prop} {pos : Pos}
theorem g_name {x : Str} {i : Nat} (h : PG X (.Name x pos) (gName i)) (hi : i ∉ O) (hp : p.off i) : RG X p O [i] (.Name x pos) (gName i) (mgName i) := ⟨h, fun F0 H0 F H σ Γ n d v s r Q Q' q k => by
  refine k _ _ (s.put hi hp r) ⟨by simp, fun j hj => ?_⟩ q
  exact List.getElem?_set_ne fun z => hj (by simp [z])⟩
theorem gs_nil : RGs X p O [] [] gNil mgNil := ⟨pgs_nil, fun F0 H0 F H σ Γ n ds vs s r Q Q' ⟨e, q⟩ k => by
  subst e
  exact ⟨r.unnil, k σ Γ s ⟨rfl, fun _ _ => rfl⟩ q⟩⟩
theorem gs_cons (h1 : RG X p O is tg g mg) (h2 : RGs X p O js tgs gs mgs) (h : PGs X (tg :: tgs) (gCons g gs)) : RGs X p O (is ++ js) (tg :: tgs) (gCons g gs) (mgCons mg mgs) := ⟨h, fun F0 H0 F H σ Γ n ds vs s r Q Q' ⟨d, w, e, q⟩ k => by
  subst e
  obtain ⟨v, x, rfl, r1, r2⟩ := r.uncons
  refine ⟨v, x, rfl, h1.le F0 H0 F H σ Γ n d v s r1 _ _ q fun σ1 Γ1 s1 a1 q1 => ?_⟩
  refine h2.le F0 H0 F H σ1 Γ1 n w x s1 r2 _ _ q1 fun σ2 Γ2 s2 a2 q2 => ?_
  refine k σ2 Γ2 s2 ⟨a2.1.trans a1.1, fun j hj => ?_⟩ q2
  exact (a2.2 j fun z => hj (List.mem_append_right _ z)).trans (a1.2 j fun z => hj (List.mem_append_left _ z))⟩
theorem g_tup {k n : Nat} {K : PySem.W.Frag} (hK : p.K = K) (h1 : RGs X p O is tgs gs mgs) (h : PG X (.Tuple tgs k pos) (gTup K n gs)) : RG X p O is (.Tuple tgs k pos) (gTup K n gs) (mgTup n mgs) := ⟨h, fun F0 H0 F H σ Γ m d v s r Q Q' ⟨ds, e, hn, q⟩ k => by
  subst e hK
  obtain ⟨a, xs, rfl, h1', r1⟩ := r.tup_inv
  exact ⟨a, xs, rfl, Same.sqt s.fh h1', by rw [r1.len]; exact hn, h1.le F0 H0 F H σ Γ m ds xs s r1 Q Q' q k⟩⟩
end
structure Feeds (K : PySem.W.Frag) (J : It) (ds : List D) (F : Hp) : Prop where
  stop : ∀ F' H', Same F F' → Same F' H' → J.stop ds.length H'
  go : ∀ (i : Nat) d F' H', ds[i]? = some d → Same F F' → Same F' H' → J.go i H' ∧ ∀ x H2, J.yld i H' x H2 → ∃ F2, Gr F' H' F2 H2 ∧ Rp K F2 d x
abbrev MI := DEnv → Nat → (List D → Nat → Prop) → Prop
def LI (p : Pm) (O : List Nat) (wi : TI) (mi : MI) : Prop := ∀ F0 H0 F H σ Γ n (R : List D → Nat → Prop), Sep p F0 H0 O F H σ Γ n → mi Γ n R → ∀ R' : It → Hp → Prop,
  (∀ J ds F' H' n', Sep p F0 H0 O F' H' σ Γ n' → Gp p F H F' H' → Feeds p.K J ds F' → R ds n' → R' J H') → wi σ H R'
structure RI (X : Cx) (p : Pm) (O : List Nat) (tg iter : Expr) (wi : TI) (mi : MI) : Prop where
  pi : PI X tg iter wi
  le : LI p O wi mi
section
variable {X : Cx} {K : PySem.W.Frag} {p : Pm} {O : List Nat} {tg e : Expr} {te : TE} {me : ME} {ta : TA} {ma : MA} {pos : Pos}
theorem feeds_list {F : Hp} {a : Addr} {xs : List V} {ds : List D} (h : F a = some (.lst xs)) (r : Rps K F ds xs) : Feeds K (Itl K a) ds F where
  stop := fun F' H' e e' => ⟨xs, .of (e' _ _ (e _ _ h)), Nat.le_of_eq r.len⟩
  go := fun i d F' H' hd e e' => by
    have hq : SqL K H' a xs := .of (e' _ _ (e _ _ h))
    obtain ⟨v, e1, r1⟩ := r.get hd
    refine ⟨⟨xs, v, hq, e1⟩, fun x H2 ⟨h2, y⟩ => ?_⟩
    subst h2
    have := y xs hq
    rw [e1] at this
    cases this
    exact ⟨F', .refl e', r1.mono e⟩
theorem feeds_tup {F : Hp} {a : Addr} {xs : List V} {ds : List D} (h : SqT K F a xs) (r : Rps K F ds xs) : Feeds K (Itt K a) ds F where
  stop := fun F' H' e e' => ⟨xs, Same.sqt e' (Same.sqt e h), Nat.le_of_eq r.len⟩
  go := fun i d F' H' hd e e' => by
    have hq : SqT K H' a xs := Same.sqt e' (Same.sqt e h)
    obtain ⟨v, e1, r1⟩ := r.get hd
    refine ⟨⟨xs, v, hq, e1⟩, fun x H2 ⟨h2, y⟩ => ?_⟩
    subst h2
    have := y xs hq
    rw [e1] at this
    cases this
    exact ⟨F', .refl e', r1.mono e⟩
/-- lo, lo + 1, .. -/
def rangeD (lo : Int) : Nat → List D
  | 0 => []
  | n + 1 => .int lo :: rangeD (lo + 1) n
theorem rangeD_len (lo : Int) (n : Nat) : (rangeD lo n).length = n := by
  induction n generalizing lo with
  | zero => rfl
  | succ n ih => show (rangeD (lo + 1) n).length + 1 = n + 1; rw [ih]
theorem rangeD_get {lo : Int} {n i : Nat} {d : D} (h : (rangeD lo n)[i]? = some d) : d = .int (lo + i) ∧ i < n := by
  induction n generalizing lo i with
  | zero => simp [rangeD] at h
  | succ n ih =>
    cases i with
    | zero =>
      have : some (PyData.int lo) = some d := h
      cases this
      exact ⟨by simp, Nat.succ_pos n⟩
    | succ i =>
      obtain ⟨h1, h2⟩ := ih (lo := lo + 1) (i := i) h
      exact ⟨by rw [h1]; congr 1; omega, Nat.succ_lt_succ h2⟩
theorem feeds_range {F : Hp} (lo : Int) (n : Nat) : Feeds K (Itr lo n) (rangeD lo n) F where
  stop := fun F' H' e e' => Nat.le_of_eq (rangeD_len lo n).symm
  go := fun i d F' H' hd e e' => by
    obtain ⟨h1, h2⟩ := rangeD_get hd
    refine ⟨h2, fun x H2 ⟨h3, h4⟩ => ?_⟩
    subst h1 h3 h4
    exact ⟨F', .refl e', .int _⟩
def okR (i : Int) : Prop := -(2 ^ 62) ≤ i ∧ i < 2 ^ 62
@[reducible] def mIR1 (ma : MA) : MI := fun Γ n Q => ma Γ n fun ds n1 => ∃ j, ds = [.int j] ∧ okR j ∧ Q (rangeD 0 j.toNat) n1
@[reducible] def mIR2 (ma : MA) : MI := fun Γ n Q => ma Γ n fun ds n1 => ∃ i j, ds = [.int i, .int j] ∧ okR i ∧ okR j ∧ Q (rangeD i (j - i).toNat) n1
theorem i_range1 {a : Expr} {q : Pos} (ha : RA X p O [a] ta ma) (h : PI X tg (.Call (.Name "range" q) [a] [] pos) (iRng1 ta)) : RI X p O tg (.Call (.Name "range" q) [a] [] pos) (iRng1 ta) (mIR1 ma) := ⟨h, fun F0 H0 F H σ Γ n R s q R' k =>
  ha.le F0 H0 F H σ Γ n _ s q _ fun ds vs F1 H1 n1 s1 e1 r1 ⟨j, ed, o, q1⟩ => by
    subst ed
    obtain ⟨v, w, rfl, r2, r3⟩ := r1.uncons
    cases r3.unnil
    cases r2.int_inv
    exact ⟨j, rfl, o.1, o.2, k _ _ F1 H1 n1 s1 e1 (feeds_range 0 _) q1⟩⟩
/-- enumerate of a list -/
def enumD (i : Int) : List D → List D
  | [] => []
  | d :: r => .tuple [.int i, d] :: enumD (i + 1) r
theorem enumD_len (i : Int) (ds : List D) : (enumD i ds).length = ds.length := by
  induction ds generalizing i with
  | nil => rfl
  | cons d r ih => show (enumD (i + 1) r).length + 1 = r.length + 1; rw [ih]
theorem enumD_get {lo : Int} {ds : List D} {i : Nat} {d : D} (h : (enumD lo ds)[i]? = some d) : ∃ x, ds[i]? = some x ∧ d = .tuple [.int (lo + i), x] := by
  induction ds generalizing lo i with
  | nil => simp [enumD] at h
  | cons y r ih =>
    cases i with
    | zero =>
      have : some (PyData.tuple [.int lo, y]) = some d := h
      cases this
      exact ⟨y, rfl, by simp⟩
    | succ i =>
      obtain ⟨x, h1, h2⟩ := ih (lo := lo + 1) (i := i) h
      exact ⟨x, h1, by rw [h2]; congr 3; omega⟩
theorem Rp.pair {F' H' : Hp} {T : Addr} {d e : D} {x y : V} (h : H' T = none) (s : Same F' H') (r1 : Rp K F' d x) (r2 : Rp K F' e y) : Rp K (upd F' T (.tup [x, y])) (.tuple [d, e]) (.ref T) := Rp.new_tup (H := H') (.cons r1 (.cons r2 .nil)) (s.free h)
theorem feeds_enum {F : Hp} {a : Addr} {xs : List V} {ds : List D} (h : F a = some (.lst xs)) (r : Rps K F ds xs) : Feeds K (Ite K a) (enumD 0 ds) F where
  stop := fun F' H' e e' => ⟨xs, .of (e' _ _ (e _ _ h)), by rw [enumD_len]; exact Nat.le_of_eq r.len⟩
  go := fun i d F' H' hd e e' => by
    have hq : SqL K H' a xs := .of (e' _ _ (e _ _ h))
    obtain ⟨y, hy, rfl⟩ := enumD_get hd
    obtain ⟨v, e1, r1⟩ := r.get hy
    refine ⟨⟨xs, v, hq, e1⟩, fun x H2 ⟨T, w, h1, h2, h3, h4⟩ => ?_⟩
    have := h4 xs hq
    rw [e1] at this
    cases this
    subst h1 h3
    exact ⟨_, .new1 e' h2 _, Rp.pair h2 e' (by rw [Int.zero_add]; exact .int _) (r1.mono e)⟩
/-- zip -/
def zipD : List D → List D → List D
  | x :: xs, y :: ys => .tuple [x, y] :: zipD xs ys
  | _, _ => []
theorem zipD_len : ∀ xs ys : List D, (zipD xs ys).length = min xs.length ys.length
  | [], [] => rfl
  | [], _ :: _ => by simp [zipD]
  | _ :: _, [] => by simp [zipD]
  | x :: xs, y :: ys => by
    show (zipD xs ys).length + 1 = _
    rw [zipD_len xs ys, List.length_cons, List.length_cons]
    omega
theorem zipD_get : ∀ {xs ys : List D} {i : Nat} {d : D}, (zipD xs ys)[i]? = some d → ∃ x y, xs[i]? = some x ∧ ys[i]? = some y ∧ d = .tuple [x, y]
  | [], [], i, d, h => by simp [zipD] at h
  | [], _ :: _, i, d, h => by simp [zipD] at h
  | _ :: _, [], i, d, h => by simp [zipD] at h
  | x :: xs, y :: ys, 0, d, h => by
    have : some (PyData.tuple [x, y]) = some d := h
    cases this
    exact ⟨x, y, rfl, rfl, rfl⟩
  | x :: xs, y :: ys, i + 1, d, h => zipD_get (xs := xs) (ys := ys) (i := i) h
theorem feeds_zipL {F : Hp} {a b : Addr} {xs ys : List V} {ds es : List D} (h : F a = some (.lst xs)) (r : Rps K F ds xs) (h' : F b = some (.lst ys)) (r' : Rps K F es ys) : Feeds K (Itz K a b) (zipD ds es) F where
  stop := fun F' H' e e' => by
    refine ⟨xs, ys, .of (e' _ _ (e _ _ h)), .of (e' _ _ (e _ _ h')), ?_⟩
    rw [zipD_len, ← r.len, ← r'.len]
    omega
  go := fun i d F' H' hd e e' => by
    have hq : SqL K H' a xs := .of (e' _ _ (e _ _ h))
    have hq' : SqL K H' b ys := .of (e' _ _ (e _ _ h'))
    obtain ⟨x, y, hx, hy, rfl⟩ := zipD_get hd
    obtain ⟨v, e1, r1⟩ := r.get hx
    obtain ⟨u, e2, r2⟩ := r'.get hy
    refine ⟨⟨xs, ys, v, u, hq, hq', e1, e2⟩, fun w H2 ⟨T, x1, y1, h1, h2, h3, h4, h5⟩ => ?_⟩
    have t1 := h4 xs hq
    have t2 := h5 ys hq'
    rw [e1] at t1
    rw [e2] at t2
    cases t1
    cases t2
    subst h1 h3
    exact ⟨_, .new1 e' h2 _, Rp.pair h2 e' (r1.mono e) (r2.mono e)⟩
theorem feeds_zipT {F : Hp} {a b : Addr} {xs ys : List V} {ds es : List D} (h : SqT K F a xs) (r : Rps K F ds xs) (h' : SqT K F b ys) (r' : Rps K F es ys) : Feeds K (RZ.ItzT K a b) (zipD ds es) F where
  stop := fun F' H' e e' => by
    refine ⟨xs, ys, Same.sqt e' (Same.sqt e h), Same.sqt e' (Same.sqt e h'), ?_⟩
    rw [zipD_len, ← r.len, ← r'.len]
    omega
  go := fun i d F' H' hd e e' => by
    have hq : SqT K H' a xs := Same.sqt e' (Same.sqt e h)
    have hq' : SqT K H' b ys := Same.sqt e' (Same.sqt e h')
    obtain ⟨x, y, hx, hy, rfl⟩ := zipD_get hd
    obtain ⟨v, e1, r1⟩ := r.get hx
    obtain ⟨u, e2, r2⟩ := r'.get hy
    refine ⟨⟨xs, ys, v, u, hq, hq', e1, e2⟩, fun w H2 ⟨T, x1, y1, h1, h2, h3, h4, h5⟩ => ?_⟩
    have t1 := h4 xs hq
    have t2 := h5 ys hq'
    rw [e1] at t1
    rw [e2] at t2
    cases t1
    cases t2
    subst h1 h3
    exact ⟨_, .new1 e' h2 _, Rp.pair h2 e' (r1.mono e) (r2.mono e)⟩
@[reducible] def mIZ (ma : MA) : MI := fun Γ n Q => ma Γ n fun ds n1 => (∃ xs ys, ds = [.list xs, .list ys] ∧ Q (zipD xs ys) n1) ∨ ∃ xs ys, ds = [.tuple xs, .tuple ys] ∧ Q (zipD xs ys) n1
theorem i_zip {e2 : Expr} {q : Pos} (hK : p.K = X.K) (ha : RA X p O [e, e2] ta ma) (h : PI X tg (.Call (.Name "zip" q) [e, e2] [] pos) (RZ.iZipA X.K ta)) : RI X p O tg (.Call (.Name "zip" q) [e, e2] [] pos) (RZ.iZipA p.K ta) (mIZ ma) := ⟨hK ▸ h, fun F0 H0 F H σ Γ n R s q R' k =>
  ha.le F0 H0 F H σ Γ n _ s q _ fun ds vs F1 H1 n1 s1 e1 r1 q1 => by
    rcases q1 with ⟨xs, ys, ed, q1⟩ | ⟨xs, ys, ed, q1⟩
    · subst ed
      obtain ⟨v, w, rfl, r2, r3⟩ := r1.uncons
      obtain ⟨v', w', rfl, r4, r5⟩ := r3.uncons
      cases r5.unnil
      obtain ⟨a, zs, rfl, h1, r6⟩ := r2.lst_inv
      obtain ⟨b, us, rfl, h2, r7⟩ := r4.lst_inv
      exact ⟨a, b, zs, us, rfl, .inl ⟨.of (s1.fh _ _ h1), .of (s1.fh _ _ h2), k _ _ F1 H1 n1 s1 e1 (feeds_zipL h1 r6 h2 r7) q1⟩⟩
    · subst ed
      obtain ⟨v, w, rfl, r2, r3⟩ := r1.uncons
      obtain ⟨v', w', rfl, r4, r5⟩ := r3.uncons
      cases r5.unnil
      obtain ⟨a, zs, rfl, h1, r6⟩ := r2.tup_inv
      obtain ⟨b, us, rfl, h2, r7⟩ := r4.tup_inv
      exact ⟨a, b, zs, us, rfl, .inr ⟨Same.sqt s1.fh h1, Same.sqt s1.fh h2, k _ _ F1 H1 n1 s1 e1 (feeds_zipT h1 r6 h2 r7) q1⟩⟩⟩
end
def forW (g : MG) (tb : MS) (E : EndsD) : List D → DEnv → Nat → Prop
  | [], Γ, n => E.nx Γ n
  | d :: ds, Γ, n => g d Γ fun Γ1 => tb { E with nx := forW g tb E ds, ct := forW g tb E ds, bk := E.nx } Γ1 n
@[reducible] def mFor (mi : MI) (g : MG) (tb : MS) : MS := fun E Γ n => mi Γ n fun ds n1 => forW g tb E ds Γ n1
@[reducible] def mWhile (c : MT) (tb : MS) : MS := fun E Γ n => ∃ W : Nat → DEnv → Nat → Prop, (∃ m, W m Γ n) ∧ ∀ m Γ n, W m Γ n →
  c Γ n fun b n1 => if b = true then tb { E with nx := fun Γ' n' => ∃ m', m' < m ∧ W m' Γ' n', ct := fun Γ' n' => ∃ m', m' < m ∧ W m' Γ' n', bk := E.nx } Γ n1 else E.nx Γ n1
section
variable {X : Cx} {p : Pm} {Ob O O' is : List Nat} {tg iter c : Expr} {body : List Stmt} {pos : Pos} {wi : TI} {mi : MI} {g : TG} {mg : MG} {tb : TS} {mb : MS} {tc : TT} {mc : MT}
theorem ls_for (hi : LI p O wi mi) (hg : LG p O is g mg) (hb : LS p O O O tb mb) : LS p Ob O O (tFor wi g tb) (mFor mi mg mb) := fun F0 H0 F H σ Γ n E s q E' hn hr hb' hc' =>
  hi F0 H0 F H σ Γ n _ s q _ fun J ds F1 H1 n1 s1 g1 fd q1 => by
    refine ⟨fun i m σ H => m = ds.length - i ∧ i ≤ ds.length ∧ ∃ F Γ n, Same F1 F ∧ Sep p F0 H0 O F H σ Γ n ∧ forW mg mb E (ds.drop i) Γ n, ⟨ds.length, by simp, Nat.zero_le _, F1, Γ, n1, .refl _, s1, q1⟩, ?_⟩
    rintro i m σ2 H2 ⟨rfl, hi, F2, Γ2, n2, e2, s2, q2⟩
    by_cases hlt : i < ds.length
    · obtain ⟨d, hd⟩ : ∃ d, ds[i]? = some d := ⟨ds[i], by simp [hlt]⟩
      obtain ⟨go, yl⟩ := fd.go i d F2 H2 hd e2 s2.fh
      have hdr : ds.drop i = d :: ds.drop (i + 1) := by
        rw [List.drop_eq_getElem_cons hlt]
        congr 1
        simpa [hlt] using hd
      rw [hdr] at q2
      refine .inr ⟨go, fun σ' H' => ∃ F Γ n, Same F1 F ∧ Sep p F0 H0 O F H' σ' Γ n ∧ forW mg mb E (ds.drop (i + 1)) Γ n, fun σ' H' w => ⟨ds.length - (i + 1), by omega, rfl, hlt, w⟩, fun x H3 y => ?_⟩
      obtain ⟨F3, g3, r3⟩ := yl x H3 y
      refine hg F0 H0 F3 H3 σ2 Γ2 n2 d x (s2.gr g3) r3 _ _ q2 fun σ4 Γ4 s4 _ q4 => ?_
      refine hb F0 H0 F3 H3 σ4 Γ4 n2 _ s4 q4 _ (fun F5 H5 σ5 Γ5 n5 s5 e5 q5 => ⟨F5, Γ5, n5, (e2.trans g3.f).trans e5, s5, q5⟩) hr (fun F5 H5 σ5 Γ5 n5 s5 e5 q5 => hn F5 H5 σ5 Γ5 n5 s5 (((g1.f.trans e2).trans g3.f).trans e5) q5) fun F5 H5 σ5 Γ5 n5 s5 e5 q5 => ⟨F5, Γ5, n5, (e2.trans g3.f).trans e5, s5, q5⟩
    · have e : i = ds.length := by omega
      subst e
      rw [List.drop_length] at q2
      exact .inl ⟨fd.stop F2 H2 e2 s2.fh, hn F2 H2 σ2 Γ2 n2 s2 (g1.f.trans e2) q2⟩
theorem s_for (hi : RI X p O tg iter wi mi) (hg : RG X p O is tg g mg) (hb : RSs X p O O O body tb mb) (h : PS X (.For tg iter body [] pos) (tFor wi g tb)) : RS X p Ob O O (.For tg iter body [] pos) (tFor wi g tb) (mFor mi mg mb) := ⟨h, ls_for hi.le hg.le hb.le⟩
theorem s_while (hc : RT X p O c tc mc) (hb : RSs X p O O O body tb mb) (h : PS X (.While c body [] pos) (tWhile tc tb)) : RS X p Ob O O (.While c body [] pos) (tWhile tc tb) (mWhile mc mb) := ⟨h, fun F0 H0 F H σ Γ n E s ⟨W, ⟨m0, w0⟩, turn⟩ E' hn hr hb' hc' => by
  refine ⟨fun m σ H => ∃ F1 Γ n, Same F F1 ∧ Sep p F0 H0 O F1 H σ Γ n ∧ W m Γ n, ⟨m0, F, Γ, n, .refl _, s, w0⟩, ?_⟩
  rintro m σ1 H1 ⟨F1, Γ1, n1, e1, s1, w1⟩
  refine hc.le F0 H0 F1 H1 σ1 Γ1 n1 _ s1 (turn m Γ1 n1 w1) _ fun b F2 H2 n2 s2 g2 q2 => ?_
  cases b with
  | true =>
    rw [if_pos rfl] at q2 ⊢
    refine ⟨fun σ' H' => ∃ F1 Γ n, Same F F1 ∧ Sep p F0 H0 O F1 H' σ' Γ n ∧ ∃ m', m' < m ∧ W m' Γ n, fun σ' H' ⟨F3, Γ3, n3, e3, s3, m', hm, w3⟩ => ⟨m', hm, F3, Γ3, n3, e3, s3, w3⟩, ?_⟩
    exact hb.le F0 H0 F2 H2 σ1 Γ1 n2 _ s2 q2 _ (fun F5 H5 σ5 Γ5 n5 s5 e5 q5 => ⟨F5, Γ5, n5, (e1.trans g2.f).trans e5, s5, q5⟩) hr (fun F5 H5 σ5 Γ5 n5 s5 e5 q5 => hn F5 H5 σ5 Γ5 n5 s5 ((e1.trans g2.f).trans e5) q5) fun F5 H5 σ5 Γ5 n5 s5 e5 q5 => ⟨F5, Γ5, n5, (e1.trans g2.f).trans e5, s5, q5⟩
  | false =>
    rw [if_neg (by decide)] at q2 ⊢
    exact hn F2 H2 σ1 Γ1 n2 s2 (e1.trans g2.f) q2⟩
end
end RR
end
section
namespace RR
open PySem PySem.Spec L2
open PyProof.Rows hiding St
def wipeD (Γ : DEnv) : List Nat → DEnv
  | [] => Γ
  | v :: vs => (wipeD Γ vs).set v none
def compW (g : MG) (t : MT) (e : ME) (Γ : DEnv) : List D → Nat → (List D → Nat → Prop) → Prop
  | [], n, Q => Q [] n
  | d :: ds, n, Q => g d Γ fun Γ2 => t Γ2 n fun b n1 => if b = true then e Γ2 n1 fun y n2 => compW g t e Γ ds n2 fun r n3 => Q (y :: r) n3 else compW g t e Γ ds n1 Q
@[reducible] def mLc (mi : MI) (g : MG) (t : MT) (e : ME) (vs : List Nat) : ME := fun Γ n Q => mi Γ n fun ds n1 => ds.length ≤ lim ∧ compW g t e (wipeD Γ vs) ds n1 fun r n2 => Q (.list r) n2
@[reducible] def mYes : MT := fun _ n Q => Q true n
section
theorem wipe_at {σ : St} {i : Nat} : ∀ {vs : List Nat}, (wipe σ vs)[i]? = if i ∈ vs then (if i < σ.length then some none else none) else σ[i]?
  | [] => by simp [wipe]
  | v :: vs => by
    unfold wipe
    rw [set_at, wipe_length, wipe_at (vs := vs)]
    by_cases h : v = i
    · subst h; simp
    · rw [if_neg h]
      have : (i ∈ v :: vs) ↔ i ∈ vs := by simp [Ne.symm h]
      by_cases q : i ∈ vs
      · rw [if_pos q, if_pos (this.mpr q)]
      · rw [if_neg q, if_neg fun z => q (this.mp z)]
theorem wipeD_at {Γ : DEnv} {i : Nat} : ∀ {vs : List Nat}, (wipeD Γ vs)[i]? = if i ∈ vs then (if i < Γ.length then some none else none) else Γ[i]?
  | [] => by simp [wipeD]
  | v :: vs => by
    have hl : (wipeD Γ vs).length = Γ.length := by
      have go : ∀ vs : List Nat, (wipeD Γ vs).length = Γ.length := fun vs => by
        induction vs with
        | nil => rfl
        | cons v vs ih => unfold wipeD; rw [List.length_set, ih]
      exact go vs
    unfold wipeD
    rw [set_at, hl, wipeD_at (vs := vs)]
    by_cases h : v = i
    · subst h; simp
    · rw [if_neg h]
      have : (i ∈ v :: vs) ↔ i ∈ vs := by simp [Ne.symm h]
      by_cases q : i ∈ vs
      · rw [if_pos q, if_pos (this.mpr q)]
      · rw [if_neg q, if_neg fun z => q (this.mp z)]
theorem wipeD_len {Γ : DEnv} : ∀ vs : List Nat, (wipeD Γ vs).length = Γ.length
  | [] => rfl
  | v :: vs => by unfold wipeD; rw [List.length_set, wipeD_len vs]
theorem wipe_agree {σ σ' : St} {vs is : List Nat} (h : Agree is (wipe σ vs) σ') (k : ∀ i ∈ is, i ∈ vs) : wipe σ' vs = wipe σ vs := by
  apply List.ext_getElem?
  intro i
  have hl : σ'.length = σ.length := by rw [h.1, wipe_length]
  rw [wipe_at, wipe_at, hl]
  by_cases q : i ∈ vs
  · rw [if_pos q, if_pos q]
  · rw [if_neg q, if_neg q, h.2 i fun z => q (k i z), wipe_at, if_neg q]
variable {p : Pm} {F0 H0 F H : Hp} {O : List Nat} {σ : St} {Γ : DEnv} {n : Nat}
theorem Sep.wipe (s : Sep p F0 H0 O F H σ Γ n) {vs : List Nat} (hp : ∀ v ∈ vs, p.off v) : Sep p F0 H0 O F H (wipe σ vs) (wipeD Γ vs) n := by
  have gd : ∀ {j : Nat} {d : D}, (wipeD Γ vs)[j]? = some (some d) → j ∉ vs ∧ Γ[j]? = some (some d) := fun {j d} e => by
    rw [wipeD_at] at e
    by_cases q : j ∈ vs
    · rw [if_pos q] at e
      split at e <;> cases e
    · rw [if_neg q] at e
      exact ⟨q, e⟩
  refine ⟨s.f0, s.fh, s.stay, s.newF, fun a j e => ?_, by rw [wipe_length, wipeD_len]; exact s.len, fun j d hj e => ?_, fun j hj d e => ?_, fun j hj k hk hjk a dj dk h1 h2 h3 h4 => ?_⟩
  · obtain ⟨h1, h2, h3⟩ := s.pen a j e
    exact ⟨h1, by rw [wipe_at, if_neg fun z => hp j z a j e rfl]; exact h2, h3⟩
  · obtain ⟨q, e⟩ := gd e
    rw [wipe_at, if_neg q]
    exact s.sh j d hj e
  · obtain ⟨q, e⟩ := gd e
    rw [wipe_at, if_neg q]
    exact s.ow j hj d e
  · obtain ⟨q1, h1⟩ := gd h1
    obtain ⟨q2, h2⟩ := gd h2
    rw [wipe_at, if_neg q1] at h3
    rw [wipe_at, if_neg q2] at h4
    exact s.dj j hj k hk hjk a dj dk h1 h2 h3 h4
/-- the slots again, as they were -/
theorem Sep.back {F' H' : Hp} {σ' : St} {Γ' : DEnv} {n' : Nat} (s : Sep p F0 H0 O F H σ Γ n) (s' : Sep p F0 H0 O F' H' σ' Γ' n') (g : Gp p F H F' H') : Sep p F0 H0 O F' H' σ Γ n' := by
  refine ⟨s'.f0, s'.fh, s'.stay, s'.newF, fun a j e => ⟨(s'.pen a j e).1, (s.pen a j e).2.1, (s'.pen a j e).2.2⟩, s.len, fun j d hj e => ?_, fun j hj d e => ?_, s.dj⟩
  · obtain ⟨v, h1, r⟩ := s.sh j d hj e
    exact ⟨v, h1, r.mono g.f⟩
  · obtain ⟨a, h1, r, z1, z2, z3⟩ := s.ow j hj d e
    refine ⟨a, h1, ?_, ?_, z2, z3⟩
    · cases r with
      | lst q1 q2 => exact .lst (g.h _ _ q1 z3) (q2.mono g.f)
      | dct q1 q2 q3 => exact .dct (g.h _ _ q1 z3) q2 fun i x d a b => (q3 i x d a b).mono g.f
    · cases w : F' a with
      | none => rfl
      | some o =>
        obtain ⟨u, hu⟩ := r.at
        rcases g.new a o w with q | q | q
        · rw [z1] at q; cases q
        · rw [hu] at q; cases q
        · exact absurd q z3
end
section
variable {X : Cx} {p : Pm} {O is vs : List Nat} {tg iter elt : Expr} {ifs : List Expr} {pos : Pos} {wi : TI} {mi : MI} {g : TG} {mg : MG} {tt : TT} {mt : MT} {te : TE} {me : ME}
/-- a fresh thing: t tells m, and what it gives is nobody's yet -/
def LF (p : Pm) (O : List Nat) (t : TE) (m : ME) : Prop :=
  ∀ F0 H0 F H σ Γ n (Q : D → Nat → Prop), Sep p F0 H0 O F H σ Γ n → m Γ n Q → ∀ Q' : VK,
    (∀ d a F' H' n', Sep p F0 H0 O F' H' σ Γ n' → Gp p F H F' H' → Own p.K F' H' d a → F' a = none → H a = none → Q d n' → Q' (.ref a) H') → t σ H Q'
structure RF (X : Cx) (p : Pm) (O : List Nat) (e : Expr) (t : TE) (m : ME) : Prop where
  pe : PE X e t
  le : LF p O t m
theorem Sep.h0 {F0 H0 F H : Hp} {σ : St} {Γ : DEnv} {n : Nat} (s : Sep p F0 H0 O F H σ Γ n) {a : Addr} (h : H a = none) : H0 a = none ∧ ¬ p.isPen a := by
  have hp : ¬ p.isPen a := fun ⟨b, i, e, hb⟩ => by
    rcases hb with rfl | ⟨y, hy, rfl⟩
    · obtain ⟨o, q⟩ := (s.pen a i e).2.2.1.at
      rw [h] at q; cases q
    · obtain ⟨_, ps, q, _⟩ := (s.pen b i e).2.2.2 y hy
      rw [h] at q; cases q
  refine ⟨?_, hp⟩
  cases q : H0 a with
  | none => rfl
  | some o =>
    have := s.stay a o q hp
    rw [h] at this; cases this
/-- a thing that is new since H is free -/
theorem Sep.isFree {F0 H0 F H F' H' : Hp} {σ : St} {Γ : DEnv} {n : Nat} (s : Sep p F0 H0 O F H σ Γ n) {d : D} {a : Addr} (h : H a = none) (w : Own p.K F' H' d a) (f : F' a = none) : Free p H0 O F' H' σ Γ d a :=
  ⟨w, f, (s.h0 h).1, (s.h0 h).2, fun j hj dj e q => by
    obtain ⟨b, e1, r, _⟩ := s.ow j hj dj e
    rw [q] at e1
    cases e1
    obtain ⟨o, e2⟩ := r.at
    rw [h] at e2; cases e2⟩
theorem LF.toLE {t : TE} {m : ME} (h : LF p O t m) : LE p O t m := fun F0 H0 F H σ Γ n Q s q Q' k =>
  h F0 H0 F H σ Γ n Q s q Q' fun d a F1 H1 n1 s1 g1 w f ha q1 => by
    have fr := s.isFree ha w f
    obtain ⟨F2, s2, e2, _, r, nw⟩ := s1.freeze0 fr
    refine k d _ F2 H1 n1 s2 ⟨g1.f.trans e2, g1.h, fun b o e => ?_⟩ r q1
    rcases nw b o e with z | z
    · exact g1.new b o z
    · subst z; exact .inr (.inl ha)
theorem RF.e {ex : Expr} {t : TE} {m : ME} (h : RF X p O ex t m) : RE X p O ex t m := ⟨h.pe, h.le.toLE⟩
/-- an object that nobody here knows is written -/
theorem Sep.poke {F0 H0 F H : Hp} {σ : St} {Γ : DEnv} {n : Nat} (s : Sep p F0 H0 O F H σ Γ n) {a : Addr} {o : HO} (f : F a = none) (h0 : H0 a = none) (hp : ¬ p.isPen a) (sl : ∀ j ∈ O, ∀ dj, Γ[j]? = some (some dj) → σ[j]? ≠ some (some (.ref a))) : Sep p F0 H0 O F (upd H a o) σ Γ n := by
  have ne : ∀ {b : Addr} {u : HO}, F b = some u → b ≠ a := fun e z => by rw [z, f] at e; cases e
  refine ⟨s.f0, fun b u e => by rw [upd_ne (ne e)]; exact s.fh _ _ e, fun b u e q => ?_, s.newF, fun b j e => ?_, s.len, s.sh, fun j hj d e => ?_, s.dj⟩
  · rw [upd_ne fun z => by rw [z, h0] at e; cases e]
    exact s.stay b u e q
  · obtain ⟨h1, h2, ⟨w, l, xs, z1, z2, z3⟩, zt⟩ := s.pen b j e
    refine ⟨h1, h2, ⟨w, l, xs, ?_, z2, z3⟩, zt.up (.refl _) (fun y hy => (zt y hy).1) fun y hy o h => by rw [upd_ne fun z => hp ⟨b, j, e, .inr ⟨y, hy, z⟩⟩]; exact h⟩
    rw [upd_ne fun z : b = a => hp ⟨b, j, e, .inl z.symm⟩]
    exact z1
  · obtain ⟨b, h1, r, z1, z2, z3⟩ := s.ow j hj d e
    have hb : b ≠ a := fun z => sl j hj d e (z ▸ h1)
    refine ⟨b, h1, ?_, z1, z2, z3⟩
    cases r with
    | lst q1 q2 => exact .lst (by rw [upd_ne hb]; exact q1) q2
    | dct q1 q2 q3 => exact .dct (by rw [upd_ne hb]; exact q1) q2 q3
theorem Gp.none {F H F' H' : Hp} {a : Addr} {o : HO} (g : Gp p F H F' H') (f : F a = none) (h : H a = some o) (hp : ¬ p.isPen a) : F' a = none := by
  cases w : F' a with
  | none => rfl
  | some u =>
    rcases g.new a u w with q | q | q
    · rw [f] at q; cases q
    · rw [h] at q; cases q
    · exact absurd q hp
theorem lf_lc (hi : LI p O wi mi) (hg : LG p O is g mg) (ht : LT p O tt mt) (he : LE p O te me) (his : ∀ i ∈ is, i ∈ vs) (hp : ∀ v ∈ vs, p.off v) : LF p O (tLc wi g tt te vs) (mLc mi mg mt me vs) := fun F0 H0 F H σ Γ n Q s q Q' k =>
  hi F0 H0 F H σ Γ n _ s q _ fun J ds F1 H1 n1 s1 g1 fd ⟨hl, q1⟩ => fun Dd hD => by
    have hD0 : H Dd = none := by
      cases w : H Dd with
      | none => rfl
      | some o => rw [g1.h Dd o w (s1.h0 hD).2] at hD; cases hD
    have hp0 := (s1.h0 hD).2
    have hH0 := (s1.h0 hD).1
    have hF1 : F1 Dd = none := s1.fh.free hD
    have sl1 : ∀ j ∈ O, ∀ dj, Γ[j]? = some (some dj) → σ[j]? ≠ some (some (.ref Dd)) := fun j hj dj e w => by
      obtain ⟨b, e1, r, _⟩ := s1.ow j hj dj e
      rw [w] at e1
      cases e1
      obtain ⟨o, e2⟩ := r.at
      rw [hD] at e2; cases e2
    refine ⟨fun i m H => m = ds.length - i ∧ i ≤ ds.length ∧ ∃ F n acc accV, Gp p F1 H1 F H ∧ Sep p F0 H0 O F H σ Γ n ∧ F Dd = none ∧ H Dd = some (.lst accV) ∧ Rps p.K F acc accV ∧ acc.length ≤ i ∧ compW mg mt me (wipeD Γ vs) (ds.drop i) n (fun r n' => Q (.list (acc ++ r)) n'),
      ⟨ds.length, by simp, Nat.zero_le _, F1, n1, [], [], (Gr.new0 s1.fh hD _).gp, s1.gr (Gr.new0 s1.fh hD _), hF1, upd_same, .nil, Nat.zero_le _, by simpa using q1⟩, ?_⟩
    rintro i m H2 ⟨rfl, hi', F2, n2, acc, accV, g2, s2, f2, hD2, ra, hla, c2⟩
    by_cases hlt : i < ds.length
    · obtain ⟨d, hd⟩ : ∃ d, ds[i]? = some d := ⟨ds[i], by simp [hlt]⟩
      obtain ⟨go, yl⟩ := fd.go i d F2 H2 hd g2.f s2.fh
      have hdr : ds.drop i = d :: ds.drop (i + 1) := by
        rw [List.drop_eq_getElem_cons hlt]
        congr 1
        simpa [hlt] using hd
      rw [hdr] at c2
      refine .inr ⟨go, fun H => ∃ F n acc accV, Gp p F1 H1 F H ∧ Sep p F0 H0 O F H σ Γ n ∧ F Dd = none ∧ H Dd = some (.lst accV) ∧ Rps p.K F acc accV ∧ acc.length ≤ i + 1 ∧ compW mg mt me (wipeD Γ vs) (ds.drop (i + 1)) n (fun r n' => Q (.list (acc ++ r)) n'),
        fun H' w => ⟨ds.length - (i + 1), by omega, rfl, hlt, w⟩, fun x H3 y => ?_⟩
      obtain ⟨F3, g3, r3⟩ := yl x H3 y
      have s3 := s2.gr g3
      refine hg F0 H0 F3 H3 _ _ n2 d x (s3.wipe hp) r3 _ _ c2 fun σ4 Γ4 s4 a4 q4 => ?_
      refine ⟨wipe_agree a4 his, ?_⟩
      refine ht F0 H0 F3 H3 σ4 Γ4 n2 _ s4 q4 _ fun b F5 H5 n5 s5 g5 q5 => ?_
      have hD3 : H3 Dd = some (.lst accV) := g3.h _ _ hD2
      have f3 : F3 Dd = none := g3.none f2 ⟨_, hD2⟩
      have hD5 : H5 Dd = some (.lst accV) := g5.h _ _ hD3 hp0
      have f5 : F5 Dd = none := g5.none f3 hD3 hp0
      have g25 : Gp p F2 H2 F5 H5 := g3.gp.trans g5
      cases b with
      | true =>
        rw [if_pos rfl] at q5 ⊢
        refine he F0 H0 F5 H5 σ4 Γ4 n5 _ s5 q5 _ fun y v F6 H6 n6 s6 g6 r6 q6 => ?_
        have hD6 : H6 Dd = some (.lst accV) := g6.h _ _ hD5 hp0
        have f6 : F6 Dd = none := g6.none f5 hD5 hp0
        have g26 : Gp p F2 H2 F6 H6 := g25.trans g6
        refine ⟨accV, hD6, ?_, F6, n6, acc ++ [y], accV ++ [v], ?_, ((s2.back s6 g26).poke f6 hH0 hp0 sl1), f6, upd_same, (ra.mono g26.f).append (.cons r6 .nil), by rw [List.length_append, List.length_singleton]; omega, ?_⟩
        · rw [ra.len]
          exact lim_lt (by omega)
        · have g16 := g2.trans g26
          refine ⟨g16.f, fun a o e hp => ?_, g16.new⟩
          rw [upd_ne fun z => by rw [z, hD] at e; cases e]
          exact g16.h a o e hp
        · simpa using q6
      | false =>
        rw [if_neg (by decide)] at q5 ⊢
        exact ⟨F5, n5, acc, accV, g2.trans g25, s2.back s5 g25, f5, hD5, ra.mono g25.f, by omega, q5⟩
    · have e : i = ds.length := by omega
      subst e
      rw [List.drop_length] at c2
      refine .inl ⟨fd.stop F2 H2 g2.f s2.fh, k (.list acc) Dd F2 H2 n2 s2 (g1.trans g2) (.lst hD2 ra) f2 hD0 ?_⟩
      have c3 : Q (.list (acc ++ [])) n2 := c2
      rwa [List.append_nil] at c3
theorem lt_yes : LT p O tYes mYes := fun F0 H0 F H σ Γ n Q s q Q' k => k true F H n s .refl q
theorem lf_lst {t : TA} {m : MA} (h : LA p O t m) : LF p O (tLst t) (mLst m) := fun F0 H0 F H σ Γ n Q s q Q' k =>
  h F0 H0 F H σ Γ n _ s q _ fun ds us F1 H1 n1 s1 g1 r1 ⟨l, q1⟩ => by
    refine ⟨by rw [r1.len]; exact lim_line l, fun x hx => ?_⟩
    have hx0 : H x = none := by
      cases w : H x with
      | none => rfl
      | some o => rw [g1.h x o w (s1.h0 hx).2] at hx; cases hx
    exact k _ _ F1 _ n1 (s1.gr (Gr.new0 s1.fh hx _)) (g1.trans (Gr.new0 s1.fh hx _).gp) (.lst upd_same r1) (s1.fh.free hx) hx0 q1
theorem f_lst {es : List Expr} {t : TA} {m : MA} (h : RA X p O es t m) : RF X p O (.List es pos) (tLst t) (mLst m) := ⟨pe_lst h.pa, lf_lst h.le⟩
@[reducible] def mDict0 : ME := fun _ n Q => Q (.dict []) n
/-- x = a fresh thing, kept as one's own -/
theorem s_own {Ob : List Nat} {tg' e : Expr} {i : Nat} (he : RF X p O e te me) (hi : i ∉ O) (hp : p.off i) (h : PS X (.Assign [tg'] e pos) (tAsg te (gName i))) : RS X p Ob O (i :: O) (.Assign [tg'] e pos) (tAsg te (gName i)) (mSet i me) := ⟨h, fun F0 H0 F H σ Γ n E s q E' hn _ _ _ =>
  he.le F0 H0 F H σ Γ n _ s q _ fun d a F1 H1 n1 s1 g1 w f ha q1 => hn F1 H1 _ _ n1 (s1.putOwn hp (s.isFree ha w f)) g1.f q1⟩
/-- xs.append(e) -/
@[reducible] def mAppend (i : Nat) (me : ME) : MS := fun E Γ n => ∃ ds, Γ[i]? = some (some (.list ds)) ∧ me Γ n fun d n1 => ds.length < lim ∧ E.nx (Γ.set i (some (.list (ds ++ [d])))) n1
theorem s_append {Ob : List Nat} {e : Expr} {st : Stmt} {i : Nat} (he : RE X p O e te me) (hi : i ∈ O) (hK : p.K = X.K) (h : PS X st (tDrop (tBM X.K "list" rAppend (tVar i) (tCons te tNil)))) : RS X p Ob O O st (tDrop (tBM p.K "list" rAppend (tVar i) (tCons te tNil))) (mAppend i me) := ⟨hK ▸ h, fun F0 H0 F H σ Γ n E s ⟨ds, ei, q⟩ E' hn _ _ _ => by
  obtain ⟨a, e1, w, z1, z2, z3⟩ := s.ow i hi _ ei
  cases w with
  | lst w1 w2 =>
    rename_i xs
    refine ⟨.ref a, e1, .inl ⟨rfl, xs, .of w1⟩, ?_⟩
    refine he.le F0 H0 F H σ Γ n _ s q _ fun d v F1 H1 n1 s1 g1 r1 ⟨l, q1⟩ => ?_
    have w1' := g1.h _ _ w1 z3
    have f1 := g1.none z1 w1 z3
    refine ⟨a, xs, v, rfl, rfl, w1', by rw [w2.len]; exact lim_lt (by omega), ?_⟩
    refine hn F1 _ σ _ n1 ?_ g1.f q1
    -- the state behind the append
    have sg : ∀ {j : Nat} {dj : D}, (Γ.set i (some (.list (ds ++ [d]))))[j]? = some (some dj) → (j = i ∧ dj = .list (ds ++ [d])) ∨ (j ≠ i ∧ Γ[j]? = some (some dj)) := fun {j dj} e => by
      by_cases hj : i = j
      · subst hj
        rw [set_at, if_pos rfl] at e
        split at e
        · cases e; exact .inl ⟨rfl, rfl⟩
        · cases e
      · rw [List.getElem?_set_ne hj] at e
        exact .inr ⟨Ne.symm hj, e⟩
    have hu : ∀ {b : Addr} {u : HO}, F1 b = some u → b ≠ a := fun e z => by rw [z, f1] at e; cases e
    refine ⟨s1.f0, fun b u e => by rw [upd_ne (hu e)]; exact s1.fh _ _ e, fun b u e q => ?_, s1.newF, fun b j e => ?_, by simp [s1.len], fun j dj hj e => ?_, fun j hj dj e => ?_, fun j hj k hk hjk b dj dk h1 h2 h3 h4 => ?_⟩
    · rw [upd_ne fun z => by rw [z, z2] at e; cases e]
      exact s1.stay b u e q
    · obtain ⟨h1, h2, ⟨w, l, ys, y1, y2, y3⟩, zt⟩ := s1.pen b j e
      refine ⟨h1, h2, ⟨w, l, ys, ?_, y2, y3⟩, zt.up (.refl _) (fun y hy => (zt y hy).1) fun y hy o h => by rw [upd_ne fun z => z3 ⟨b, j, e, .inr ⟨y, hy, z⟩⟩]; exact h⟩
      rw [upd_ne fun z : b = a => z3 ⟨b, j, e, .inl z.symm⟩]
      exact y1
    · rcases sg e with ⟨rfl, _⟩ | ⟨_, e⟩
      · exact absurd hi hj
      · exact s1.sh j dj hj e
    · rcases sg e with ⟨rfl, rfl⟩ | ⟨hne, e⟩
      · exact ⟨a, e1, .lst upd_same ((w2.mono g1.f).append (.cons r1 .nil)), f1, z2, z3⟩
      · obtain ⟨b, h1, r, y1, y2, y3⟩ := s1.ow j hj dj e
        have hb : b ≠ a := fun z => s1.dj j hj i hi hne a dj _ e ei (z ▸ h1) e1
        refine ⟨b, h1, ?_, y1, y2, y3⟩
        cases r with
        | lst q1 q2 => exact .lst (by rw [upd_ne hb]; exact q1) q2
        | dct q1 q2 q3 => exact .dct (by rw [upd_ne hb]; exact q1) q2 q3
    · have gj : ∃ d', Γ[j]? = some (some d') := by
        rcases sg h1 with ⟨rfl, _⟩ | ⟨_, e⟩
        · exact ⟨_, ei⟩
        · exact ⟨_, e⟩
      have gk : ∃ d', Γ[k]? = some (some d') := by
        rcases sg h2 with ⟨rfl, _⟩ | ⟨_, e⟩
        · exact ⟨_, ei⟩
        · exact ⟨_, e⟩
      obtain ⟨d1, g1'⟩ := gj
      obtain ⟨d2, g2'⟩ := gk
      exact s1.dj j hj k hk hjk b d1 d2 g1' g2' h3 h4⟩
end
end RR
end
section
namespace RR
open PySem PySem.Spec L2
open PyProof.Rows hiding St
abbrev GB (k : Nat) (A : Around) : Prop := 100 ≤ k → A.guards = some []
theorem GB.le {j k : Nat} {A : Around} (g : GB k A) (h : j ≤ k) : GB j A := fun z => g (Nat.le_trans z h)
structure FnG (P : Program) (w : World) (K : PySem.W.Frag) (mg : Str → Option Value) (base : Heap) (k : Nat) (f : Addr) (fd : FuncData) (ps : List Str) (sp : Sp) : Prop where
  len : ∀ vs H Q E, sp vs H Q E → vs.length = ps.length
  run : ∀ (A : Around) (outer : List Env) (s : Shared) (H : Hp) (args : Args) (us : List Value) (vs : List V) (Q : VK) (E : XK), Room k A → GB k A →
    Env0 P w K mg base A outer s H → BindsTo s fd args (ps.zip us) → Vals vs us → sp vs H Q E → codeAny (model P w) A (.call (.ref f) args) (CR CX0 outer P w H s Q E) s
section
variable {P : Program} {w : World} {K : PySem.W.Frag} {mg : Str → Option Value} {base : Heap}
theorem FnG.mono {j k : Nat} {f : Addr} {fd : FuncData} {ps : List Str} {sp : Sp} (F : FnG P w K mg base j f fd ps sp) (h : j ≤ k) : FnG P w K mg base k f fd ps sp :=
  ⟨F.len, fun A o s H a us vs Q E hr g => F.run A o s H a us vs Q E (hr.mono h) (g.le h)⟩
theorem FnG.imp {k : Nat} {f : Addr} {fd : FuncData} {ps : List Str} {sp sp' : Sp} (F : FnG P w K mg base k f fd ps sp) (h : ∀ vs H Q E, sp' vs H Q E → sp vs H Q E) : FnG P w K mg base k f fd ps sp' :=
  ⟨fun vs H Q E q => F.len vs H Q E (h _ _ _ _ q), fun A o s H a us vs Q E r g e b v q => F.run A o s H a us vs Q E r g e b v (h _ _ _ _ q)⟩
abbrev bodyCx (P : Program) (w : World) (K : PySem.W.Frag) (mg : Str → Option Value) (base : Heap) (N : List Str) (qual : Str) (scope : Scope) (f : Addr) (cdv : Value) (A : Around) (outer : List Env) (s : Shared) (H : Hp) (E : XK) : Cx :=
  (cxOf CX0 P w K mg base N qual scope f cdv A outer s H E).nox
theorem FnG.mk' {x qual : Str} {st : Stmt} {f : Addr} {fd : FuncData} {N ps : List Str} {k : Nat} {sp : Sp} (F : Fun K x qual st f fd) (S : FnScope N ps (defScope st)) (len : ∀ vs H Q E, sp vs H Q E → vs.length = ps.length)
    (hbody : ∀ (cdv : Value) (A : Around) (outer : List Env) (s : Shared) (H : Hp) (vs : List V) (Q : VK) (E : XK), Room k (A.deeper (envOfC qual (defScope st) s.heap.objs.size f cdv)) → GB (k + 1) A → sp vs H Q E →
      ∃ t, PSs (bodyCx P w K mg base N qual (defScope st) f cdv A outer s H E) (defBody st) t ∧ t { nx := fun _ H' => Q .non H', rt := Q } (start N vs) H) : FnG P w K mg base (k + 1) f fd ps sp := by
  obtain ⟨oc, od, kV, doc, pm, an, cdv, ct, osl, rfl, lk, hcd⟩ := F.ex
  refine ⟨len, ?_⟩
  intro A outer s H args us vs Q E hr hg e0 hb r hsp
  have hl : vs.length = ps.length := len _ _ _ _ hsp
  have KX : K.In s.heap := e0.mod.kin.keeps fun b o z => (e0.bs b o z).1
  have lim := e0.mod.nolimit.keeps (h' := s.heap) fun b o z => (e0.bs b o z).1
  have kinds : ∀ y ∈ ps.zip us, (defScope st).names.lookup y.1 = some .local ∨ ((defScope st).names.lookup y.1 = some .cell ∧ ((cellsFrom (s.heap.objs.size + 1) (defScope st).names []).lookup y.1).isSome = true) := by
    rintro ⟨n, v⟩ hy
    exact (S.par n (List.of_mem_zip hy).1).imp id fun q => ⟨q, PySem.W.cellsFrom_some _ _ _ (.inl q)⟩
  refine codeAny_call_function hr.depth (KX _ _ lk) rfl S.co S.gen rfl (PySem.W.codeRec_of KX hcd) (hb _ _ _ _ (wpAny_newFunctionEnv_cells S.kind kinds ?_))
  intro env he s1 x1
  subst he
  refine ⟨lim.keeps x1.toInCall.keep, codeAny_func ?_⟩
  obtain ⟨t, ht, hq⟩ := hbody cdv A outer s H vs Q E (hr.deeper _) hg hsp
  have I := inv_start (CX := CX0) (P := P) (w := w) (K := K) (mg := mg) (E := E) S hr.hd e0 hl r x1
  refine wpAny_mono (ht.nox.run [] s1 (start N vs) H _ I hq) ?_ fun e s' z => z
  intro fl s' hs
  cases fl with
  | ret u =>
    obtain ⟨v, σ', H', J, rv, q⟩ := hs
    exact ⟨v, H', J.os, J.bare, J.base, J.hok, rv, q⟩
  | next =>
    obtain ⟨σ', H', J, q⟩ := hs
    exact ⟨V.non, H', J.os, J.bare, J.base, J.hok, rfl, q⟩
  | brk => exact hs.elim fun _ z => z.elim fun _ z => z.2.elim
  | cont => exact hs.elim fun _ z => z.elim fun _ z => z.2.elim
end
section
variable {X : Cx} {k : Nat} {f : Addr} {fd : FuncData} {ps : List Str} {sp : Sp}
theorem run_g {pins : List (Addr × Obj)} {σ : St} {H : Hp} {s : Shared} {Q : VK} {us : List Value} {vs : List V} (F : FnG X.prog X.w X.K X.mg X.base k f fd ps sp) (hr : Room k X.A) (hg : GB k X.A) (hb : Binds X.K fd ps []) (I : Inv X pins σ H s) (r : Vals vs us) (h : sp vs H Q E0) :
    wpAny (model X.prog X.w) X.A (call (.ref f) us) (EP X pins σ Q) X.xe s := by
  have hl : us.length = ps.length := r.length.symm.trans (F.len _ _ _ _ h)
  have b0 : BindsTo s fd ⟨us, []⟩ (ps.zip us) := by
    have z := hb s us I.kIn (by rw [List.append_nil]; exact hl)
    rwa [List.append_nil] at z
  refine wpAny_call (codeAny_mono (F.run X.A X.stack s H ⟨us, []⟩ us vs Q E0 hr hg I.env0 b0 r h) ?_)
  intro res s' hq
  match res, hq with
  | .ok (.ret u), hq => exact I.after hq
/-- f(e, ..) -/
theorem pe_callG {x : Str} {p pos : Pos} {e : Expr} {es : List Expr} {t : TA} (F : FnG X.prog X.w X.K X.mg X.base k f fd ps sp) (hr : Room k X.A) (hg : GB k X.A) (hgl : Gl X x) (hm : X.mg x = some (.ref f)) (hk : PySem.W.keepIn X.K (.ref f) = true) (hb : Binds X.K fd ps [])
    (ha : PA X (e :: es) t) (hdb : (x == ("__debug__" : Str)) = false := by decide) (he : starEach (e :: es) X.env = (false, eval e X.env) :: starEach es X.env := by rfl) (hpl : (backTo pos (starEach es X.env)).any (·.1) = false := by rfl) :
    PE X (.Call (.Name x p) (e :: es) [] pos) (tCall sp [] E0 t) := ⟨fun pins s σ H Q I h =>
  wpAny_Call_Name_kw (ld_glob I hgl hm (PySem.W.callWith_K (h₀ := X.base) I.ok.mod.kin hk (thn (ha.run pos pins s σ H _ I h) fun us s1 w => by
    obtain ⟨vs, H1, I1, r, q⟩ := w
    rw [List.append_nil] at q
    exact ⟨I1.kIn, run_g F hr hg hb I1 r q⟩) he hpl) hdb)⟩
end
abbrev MP := List D → (D → Prop) → Prop
/-- a def that leaves all as it is -/
def spF (K : PySem.W.Frag) (m : MP) : Sp := fun vs H Q _ => ∃ (F : Hp) (ds : List D) (R : D → Prop), Same F H ∧ Rps K F ds vs ∧ m ds R ∧ ∀ d v F' H', Gr F H F' H' → Rp K F' d v → R d → Q v H'
/-- a def that draws: its first argument is the drawing list -/
def spP (K : PySem.W.Frag) (m : MF) : Sp := fun vs H Q _ => ∃ (a dr : Addr) (ws : List V) (F : Hp) (ds : List D) (n : Nat) (R : D → Nat → Prop), vs = .ref a :: ws ∧ Same F H ∧ F a = none ∧ PenAt dr F H a n ∧ Rps K F ds ws ∧ m ds n R ∧
  ∀ d n' v F' H', Same F F' → Same F' H' → (∀ b o, H b = some o → b ≠ a → H' b = some o) → (∀ b o, F' b = some o → F b = some o ∨ H b = none) → F' a = none → PenAt dr F' H' a n' → Rp K F' d v → R d n' → Q v H'
def startD (N : List Str) (ds : List (Option D)) : DEnv := ds ++ List.replicate (N.length - ds.length) none
@[reducible] def mEnds (R : D → Nat → Prop) : EndsD := { nx := fun _ n => R .none n, rt := R }
/-- what a def's body means -/
@[reducible] def mFun (N : List Str) (np : Nat) (mb : MS) : MP := fun ds R => ds.length = np ∧ mb (mEnds fun d _ => R d) (startD N (ds.map some)) 0
@[reducible] def mFunP (N : List Str) (np : Nat) (mb : MS) : MF := fun ds n R => ds.length = np ∧ mb (mEnds R) (startD N (none :: ds.map some)) n
section
variable {P : Program} {w : World} {K : PySem.W.Frag} {mg : Str → Option Value} {base : Heap}
theorem start_get {N : List Str} {vs : List V} {i : Nat} (h : i < vs.length) : (start N vs)[i]? = some (some vs[i]) := by
  unfold L2.start
  rw [List.getElem?_append_left (by simpa using h), List.getElem?_map, List.getElem?_eq_getElem h]
  rfl
theorem startD_get {N : List Str} {ds : List (Option D)} {i : Nat} {d : D} (h : (startD N ds)[i]? = some (some d)) : ds[i]? = some (some d) := by
  unfold startD at h
  by_cases hi : i < ds.length
  · rwa [List.getElem?_append_left hi] at h
  · rw [List.getElem?_append_right (by omega), List.getElem?_replicate] at h
    split at h <;> cases h
theorem sep_start {N : List Str} {F H : Hp} {ds : List D} {vs : List V} {n : Nat} (s : Same F H) (r : Rps K F ds vs) (hl : vs.length ≤ N.length) : Sep ⟨K, none, 0⟩ F H [] F H (start N vs) (startD N (ds.map some)) n where
  f0 := .refl _
  fh := s
  stay := fun _ _ e _ => e
  newF := fun _ _ e => .inl e
  pen := fun _ _ e => nomatch e
  len := by simp [L2.start, startD, r.len]
  sh := fun i d _ e => by
    have e1 : ds[i]? = some d := by
      have := startD_get e
      rw [List.getElem?_map] at this
      cases q : ds[i]? with
      | none => rw [q] at this; cases this
      | some x => rw [q] at this; cases this; rfl
    obtain ⟨v, e2, rv⟩ := r.get e1
    have hi := (List.getElem?_eq_some_iff.mp e2).1
    refine ⟨v, ?_, rv⟩
    rw [start_get hi]
    rw [List.getElem?_eq_getElem hi] at e2
    cases e2
    rfl
  ow := fun i h => nomatch h
  dj := fun i h => nomatch h
theorem sep_startP {N : List Str} {F H : Hp} {a dr : Addr} {ds : List D} {vs : List V} {n : Nat} (s : Same F H) (fa : F a = none) (pa : PenAt dr F H a n) (r : Rps K F ds vs) (hl : vs.length + 1 ≤ N.length) : Sep ⟨K, some (a, 0), ⟨dr, []⟩⟩ F H [] F H (start N (.ref a :: vs)) (startD N (none :: ds.map some)) n where
  f0 := .refl _
  fh := s
  stay := fun _ _ e _ => e
  newF := fun _ _ e => .inl e
  pen := fun b j e => by
    cases e
    exact ⟨fa, rfl, pa, .nil⟩
  len := by simp [L2.start, startD, r.len]
  sh := fun i d _ e => by
    have e0 := startD_get e
    cases i with
    | zero => cases e0
    | succ i =>
      have e1 : ds[i]? = some d := by
        rw [List.getElem?_cons_succ, List.getElem?_map] at e0
        cases q : ds[i]? with
        | none => rw [q] at e0; cases e0
        | some x => rw [q] at e0; cases e0; rfl
      obtain ⟨v, e2, rv⟩ := r.get e1
      have hi := (List.getElem?_eq_some_iff.mp e2).1
      refine ⟨v, ?_, rv⟩
      rw [start_get (by simpa using hi)]
      rw [List.getElem?_eq_getElem hi] at e2
      cases e2
      rfl
  ow := fun i h => nomatch h
  dj := fun i h => nomatch h
/-- a def by its body's derivation -/
theorem FnG.pure {x qual : Str} {st : Stmt} {f : Addr} {fd : FuncData} {N ps : List Str} {k : Nat} {mb : MS} (F : Fun K x qual st f fd) (S : FnScope N ps (defScope st))
    (body : ∀ (cdv : Value) (A : Around) (outer : List Env) (s : Shared) (H : Hp) (E : XK), Room k (A.deeper (envOfC qual (defScope st) s.heap.objs.size f cdv)) → GB (k + 1) A →
      ∃ t O', RSs (bodyCx P w K mg base N qual (defScope st) f cdv A outer s H E) ⟨K, none, 0⟩ [] [] O' (defBody st) t mb) : FnG P w K mg base (k + 1) f fd ps (spF K (mFun N ps.length mb)) := by
  refine FnG.mk' F S (fun vs H Q E ⟨Fz, ds, R, s, r, ⟨hl, _⟩, _⟩ => r.len.trans hl) fun cdv A outer s H vs Q E hr hg ⟨Fz, ds, R, sm, r, ⟨hl, q⟩, fin⟩ => ?_
  obtain ⟨t, O', B⟩ := body cdv A outer s H E hr hg
  have hN : vs.length ≤ N.length := by
    rw [r.len, hl]
    have := congrArg List.length S.pre
    rw [List.length_take] at this
    omega
  refine ⟨t, B.ps, B.le Fz H Fz H _ _ 0 _ (sep_start sm r hN) q _ (fun F' H' σ' Γ' n' s' _ q' => ?_) (fun d v F' H' n' s' r' q' => ?_) (fun _ _ _ _ _ _ _ z => z.elim) (fun _ _ _ _ _ _ _ z => z.elim)⟩
  · exact fin .none .non F' H' ⟨s'.f0, s'.fh, fun a o e => s'.stay a o e (fun ⟨_, _, z, _⟩ => nomatch z), s'.newF⟩ .non q'
  · exact fin d v F' H' ⟨s'.f0, s'.fh, fun a o e => s'.stay a o e (fun ⟨_, _, z, _⟩ => nomatch z), s'.newF⟩ r' q'
theorem FnG.pen {x qual : Str} {st : Stmt} {f : Addr} {fd : FuncData} {N ps : List Str} {x0 : Str} {k : Nat} {mb : MS} (F : Fun K x qual st f fd) (S : FnScope N (x0 :: ps) (defScope st))
    (body : ∀ (a dr : Addr) (cdv : Value) (A : Around) (outer : List Env) (s : Shared) (H : Hp) (E : XK), Room k (A.deeper (envOfC qual (defScope st) s.heap.objs.size f cdv)) → GB (k + 1) A →
      ∃ t O', RSs (bodyCx P w K mg base N qual (defScope st) f cdv A outer s H E) ⟨K, some (a, 0), ⟨dr, []⟩⟩ [] [] O' (defBody st) t mb) : FnG P w K mg base (k + 1) f fd (x0 :: ps) (spP K (mFunP N ps.length mb)) := by
  refine FnG.mk' F S (fun vs H Q E h => ?_) fun cdv A outer s H vs Q E hr hg h => ?_
  · obtain ⟨a, dr, ws, Fz, ds, n, R, rfl, sm, fa, pa, r, ⟨hl, _⟩, _⟩ := h
    rw [List.length_cons, List.length_cons, r.len, hl]
  · obtain ⟨a, dr, ws, Fz, ds, n, R, rfl, sm, fa, pa, r, ⟨hl, q⟩, fin⟩ := h
    obtain ⟨t, O', B⟩ := body a dr cdv A outer s H E hr hg
    have hN : ws.length + 1 ≤ N.length := by
      rw [r.len, hl]
      have := congrArg List.length S.pre
      rw [List.length_take, List.length_cons] at this
      omega
    have isP : ∀ b, (Pm.mk K (some (a, 0)) ⟨dr, []⟩).isPen b → b = a := fun b ⟨c, j, e, hb⟩ => by
      cases e
      rcases hb with h | ⟨y, hy, _⟩
      · exact h
      · cases hy
    have fin' : ∀ {d : D} {v : V} {F' H' : Hp} {n' : Nat}, Fin0 ⟨K, some (a, 0), ⟨dr, []⟩⟩ Fz H F' H' n' → Rp K F' d v → R d n' → Q v H' := fun {d v F' H' n'} s' r' q' =>
      fin d n' v F' H' s'.f0 s'.fh (fun b o e hb => s'.stay b o e fun z => hb (isP b z)) s'.newF (s'.pen a 0 rfl).1 (s'.pen a 0 rfl).2.1 r' q'
    refine ⟨t, B.ps, B.le Fz H Fz H _ _ n _ (sep_startP sm fa pa r hN) q _ (fun F' H' σ' Γ' n' s' _ q' => fin' s'.fin .non q') (fun d v F' H' n' s' r' q' => fin' s' r' q') (fun _ _ _ _ _ _ _ z => z.elim) (fun _ _ _ _ _ _ _ z => z.elim)⟩
end
@[reducible] def mCall (mf : MP) (ma : MA) : ME := fun Γ n Q => ma Γ n fun ds n1 => mf ds fun d => Q d n1
@[reducible] def mCallP (mf : MF) (ma : MA) : ME := fun Γ n Q => ma Γ n fun ds n1 => mf ds n1 Q
section
variable {X : Cx} {p : Pm} {O : List Nat} {k : Nat} {f : Addr} {fd : FuncData} {ps : List Str} {x : Str} {q pos : Pos} {e : Expr} {es : List Expr} {t : TA} {ma : MA}
theorem le_call {mf : MP} (h : LA p O t ma) : LE p O (tCall (spF p.K mf) [] E0 t) (mCall mf ma) := fun F0 H0 F H σ Γ n Q s q Q' k =>
  h F0 H0 F H σ Γ n _ s q _ fun ds vs F1 H1 n1 s1 g1 r1 q1 =>
    ⟨F1, ds, _, s1.fh, by rw [List.append_nil]; exact r1, q1, fun d v F2 H2 g2 r2 q2 => k d v F2 H2 n1 (s1.gr g2) (g1.trans g2.gp) r2 q2⟩
/-- the drawing list's state anew -/
theorem Sep.drew {F0 H0 F H F' H' : Hp} {σ : St} {Γ : DEnv} {n n' : Nat} {a : Addr} {i : Nat} (s : Sep p F0 H0 O F H σ Γ n) (hp : p.ap = some (a, i)) (ff : Same F F') (fh : Same F' H') (st : ∀ b o, H b = some o → b ≠ a → H' b = some o) (nw : ∀ b o, F' b = some o → F b = some o ∨ H b = none) (fa : F' a = none) (pa : PenAt p.dr.ad F' H' a n') :
    Sep p F0 H0 O F' H' σ Γ n' ∧ Gp p F H F' H' := by
  have g : Gp p F H F' H' := ⟨ff, fun b o e hb => st b o e fun z => hb ⟨a, i, hp, .inl z⟩, fun b o e => (nw b o e).imp id .inl⟩
  have zt := (s.pen a i hp).2.2.2
  have tabs : TabF p.dr.tb F' H' := zt.up ff (fun y hy => by
    obtain ⟨h1, ps, h2, _⟩ := zt y hy
    cases q : F' y.1 with
    | none => rfl
    | some o =>
      rcases nw _ _ q with z | z
      · rw [h1] at z; cases z
      · rw [h2] at z; cases z) fun y hy o h => st _ _ h fun z => by
    obtain ⟨h1, ps, h2, _⟩ := zt y hy
    obtain ⟨_, _, _, e1, _⟩ := (s.pen a i hp).2.2.1
    rw [z, e1] at h2
    cases h2
  refine ⟨⟨s.f0.trans ff, fh, fun b o e hb => g.h b o (s.stay b o e hb) hb, fun b o e => ?_, fun b j e => ?_, s.len, fun j d hj e => ?_, fun j hj d e => ?_, s.dj⟩, g⟩
  · rcases nw b o e with z | z
    · exact s.newF b o z
    · exact .inr (s.h0 z).1
  · rw [hp] at e
    cases e
    exact ⟨fa, (s.pen a i hp).2.1, pa, tabs⟩
  · obtain ⟨v, h1, r⟩ := s.sh j d hj e
    exact ⟨v, h1, r.mono ff⟩
  · obtain ⟨b, h1, r, z1, z2, z3⟩ := s.ow j hj d e
    obtain ⟨o, ho⟩ := r.at
    refine ⟨b, h1, ?_, g.none z1 ho z3, z2, z3⟩
    cases r with
    | lst q1 q2 => exact .lst (g.h _ _ q1 z3) (q2.mono ff)
    | dct q1 q2 q3 => exact .dct (g.h _ _ q1 z3) q2 fun i x d a b => (q3 i x d a b).mono ff
/-- f(pen, e, ..): the drawing list stands in slot i -/
theorem le_callP {mf : MF} {a : Addr} {i : Nat} (hp : p.ap = some (a, i)) (h : LA p O t ma) : LE p O (tCall (spP p.K mf) [] E0 (tCons (tVar i) t)) (mCallP mf ma) := fun F0 H0 F H σ Γ n Q s q Q' k => by
  refine ⟨.ref a, (s.pen a i hp).2.1, ?_⟩
  refine h F0 H0 F H σ Γ n _ s q _ fun ds vs F1 H1 n1 s1 g1 r1 q1 => ?_
  obtain ⟨h1, _, h3, _⟩ := s1.pen a i hp
  refine ⟨a, p.dr.ad, vs, F1, ds, n1, _, by rw [List.append_nil], s1.fh, h1, h3, r1, q1, fun d n2 v F2 H2 e1 e2 e3 e4 e5 e6 e7 e8 => ?_⟩
  obtain ⟨s2, g2⟩ := s1.drew hp e1 e2 e3 e4 e5 e6
  exact k d v F2 H2 n2 s2 (g1.trans g2) e7 e8
end
end RR
end
section
namespace RR
open PySem PySem.Spec L2
open PyProof.Rows hiding St
/-- the tuple at a, each item in a new pair with its place -/
def ItE (K : PySem.W.Frag) (a : Addr) : It :=
  ⟨fun j H => ∃ (zs : List V) (z : V), SqT K H a zs ∧ zs[j]? = some z, fun j H r H' => ∃ T z, r = .ref T ∧ H T = none ∧ H' = upd H T (.tup [.int (j : Nat), z]) ∧ ∀ zs, SqT K H a zs → zs[j]? = some z, fun j H => ∃ zs : List V, SqT K H a zs ∧ zs.length ≤ j⟩
theorem isTuple_of {h : Heap} {a : Addr} {its : Array Value} (p : IsTup h a its) : h.IsTuple a its := p
theorem turn_etup {P : Program} {w : World} {K : PySem.W.Frag} {els : List Expr} {kk : Nat} {tp : Pos} (a e it : Addr) (hea : e ≠ a) (hai : a ≠ it) :
    Turn P w K (.Tuple els kk tp) (ItE K a) [e, it] e (fun j h => (∃ old, IsEnum h e it ((j : Nat) : Int) old) ∧ h.IsTupleIter it a j ∧ e ≠ it) where
  mem := List.mem_cons_self ..
  obj := by
    rintro j h ⟨⟨old, he⟩, ⟨o, ho, hcl, hda⟩, _⟩ b hb
    rcases List.mem_cons.mp hb with rfl | hb
    · exact ⟨_, he, fun v z => nomatch z⟩
    · obtain rfl : b = it := by simpa using hb
      exact ⟨o, ho, fun v z => by rw [hda] at z; cases z⟩
  keep := by
    rintro j h h' ⟨⟨old, he⟩, hi, hne⟩ kp
    exact ⟨⟨old, kp e (by simp) _ he⟩, hi.at fun o z => kp it (by simp) o z, hne⟩
  item := by
    intro X hP hw hK hc j pins s σ H E I hf st hg
    subst hP hw hK
    obtain ⟨⟨old, he⟩, hit, hne⟩ := st
    obtain ⟨zs, z, hq, hz⟩ := hg
    obtain ⟨its, rv, pt, _⟩ := I.tuple hq
    obtain ⟨u, hu, ru⟩ := rv.get hz
    have le : e < s.heap.objs.size := Heap.lt_size he
    have li : it < s.heap.objs.size := by
      obtain ⟨_, q, _⟩ := hit
      exact Heap.lt_size q
    have hj : j < its.toArray.size := by
      have := (List.getElem?_eq_some_iff.mp hu).1
      simpa using this
    have Dr := Draws.tuple (prog := X.prog) (w := X.w) (A := X.A.in1) (I.ok.hd hc) it a hai its.toArray
    refine wpAny_pyNext_enum_itemD Dr he ⟨hit, isTuple_of pt⟩ hj hne (by simp [hne, hea]) fun y h' tk hy ho hst hT hsz hk => ?_
    obtain rfl : u = y := by
      have h1 : its.toArray[j]? = some y := hy
      have h2 : its.toArray[j]? = some u := by simpa using hu
      exact Option.some.inj (h2.symm.trans h1)
    refine ⟨_, rfl, wpAny_letOwnedTupleGo_enum (s := { s with heap := h', toks := tk + 1 }) ho fun h2 he2 sb => ?_⟩
    have hT2 : h2.get? s.heap.objs.size = some { cls := .type "tuple", data := .seq #[.int j tk, u] } := (sb.2 _ (Nat.ne_of_gt le)).trans hT
    have nw : ObjOk X.prog X.w (upd H s.heap.objs.size (.tup [.int (j : Nat), z])) h2 s.heap.objs.size (.tup [.int (j : Nat), z]) :=
      ⟨by show 2 ≤ sizeLine; decide, [.int j tk, u], .cons ⟨_, rfl⟩ (.cons ru .nil), _, hT2, rfl, _, rfl⟩
    have J : Inv X pins σ (upd H s.heap.objs.size (.tup [.int (j : Nat), z])) { s with heap := h2, toks := tk + 1 } :=
      I.turnedNew (ch := [e, it]) (fun b ob hb q => (sb.2 b fun w => hb (by simp [w])).trans (hk b ob (fun w => hb (by simp [w])) (fun w => hb (by simp [w])) q)) hf (Nat.le_refl _) nw
    refine ⟨.ref s.heap.objs.size, _, J, rfl, ⟨_, z, rfl, I.hok.fresh (Nat.le_refl _), rfl, fun ys hy => by rw [I.tuple_inj hy hq]; exact hz⟩, ⟨⟨u, ?_⟩, hst.1.at fun o q => (sb.2 it (Ne.symm hne)).trans q, hne⟩, fun b hb => ?_⟩
    · rw [show ((j + 1 : Nat) : Int) = (j : Int) + 1 by omega]
      exact he2
    · have lb : b < s.heap.objs.size := by
        rcases List.mem_cons.mp hb with q | q
        · rw [q]; exact le
        · obtain rfl : b = it := by simpa using q
          exact li
      rw [upd_ne (Nat.ne_of_lt lb)]
      exact (hf b hb).1
  done := by
    intro X hP hw hK hc j pins s σ H E I hf st hg
    subst hP hw hK
    obtain ⟨⟨old, he⟩, hit, hne⟩ := st
    obtain ⟨zs, hq, hz⟩ := hg
    obtain ⟨its, rv, pt, _⟩ := I.tuple hq
    obtain ⟨f0, f1, f2, f3, f4, f5⟩ := hf it (by simp)
    have hl := rv.length
    have Dr := Draws.tuple (prog := X.prog) (w := X.w) (A := X.A.in1) (I.ok.hd hc) it a hai its.toArray
    -- the iterator stands at or behind the end: at the end as it draws
    unfold pyNext
    have hT : s.TypeIs (.ref e) "enumerate" := ⟨_, he, rfl⟩
    refine wpAny_bind (wpAny_attempt (wpAny_callSpecial?_slot (name := Str.ofString "__next__") hT PySem.F.slot_enumerate_next
      (wpAny_call_entry PySem.F.slot_enumerate_next hT PySem.F.entry_enumerate_next ?_ (PySem.F.args_enumerate_next_1 _))))
    show wpAny _ _ (field (.ref e) 2 >>= _) _ _ _
    refine wpAny_bind (wpAny_field he rfl (x := .ref it) rfl ?_)
    refine wpAny_bind (wpAny_nextOf_tuple_end (A := X.A.in1) (I.ok.hd hc) hit (isTuple_of pt) (by simp; omega) fun h' x he' hx' => ?_)
    obtain ⟨o, ho, hcl⟩ := hx'
    refine wpAny_bind (wpAny_isInstance (T := "StopIteration") (b := true) ⟨o, ho, hcl⟩ isSubtype_stop ?_)
    exact wpAny_pure ⟨rfl, I.turned (t' := s.toks) (fun b o hb q => he' b o hb q) f0 f1 f3 f4 f5⟩
  self := fun A j s Q E st h => let ⟨⟨_, he⟩, _⟩ := st; wpAny_pyIter_enum he h
theorem meets_enum1 {v : Value} {o : Obj} {H : Heap → Prop} (B : Begins v o H) :
    Meets (Builtin.«enumerate.__new__» ⟨[.type "enumerate", v], []⟩) (fun _ R s => H s.heap ∧
      R (.ok (.ret (.ref (s.heap.push o).objs.size))) { s with heap := (s.heap.push o).push { cls := .type "enumerate", data := .fields #[.none, .bool false, .ref s.heap.objs.size, rawInt 0, .none, .none] } }) :=
  .of_wp fun prog w A R s h => by
    obtain ⟨hp, g, d, tk, os⟩ := s
    obtain ⟨h1, h⟩ := h
    have sube := sub_enumerate
    have it1 : ∀ {A' : Around} {E : Value → Shared → Prop} {Q : Value → Shared → Prop}, Q (.ref hp.objs.size) ⟨hp.push o, g, d, tk, os⟩ → wpAny (model prog w) A' (pyIter v) Q E ⟨hp, g, d, tk, os⟩ :=
      fun z => B.iter prog w _ _ ⟨hp, g, d, tk, os⟩ _ h1 z
    wp_walk using it1
    refine wpAny_stack_any fun st => wpAny_pure ?_
    split
    · rename_i c _ _ _ _ _
      cases (c == Value.type "enumerate") <;> (wp_walk using it1; exact ⟨_, rfl, h⟩)
    · wp_walk using it1
      exact ⟨_, rfl, h⟩
theorem call_enum1 {prog : Program} {w : World} {A : Around} {E : Value → Shared → Prop} {s : Shared} {v : Value} {o : Obj} {H : Heap → Prop} {Q : Value → Shared → Prop} (B : Begins v o H) (h1 : H s.heap)
    (h : ∀ h', IsEnum h' (s.heap.objs.size + 1) s.heap.objs.size 0 .none → h'.get? s.heap.objs.size = some o → h'.objs.size = s.heap.objs.size + 2 → (∀ b o, s.heap.get? b = some o → h'.get? b = some o) → Q (.ref (s.heap.objs.size + 1)) { s with heap := h' }) :
    wpAny (model prog w) A (call (.type "enumerate") [v]) Q E s := by
  refine callType_new PySem.F.called_enumerate (by decide) (PySem.F.typeCall_enumerate_1 _) (PySem.F.newCall_enumerate_1 _) (fun obj => PySem.F.args_object_init_2 obj _) PySem.F.entry_enumerate_new (meets_enum1 B) ⟨h1, ?_⟩
  have hz : (s.heap.push o).objs.size = s.heap.objs.size + 1 := Heap.size_push ..
  show _ ∧ _
  rw [hz]
  have he : IsEnum ((s.heap.push o).push { cls := .type "enumerate", data := .fields #[.none, .bool false, .ref s.heap.objs.size, rawInt 0, .none, .none] }) (s.heap.objs.size + 1) s.heap.objs.size 0 .none := by
    have z := Heap.get?_push_size (s.heap.push o) (o := { cls := .type "enumerate", data := .fields #[.none, .bool false, .ref s.heap.objs.size, rawInt 0, .none, .none] }) rfl
    rw [hz] at z
    exact z
  exact ⟨⟨_, he, rfl⟩, h _ he (Heap.get?_push_of_some _ (Heap.get?_push_size _ B.free)) (by rw [Heap.size_push, hz]) fun b o x => Heap.get?_push_of_some _ (Heap.get?_push_of_some _ x)⟩
/-- enumerate of a list or a tuple -/
def iEnumA (K : PySem.W.Frag) (ta : TA) : TI := fun σ H R => ta σ H fun vs H1 => ∃ a xs, vs = [.ref a] ∧ ((SqL K H1 a xs ∧ R (Ite K a) H1) ∨ (SqT K H1 a xs ∧ R (ItE K a) H1))
theorem pi_enumA {X : Cx} {e : Expr} {ta : TA} {p pos tpos : Pos} {elts : List Expr} {kk : Nat} (hg : Gl X "enumerate") (hm : X.mg "enumerate" = none) (ha : PA X [e] ta) (hs : starEach [e] X.env = [(false, eval e X.env)] := by rfl) :
    PI X (.Tuple elts kk tpos) (.Call (.Name "enumerate" p) [e] [] pos) (iEnumA X.K ta) := ⟨fun pins s σ H R I h => by
  refine Call_ (ld_blt I hg hm boot_enumerate (callWith_type1 (thn (ha.run pos pins s σ H _ I h) fun us s1 w => ?_) hs rfl))
  obtain ⟨vs, H1, I1, r1, a, xs, ex, q⟩ := w
  subst ex
  obtain ⟨u, rfl, ru⟩ := r1.one
  cases ru
  have tail : ∀ (h' : Heap) (J : It), (∀ b o, s1.heap.get? b = some o → h'.get? b = some o) → ∀ tn, Turn X.prog X.w X.K (.Tuple elts kk tpos) J [s1.heap.objs.size + 1, s1.heap.objs.size] (s1.heap.objs.size + 1) tn → tn 0 h' → R J H1 →
      PIE X pins σ (.Tuple elts kk tpos) R (.ref (s1.heap.objs.size + 1)) { s1 with heap := h' } := fun h' J hk tn T t0 q => by
    refine ⟨s1.heap.objs.size + 1, _, tn, J, H1, rfl, I1.kept (t' := s1.toks) hk, T, t0, fun b hb => ?_, q⟩
    have hle : s1.heap.objs.size ≤ b := by
      rcases List.mem_cons.mp hb with z | z
      · rw [z]; exact Nat.le_succ _
      · rw [show b = s1.heap.objs.size by simpa using z]; exact Nat.le_refl _
    exact I1.fpOk hle (I1.hok.fresh hle)
  rcases q with ⟨hq, q⟩ | ⟨hq, q⟩
  · obtain ⟨its, rv, pl, _⟩ := I1.list hq
    exact call_enumerate_list pl.isList fun h' he hit hsz hk => wpAny_pyIter_enum he (tail h' _ hk _ (turn_enum a _ _) ⟨⟨.none, he⟩, hit, Nat.succ_ne_self _⟩ q)
  · obtain ⟨its, rv, pt, _⟩ := I1.tuple hq
    have la : a < s1.heap.objs.size := by
      obtain ⟨o, ho, _⟩ := pt
      exact Heap.lt_size ho
    refine call_enum1 (begins_tuple a its.toArray) (isTuple_of pt) fun h' he hit hsz hk => wpAny_pyIter_enum he (tail h' _ hk _ (turn_etup a _ _ (Nat.ne_of_gt (Nat.lt_succ_of_lt la)) (Nat.ne_of_lt la)) ⟨⟨.none, he⟩, ⟨_, hit, rfl, rfl⟩, Nat.succ_ne_self _⟩ q)⟩
section
variable {X : Cx} {K : PySem.W.Frag} {p : Pm} {O : List Nat} {tg e : Expr} {te : TE} {me : ME} {ta : TA} {ma : MA} {pos : Pos}
theorem feeds_enumT {F : Hp} {a : Addr} {xs : List V} {ds : List D} (h : SqT K F a xs) (r : Rps K F ds xs) : Feeds K (ItE K a) (enumD 0 ds) F where
  stop := fun F' H' e e' => ⟨xs, Same.sqt e' (Same.sqt e h), by rw [enumD_len]; exact Nat.le_of_eq r.len⟩
  go := fun i d F' H' hd e e' => by
    have hq : SqT K H' a xs := Same.sqt e' (Same.sqt e h)
    obtain ⟨y, hy, rfl⟩ := enumD_get hd
    obtain ⟨v, e1, r1⟩ := r.get hy
    refine ⟨⟨xs, v, hq, e1⟩, fun x H2 ⟨T, w, h1, h2, h3, h4⟩ => ?_⟩
    have := h4 xs hq
    rw [e1] at this
    cases this
    subst h1 h3
    exact ⟨_, .new1 e' h2 _, Rp.pair h2 e' (by rw [Int.zero_add]; exact .int _) (r1.mono e)⟩
/-- the items of a list or a tuple -/
def seqD : D → Option (List D)
  | .list xs => some xs
  | .tuple xs => some xs
  | _ => none
@[reducible] def mIEn (ma : MA) : MI := fun Γ n Q => ma Γ n fun ds n1 => ∃ d xs, ds = [d] ∧ seqD d = some xs ∧ Q (enumD 0 xs) n1
theorem i_enum {q : Pos} (hK : p.K = X.K) (ha : RA X p O [e] ta ma) (h : PI X tg (.Call (.Name "enumerate" q) [e] [] pos) (iEnumA X.K ta)) : RI X p O tg (.Call (.Name "enumerate" q) [e] [] pos) (iEnumA p.K ta) (mIEn ma) := ⟨hK ▸ h, fun F0 H0 F H σ Γ n R s q R' k =>
  ha.le F0 H0 F H σ Γ n _ s q _ fun ds vs F1 H1 n1 s1 e1 r1 ⟨d, xs, ed, sd, q1⟩ => by
    subst ed
    obtain ⟨v, w, rfl, r2, r3⟩ := r1.uncons
    cases r3.unnil
    unfold seqD at sd
    split at sd
    · cases sd
      obtain ⟨a, ys, rfl, h, r⟩ := r2.lst_inv
      exact ⟨a, ys, rfl, .inl ⟨.of (s1.fh _ _ h), k _ _ F1 H1 n1 s1 e1 (feeds_enum h r) q1⟩⟩
    · cases sd
      obtain ⟨a, ys, rfl, h, r⟩ := r2.tup_inv
      exact ⟨a, ys, rfl, .inr ⟨Same.sqt s1.fh h, k _ _ F1 H1 n1 s1 e1 (feeds_enumT h r) q1⟩⟩
    · cases sd⟩
/-- a list or a tuple, walked -/
def iSeq (K : PySem.W.Frag) (tl : TE) : TI := fun σ H R => tl σ H fun x H1 => ∃ a, x = .ref a ∧ (((∃ xs, SqL K H1 a xs) ∧ R (Itl K a) H1) ∨ ((∃ xs, SqT K H1 a xs) ∧ R (Itt K a) H1))
theorem pi_seq {l : Expr} {tl : TE} (hl : PE X l tl) : PI X tg l (iSeq X.K tl) := ⟨fun pins s σ H R I h => thn (hl.run pins s σ H _ I h) fun v s1 w => by
  obtain ⟨x, H1, I1, r1, a, rfl, q⟩ := w
  cases r1
  have fin : ∀ b ∈ [s1.heap.objs.size], FpOk X pins H1 b := fun b hb => by
    obtain rfl : b = s1.heap.objs.size := by simpa using hb
    exact I1.fpOk (Nat.le_refl _) (I1.hok.fresh (Nat.le_refl _))
  rcases q with ⟨⟨xs, hq⟩, q⟩ | ⟨⟨xs, hq⟩, q⟩
  · obtain ⟨its, rv, pl, _⟩ := I1.list hq
    exact wpAny_pyIter_list pl.isList ⟨_, _, _, _, H1, rfl, I1.kept (t' := s1.toks) fun b o z => Heap.get?_push_of_some _ z, turn_list a _, ⟨_, Heap.get?_push_size _ rfl, rfl, rfl⟩, fin, q⟩
  · obtain ⟨its, rv, pt, _⟩ := I1.tuple hq
    exact wpAny_pyIter_tuple (isTuple_of pt) ⟨_, _, _, _, H1, rfl, I1.kept (t' := s1.toks) fun b o z => Heap.get?_push_of_some _ z, turn_tuple a _, ⟨_, Heap.get?_push_size _ rfl, rfl, rfl⟩, fin, q⟩⟩
@[reducible] def mISeq (me : ME) : MI := fun Γ n Q => me Γ n fun d n1 => ∃ xs, seqD d = some xs ∧ Q xs n1
theorem i_seq (hK : p.K = X.K) (he : RE X p O e te me) : RI X p O tg e (iSeq p.K te) (mISeq me) := ⟨hK ▸ pi_seq he.pe, fun F0 H0 F H σ Γ n R s q R' k =>
  he.le F0 H0 F H σ Γ n _ s q _ fun d v F1 H1 n1 s1 e1 r1 ⟨ds, sd, q1⟩ => by
    unfold seqD at sd
    split at sd
    · cases sd
      obtain ⟨a, xs, rfl, h, r⟩ := r1.lst_inv
      exact ⟨a, rfl, .inl ⟨⟨xs, .of (s1.fh _ _ h)⟩, k _ _ F1 H1 n1 s1 e1 (feeds_list h r) q1⟩⟩
    · cases sd
      obtain ⟨a, xs, rfl, h, r⟩ := r1.tup_inv
      exact ⟨a, rfl, .inr ⟨⟨xs, Same.sqt s1.fh h⟩, k _ _ F1 H1 n1 s1 e1 (feeds_tup h r) q1⟩⟩
    · cases sd⟩
end
end RR
end
section
namespace RR
open PySem PySem.Spec L2
open PyProof.Rows hiding St
inductive Mx (p : Pm) (H F' H' : Hp) : List Bool → List D → List V → List Addr → Prop
  | nil : Mx p H F' H' [] [] [] []
  | sh {fl ds vs as d v} : Rp p.K F' d v → Mx p H F' H' fl ds vs as → Mx p H F' H' (false :: fl) (d :: ds) (v :: vs) as
  | ow {fl ds vs as d a} : Own p.K F' H' d a → F' a = none → H a = none → a ∉ as → Mx p H F' H' fl ds vs as → Mx p H F' H' (true :: fl) (d :: ds) (.ref a :: vs) (a :: as)
def LX (p : Pm) (O : List Nat) (fl : List Bool) (t : TA) (m : MA) : Prop :=
  ∀ F0 H0 F H σ Γ n (Q : List D → Nat → Prop), Sep p F0 H0 O F H σ Γ n → m Γ n Q → ∀ Q' : List V → Hp → Prop,
    (∀ ds vs as F' H' n', Sep p F0 H0 O F' H' σ Γ n' → Gp p F H F' H' → Mx p H F' H' fl ds vs as → Q ds n' → Q' vs H') → t σ H Q'
structure RX (X : Cx) (p : Pm) (O : List Nat) (fl : List Bool) (es : List Expr) (t : TA) (m : MA) : Prop where
  pa : PA X es t
  le : LX p O fl t m
section
variable {X : Cx} {p : Pm} {O : List Nat} {fl : List Bool} {e : Expr} {es : List Expr} {te : TE} {me : ME} {t : TA} {m : MA} {F0 H0 F H F' H' : Hp} {σ : St} {Γ : DEnv} {n : Nat}
theorem Mx.since {H1 F' H' : Hp} {ds : List D} {vs : List V} {as : List Addr} (h : Mx p H1 F' H' fl ds vs as) (k : ∀ a, H1 a = none → H a = none) : Mx p H F' H' fl ds vs as := by
  induction h with
  | nil => exact .nil
  | sh r _ ih => exact .sh r ih
  | ow w f z q _ ih => exact .ow w f (k _ z) q ih
theorem Mx.news {ds : List D} {vs : List V} {as : List Addr} (h : Mx p H F' H' fl ds vs as) : ∀ a ∈ as, H a = none := by
  induction h with
  | nil => intro a h; cases h
  | sh _ _ ih => exact ih
  | ow w f z q _ ih =>
    intro b hb
    rcases List.mem_cons.mp hb with rfl | hb
    · exact z
    · exact ih b hb
theorem Sep.since (s : Sep p F0 H0 O F H σ Γ n) (s1 : Sep p F0 H0 O F' H' σ Γ n) (g : Gp p F H F' H') {a : Addr} (h : H' a = none) : H a = none := by
  cases w : H a with
  | none => rfl
  | some o =>
    have := g.h a o w (s1.h0 h).2
    rw [h] at this; cases this
theorem x_nil : RX X p O [] [] tNil mNil := ⟨pa_nil, fun F0 H0 F H σ Γ n Q s q Q' k => k [] [] [] F H n s .refl .nil q⟩
theorem lx_sh (ha : LE p O te me) (hr : LX p O fl t m) : LX p O (false :: fl) (tCons te t) (mCons me m) := fun F0 H0 F H σ Γ n Q s q Q' k =>
  ha F0 H0 F H σ Γ n _ s q _ fun d v F1 H1 n1 s1 g1 r1 q1 =>
    hr F0 H0 F1 H1 σ Γ n1 _ s1 q1 _ fun ds vs as F2 H2 n2 s2 g2 m2 q2 =>
      k (d :: ds) (v :: vs) as F2 H2 n2 s2 (g1.trans g2) (.sh (r1.mono g2.f) (m2.since fun a h => by
        cases w : H a with
        | none => rfl
        | some o => rw [g1.h a o w (s1.h0 h).2] at h; cases h)) q2
theorem Own.gp {d : D} {a : Addr} (h : Own p.K F H d a) (g : Gp p F H F' H') (hp : ¬ p.isPen a) : Own p.K F' H' d a := by
  cases h with
  | lst q1 q2 => exact .lst (g.h _ _ q1 hp) (q2.mono g.f)
  | dct q1 q2 q3 => exact .dct (g.h _ _ q1 hp) q2 fun i x d a b => (q3 i x d a b).mono g.f
theorem lx_ow (ha : LF p O te me) (hr : LX p O fl t m) : LX p O (true :: fl) (tCons te t) (mCons me m) := fun F0 H0 F H σ Γ n Q s q Q' k =>
  ha F0 H0 F H σ Γ n _ s q _ fun d a F1 H1 n1 s1 g1 w1 f1 z1 q1 =>
    hr F0 H0 F1 H1 σ Γ n1 _ s1 q1 _ fun ds vs as F2 H2 n2 s2 g2 m2 q2 => by
      have hp := (s.h0 z1).2
      obtain ⟨o, ho⟩ := w1.at
      refine k (d :: ds) (.ref a :: vs) (a :: as) F2 H2 n2 s2 (g1.trans g2) (.ow (w1.gp g2 hp) (g2.none f1 ho hp) z1 (fun hm => ?_) (m2.since fun a h => ?_)) q2
      · have := m2.news a hm
        rw [ho] at this; cases this
      · cases w : H a with
        | none => rfl
        | some o => rw [g1.h a o w (s1.h0 h).2] at h; cases h
theorem x_sh (ha : RE X p O e te me) (hr : RX X p O fl es t m) (hs : starEach (e :: es) X.env = (false, eval e X.env) :: starEach es X.env := by rfl) : RX X p O (false :: fl) (e :: es) (tCons te t) (mCons me m) := ⟨pa_cons ha.pe hr.pa hs, lx_sh ha.le hr.le⟩
theorem x_ow (ha : RF X p O e te me) (hr : RX X p O fl es t m) (hs : starEach (e :: es) X.env = (false, eval e X.env) :: starEach es X.env := by rfl) : RX X p O (true :: fl) (e :: es) (tCons te t) (mCons me m) := ⟨pa_cons ha.pe hr.pa hs, lx_ow ha.le hr.le⟩
/-- slots set one after the other -/
def setsD (Γ : DEnv) : List Nat → List D → DEnv
  | i :: is, d :: ds => setsD (Γ.set i (some d)) is ds
  | _, _ => Γ
def setsV (σ : St) : List Nat → List V → St
  | i :: is, d :: ds => setsV (σ.set i (some d)) is ds
  | _, _ => σ
def owns : List Nat → List Bool → List Nat → List Nat
  | i :: is, true :: fl, O => owns is fl (i :: O)
  | _ :: is, false :: fl, O => owns is fl O
  | _, _, O => O
theorem Sep.puts {Hs : Hp} {ds : List D} {vs : List V} {as : List Addr} (h : Mx p Hs F H fl ds vs as) (hh : ∀ a, Hs a = none → H0 a = none ∧ ¬ p.isPen a) : ∀ (is O : List Nat) (σ : St) (Γ : DEnv), Sep p F0 H0 O F H σ Γ n → is.Nodup → (∀ i ∈ is, i ∉ O ∧ p.off i) →
    (∀ a ∈ as, ∀ j ∈ O, ∀ dj, Γ[j]? = some (some dj) → σ[j]? ≠ some (some (.ref a))) → is.length = ds.length → Sep p F0 H0 (owns is fl O) F H (setsV σ is vs) (setsD Γ is ds) n := by
  induction h with
  | nil =>
    intro is O σ Γ s _ _ _ hl
    obtain rfl : is = [] := List.length_eq_zero_iff.mp hl
    exact s
  | sh r m ih =>
    rename_i d v
    intro is O σ Γ s nd ho ha hl
    match is, nd, ho, hl with
    | [], _, _, hl => simp at hl
    | i :: is, nd, ho, hl =>
      obtain ⟨h1, h2⟩ := List.nodup_cons.mp nd
      obtain ⟨h3, h4⟩ := ho i (List.mem_cons_self ..)
      refine ih is O _ _ (s.put h3 h4 r) h2 (fun j hj => ho j (List.mem_cons_of_mem _ hj)) (fun a hm j hj dj e => ?_) (by simpa using hl)
      have hij : i ≠ j := fun z => h3 (z ▸ hj)
      rw [List.getElem?_set_ne hij] at e ⊢
      exact ha a hm j hj dj e
  | ow w f z q m ih =>
    rename_i d a
    intro is O σ Γ s nd ho ha hl
    match is, nd, ho, hl with
    | [], _, _, hl => simp at hl
    | i :: is, nd, ho, hl =>
      obtain ⟨h1, h2⟩ := List.nodup_cons.mp nd
      obtain ⟨h3, h4⟩ := ho i (List.mem_cons_self ..)
      have fr : Free p H0 O F H σ Γ d a := ⟨w, f, (hh a z).1, (hh a z).2, ha a (List.mem_cons_self ..)⟩
      refine ih is (i :: O) _ _ (s.putOwn h4 fr) h2 (fun j hj => ⟨fun hm => ?_, (ho j (List.mem_cons_of_mem _ hj)).2⟩) (fun b hm j hj dj e => ?_) (by simpa using hl)
      · rcases List.mem_cons.mp hm with rfl | hm
        · exact h1 hj
        · exact (ho j (List.mem_cons_of_mem _ hj)).1 hm
      · by_cases hij : i = j
        · subst hij
          rw [set_at, if_pos rfl] at e ⊢
          split at e
          · rename_i hi
            rw [if_pos (by rw [s.len]; exact hi)]
            intro z'
            cases z'
            exact q hm
          · cases e
        · rw [List.getElem?_set_ne hij] at e ⊢
          rcases List.mem_cons.mp hj with z' | z'
          · exact absurd z'.symm hij
          · exact ha b (List.mem_cons_of_mem _ hm) j z' dj e
theorem Mx.gr {Hs F2 H2 : Hp} {ds : List D} {vs : List V} {as : List Addr} (h : Mx p Hs F H fl ds vs as) (g : Gr F H F2 H2) : Mx p Hs F2 H2 fl ds vs as := by
  induction h with
  | nil => exact .nil
  | sh r _ ih => exact .sh (r.mono g.f) ih
  | ow w f z q _ ih => exact .ow (w.gr g) (g.none f w.at) z q ih
theorem Mx.len {ds : List D} {vs : List V} {as : List Addr} (h : Mx p H F' H' fl ds vs as) : vs.length = ds.length := by
  induction h with
  | nil => rfl
  | sh _ _ ih => simp [ih]
  | ow _ _ _ _ _ ih => simp [ih]
@[reducible] def mPar (is : List Nat) (m : MA) : MS := fun E Γ n => m Γ n fun ds n1 => ds.length = is.length ∧ E.nx (setsD Γ is ds) n1
/-- the state behind a parallel assignment -/
theorem LX.par {is : List Nat} {Ob : List Nat} {T : TS} (h : LX p O fl t m) (nd : is.Nodup) (ho : ∀ i ∈ is, i ∉ O ∧ p.off i)
    (hT : ∀ (E' : Ends) σ H, t σ H (fun vs H1 => vs.length = is.length ∧ E'.nx (setsV σ is vs) H1) → T E' σ H) : LS p Ob O (owns is fl O) T (mPar is m) := fun F0 H0 F H σ Γ n E s q E' hn _ _ _ => by
  refine hT E' σ H (h F0 H0 F H σ Γ n _ s q _ fun ds vs as F1 H1 n1 s1 g1 m1 ⟨hl, q1⟩ => ⟨m1.len.trans hl, ?_⟩)
  refine hn F1 H1 _ _ n1 (Sep.puts m1 (fun a z => s.h0 z) is O σ Γ s1 nd ho (fun a hm j hj dj e q => ?_) hl.symm) g1.f q1
  obtain ⟨b, e1, r, _⟩ := s.ow j hj dj e
  rw [q] at e1
  cases e1
  obtain ⟨o, e2⟩ := r.at
  rw [m1.news _ hm] at e2; cases e2
theorem s_par2 {Ob : List Nat} {i j : Nat} {a b : Expr} {st : Stmt} (h : RX X p O fl [a, b] t m) (nd : [i, j].Nodup) (ho : ∀ k ∈ [i, j], k ∉ O ∧ p.off k) (hS : PS X st (tPar i j t)) : RS X p Ob O (owns [i, j] fl O) st (tPar i j t) (mPar [i, j] m) := ⟨hS, h.le.par nd ho fun E' σ H q => by
  have mono : ∀ Q : List V → Hp → Prop, t σ H Q → t σ H Q := fun _ z => z
  revert q
  unfold tPar
  intro q
  exact (show (fun vs H1 => vs.length = [i, j].length ∧ E'.nx (setsV σ [i, j] vs) H1) = (fun vs H1 => ∃ v w, vs = [v, w] ∧ E'.nx ((σ.set i (some v)).set j (some w)) H1) from by
    funext vs H1
    apply propext
    constructor
    · rintro ⟨hl, q⟩
      match vs, hl with
      | [v, w], _ => exact ⟨v, w, rfl, q⟩
    · rintro ⟨v, w, rfl, q⟩
      exact ⟨rfl, q⟩) ▸ q⟩
theorem s_par3 {Ob : List Nat} {i j l : Nat} {a b c : Expr} {st : Stmt} (h : RX X p O fl [a, b, c] t m) (nd : [i, j, l].Nodup) (ho : ∀ k ∈ [i, j, l], k ∉ O ∧ p.off k) (hS : PS X st (tPar3 i j l t)) : RS X p Ob O (owns [i, j, l] fl O) st (tPar3 i j l t) (mPar [i, j, l] m) := ⟨hS, h.le.par nd ho fun E' σ H q => by
  unfold tPar3
  exact (show (fun vs H1 => vs.length = [i, j, l].length ∧ E'.nx (setsV σ [i, j, l] vs) H1) = (fun vs H1 => ∃ u v w, vs = [u, v, w] ∧ E'.nx (((σ.set i (some u)).set j (some v)).set l (some w)) H1) from by
    funext vs H1
    apply propext
    constructor
    · rintro ⟨hl, q⟩
      match vs, hl with
      | [u, v, w], _ => exact ⟨u, v, w, rfl, q⟩
    · rintro ⟨u, v, w, rfl, q⟩
      exact ⟨rfl, q⟩) ▸ q⟩
/-- a, b = e: a tuple taken apart -/
@[reducible] def mAsg (me : ME) (mg : MG) : MS := fun E Γ n => me Γ n fun d n1 => mg d Γ fun Γ1 => E.nx Γ1 n1
theorem s_asg {Ob is : List Nat} {tg : Expr} {g : TG} {mg : MG} {st : Stmt} (he : RE X p O e te me) (hg : RG X p O is tg g mg) (hS : PS X st (tAsg te g)) : RS X p Ob O O st (tAsg te g) (mAsg me mg) := ⟨hS, fun F0 H0 F H σ Γ n E s q E' hn _ _ _ =>
  he.le F0 H0 F H σ Γ n _ s q _ fun d v F1 H1 n1 s1 g1 r1 q1 =>
    hg.le F0 H0 F1 H1 σ Γ n1 d v s1 r1 _ _ q1 fun σ2 Γ2 s2 _ q2 => hn F1 H1 σ2 Γ2 n1 s2 g1.f q2⟩
end
section
variable {X : Cx} {K : PySem.W.Frag} {p : Pm} {O : List Nat} {e : Expr} {te : TE} {me : ME} {pos : Pos}
/-- a value's truth -/
def truD : D → Option Bool
  | .none => some false
  | .bool b => some b
  | .int i => some (i != 0)
  | .list xs => some (!xs.isEmpty)
  | .tuple xs => some (!xs.isEmpty)
  | _ => none
@[reducible] def mTru (me : ME) : MT := fun Γ n Q => me Γ n fun d n1 => ∃ b, truD d = some b ∧ Q b n1
theorem Rps.empty {F : Hp} {ds : List D} {xs : List V} (h : Rps K F ds xs) : (!ds.isEmpty) = !xs.isEmpty := by
  cases ds with
  | nil => rw [h.unnil]; rfl
  | cons d ds => obtain ⟨v, r, rfl, _⟩ := h.uncons; rfl
theorem t_truth {t : TT} (hK : p.K = X.K) (he : RE X p O e te me) (h : PT X e (fun σ H Q => te σ H fun x H1 => ∃ k, TruV X.K x H1 k ∧ Q k H1)) : RT X p O e (fun σ H Q => te σ H fun x H1 => ∃ k, TruV p.K x H1 k ∧ Q k H1) (mTru me) := ⟨hK ▸ h, fun F0 H0 F H σ Γ n Q s q Q' k =>
  he.le F0 H0 F H σ Γ n _ s q _ fun d v F1 H1 n1 s1 g1 r1 ⟨b, tb, q1⟩ => by
    refine ⟨b, ?_, k b F1 H1 n1 s1 g1 q1⟩
    unfold truD at tb
    split at tb <;> (try (cases tb; done))
    · cases tb; cases r1; rfl
    · cases tb; cases r1; rfl
    · cases tb; cases r1; rfl
    · cases tb
      obtain ⟨a, xs, rfl, h1, r2⟩ := r1.lst_inv
      exact .inl ⟨xs, .of (s1.fh _ _ h1), r2.empty⟩
    · cases tb
      obtain ⟨a, xs, rfl, h1, r2⟩ := r1.tup_inv
      exact .inr (.inl ⟨xs, Same.sqt s1.fh h1, r2.empty⟩)⟩
end
end RR
end
section
namespace RR
open PySem PySem.Spec L2
open PyProof.Rows hiding St
theorem off0 {K : PySem.W.Frag} {dr : DrT} {i : Nat} : (Pm.mk K none dr).off i := fun _ _ e => nomatch e
theorem off1 {K : PySem.W.Frag} {a : Addr} {dr : DrT} {i : Nat} (h : 0 ≠ i) : (Pm.mk K (some (a, 0)) dr).off i := fun _ _ e => by cases e; exact h
/-- where a def's data stands -/
def FunL (K : PySem.W.Frag) (f : Addr) (fd : FuncData) : Prop := ∃ oc od sl, K.lookup f = some ⟨oc, od, .func fd, sl⟩
theorem Fun.lk {K : PySem.W.Frag} {x q : Str} {st : Stmt} {f : Addr} {fd : FuncData} (F : Fun K x q st f fd) : FunL K f fd := by
  obtain ⟨oc, od, kV, doc, pm, an, cdv, ct, osl, rfl, lk, hcd⟩ := F.ex
  exact ⟨_, _, _, lk⟩
/-- a def that is known: its promise, its name, how it is called -/
structure FI (P : Program) (w : World) (K : PySem.W.Frag) (mg : Str → Option Value) (base : Heap) (k : Nat) (x : Str) (ps : List Str) (sp : Sp) : Prop where
  ex : ∃ f fd, FnG P w K mg base k f fd ps sp ∧ mg x = some (.ref f) ∧ PySem.W.keepIn K (.ref f) = true ∧ Binds K fd ps [] ∧ FunL K f fd
/-- a def that the top has laid -/
structure FD (K : PySem.W.Frag) (mg : Str → Option Value) (x : Str) (st : Stmt) (ps : List Str) : Prop where
  ex : ∃ f fd, Fun K x x st f fd ∧ mg x = some (.ref f) ∧ Binds K fd ps []
theorem FI.mono {P : Program} {w : World} {K : PySem.W.Frag} {mg : Str → Option Value} {base : Heap} {j k : Nat} {x : Str} {ps : List Str} {sp : Sp} (F : FI P w K mg base j x ps sp) (h : j ≤ k) : FI P w K mg base k x ps sp := by
  obtain ⟨f, fd, a, b, c, d, l⟩ := F.ex
  exact ⟨f, fd, a.mono h, b, c, d, l⟩
section
variable {X : Cx} {p : Pm} {Ob O O' is js vs : List Nat} {a b c e iter elt : Expr} {es : List Expr} {tg : Expr} {tgs : List Expr} {pos q q2 pos' : Pos} {ta tb tc te : TE} {ma mb mc me : ME} {t : TA} {m : MA} {x : Str} {i j l : Nat} {g : TG} {gs : TGs} {mg : MG} {mgs : List D → DEnv → (DEnv → Prop) → Prop} {wi : TI} {mi : MI} {fl : List Bool} {tT : TT} {mT : MT} {body : List Stmt} {tS : TS} {mS : MS}
theorem cB {id : String} {r : List V → Hp → VK → Prop} {f : List D → Option D} (hc : CallR X (.builtin id) r) (l : ClL p.K r f) (hg : Gl X x) (hm : X.mg x = none) (hv : bootBuiltins x = some (.builtin id)) (ha : RA X p O (e :: es) t m) (hn : x ≠ "__name__" := by decide) (hdb : (x == ("__debug__" : Str)) = false := by decide)
    (he : starEach (e :: es) X.env = (false, eval e X.env) :: starEach es X.env := by rfl) (hpl : (backTo pos (starEach es X.env)).any (·.1) = false := by rfl) : RE X p O (.Call (.Name x q) (e :: es) [] pos) (tCB r t) (mCl f m) := ⟨pe_callB hc hg hm hv ha.pa hn hdb he hpl, le_cl l ha.le⟩
theorem cT {T : String} {r : List V → Hp → VK → Prop} {f : List D → Option D} (hc : CallR X (.type T) r) (l : ClL p.K r f) (hg : Gl X x) (hm : X.mg x = none) (hv : bootBuiltins x = some (.type T)) (ha : RA X p O (e :: es) t m) (hn : x ≠ "__name__" := by decide) (hdb : (x == ("__debug__" : Str)) = false := by decide)
    (he : starEach (e :: es) X.env = (false, eval e X.env) :: starEach es X.env := by rfl) (hpl : (backTo pos (starEach es X.env)).any (·.1) = false := by rfl) : RE X p O (.Call (.Name x q) (e :: es) [] pos) (tCB r t) (mCl f m) := ⟨pe_callTy hc hg hm hv ha.pa hn hdb he hpl, le_cl l ha.le⟩
theorem eCh {op op' : CmpOp} {r r' : R2} {f g : D → D → Option D} (ho : OpR X (compareOp op) r) (l : OpL p.K r f) (ho' : OpR X (compareOp op') r') (l' : OpL p.K r' g) (ha : RE X p O a ta ma) (hb : RE X p O b tb mb) (hc : RE X p O c tc mc)
    (hm : lastMarks [op, op'] [b, c] = false := by with_unfolding_all rfl) : RE X p O (.Compare a [op, op'] [b, c] pos) (tChain r r' ta tb tc) (mChain f g ma mb mc) := e_chain ho l ho' l' ha hb hc (pe_chain ho ho' ha.pe hb.pe hc.pe hm)
theorem tCh {op op' : CmpOp} {r r' : R2} {f g : D → D → Option D} (ho : OpR X (compareOp op) r) (l : OpL p.K r f) (ho' : OpR X (compareOp op') r') (l' : OpL p.K r' g) (ha : RE X p O a ta ma) (hb : RE X p O b tb mb) (hc : RE X p O c tc mc)
    (hm : lastMarks [op, op'] [b, c] = false := by with_unfolding_all rfl) : RT X p O (.Compare a [op, op'] [b, c] pos) (tTest (tChain r r' ta tb tc)) (mTest (mChain f g ma mb mc)) := t_chain ho l ho' l' ha hb hc (pt_chain ho ho' ha.pe hb.pe hc.pe hm)
theorem tTru (hK : p.K = X.K) (he : RE X p O e te me) (h : ∀ whole, isTrue e X.env whole = (do let v ← whole; standAt e.pos; holding [v] (truthy v)) := by intro _; rfl) : RT X p O e (fun σ H Q => te σ H fun x H1 => ∃ k, TruV p.K x H1 k ∧ Q k H1) (mTru me) := t_truth (t := fun σ H Q => te σ H fun x H1 => ∃ k, TruV X.K x H1 k ∧ Q k H1) hK he (pt_truth he.pe h)
theorem eIsi {T : String} {y : Str} (hT : okTy T = true) (hK : p.K = X.K) (he : RE X p O e te me) (hg : Gl X "isinstance") (hm : X.mg "isinstance" = none) (hgy : Gl X y) (hmy : X.mg y = none) (hv : bootBuiltins y = some (.type T)) (hn : y ≠ "__name__" := by decide) (hdb : (y == ("__debug__" : Str)) = false := by decide)
    (h1 : starEach [e, .Name y q2] X.env = (false, eval e X.env) :: starEach [.Name y q2] X.env := by rfl) (h2 : starEach [.Name y q2] X.env = (false, eval (.Name y q2) X.env) :: starEach [] X.env := by rfl) (hpl : (backTo pos (starEach [.Name y q2] X.env)).any (·.1) = false := by rfl) :
    RE X p O (.Call (.Name "isinstance" q) [e, .Name y q2] [] pos) (tCB (rIsi p.K) (tCons te (tCons (tC (.ty T)) tNil))) (mIsi T me) :=
  have hx : PE X (.Name y q2) (tC (.ty T)) := pe_bltn hgy hmy hv rfl hn hdb
  e_isi y hT hK he hg hm hx (pe_callB call_isi hg hm (by decide +kernel) (pa_cons he.pe (pa_cons hx pa_nil h2) h1) (by decide) (by decide) h1 hpl)
theorem eF {k : Nat} {ps : List Str} {mf : MP} (F : FI X.prog X.w X.K X.mg X.base k x ps (spF X.K mf)) {lv : Nat} (hr : Room k X.A) (hg : GB lv X.A) (hK : p.K = X.K) (hgl : Gl X x) (ha : RA X p O (e :: es) t m)
    (hdb : (x == ("__debug__" : Str)) = false := by decide) (he : starEach (e :: es) X.env = (false, eval e X.env) :: starEach es X.env := by rfl) (hpl : (backTo pos (starEach es X.env)).any (·.1) = false := by rfl) (hkm : k ≤ lv := by first | decide | omega) :
    RE X p O (.Call (.Name x q) (e :: es) [] pos) (tCall (spF p.K mf) [] E0 t) (mCall mf m) := by
  obtain ⟨f, fd, G, h1, h2, h3, _⟩ := F.ex
  exact ⟨hK ▸ pe_callG G hr (hg.le hkm) hgl h1 h2 h3 ha.pa hdb he hpl, le_call ha.le⟩
theorem eP {k : Nat} {ps : List Str} {mf : MF} {ad : Addr} {xp : Str} {pp : Pos} (F : FI X.prog X.w X.K X.mg X.base k x ps (spP X.K mf)) {lv : Nat} (hr : Room k X.A) (hg : GB lv X.A) (hK : p.K = X.K) (hp : p.ap = some (ad, i)) (hgl : Gl X x) (h0 : PE X (.Name xp pp) (tVar i)) (ha : RA X p O es t m)
    (hs : starEach (.Name xp pp :: es) X.env = (false, eval (.Name xp pp) X.env) :: starEach es X.env := by rfl)
    (hdb : (x == ("__debug__" : Str)) = false := by decide) (hpl : (backTo pos (starEach es X.env)).any (·.1) = false := by rfl) (hkm : k ≤ lv := by first | decide | omega) :
    RE X p O (.Call (.Name x q) (.Name xp pp :: es) [] pos) (tCall (spP p.K mf) [] E0 (tCons (tVar i) t)) (mCallP mf m) := by
  obtain ⟨f, fd, G, h1, h2, h3, _⟩ := F.ex
  exact ⟨hK ▸ pe_callG G hr (hg.le hkm) hgl h1 h2 h3 (pa_cons h0 ha.pa hs) hdb hs hpl, le_callP hp ha.le⟩
section
variable {K : PySem.W.Frag}
theorem oEq (hK : K = X.K) (hu : X.A.units + 64 < cLine) : OpR X (compareOp .Eq) (rEqA K) := hK ▸ o_eq hu
theorem oNe (hK : K = X.K) (hu : X.A.units + 64 < cLine) : OpR X (compareOp .NotEq) (rNeA K) := hK ▸ o_ne hu
theorem oIn (hK : K = X.K) (hu : X.A.units + 65 < cLine) : OpR X (compareOp .In) (rInA K) := hK ▸ o_in hu
theorem oNotIn (hK : K = X.K) (hu : X.A.units + 65 < cLine) : OpR X (compareOp .NotIn) (rNotInA K) := hK ▸ o_notIn hu
theorem oAdd (hK : K = X.K) : OpR X (binaryOp .Add) (rAddA K) := hK ▸ o_add
theorem oIx (hK : K = X.K) (hu : X.A.units + 1 < cLine) : IxR X (rIxA K) := hK ▸ o_ix hu
theorem fnLen (hK : K = X.K) : CallR X (.builtin "len") (rLen K) := hK ▸ call_len_seq
theorem fnList (hK : K = X.K) : CallR X (.type "list") (rListOf K) := hK ▸ call_list_of
theorem fnTuple (hK : K = X.K) : CallR X (.type "tuple") (rTupOf K) := hK ▸ call_tuple_of
theorem fnAll (hK : K = X.K) (hc : X.calm = true) : CallR X (.builtin "all") (rAll K) := hK ▸ cr_all hc
end
theorem gN (i : Nat) (hN : X.N.Nodup) (hi : X.N[i]? = some x) (hx : Loc X.env.scope x) (hO : i ∉ O) (hp : p.off i) (hf : X.fn x = true ∨ X.env.scope.names.lookup x = some .local := by first | exact .inl rfl | exact .inr rfl) : RG X p O [i] (.Name x pos) (gName i) (mgName i) := g_name (pg_name hN hi hx hf) hO hp
theorem gC (h1 : RG X p O is tg g mg) (h2 : RGs X p O js tgs gs mgs) (hs : (assignEach (tg :: tgs) X.env).map (·.2) = assign tg X.env :: (assignEach tgs X.env).map (·.2) := by rfl) : RGs X p O (is ++ js) (tg :: tgs) (gCons g gs) (mgCons mg mgs) := gs_cons h1 h2 (pgs_cons h1.pg h2.pg hs)
theorem gT {k : Nat} (n : Nat) (hK : p.K = X.K) (hc : X.calm = true) (h : RGs X p O is tgs gs mgs) (hn : (assignEach tgs X.env).length = n := by rfl) (hst : (assignEach tgs X.env).findIdx? (·.1) = none := by rfl) : RG X p O is (.Tuple tgs k pos) (gTup p.K n gs) (mgTup n mgs) := g_tup rfl h (hK ▸ pg_tup hc h.pg hn hst)
theorem iR1 (hg : Gl X "range") (hm : X.mg "range" = none) (ha : RA X p O [a] t m) (hs : starEach [a] X.env = [(false, eval a X.env)] := by rfl) : RI X p O tg (.Call (.Name "range" q) [a] [] pos) (iRng1 t) (mIR1 m) := i_range1 ha (pi_range1 hg hm ha.pa hs)
theorem iEn {k : Nat} (hK : p.K = X.K) (hg : Gl X "enumerate") (hm : X.mg "enumerate" = none) (ha : RA X p O [a] t m) (hs : starEach [a] X.env = [(false, eval a X.env)] := by rfl) : RI X p O (.Tuple tgs k pos') (.Call (.Name "enumerate" q) [a] [] pos) (iEnumA p.K t) (mIEn m) := i_enum hK ha (pi_enumA hg hm ha.pa hs)
theorem iZi {k : Nat} (hK : p.K = X.K) (hg : Gl X "zip") (hm : X.mg "zip" = none) (ha : RA X p O [a, b] t m) (hs : starEach [a, b] X.env = (false, eval a X.env) :: starEach [b] X.env := by rfl) (hpl : (backTo pos (starEach [b] X.env)).any (·.1) = false := by rfl) : RI X p O (.Tuple tgs k pos') (.Call (.Name "zip" q) [a, b] [] pos) (RZ.iZipA p.K t) (mIZ m) := i_zip hK ha (RZ.pi_zipA hg hm ha.pa hs hpl)
theorem fLc {scope : Scope} {own : List (Str × Nat)} (hc : X.calm = true) (hN : X.N.Nodup) (hi : RI X p O tg iter wi mi) (ok : BlkOk X.N X.env.scope scope own)
    (hg : ∀ (s : Shared) (H : Hp) (C : Addr) (cl : List (Str × Addr)) (fp : List Addr), RG (X.blk s H scope (compEnvC scope cl C X.env) fp) p O is tg g mg) (he : ∀ (s : Shared) (H : Hp) (C : Addr) (cl : List (Str × Addr)) (fp : List Addr), RE (X.blk s H scope (compEnvC scope cl C X.env) fp) p O elt te me)
    (his : ∀ i ∈ is, i ∈ own.map (·.2)) (hp : ∀ v ∈ own.map (·.2), p.off v) (hs : ∀ x, foldedSetIterable iter X.env x = pure x := by intro _; rfl) :
    RF X p O (.ListComp elt [⟨tg, iter, [], 0⟩] scope pos) (tLc wi g tYes te (own.map (·.2))) (mLc mi mg mYes me (own.map (·.2))) :=
  ⟨pe_lc hc hN hi.pi ok (fun s H C cl fp => (hg s H C cl fp).pg) (fun _ _ _ _ _ => pts_nil) (fun s H C cl fp => (he s H C cl fp).pe) hs,
    lf_lc hi.le (hg X.s_0 X.H_0 0 [] []).le lt_yes (he X.s_0 X.H_0 0 [] []).le his hp⟩
theorem fLcIf {scope : Scope} {own : List (Str × Nat)} (hc : X.calm = true) (hN : X.N.Nodup) (hi : RI X p O tg iter wi mi) (ok : BlkOk X.N X.env.scope scope own)
    (hg : ∀ (s : Shared) (H : Hp) (C : Addr) (cl : List (Str × Addr)) (fp : List Addr), RG (X.blk s H scope (compEnvC scope cl C X.env) fp) p O is tg g mg) (ht : ∀ (s : Shared) (H : Hp) (C : Addr) (cl : List (Str × Addr)) (fp : List Addr), RT (X.blk s H scope (compEnvC scope cl C X.env) fp) p O c tT mT)
    (he : ∀ (s : Shared) (H : Hp) (C : Addr) (cl : List (Str × Addr)) (fp : List Addr), RE (X.blk s H scope (compEnvC scope cl C X.env) fp) p O elt te me)
    (his : ∀ i ∈ is, i ∈ own.map (·.2)) (hp : ∀ v ∈ own.map (·.2), p.off v) (hs : ∀ x, foldedSetIterable iter X.env x = pure x := by intro _; rfl) :
    RF X p O (.ListComp elt [⟨tg, iter, [c], 0⟩] scope pos) (tLc wi g tT te (own.map (·.2))) (mLc mi mg mT me (own.map (·.2))) :=
  ⟨pe_lc hc hN hi.pi ok (fun s H C cl fp => (hg s H C cl fp).pg) (fun s H C cl fp => pts_one (ht s H C cl fp).pt) (fun s H C cl fp => (he s H C cl fp).pe) hs,
    lf_lc hi.le (hg X.s_0 X.H_0 0 [] []).le (ht X.s_0 X.H_0 0 [] []).le (he X.s_0 X.H_0 0 [] []).le his hp⟩
/-- y = [..]: the same parts, the target stored within the comprehension's frame -/
theorem sLc {scope : Scope} {own : List (Str × Nat)} (y : Nat) {yn : Str} {spos : Pos} (hc : X.calm = true) (hN : X.N.Nodup) (hy : X.N[y]? = some yn) (hyl : X.env.scope.names.lookup yn = some .local) (hsw : swapsWith (.ListComp elt [⟨tg, iter, [], 0⟩] scope pos) (some (.Name yn q)) spos.line X.env = pure true) (hi : RI X p O tg iter wi mi) (ok : BlkOk X.N X.env.scope scope own)
    (hg : ∀ (s : Shared) (H : Hp) (C : Addr) (cl : List (Str × Addr)) (fp : List Addr), RG (X.blk s H scope (compEnvC scope cl C X.env) fp) p O is tg g mg) (he : ∀ (s : Shared) (H : Hp) (C : Addr) (cl : List (Str × Addr)) (fp : List Addr), RE (X.blk s H scope (compEnvC scope cl C X.env) fp) p O elt te me)
    (his : ∀ i ∈ is, i ∈ own.map (·.2)) (hp : ∀ v ∈ own.map (·.2), p.off v) (hO : y ∉ O) (hpy : p.off y) (hs : ∀ x, foldedSetIterable iter X.env x = pure x := by intro _; rfl) :
    RS X p Ob O (y :: O) (.Assign [.Name yn q] (.ListComp elt [⟨tg, iter, [], 0⟩] scope pos) spos) (tAsg (tLc wi g tYes te (own.map (·.2))) (gName y)) (mSet y (mLc mi mg mYes me (own.map (·.2)))) :=
  s_own (fLc hc hN hi ok hg he his hp hs) hO hpy (ps_setLc hc hN hy hyl hsw hi.pi ok (fun s H C cl fp => (hg s H C cl fp).pg) (fun _ _ _ _ _ => pts_nil) (fun s H C cl fp => (he s H C cl fp).pe) hs)
theorem sLcIf {scope : Scope} {own : List (Str × Nat)} (y : Nat) {yn : Str} {spos : Pos} (hc : X.calm = true) (hN : X.N.Nodup) (hy : X.N[y]? = some yn) (hyl : X.env.scope.names.lookup yn = some .local) (hsw : swapsWith (.ListComp elt [⟨tg, iter, [c], 0⟩] scope pos) (some (.Name yn q)) spos.line X.env = pure true) (hi : RI X p O tg iter wi mi) (ok : BlkOk X.N X.env.scope scope own)
    (hg : ∀ (s : Shared) (H : Hp) (C : Addr) (cl : List (Str × Addr)) (fp : List Addr), RG (X.blk s H scope (compEnvC scope cl C X.env) fp) p O is tg g mg) (ht : ∀ (s : Shared) (H : Hp) (C : Addr) (cl : List (Str × Addr)) (fp : List Addr), RT (X.blk s H scope (compEnvC scope cl C X.env) fp) p O c tT mT)
    (he : ∀ (s : Shared) (H : Hp) (C : Addr) (cl : List (Str × Addr)) (fp : List Addr), RE (X.blk s H scope (compEnvC scope cl C X.env) fp) p O elt te me)
    (his : ∀ i ∈ is, i ∈ own.map (·.2)) (hp : ∀ v ∈ own.map (·.2), p.off v) (hO : y ∉ O) (hpy : p.off y) (hs : ∀ x, foldedSetIterable iter X.env x = pure x := by intro _; rfl) :
    RS X p Ob O (y :: O) (.Assign [.Name yn q] (.ListComp elt [⟨tg, iter, [c], 0⟩] scope pos) spos) (tAsg (tLc wi g tT te (own.map (·.2))) (gName y)) (mSet y (mLc mi mg mT me (own.map (·.2)))) :=
  s_own (fLcIf hc hN hi ok hg ht he his hp hs) hO hpy (ps_setLc hc hN hy hyl hsw hi.pi ok (fun s H C cl fp => (hg s H C cl fp).pg) (fun s H C cl fp => pts_one (ht s H C cl fp).pt) (fun s H C cl fp => (he s H C cl fp).pe) hs)
theorem sSet (i : Nat) (hN : X.N.Nodup) (hi : X.N[i]? = some x) (hx : Loc X.env.scope x) (he : RE X p O e te me) (hO : i ∉ O) (hp : p.off i) (hs : swapsWith e (some (.Name x q)) pos.line X.env = pure false := by rfl) (hf : X.fn x = true ∨ X.env.scope.names.lookup x = some .local := by first | exact .inl rfl | exact .inr rfl) :
    RS X p Ob O O (.Assign [.Name x q] e pos) (tAsg te (gName i)) (mSet i me) := s_set he hO hp (ps_set hN hi hx he.pe hs hf)
theorem sOwn (i : Nat) (hN : X.N.Nodup) (hi : X.N[i]? = some x) (hx : Loc X.env.scope x) (he : RF X p O e te me) (hO : i ∉ O) (hp : p.off i) (hs : swapsWith e (some (.Name x q)) pos.line X.env = pure false := by rfl) (hf : X.fn x = true ∨ X.env.scope.names.lookup x = some .local := by first | exact .inl rfl | exact .inr rfl) :
    RS X p Ob O (i :: O) (.Assign [.Name x q] e pos) (tAsg te (gName i)) (mSet i me) := s_own he hO hp (ps_set hN hi hx he.pe hs hf)
theorem sExpr (he : RE X p O e te me) (hs : swapsWith e none pos.line X.env = pure false := by rfl) : RS X p Ob O O (.Expr e pos) (tDrop te) (mDrop me) := s_expr he (ps_expr he.pe hs)
theorem sPar2 (i j : Nat) {x y : Str} {px py pt pt2 : Pos} {kt k2 : Nat} (hc : X.calm = true) (hN : X.N.Nodup) (hi : X.N[i]? = some x) (hj : X.N[j]? = some y) (hij : i ≠ j) (hx : X.env.scope.names.lookup x = some .local) (hy : X.env.scope.names.lookup y = some .local) (ha : RX X p O fl [a, b] t m) (ho : ∀ k ∈ [i, j], k ∉ O ∧ p.off k)
    (hw : swappedStores [.Tuple [.Name x px, .Name y py] kt pt] (.Tuple [a, b] k2 pt2) X.env = pure (some [x, y]))
    (hs : swapsWithSole [.Tuple [.Name x px, .Name y py] kt pt] (.Tuple [a, b] k2 pt2) pos.line X.env = pure false := by rfl) :
    RS X p Ob O (owns [i, j] fl O) (.Assign [.Tuple [.Name x px, .Name y py] kt pt] (.Tuple [a, b] k2 pt2) pos) (tPar i j t) (mPar [i, j] m) := s_par2 ha (by simpa using hij) ho (ps_par hc hN hi hj hij hx hy ha.pa hw hs)
theorem sPar3 (i j l : Nat) {x y z : Str} {px py pz pt pt2 : Pos} {kt k2 : Nat} (hc : X.calm = true) (hN : X.N.Nodup) (hi : X.N[i]? = some x) (hj : X.N[j]? = some y) (hl : X.N[l]? = some z) (hij : i ≠ j) (hil : i ≠ l) (hjl : j ≠ l) (hx : X.env.scope.names.lookup x = some .local) (hy : X.env.scope.names.lookup y = some .local) (hz : X.env.scope.names.lookup z = some .local) (ha : RX X p O fl [a, b, c] t m) (ho : ∀ k ∈ [i, j, l], k ∉ O ∧ p.off k)
    (hw : swappedStores [.Tuple [.Name x px, .Name y py, .Name z pz] kt pt] (.Tuple [a, b, c] k2 pt2) X.env = pure (some [x, y, z]))
    (hs : swapsWithSole [.Tuple [.Name x px, .Name y py, .Name z pz] kt pt] (.Tuple [a, b, c] k2 pt2) pos.line X.env = pure false := by rfl) :
    RS X p Ob O (owns [i, j, l] fl O) (.Assign [.Tuple [.Name x px, .Name y py, .Name z pz] kt pt] (.Tuple [a, b, c] k2 pt2) pos) (tPar3 i j l t) (mPar [i, j, l] m) := s_par3 ha (by simpa using ⟨⟨hij, hil⟩, hjl⟩) ho (ps_par3 hc hN hi hj hl hij hil hjl hx hy hz ha.pa hw hs)
theorem sAsg (he : RE X p O e te me) (hg : RG X p O is tg g mg) (hs : swapsWithSole [tg] e pos.line X.env = pure false := by rfl) (hw : swappedStores [tg] e X.env = pure none := by rfl) (h1 : (assignEach [tg] X.env).map (·.2) = [assign tg X.env] := by rfl) : RS X p Ob O O (.Assign [tg] e pos) (tAsg te g) (mAsg me mg) := s_asg he hg (ps_asg he.pe hg.pg hs hw h1)
theorem sFor (hp : PassesOwn (model X.prog X.w) X.A X.env X.xe) (hc : X.calm = true) (hi : RI X p O tg iter wi mi) (hg : RG X p O is tg g mg) (hb : RSs X p O O O' body tS mS) (hO : ∀ i ∈ O, i ∈ O') (hs : ∀ x, foldedSetIterable iter X.env x = pure x := by intro _; rfl) : RS X p Ob O O (.For tg iter body [] pos) (tFor wi g tS) (mFor mi mg mS) := s_for hi hg (hb.weak hO) (ps_for hp hc hi.pi hg.pg hb.ps hs)
theorem sWhile (hp : PassesOwn (model X.prog X.w) X.A X.env X.xe) (hc : RT X p O c tT mT) (hb : RSs X p O O O' body tS mS) (hO : ∀ i ∈ O, i ∈ O') : RS X p Ob O O (.While c body [] pos) (tWhile tT tS) (mWhile mT mS) := s_while hc (hb.weak hO) (ps_while hp hc.pt hb.ps)
theorem sIf {Oa Obx : List Nat} {xs ys : List Stmt} {ta' tb' : TS} {ma' mb' : MS} (hc : RT X p O c tT mT) (ha : RSs X p Ob O Oa xs ta' ma') (hb : RSs X p Ob O Obx ys tb' mb') (k1 : ∀ i ∈ O', i ∈ Oa) (k2 : ∀ i ∈ O', i ∈ Obx) : RS X p Ob O O' (.If c xs ys pos) (tIfS tT ta' tb') (mIfS mT ma' mb') := s_if hc (ha.weak k1) (hb.weak k2)
theorem sApp (i : Nat) {ap : Pos} (hK : p.K = X.K) (hv : PE X (.Name x q) (tVar i)) (he : RE X p O e te me) (hi : i ∈ O)
    (hbase : attributeBase (.Name x q) "append" X.env (eval (.Name x q) X.env) = eval (.Name x q) X.env := by rfl)
    (hfew : ((backTo q2 (starEach [e] X.env)).all (fun x => !x.1) && (backToKw q2 (keywordEach [] X.env)).all (fun x => x.1.isSome) && decide ([e].length + ([] : List Keyword).length + (if ([] : List Keyword).isEmpty then 0 else 1) < 30)) = true := by rfl)
    (hline : (ap.endLine == q2.line) = true := by rfl) (h1 : starEach [e] X.env = (false, eval e X.env) :: starEach [] X.env := by rfl) (hpl : (backTo q2 (starEach [] X.env)).any (·.1) = false := by rfl)
    (hs : swapsWith (.Call (.Attribute (.Name x q) "append" ap) [e] [] q2) none pos.line X.env = pure false := by rfl) :
    RS X p Ob O O (.Expr (.Call (.Attribute (.Name x q) "append" ap) [e] [] q2) pos) (tDrop (tBM p.K "list" rAppend (tVar i) (tCons te tNil))) (mAppend i me) :=
  s_append he hi hK (ps_expr (pe_bm PySem.F.plainAttrs_list PySem.F.slot_list_append PySem.F.type_list_append mt_append hv (pa_cons he.pe pa_nil h1) hbase hfew hline h1 hpl) hs)
end
end RR
end
section
namespace RR
open PySem PySem.Spec L2
open PyProof.Rows hiding St
section
variable {X : Cx} {p : Pm} {O : List Nat} {e : Expr} {te : TE} {me : ME} {tT : TT} {mT : MT}
theorem Rp.flat_any {K : PySem.W.Frag} {F G : Hp} {d : D} {v : V} (f : flatD d = true) (h : Rp K F d v) : Rp K G d v := by
  cases h <;> first | (exfalso; unfold flatD at f; cases f; done) | exact .non | exact .bl _ | exact .int _ | exact .str _
/-- out of a look: the frozen thing is one's own again -/
theorem Sep.unlook {F0 H0 F H F1 F2 H2 : Hp} {σ : St} {Γ : DEnv} {n n2 : Nat} {i : Nat} (s : Sep p F0 H0 O F H σ Γ n) (e1 : Same F F1) (hn : ∀ b o, F1 b = some o → F b = some o ∨ (i ∈ O ∧ σ[i]? = some (some (.ref b)) ∧ ∃ d, Γ[i]? = some (some d)))
    (s2 : Sep p F0 H0 (O.filter (· ≠ i)) F2 H2 σ Γ n2) (g : Gp p F1 H F2 H2) : ∃ F3, Sep p F0 H0 O F3 H2 σ Γ n2 ∧ Gp p F H F3 H2 := by
  by_cases hi : i ∈ O ∧ ∃ d, Γ[i]? = some (some d)
  · obtain ⟨hi, d, ed⟩ := hi
    obtain ⟨a, ea, w, fa, h0a, pa⟩ := s.ow i hi d ed
    have key : ∀ b o, F1 b = some o → b ≠ a → F b = some o := fun b o h hb => by
      rcases hn b o h with z | ⟨_, z, _⟩
      · exact z
      · rw [ea] at z; cases z; exact absurd rfl hb
    have nf : ∀ {b : Addr} {o : HO}, F b = some o → b ≠ a := fun h z => by rw [z, fa] at h; cases h
    have f3 : ∀ b o, F b = some o → (fun b => if b = a then none else F2 b) b = some o := fun b o h => by
      show (if b = a then none else F2 b) = some o
      rw [if_neg (nf h)]
      exact g.f _ _ (e1 _ _ h)
    have f32 : ∀ b o, (fun b => if b = a then none else F2 b) b = some o → b ≠ a ∧ F2 b = some o := fun b o h => by
      have h' : (if b = a then none else F2 b) = some o := h
      by_cases z : b = a
      · rw [if_pos z] at h'; cases h'
      · rw [if_neg z] at h'; exact ⟨z, h'⟩
    obtain ⟨oa, hoa⟩ := w.at
    have ha2 : ∀ {u : HO}, H a = some u → H2 a = some u := fun h => g.h a _ h pa
    refine ⟨fun b => if b = a then none else F2 b, ⟨fun b o h => f3 b o (s.f0 b o h), fun b o h => s2.fh _ _ (f32 b o h).2, s2.stay, fun b o h => s2.newF b o (f32 b o h).2, fun b j h => ?_, s.len, fun j dj hj h => ?_, fun j hj dj h => ?_, s.dj⟩, ⟨fun b o h => f3 b o h, g.h, fun b o h => ?_⟩⟩
    · obtain ⟨h1, h2, ⟨x, l, xs, z1, z2, z3⟩, zt⟩ := s2.pen b j h
      obtain ⟨_, _, ⟨_, _, ys, _, y2, _⟩, _⟩ := s.pen b j h
      have hb : b ≠ a := fun z => pa ⟨b, j, h, .inl z.symm⟩
      have hd : p.dr.ad ≠ a := nf y2
      refine ⟨?_, h2, ⟨x, l, xs, z1, ?_, z3⟩, fun y hy => ?_⟩
      · show (if b = a then none else F2 b) = none
        rw [if_neg hb]; exact h1
      · show (if p.dr.ad = a then none else F2 p.dr.ad) = some _
        rw [if_neg hd]; exact z2
      · obtain ⟨t1, ps, t2, t3, t4⟩ := zt y hy
        refine ⟨?_, ps, t2, t3, fun pos cv hc => ?_⟩
        · show (if y.1 = a then none else F2 y.1) = none
          split
          · rfl
          · exact t1
        · obtain ⟨c, e1, e2⟩ := t4 pos cv hc
          refine ⟨c, e1, ?_⟩
          show (if c = a then none else F2 c) = some _
          rw [if_neg fun z => ?_]
          · exact e2
          · have h3 := s2.fh _ _ e2
            have h4 := g.h a _ hoa pa
            rw [z, h4] at h3
            exact w.notCode hoa _ (Option.some.inj h3)
    · obtain ⟨v, h1, r⟩ := s.sh j dj hj h
      exact ⟨v, h1, r.mono f3⟩
    · obtain ⟨b, h1, r, z1, z2, z3⟩ := s.ow j hj dj h
      have hb3 : (fun b => if b = a then none else F2 b) b = none := by
        show (if b = a then none else F2 b) = none
        by_cases z : b = a
        · rw [if_pos z]
        · rw [if_neg z]
          by_cases hji : j = i
          · subst hji
            rw [ea] at h1
            cases h1
            exact absurd rfl z
          · obtain ⟨b', h1', _, z1', _⟩ := s2.ow j (List.mem_filter.mpr ⟨hj, by simpa using hji⟩) dj h
            rw [h1] at h1'
            cases h1'
            exact z1'
      refine ⟨b, h1, ?_, hb3, z2, z3⟩
      cases r with
      | lst q1 q2 => exact .lst (g.h _ _ q1 z3) (q2.mono f3)
      | dct q1 q2 q3 => exact .dct (g.h _ _ q1 z3) q2 fun i x d a b => (q3 i x d a b).mono f3
    · obtain ⟨h1, h2⟩ := f32 b o h
      rcases g.new b o h2 with z | z | z
      · exact .inl (key b o z h1)
      · exact .inr (.inl z)
      · exact .inr (.inr z)
  · have hF : F1 = F := by
      funext b
      cases h : F1 b with
      | none => cases q : F b with
        | none => rfl
        | some o => rw [e1 _ _ q] at h; cases h
      | some o =>
        rcases hn b o h with z | ⟨z1, _, z2⟩
        · exact z.symm
        · exact absurd ⟨z1, z2⟩ hi
    subst hF
    refine ⟨F2, ⟨s2.f0, s2.fh, s2.stay, s2.newF, s2.pen, s.len, fun j dj hj h => s2.sh j dj (fun z => hj (List.mem_filter.mp z).1) h, fun j hj dj h => ?_, s.dj⟩, g⟩
    exact s2.ow j (List.mem_filter.mpr ⟨hj, by
      simp only [ne_eq, decide_not, Bool.not_eq_eq_eq_not, Bool.not_true, decide_eq_false_iff_not]
      intro z
      subst z
      exact hi ⟨hj, dj, h⟩⟩) dj h
theorem Sep.look {F0 H0 F H : Hp} {σ : St} {Γ : DEnv} {n : Nat} (s : Sep p F0 H0 O F H σ Γ n) (i : Nat) : ∃ F1, Same F F1 ∧ Sep p F0 H0 (O.filter (· ≠ i)) F1 H σ Γ n ∧ ∀ b o, F1 b = some o → F b = some o ∨ (i ∈ O ∧ σ[i]? = some (some (.ref b)) ∧ ∃ d, Γ[i]? = some (some d)) := by
  by_cases hi : i ∈ O ∧ ∃ d, Γ[i]? = some (some d)
  · obtain ⟨hi, d, ed⟩ := hi
    obtain ⟨F1, e1, s1⟩ := s.freeze i
    -- the frozen heap, cut to what is needed
    obtain ⟨a, ea, w, fa, h0a, pa⟩ := s.ow i hi d ed
    obtain ⟨oa, hoa⟩ := w.at
    have hfa : F1 a = some oa := by
      obtain ⟨v, h1, r⟩ := s1.sh i d (by simp) ed
      rw [ea] at h1
      cases h1
      have : ∃ o, F1 a = some o := by
        cases w with
        | lst q1 q2 => obtain ⟨b, xs, e, h, _⟩ := r.lst_inv; cases e; exact ⟨_, h⟩
        | dct q1 q2 q3 =>
          cases r with
          | dct h1 h2 h3 => exact h1.elim (fun z => ⟨_, z⟩) fun ⟨_, z⟩ => ⟨_, z⟩
      obtain ⟨o, ho⟩ := this
      have := s1.fh _ _ ho
      rw [hoa] at this
      cases this
      exact ho
    have e2 : Same F (upd F a oa) := same_up fa
    have e3 : Same (upd F a oa) F1 := fun b o h => by
      by_cases z : b = a
      · subst z; rw [upd_same] at h; cases h; exact hfa
      · rw [upd_ne z] at h; exact e1 _ _ h
    have nw : ∀ b o, (upd F a oa) b = some o → F b = some o ∨ b = a := fun b u q => by
      by_cases hb : b = a
      · exact .inr hb
      · rw [upd_ne hb] at q; exact .inl q
    refine ⟨upd F a oa, e2, ⟨s.f0.trans e2, e3.trans s1.fh, s.stay, fun b o h => s1.newF b o (e3 _ _ h), fun b j h => ?_, s.len, fun j dj hj h => ?_, fun j hj dj h => ?_, s1.dj⟩, fun b o h => ?_⟩
    · obtain ⟨h1, h2, ⟨x, l, xs, z1, z2, z3⟩, zt⟩ := s.pen b j h
      have hb : b ≠ a := fun z => pa ⟨b, j, h, .inl z.symm⟩
      exact ⟨by rw [upd_ne hb]; exact h1, h2, ⟨x, l, xs, z1, e2 _ _ z2, z3⟩, zt.up e2 (fun y hy => by rw [upd_ne fun z => pa ⟨b, j, h, .inr ⟨y, hy, z⟩⟩]; exact (zt y hy).1) (fun _ _ _ h => h)⟩
    · by_cases hji : j = i
      · subst hji
        rw [ed] at h
        cases h
        refine ⟨_, ea, ?_⟩
        cases w with
        | lst q1 q2 =>
          rw [hoa] at q1
          cases q1
          exact .of_lst upd_same (q2.mono e2)
        | dct q1 q2 q3 =>
          rw [hoa] at q1
          cases q1
          exact .dct (.inl upd_same) q2 fun i x d a b => (q3 i x d a b).mono e2
      · obtain ⟨v, h1, r⟩ := s.sh j dj (fun z => hj (List.mem_filter.mpr ⟨z, by simpa using hji⟩)) h
        exact ⟨v, h1, r.mono e2⟩
    · obtain ⟨b, h1, r, z1, z2, z3⟩ := s.ow j (List.mem_filter.mp hj).1 dj h
      have hji : j ≠ i := by simpa using (List.mem_filter.mp hj).2
      have hb : b ≠ a := fun z => s.dj j (List.mem_filter.mp hj).1 i hi hji a dj d h ed (z ▸ h1) ea
      refine ⟨b, h1, ?_, by rw [upd_ne hb]; exact z1, z2, z3⟩
      cases r with
      | lst q1 q2 => exact .lst q1 (q2.mono e2)
      | dct q1 q2 q3 => exact .dct q1 q2 fun i x d a b => (q3 i x d a b).mono e2
    · rcases nw b o h with z | z
      · exact .inl z
      · subst z; exact .inr ⟨hi, ea, d, ed⟩
  · exact ⟨F, .refl _, by
      refine ⟨s.f0, s.fh, s.stay, s.newF, s.pen, s.len, fun j dj hj h => s.sh j dj (fun z => hj (List.mem_filter.mpr ⟨z, ?_⟩)) h, fun j hj => s.ow j (List.mem_filter.mp hj).1, fun j hj k hk => s.dj j (List.mem_filter.mp hj).1 k (List.mem_filter.mp hk).1⟩
      simp only [ne_eq, decide_not, Bool.not_eq_eq_eq_not, Bool.not_true, decide_eq_false_iff_not]
      intro w
      subst w
      exact hi ⟨z, dj, h⟩, fun b o h => .inl h⟩
@[reducible] def mLook (me : ME) : ME := fun Γ n Q => me Γ n fun d n1 => flatD d = true ∧ Q d n1
theorem le_look (i : Nat) (h : LE p (O.filter (· ≠ i)) te me) : LE p O te (mLook me) := fun F0 H0 F H σ Γ n Q s q Q' k => by
  obtain ⟨F1, e1, s1, hn⟩ := s.look i
  refine h F0 H0 F1 H σ Γ n _ s1 q _ fun d v F2 H2 n2 s2 g2 r2 ⟨f, q2⟩ => ?_
  obtain ⟨F3, s3, g3⟩ := s.unlook e1 hn s2 g2
  exact k d v F3 H2 n2 s3 g3 (r2.flat_any f) q2
theorem lt_look (i : Nat) (h : LT p (O.filter (· ≠ i)) tT mT) : LT p O tT mT := fun F0 H0 F H σ Γ n Q s q Q' k => by
  obtain ⟨F1, e1, s1, hn⟩ := s.look i
  refine h F0 H0 F1 H σ Γ n _ s1 q _ fun b F2 H2 n2 s2 g2 q2 => ?_
  obtain ⟨F3, s3, g3⟩ := s.unlook e1 hn s2 g2
  exact k b F3 H2 n2 s3 g3 q2
theorem eLook (i : Nat) {O' : List Nat} (h : RE X p O' e te me) (k : O' = O.filter (· ≠ i)) : RE X p O e te (mLook me) := ⟨h.pe, le_look i (k ▸ h.le)⟩
theorem tLook (i : Nat) {O' : List Nat} (h : RT X p O' e tT mT) (k : O' = O.filter (· ≠ i)) : RT X p O e tT mT := ⟨h.pt, lt_look i (k ▸ h.le)⟩
end
end RR
end
section
namespace RR
open PySem PySem.Spec L2
open PyProof.Rows hiding St
theorem hv_of {A : Around} {k : Nat} (hr : Room k A) : A.units + 65 < cLine := by have := hr.un; omega
theorem hx_of {A : Around} {k : Nat} (hr : Room k A) : A.units + 66 < cLine := by have := hr.un; omega
theorem offs0 {K : PySem.W.Frag} {dr : DrT} {l : List Nat} : ∀ v ∈ l, (Pm.mk K none dr).off v := fun _ _ => off0
theorem offs1 {K : PySem.W.Frag} {a : Addr} {dr : DrT} {l : List Nat} (h : ∀ v ∈ l, 0 ≠ v) : ∀ v ∈ l, (Pm.mk K (some (a, 0)) dr).off v := fun v hv => off1 (h v hv)
theorem offsO0 {K : PySem.W.Frag} {dr : DrT} {l O : List Nat} (h : ∀ v ∈ l, v ∉ O) : ∀ v ∈ l, v ∉ O ∧ (Pm.mk K none dr).off v := fun v hv => ⟨h v hv, off0⟩
theorem offsO1 {K : PySem.W.Frag} {a : Addr} {dr : DrT} {l O : List Nat} (h : ∀ v ∈ l, v ∉ O ∧ 0 ≠ v) : ∀ v ∈ l, v ∉ O ∧ (Pm.mk K (some (a, 0)) dr).off v := fun v hv => ⟨(h v hv).1, off1 (h v hv).2⟩
/-- a constant of the module -/
structure CI (K : PySem.W.Frag) (mg : Str → Option Value) (x : Str) (d : D) (v : V) : Prop where
  ex : ∃ u, mg x = some u ∧ RelV v u
  rp : ∀ F, Rp K F d v
theorem CI.e {X : Cx} {p : Pm} {O : List Nat} {x : Str} {d : D} {v : V} {pos : Pos} (h : CI X.K X.mg x d v) (hg : Gl X x) (hK : p.K = X.K) (hd : (x == ("__debug__" : Str)) = false := by decide) : RE X p O (.Name x pos) (tC v) (mC d) := by
  obtain ⟨u, h1, h2⟩ := h.ex
  exact e_glob hg h1 h2 (fun F => hK ▸ h.rp F) hd
end RR
end
section
namespace RR
open PySem PySem.Spec L2
open PyProof.Rows hiding St
/-- a promise of the law's def -/
abbrev spLaw (K : PySem.W.Frag) : Sp := fun vs H Q _ => ∃ (a : Addr) (ns : List Int), vs = [.ref a] ∧ SqL K H a (ns.map V.int) ∧ ns.length ≤ 63 ∧ ∀ H', Q (.bl true) H'
section
variable {P : Program} {w : World} {K : PySem.W.Frag} {mg mb : Str → Option Value} {k : Nat} {fa a : Addr} {fd : FuncData} {x : Str} {s1 : Shared} {vs : List Value} {ns : List Int}
abbrev Ended (s1 : Shared) : Result → Shared → Prop := fun r s' => r = .ok (.ret (.bool true)) ∧ OldK s1.heap s'.heap ∧ s'.os = s1.os ∧ AllBare s'.gens
/-- .. from an abstract heap that tracks the script at most -/
theorem law_from (KX : K.In s1.heap) (hns : s1.heap.Ns mainGlobals mg) (hb : s1.heap.Ns builtinsNs mb) (hbb : ∀ x : Str, x ≠ "__name__" → mb x = bootBuiltins x) (hlim : s1.heap.NoLimit) (hg : s1.gens = #[])
    (ha : s1.heap.get? a = some { cls := .type "list", data := .seq vs.toArray }) (hl : ns.length ≤ 63) (hr : Room k callerA)
    (hsy : ∃ mm, s1.heap.Ns sysModules mm) (F : ∀ base : Heap, K.In base → base.Ns mainGlobals mg → (∃ mm, base.Ns sysModules mm) → FnG P w K mg base k fa fd [x] (spLaw K)) (hbind : ∀ (s : Shared) (u : Value), BindsTo s fd ⟨[u], []⟩ [(x, u)])
    (H : Hp) (hO : Only H) (hS : SqL K H a (ns.map V.int)) (hok : HOk P w H s1.heap) (hA : ∀ b, H b ≠ none → b = a) (hK : H a ≠ none → K.lookup a = none) :
    codeAny (model P w) callerA (.call (.ref fa) ⟨[.ref a], []⟩) (Ended s1) s1 := by
  have only : ∀ {b : Addr} {u : HO}, H b = some u → b = a := fun e => hA _ fun z => by rw [e] at z; cases z
  have below : ∀ {b : Addr} {m : Str → Option Value}, s1.heap.Ns b m → (hidT s1.heap H).Ns b m := by
    rintro b m ⟨o, es, ep, e, d, r⟩
    refine ⟨o, es, ep, hidT_get e ?_, d, r⟩
    cases q : H b with
    | none => rfl
    | some u =>
      obtain rfl := only q
      rw [ha] at e
      cases e
      exact absurd (show Data.seq vs.toArray _ = Data.dict es ep from d) (by intro z; cases z)
  have kb : K.In (hidT s1.heap H) := by
    intro b o e
    refine hidT_get (KX b o e) ?_
    cases q : H b with
    | none => rfl
    | some u =>
      obtain rfl := only q
      rw [hK (by rw [q]; intro z; cases z)] at e
      cases e
  obtain ⟨mc, c1, c2⟩ := hlim
  have e0 : Env0 P w K mg (hidT s1.heap H) callerA [] s1 H :=
    { frames := rfl, mod := ⟨kb, below hns, ⟨mb, below hb, hbb⟩, ⟨mc, below c1, c2⟩⟩, bs := fun b o e => of_hidT e, bsz := Nat.le_of_eq (hidT_size _ _), funs := trivial, frf := (fun b hb => nomatch hb), hok := hok, bare := .of_eq hg }
  refine codeAny_mono ((F _ kb (below hns) (hsy.elim fun _ z => ⟨_, below z⟩)).run callerA [] s1 H ⟨[.ref a], []⟩ [.ref a] [.ref a] (fun v _ => v = .bl true) (fun _ _ _ => False) hr (fun _ => rfl) e0 (hbind s1 (.ref a)) (.cons rfl .nil) ⟨a, ns, rfl, hS, hl, fun _ => rfl⟩) ?_
  intro r s' h
  match r, h with
  | .ok (.ret u), h =>
    obtain ⟨v, H', os, bare, un, hok', rv, q⟩ := h
    subst q
    cases rv
    refine ⟨rfl, OldK.of_keep fun b o e => ?_, os, bare⟩
    cases q : H b with
    | none => exact un.keep b o e q (fun z => nomatch z) (fun z => nomatch z)
    | some u =>
      rcases hO b with z | ⟨ob, xs, z⟩
      · rw [q] at z; cases z
      · obtain ⟨e1, _⟩ := hok b _ z
        obtain ⟨e2, _⟩ := hok' b _ (un.frzs b ob _ z)
        rw [e] at e1
        cases e1
        exact e2
theorem law_callG (KX : K.In s1.heap) (hns : s1.heap.Ns mainGlobals mg) (hb : s1.heap.Ns builtinsNs mb) (hbb : ∀ x : Str, x ≠ "__name__" → mb x = bootBuiltins x) (hlim : s1.heap.NoLimit) (hg : s1.gens = #[])
    (ha : s1.heap.get? a = some { cls := .type "list", data := .seq vs.toArray }) (hi : IntsAre vs ns) (hl : ns.length ≤ 63) (hr : Room k callerA)
    (hsy : ∃ mm, s1.heap.Ns sysModules mm) (F : ∀ base : Heap, K.In base → base.Ns mainGlobals mg → (∃ mm, base.Ns sysModules mm) → FnG P w K mg base k fa fd [x] (spLaw K)) (hbind : ∀ (s : Shared) (u : Value), BindsTo s fd ⟨[u], []⟩ [(x, u)]) :
    codeAny (model P w) callerA (.call (.ref fa) ⟨[.ref a], []⟩) (Ended s1) s1 := by
  have rv : Vals (ns.map V.int) vs := vals_ints hi
  have ln : (ns.map V.int).length ≤ sizeLine := by rw [List.length_map]; exact lim_line (Nat.le_trans hl (by decide))
  cases hk : K.lookup a with
  | some o =>
    have e := KX a o hk
    rw [ha] at e
    cases e
    refine law_from KX hns hb hbb hlim hg ha hl hr hsy F hbind (fun _ => none) (fun _ => .inl rfl) (.inr ⟨_, vs.toArray, _, hk, rfl, rfl, rfl, ?_, by simpa using rv⟩) (fun b u z => ?_) (fun b z => absurd rfl z) (fun z => absurd rfl z)
    · rw [List.size_toArray, ← rv.length]; exact ln
    · cases (show (none : Option HO) = some u from z)
  | none =>
    let H : Hp := fun b => if b = a then some (.frz { cls := .type "list", data := .seq vs.toArray } (.lst (ns.map V.int))) else none
    have at_a : ∀ {b : Addr} {u : HO}, H b = some u → b = a ∧ u = .frz { cls := .type "list", data := .seq vs.toArray } (.lst (ns.map V.int)) := fun {b u} z => by
      by_cases q : b = a
      · rw [show H b = _ from if_pos q] at z
        cases z
        exact ⟨q, rfl⟩
      · rw [show H b = none from if_neg q] at z
        cases z
    refine law_from KX hns hb hbb hlim hg ha hl hr hsy F hbind H (fun b => ?_) (.inl (.inr ⟨_, if_pos rfl⟩)) (fun b u z => ?_) (fun b z => ?_) (fun _ => hk)
    · by_cases q : b = a
      · exact .inr ⟨_, _, if_pos q⟩
      · exact .inl (if_neg q)
    · obtain ⟨rfl, rfl⟩ := at_a z
      exact ⟨ha, ln, vs, _, rv, ha⟩
    · by_cases q : b = a
      · exact q
      · exact absurd (if_neg q) z
end
theorem walkG {l : PySem.W.OpenLaw} {k : Nat} {q : Program} {loose : List Str} {XP : (Str → Option Value) → Heap → Prop} {YP : World → Heap → Prop} {d : DefRec} {K : Params → PySem.W.Frag} {x : Str}
    (hip : importsNone q = true) (hn : l.most = some 63) (hdf : d.params.defaults = []) (hr : Room k callerA) (hY : ∀ (w : World) (h : Heap), YP w h → (K w.params).In h)
    (F : ∀ (w : World) (mg : Str → Option Value) (fa : Addr) (h : Heap), (K w.params).In h → h.Ns mainGlobals mg → mg d.name = some (.ref fa) →
      ∃ fd : FuncData, (∀ (s : Shared) (u : Value), BindsTo s fd ⟨[u], []⟩ [(x, u)]) ∧ ∀ base : Heap, (K w.params).In base → base.Ns mainGlobals mg → (∃ mm, base.Ns sysModules mm) → FnG l.prog w (K w.params) mg base k fa fd [x] (spLaw (K w.params))) :
    PySem.W.WalkO q loose XP YP l.row.toRowW d [] (fun f vs => PySem.call f vs) :=
  Att.attach_call hn hdf fun w s0 s1 mg mb fa o pm cd doc a vs ns G Y _ _ _ hmg hobj hints hlen hg => by
    obtain ⟨fd, hb, hF⟩ := F w mg fa _ (hY w _ Y) G.T.g hmg
    exact law_callG (hY w _ Y) G.T.g G.T.b G.T.builtins G.T.nolimit hg hobj hints hlen hr (let ⟨mm, z, _⟩ := (G.T.seer hip).mods; ⟨mm, z⟩) hF hb
end RR
end
section
namespace RR
open PySem PySem.Spec L2
open PyProof.Rows hiding St
/-- a draw below an amount -/
def m_take : MF := fun ds n R => ∃ m : Int, ds = [.int m] ∧ 1 ≤ m ∧ m < 1073741824 ∧ n < 1048576 ∧ ∀ x : Int, 0 ≤ x → x < m → R (.int x) (n + 1)
/-- the drawing list is made out of the script -/
def spOpen (K : PySem.W.Frag) : Sp := fun vs H Q _ => ∃ (a : Addr) (ns : List Int), vs = [.ref a] ∧ SqL K H a (ns.map V.int) ∧ ns.length ≤ 63 ∧
  ∀ H' p dr (xs : List Int), H' p = some (.lst [.ref dr, .int 0, .int 0]) → H' dr = some (.lst (xs.map V.int)) → p ≠ dr → Q (.ref p) H'
/-- what a spread cell is: an int from 0 on -/
def SpreadOk (m : MP) : Prop := ∀ (c w : Int) (R : D → Prop), 0 ≤ w → w < 1048576 → (∀ z : Int, 0 ≤ z → R (.int z)) → m [.int c, .int w] R
end RR
end
section
namespace RR
open PySem PySem.Spec L2
open PyProof.Rows hiding St
def compI (g1 : MG) (t1 : MT) (e : ME) (Γ : DEnv) : List D → Nat → List D → (List D → Nat → Prop) → Prop
  | [], n, acc, Q => Q acc n
  | d :: ds, n, acc, Q => g1 d Γ fun Γ2 => t1 Γ2 n fun b n1 => if b = true then e Γ2 n1 fun y n2 => acc.length < lim ∧ compI g1 t1 e Γ ds n2 (acc ++ [y]) Q else compI g1 t1 e Γ ds n1 acc Q
def compO (g : MG) (t : MT) (mi1 : MI) (g1 : MG) (t1 : MT) (e : ME) (vs1 : List Nat) (Γ : DEnv) : List D → Nat → List D → (List D → Nat → Prop) → Prop
  | [], n, acc, Q => Q acc n
  | d :: ds, n, acc, Q => g d Γ fun Γ2 => t Γ2 n fun b n1 => if b = true then mi1 Γ2 n1 fun es n2 => compI g1 t1 e (wipeD Γ2 vs1) es n2 acc fun acc' n3 => compO g t mi1 g1 t1 e vs1 Γ ds n3 acc' Q else compO g t mi1 g1 t1 e vs1 Γ ds n1 acc Q
@[reducible] def mLc2 (mi : MI) (g : MG) (t : MT) (mi1 : MI) (g1 : MG) (t1 : MT) (e : ME) (vs vs1 : List Nat) : ME := fun Γ n Q => mi Γ n fun ds n1 => compO g t mi1 g1 t1 e vs1 (wipeD Γ vs) ds n1 [] fun r n2 => Q (.list r) n2
/-- a target changes its own slots only -/
def KG (is : List Nat) (g : MG) : Prop := ∀ d Γ (Q Q' : DEnv → Prop), (∀ Γ', Q Γ' → (∀ j, j ∉ is → Γ'[j]? = Γ[j]?) → Q' Γ') → g d Γ Q → g d Γ Q'
theorem KG.on {is : List Nat} {g : MG} (h : KG is g) {d : D} {Γ : DEnv} {Q : DEnv → Prop} (q : g d Γ Q) : g d Γ fun Γ' => Q Γ' ∧ ∀ j, j ∉ is → Γ'[j]? = Γ[j]? := h _ _ _ _ (fun _ a b => ⟨a, b⟩) q
theorem kg_name {i : Nat} : KG [i] (mgName i) := fun d Γ Q Q' k q => k _ q fun j hj => List.getElem?_set_ne fun z => hj (by simp [z])
section
variable {X : Cx} {p : Pm} {O is is1 vs vs1 : List Nat} {wi wi1 : TI} {mi mi1 : MI} {g g1 : TG} {mg mg1 : MG} {tt tt1 : TT} {mt mt1 : MT} {te : TE} {me : ME}
theorem drop_at {α : Type} {l : List α} {i : Nat} (h : i < l.length) : ∃ d, l[i]? = some d ∧ l.drop i = d :: l.drop (i + 1) := ⟨l[i], by simp [h], by rw [List.drop_eq_getElem_cons h]⟩
/-- what is known of the list that is being made -/
structure Mk2 (p : Pm) (Dd : Addr) (F0 H0 F1 H1 : Hp) (O : List Nat) (σ : St) (Γ : DEnv) (F H : Hp) (n : Nat) (acc : List D) (accV : List V) : Prop where
  g : Gp p F1 H1 F H
  s : Sep p F0 H0 O F H σ Γ n
  f : F Dd = none
  h : H Dd = some (.lst accV)
  r : Rps p.K F acc accV
theorem lf_lc2 (hi : LI p O wi mi) (hg : LG p O is g mg) (kg : KG is mg) (ht : LT p O tt mt) (hi1 : LI p O wi1 mi1) (hg1 : LG p O is1 g1 mg1) (ht1 : LT p O tt1 mt1) (he : LE p O te me) (his : ∀ i ∈ is, i ∈ vs) (hO : ∀ i ∈ is, i ∉ O) (his1 : ∀ i ∈ is1, i ∈ vs1) (hp : ∀ v ∈ vs, p.off v) (hp1 : ∀ v ∈ vs1, p.off v) :
    LF p O (tLc2 wi g tt wi1 g1 tt1 te vs vs1) (mLc2 mi mg mt mi1 mg1 mt1 me vs vs1) := fun F0 H0 F H σ Γ n Q s q Q' k =>
  hi F0 H0 F H σ Γ n _ s q _ fun J ds F1 H1 n1 s1 g1' fd q1 => fun Dd hD => by
    have hD0 : H Dd = none := by
      cases w : H Dd with
      | none => rfl
      | some o => rw [g1'.h Dd o w (s1.h0 hD).2] at hD; cases hD
    have hp0 := (s1.h0 hD).2
    have hH0 := (s1.h0 hD).1
    have hF1 : F1 Dd = none := s1.fh.free hD
    have sl1 : ∀ j ∈ O, ∀ dj, Γ[j]? = some (some dj) → σ[j]? ≠ some (some (.ref Dd)) := fun j hj dj e w => by
      obtain ⟨b, e1, r, _⟩ := s1.ow j hj dj e
      rw [w] at e1
      cases e1
      obtain ⟨o, e2⟩ := r.at
      rw [hD] at e2; cases e2
    have keep : ∀ {F2 H2 F3 H3 : Hp} {n2 n3 : Nat} {σ' : St} {Γ' : DEnv} {acc : List D} {accV : List V}, Mk2 p Dd F0 H0 F1 H1 O σ Γ F2 H2 n2 acc accV → Gp p F2 H2 F3 H3 → Sep p F0 H0 O F3 H3 σ' Γ' n3 → Mk2 p Dd F0 H0 F1 H1 O σ Γ F3 H3 n3 acc accV :=
      fun m g s' => ⟨m.g.trans g, m.s.back s' g, g.none m.f m.h hp0, g.h _ _ m.h hp0, m.r.mono g.f⟩
    refine ⟨fun i m H => m = ds.length - i ∧ i ≤ ds.length ∧ ∃ F n acc accV, Mk2 p Dd F0 H0 F1 H1 O σ Γ F H n acc accV ∧ compO mg mt mi1 mg1 mt1 me vs1 (wipeD Γ vs) (ds.drop i) n acc (fun r n' => Q (.list r) n'),
      ⟨ds.length, by simp, Nat.zero_le _, F1, n1, [], [], ⟨(Gr.new0 s1.fh hD _).gp, s1.gr (Gr.new0 s1.fh hD _), hF1, upd_same, .nil⟩, by simpa using q1⟩, ?_⟩
    rintro i m H2 ⟨rfl, hi', F2, n2, acc, accV, m2, c2⟩
    by_cases hlt : i < ds.length
    · obtain ⟨d, hd, hdr⟩ := drop_at hlt
      obtain ⟨go, yl⟩ := fd.go i d F2 H2 hd m2.g.f m2.s.fh
      rw [hdr] at c2
      refine .inr ⟨go, fun H => ∃ F n acc accV, Mk2 p Dd F0 H0 F1 H1 O σ Γ F H n acc accV ∧ compO mg mt mi1 mg1 mt1 me vs1 (wipeD Γ vs) (ds.drop (i + 1)) n acc (fun r n' => Q (.list r) n'),
        fun H' w => ⟨ds.length - (i + 1), by omega, rfl, hlt, w⟩, fun x H3 y => ?_⟩
      obtain ⟨F3, g3, r3⟩ := yl x H3 y
      have s3 := m2.s.gr g3
      refine hg F0 H0 F3 H3 _ _ n2 d x (s3.wipe hp) r3 _ _ (kg.on c2) fun σ4 Γ4 s4 a4 ⟨q4, b4⟩ => ?_
      refine ⟨wipe_agree a4 his, ?_⟩
      have sl4 : ∀ j ∈ O, ∀ dj, Γ4[j]? = some (some dj) → σ4[j]? ≠ some (some (.ref Dd)) := fun j hj dj e => by
        have nj : j ∉ is := fun z => hO j z hj
        rw [b4 j nj, wipeD_at] at e
        rw [a4.2 j nj, wipe_at]
        by_cases z : j ∈ vs
        · rw [if_pos z] at e
          split at e <;> cases e
        · rw [if_neg z] at e ⊢
          exact sl1 j hj dj e
      refine ht F0 H0 F3 H3 σ4 Γ4 n2 _ s4 q4 _ fun b F5 H5 n5 s5 g5 q5 => ?_
      have g25 : Gp p F2 H2 F5 H5 := g3.gp.trans g5
      cases b with
      | false =>
        rw [if_neg (by decide)] at q5 ⊢
        exact ⟨F5, n5, acc, accV, keep m2 g25 s5, q5⟩
      | true =>
        rw [if_pos rfl] at q5 ⊢
        refine hi1 F0 H0 F5 H5 σ4 Γ4 n5 _ s5 q5 _ fun J1 es F6 H6 n6 s6 g6 fd1 q6 => ?_
        have g26 : Gp p F2 H2 F6 H6 := g25.trans g6
        refine ⟨fun j m H => m = es.length - j ∧ j ≤ es.length ∧ ∃ F n acc accV, Mk2 p Dd F0 H0 F1 H1 O σ Γ F H n acc accV ∧ Sep p F0 H0 O F H σ4 Γ4 n ∧ Same F6 F ∧ compI mg1 mt1 me (wipeD Γ4 vs1) (es.drop j) n acc (fun r n' => compO mg mt mi1 mg1 mt1 me vs1 (wipeD Γ vs) (ds.drop (i + 1)) n' r (fun r n' => Q (.list r) n')),
          ⟨es.length, by simp, Nat.zero_le _, F6, n6, acc, accV, keep m2 g26 s6, s6, .refl _, by simpa using q6⟩, ?_⟩
        rintro j m7 H7 ⟨rfl, hj', F7, n7, acc7, accV7, m7', s7, sm7, c7⟩
        by_cases hlt1 : j < es.length
        · obtain ⟨d1, hd1, hdr1⟩ := drop_at hlt1
          obtain ⟨go1, yl1⟩ := fd1.go j d1 F7 H7 hd1 sm7 s7.fh
          rw [hdr1] at c7
          refine .inr ⟨go1, fun H => ∃ F n acc accV, Mk2 p Dd F0 H0 F1 H1 O σ Γ F H n acc accV ∧ Sep p F0 H0 O F H σ4 Γ4 n ∧ Same F6 F ∧ compI mg1 mt1 me (wipeD Γ4 vs1) (es.drop (j + 1)) n acc (fun r n' => compO mg mt mi1 mg1 mt1 me vs1 (wipeD Γ vs) (ds.drop (i + 1)) n' r (fun r n' => Q (.list r) n')),
            fun H' w => ⟨es.length - (j + 1), by omega, rfl, hlt1, w⟩, fun x8 H8 y8 => ?_⟩
          obtain ⟨F8, g8, r8⟩ := yl1 x8 H8 y8
          have s8 := s7.gr g8
          refine hg1 F0 H0 F8 H8 _ _ n7 d1 x8 (s8.wipe hp1) r8 _ _ c7 fun σ9 Γ9 s9 a9 q9 => ?_
          refine ⟨wipe_agree a9 his1, ?_⟩
          refine ht1 F0 H0 F8 H8 σ9 Γ9 n7 _ s9 q9 _ fun b F10 H10 n10 s10 g10 q10 => ?_
          have g710 : Gp p F7 H7 F10 H10 := g8.gp.trans g10
          cases b with
          | false =>
            rw [if_neg (by decide)] at q10 ⊢
            exact ⟨F10, n10, acc7, accV7, keep m7' g710 s10, s7.back s10 g710, sm7.trans g710.f, q10⟩
          | true =>
            rw [if_pos rfl] at q10 ⊢
            refine he F0 H0 F10 H10 σ9 Γ9 n10 _ s10 q10 _ fun y v F11 H11 n11 s11 g11 r11 ⟨hl, q11⟩ => ?_
            have g711 := g710.trans g11
            have m11 := keep m7' g711 s11
            refine ⟨accV7, m11.h, by rw [m11.r.len]; exact lim_lt (by omega), F11, n11, acc7 ++ [y], accV7 ++ [v], ⟨?_, m11.s.poke m11.f hH0 hp0 sl1, m11.f, upd_same, m11.r.append (.cons r11 .nil)⟩, (s7.back s11 g711).poke m11.f hH0 hp0 sl4, sm7.trans g711.f, q11⟩
            refine ⟨m11.g.f, fun a o e hp => ?_, m11.g.new⟩
            rw [upd_ne fun z => by rw [z, hD] at e; cases e]
            exact m11.g.h a o e hp
        · have e : j = es.length := by omega
          subst e
          rw [List.drop_length] at c7
          exact .inl ⟨fd1.stop F7 H7 sm7 s7.fh, F7, n7, acc7, accV7, m7', c7⟩
    · have e : i = ds.length := by omega
      subst e
      rw [List.drop_length] at c2
      exact .inl ⟨fd.stop F2 H2 m2.g.f m2.s.fh, k (.list acc) Dd F2 H2 n2 m2.s (g1'.trans m2.g) (.lst m2.h m2.r) m2.f hD0 c2⟩
end
end RR
end
section
namespace RR
open PySem PySem.Spec L2
open PyProof.Rows hiding St
structure RTs (X : Cx) (p : Pm) (O : List Nat) (es : List Expr) (t : TT) (m : MT) : Prop where
  pt : PTs X es t
  le : LT p O t m
section
variable {X : Cx} {p : Pm} {O Ob is is1 vs1 : List Nat} {wi wi1 : TI} {mi mi1 : MI} {g g1 : TG} {mg mg1 : MG} {tt tt1 : TT} {mt mt1 : MT} {te : TE} {me : ME} {tg iter tg1 iter1 elt c : Expr} {ifs ifs1 : List Expr} {pos spos q : Pos}
theorem rts_nil : RTs X p O [] tYes mYes := ⟨pts_nil, lt_yes⟩
theorem fLc2 {scope : Scope} {own : List (Str × Nat)} (vs1 : List Nat) (hc : X.calm = true) (hN : X.N.Nodup) (hi : RI X p O tg iter wi mi) (ok : BlkOk X.N X.env.scope scope own) (hv : ∀ i ∈ vs1, i ∈ own.map (·.2)) (kg : KG is mg)
    (hg : ∀ (s : Shared) (H : Hp) (C : Addr) (cl : List (Str × Addr)) (fp : List Addr), RG (X.blk s H scope (compEnvC scope cl C X.env) fp) p O is tg g mg) (ht : ∀ (s : Shared) (H : Hp) (C : Addr) (cl : List (Str × Addr)) (fp : List Addr), RTs (X.blk s H scope (compEnvC scope cl C X.env) fp) p O ifs tt mt)
    (hi1 : ∀ (s : Shared) (H : Hp) (C : Addr) (cl : List (Str × Addr)) (fp : List Addr), RI (X.blk s H scope (compEnvC scope cl C X.env) fp) p O tg1 iter1 wi1 mi1)
    (hg1 : ∀ (s : Shared) (H : Hp) (C : Addr) (cl : List (Str × Addr)) (fp : List Addr), RG (X.blk s H scope (compEnvC scope cl C X.env) fp) p O is1 tg1 g1 mg1) (ht1 : ∀ (s : Shared) (H : Hp) (C : Addr) (cl : List (Str × Addr)) (fp : List Addr), RTs (X.blk s H scope (compEnvC scope cl C X.env) fp) p O ifs1 tt1 mt1)
    (he : ∀ (s : Shared) (H : Hp) (C : Addr) (cl : List (Str × Addr)) (fp : List Addr), RE (X.blk s H scope (compEnvC scope cl C X.env) fp) p O elt te me)
    (his : ∀ i ∈ is, i ∈ own.map (·.2)) (hO : ∀ i ∈ is, i ∉ O) (his1 : ∀ i ∈ is1, i ∈ vs1) (hp : ∀ v ∈ own.map (·.2), p.off v) (hs : ∀ x, foldedSetIterable iter X.env x = pure x := by intro _; rfl) (hs1 : ∀ (env : Env) x, foldedSetIterable iter1 env x = pure x := by intro _ _; rfl) :
    RF X p O (.ListComp elt [⟨tg, iter, ifs, 0⟩, ⟨tg1, iter1, ifs1, 0⟩] scope pos) (tLc2 wi g tt wi1 g1 tt1 te (own.map (·.2)) vs1) (mLc2 mi mg mt mi1 mg1 mt1 me (own.map (·.2)) vs1) :=
  ⟨pe_lc2 hc hN hi.pi ok hv (fun s H C cl fp => (hg s H C cl fp).pg) (fun s H C cl fp => (ht s H C cl fp).pt) (fun s H C cl fp => (hi1 s H C cl fp).pi) (fun s H C cl fp => (hg1 s H C cl fp).pg) (fun s H C cl fp => (ht1 s H C cl fp).pt) (fun s H C cl fp => (he s H C cl fp).pe) hs hs1,
    lf_lc2 hi.le (hg X.s_0 X.H_0 0 [] []).le kg (ht X.s_0 X.H_0 0 [] []).le (hi1 X.s_0 X.H_0 0 [] []).le (hg1 X.s_0 X.H_0 0 [] []).le (ht1 X.s_0 X.H_0 0 [] []).le (he X.s_0 X.H_0 0 [] []).le his hO his1 hp fun v h => hp v (hv v h)⟩
end
end RR
end
section
namespace RR
open PySem PySem.Spec L2
open PyProof.Rows hiding St
/-- a promise that is asked nowhere -/
theorem FnG.never {P : Program} {w : World} {K : PySem.W.Frag} {mg : Str → Option Value} {base : Heap} {k : Nat} {f : Addr} {fd : FuncData} {ps : List Str} : FnG P w K mg base k f fd ps (spF K fun _ _ => False) :=
  ⟨fun vs H Q E ⟨_, _, _, _, _, q, _⟩ => q.elim, fun A o s H a us vs Q E _ _ _ _ _ ⟨_, _, _, _, _, q, _⟩ => q.elim⟩
end RR
end
section
namespace RR
open PySem PySem.Spec L2
open PyProof.Rows hiding St
theorem rd_new {H : Hp} {a p : Addr} {o u : HO} (h : Rd H a o) (hp : H p = none) : Rd (upd H p u) a o := by
  have ne : ∀ {x : HO}, H a = some x → a ≠ p := fun e z => by rw [z, hp] at e; cases e
  rcases h with h | ⟨ob, h⟩
  · exact .inl (by rw [upd_ne (ne h)]; exact h)
  · exact .inr ⟨ob, by rw [upd_ne (ne h)]; exact h⟩
theorem sql_new {K : PySem.W.Frag} {H : Hp} {a p : Addr} {xs : List V} {u : HO} (h : SqL K H a xs) (hp : H p = none) : SqL K (upd H p u) a xs := h.imp (fun r => rd_new r hp) id
theorem cut_int (ns : List Int) (lo hi : Option Int) : ∃ ms : List Int, cutV (ns.map V.int) lo hi = ms.map V.int := by
  unfold cutV
  exact ⟨_, by rw [← List.map_drop, ← List.map_take]⟩
theorem cut_low (ns : List Int) : (cutV (ns.map V.int) none (some 12)).length = min 12 ns.length := by
  unfold cutV
  have h1 : HT.sIx (ns.map V.int).length 0 none = 0 := by simp [HT.sIx]
  have h2 : HT.sIx (ns.map V.int).length (ns.map V.int).length (some 12) = min 12 ns.length := by simp [HT.sIx]
  rw [h1, h2]; simp
theorem cut_high (ns : List Int) (h : (cutV (ns.map V.int) (some 12) (some 63)).length ≠ 0) : 12 < ns.length := by
  apply Classical.byContradiction
  intro hn
  apply h
  unfold cutV
  have h1 : HT.sIx (ns.map V.int).length 0 (some 12) = min 12 ns.length := by simp [HT.sIx]
  rw [h1, List.length_take, List.length_drop, List.length_map]
  omega
end RR
end
section
namespace RR
open PySem PySem.Spec L2
open PyProof.Rows hiding St
theorem offp {K : PySem.W.Frag} {a : Addr} {dr : DrT} {s i : Nat} (h : s ≠ i) : (Pm.mk K (some (a, s)) dr).off i := fun _ _ e => by cases e; exact h
theorem offsp {K : PySem.W.Frag} {a : Addr} {dr : DrT} {s : Nat} {l : List Nat} (h : ∀ v ∈ l, s ≠ v) : ∀ v ∈ l, (Pm.mk K (some (a, s)) dr).off v := fun v hv => offp (h v hv)
theorem offsOp {K : PySem.W.Frag} {a : Addr} {dr : DrT} {s : Nat} {l O : List Nat} (h : ∀ v ∈ l, v ∉ O ∧ s ≠ v) : ∀ v ∈ l, v ∉ O ∧ (Pm.mk K (some (a, s)) dr).off v := fun v hv => ⟨(h v hv).1, offp (h v hv).2⟩
theorem pss_ex {X : Cx} {sts : List Stmt} {ι : Type} {t : ι → TS} (h : ∀ x, PSs X sts (t x)) : PSs X sts fun D σ H => ∃ x, t x D σ H := ⟨fun pins s σ H D I ⟨x, q⟩ => (h x).run pins s σ H D I q⟩
/-- the law holds: what it returns is True -/
@[reducible] def mTrue : EndsD := { nx := fun _ _ => False, rt := fun d _ => d = .bool true }
section
variable {P : Program} {w : World} {K : PySem.W.Frag} {mg : Str → Option Value} {base : Heap}
theorem FnG.law {x qual : Str} {st : Stmt} {f : Addr} {fd : FuncData} {N : List Str} {x0 : Str} {k : Nat} {mb : MS} (i : Nat) (F : Fun K x qual st f fd) (S : FnScope N [x0] (defScope st)) (hi : 0 < i ∧ i < N.length) (st1 : Stmt) (rest : List Stmt) (hst : defBody st = st1 :: rest)
    (body : ∀ (cdv : Value) (A : Around) (outer : List Env) (s : Shared) (H : Hp) (E : XK), Room k (A.deeper (envOfC qual (defScope st) s.heap.objs.size f cdv)) → GB (k + 1) A →
      PS (bodyCx P w K mg base N qual (defScope st) f cdv A outer s H E) st1 (tAsg (tCall (spOpen K) [] E0 (tCons (tVar 0) tNil)) (gName i)) ∧
      ∀ a dr, ∃ t O', RSs (bodyCx P w K mg base N qual (defScope st) f cdv A outer s H E) ⟨K, some (a, i), ⟨dr, []⟩⟩ [] [] O' rest t mb)
    (h : mb mTrue (List.replicate N.length none) 0) : FnG P w K mg base (k + 1) f fd [x0] (spLaw K) := by
  refine FnG.mk' F S (fun vs H Q E ⟨a, ns, e, _⟩ => by rw [e]; rfl) fun cdv A outer s H vs Q E hr hg ⟨a, ns, e, hs, hl, fin⟩ => ?_
  subst e
  obtain ⟨h1, h2⟩ := body cdv A outer s H E hr hg
  let t : Addr × Addr → TS := fun q => Classical.choose (h2 q.1 q.2)
  have ht : ∀ q : Addr × Addr, ∃ O', RSs (bodyCx P w K mg base N qual (defScope st) f cdv A outer s H E) ⟨K, some (q.1, i), ⟨q.2, []⟩⟩ [] [] O' rest (t q) mb := fun q => Classical.choose_spec (h2 q.1 q.2)
  refine ⟨_, hst ▸ pss_cons h1 (pss_ex fun q => (ht q).elim fun _ z => z.ps), ?_⟩
  have hlen : (start N [V.ref a]).length = N.length := by unfold L2.start; simp; omega
  refine ⟨.ref a, start_get (vs := [V.ref a]) (i := 0) (show 0 < 1 from Nat.one_pos), a, ns, rfl, hs, hl, fun H' b dr xs hb hdr hne => ⟨(b, dr), ?_⟩⟩
  obtain ⟨O', B⟩ := ht (b, dr)
  let F1 : Hp := fun c => if c = dr then some (.lst (xs.map V.int)) else none
  have f1 : ∀ {c : Addr} {o : HO}, F1 c = some o → c = dr ∧ o = .lst (xs.map V.int) := fun {c o} e => by
    by_cases z : c = dr
    · rw [show F1 c = _ from if_pos z] at e; cases e; exact ⟨z, rfl⟩
    · rw [show F1 c = none from if_neg z] at e; cases e
  have sp : Sep ⟨K, some (b, i), ⟨dr, []⟩⟩ F1 (fun _ => none) [] F1 H' ((start N [V.ref a]).set i (some (.ref b))) (List.replicate N.length none) 0 := by
    refine ⟨.refl _, fun c o e => ?_, fun c o e => (nomatch e), fun c o e => .inl e, fun c j e => ?_, by rw [List.length_set, hlen, List.length_replicate], fun j d _ e => ?_, fun j hj => (nomatch hj), fun j hj => (nomatch hj)⟩
    · obtain ⟨rfl, rfl⟩ := f1 e; exact hdr
    · cases e
      refine ⟨if_neg hne, ?_, ⟨0, 0, xs, hb, if_pos rfl, Int.le_refl _, Int.le_refl _, Int.le_refl _⟩, .nil⟩
      rw [set_at, if_pos rfl, if_pos (by rw [hlen]; exact hi.2)]
    · rw [List.getElem?_replicate] at e
      split at e <;> cases e
  exact B.le F1 (fun _ => none) F1 H' _ _ 0 mTrue sp h _ (fun _ _ _ _ _ _ _ z => z.elim) (fun d v F' H'' n' _ r z => by subst z; cases r; exact fin _) (fun _ _ _ _ _ _ _ z => z.elim) (fun _ _ _ _ _ _ _ z => z.elim)
end
end RR
end
section
namespace RR
open PySem PySem.Spec L2
open PyProof.Rows hiding St
/-- one def as the head finds it -/
theorem fd_mk {K : PySem.W.Frag} {h : Heap} {mg : Str → Option Value} {x : Str} {st : Stmt} {ps : List Str} {f : Addr} {oc : Value} {od an : Option Addr} {sl : Array (Option Value)} {kV doc pm cdv ct : Value} (X : K.In h) (G : h.Ns mainGlobals mg)
    (a : PySem.W.nsIn K mainGlobals x = some (some (.ref f))) (l : K.lookup f = some ⟨oc, od, .func (PySem.W.fnOf x x (defArgs st) (defBody st) (defScope st) .none kV doc pm an cdv ct), sl⟩) (c : PySem.W.codeIn K cdv x = true) (k : PySem.W.keepIn K (.ref f) = true)
    (hb : ∀ (kV doc pm : Value) (an : Option Addr) (cdv ct : Value) (us : List Value), us.length = ps.length → bindArgs (PySem.W.fnOf x x (defArgs st) (defBody st) (defScope st) .none kV doc pm an cdv ct) { pos := us } = pure (ps.zip us)) : FD K mg x st ps :=
  have F := fun_mk (st := st) l c k
  ⟨f, _, F, PySem.W.mg_of X G a, F.binds hb⟩
/-- a number of the module -/
theorem ci_int {K : PySem.W.Frag} {h : Heap} {mg : Str → Option Value} {x : Str} {i : Int} {u : Value} (X : K.In h) (G : h.Ns mainGlobals mg) (a : PySem.W.nsIn K mainGlobals x = some (some u)) (r : RelV (.int i) u) : CI K mg x (.int i) (.int i) :=
  ⟨⟨_, PySem.W.mg_of X G a, r⟩, fun F => .int i⟩
/-- a tuple of the module, as the head finds it, its items told one by one -/
theorem rp_tup {K : PySem.W.Frag} {f : Addr} {ds : List D} {xs : List V} {od : Option Addr} {its : Array Value} {n : Nat} {sl : Array (Option Value)} (l : K.lookup f = some ⟨.type "tuple", od, .seq its n, sl⟩) (z : its.size ≤ sizeLine) (v : Vals xs its.toList) (F : Hp) (r : Rps K F ds xs) : Rp K F (.tuple ds) (.ref f) :=
  .of_tup (.inr ⟨_, its, n, l, rfl, rfl, z, v⟩) r
theorem ci_ref {K : PySem.W.Frag} {h : Heap} {mg : Str → Option Value} {x : Str} {f : Addr} {d : D} (X : K.In h) (G : h.Ns mainGlobals mg) (a : PySem.W.nsIn K mainGlobals x = some (some (.ref f))) (r : ∀ F : Hp, Rp K F d (.ref f)) : CI K mg x d (.ref f) :=
  ⟨⟨_, PySem.W.mg_of X G a, rfl⟩, r⟩
theorem ci_tup {K : PySem.W.Frag} {h : Heap} {mg : Str → Option Value} {x : Str} {f : Addr} {ds : List D} {xs : List V} {od : Option Addr} {its : Array Value} {n : Nat} {sl : Array (Option Value)} (X : K.In h) (G : h.Ns mainGlobals mg) (a : PySem.W.nsIn K mainGlobals x = some (some (.ref f))) (l : K.lookup f = some ⟨.type "tuple", od, .seq its n, sl⟩) (z : its.size ≤ sizeLine) (r : ∀ F : Hp, Rps K F ds xs) (v : Vals xs its.toList) : CI K mg x (.tuple ds) (.ref f) :=
  ci_ref X G a fun F => rp_tup l z v F (r F)
end RR
end
section
namespace RR
open PySem PySem.Spec L2
open PyProof.Rows hiding St
structure DK (K : PySem.W.Frag) (w : World) (mg : Str → Option Value) (x : Str) (kvs : List (D × D)) (a : Addr) : Prop where
  nm : mg x = some (.ref a)
  kd : ∃ es n, KDict K w a es n
  at_ : ∀ z d, dLook kvs (.str z) = some d → ∃ u v, PySem.W.nsIn K a z = some (some u) ∧ RelV v u ∧ ∀ F, Rp K F d v
  no : ∀ z, dLook kvs (.str z) = none → PySem.W.nsIn K a z = some none
def kIn (kvs : List (D × D)) : D → Option D
  | .str z => some (.bool (dLook kvs (.str z)).isSome)
  | _ => none
def kNin (kvs : List (D × D)) : D → Option D
  | .str z => some (.bool (!(dLook kvs (.str z)).isSome))
  | _ => none
def kIx (kvs : List (D × D)) : D → Option D
  | .str z => dLook kvs (.str z)
  | _ => none
section
variable {X : Cx} {p : Pm} {O : List Nat} {e : Expr} {te : TE} {me : ME} {pos q : Pos} {x : Str} {kvs : List (D × D)} {a : Addr}
theorem DK.pe (h : DK X.K X.w X.mg x kvs a) (hg : Gl X x) (hd : (x == ("__debug__" : Str)) = false := by decide) : PE X (.Name x q) (tC (.ref a)) := pe_glob hg h.nm rfl hd
theorem DK.some_of (h : DK X.K X.w X.mg x kvs a) (z : Str) : ∃ r, PySem.W.nsIn X.K a z = some r ∧ r.isSome = (dLook kvs (.str z)).isSome := by
  cases e : dLook kvs (.str z) with
  | none => exact ⟨_, h.no z e, rfl⟩
  | some d =>
    obtain ⟨u, v, e1, _⟩ := h.at_ z d e
    exact ⟨_, e1, rfl⟩
theorem e_ninK (h : DK X.K X.w X.mg x kvs a) (hK : p.K = X.K) (hg : Gl X x) (he : RE X p O e te me) (hd : (x == ("__debug__" : Str)) = false := by decide) (hm : behindInMarks .NotIn (.Name x q) = false := by with_unfolding_all rfl) :
    RE X p O (.Compare e [.NotIn] [.Name x q] pos) (tUn (fun x H Q => ∃ z r, x = V.str z ∧ V.ref a = V.ref a ∧ PySem.W.nsIn X.K a z = some r ∧ Q (V.bl !r.isSome) H) te) (mUn (kNin kvs) me) := by
  obtain ⟨es, n, D0⟩ := h.kd
  refine ⟨pe_cmpR (op_notIn_kd D0) he.pe (h.pe hg hd) hm, le_un (fun F H x dx d s rx fe Q' k => ?_) he.le⟩
  unfold kNin at fe
  split at fe
  · cases fe
    rename_i z
    obtain ⟨r, e1, e2⟩ := h.some_of z
    exact ⟨z, r, rx.str_inv, rfl, e1, e2 ▸ k _ F H (.refl s) (.bl _)⟩
  · cases fe
theorem e_ixK (h : DK X.K X.w X.mg x kvs a) (hK : p.K = X.K) (hg : Gl X x) (he : RE X p O e te me) (hs : PlainIx e) (hd : (x == ("__debug__" : Str)) = false := by decide) :
    RE X p O (.Subscript (.Name x q) e pos) (tUn (fun y H Q => L2.rIxD X.K X.w (.ref a) y H Q) te) (mUn (kIx kvs) me) := by
  obtain ⟨es, n, D0⟩ := h.kd
  refine ⟨pe_ix ix_kdict (h.pe hg hd) he.pe hs, le_un (fun F H x dx d s rx fe Q' k => ?_) he.le⟩
  unfold kIx at fe
  split at fe
  · rename_i z
    obtain ⟨u, v, e1, e2, e3⟩ := h.at_ z d fe
    exact ⟨a, z, v, rfl, rx.str_inv, ⟨es, n, u, D0.at_, D0.lit, e1, e2⟩, k v F H (.refl s) (hK ▸ e3 F)⟩
  · cases fe
theorem t_ninK (h : DK X.K X.w X.mg x kvs a) (hK : p.K = X.K) (hg : Gl X x) (he : RE X p O e te me) (hd : (x == ("__debug__" : Str)) = false := by decide) (hm : behindInMarks .NotIn (.Name x q) = false := by with_unfolding_all rfl) :
    RT X p O (.Compare e [.NotIn] [.Name x q] pos) (tTest (tUn (fun x H Q => ∃ z r, x = V.str z ∧ V.ref a = V.ref a ∧ PySem.W.nsIn X.K a z = some r ∧ Q (V.bl !r.isSome) H) te)) (mTest (mUn (kNin kvs) me)) :=
  ⟨h.kd.elim fun _ z => z.elim fun _ D0 => pt_cmpR (op_notIn_kd D0) he.pe (h.pe hg hd) hm, lt_test (e_ninK (pos := pos) (q := q) h hK hg he hd hm).le⟩
end
end RR
end
section
namespace RR
open PySem PySem.Spec L2
open PyProof.Rows hiding St
inductive EsRel (K : PySem.W.Frag) : List (D × D) → List DictEntry → Prop
  | nil : EsRel K [] []
  | cons {z : Str} {t : Nat} {hs : Int} {u : Value} {v : V} {d : D} {kvs : List (D × D)} {es : List DictEntry} : RelV v u → (∀ F, Rp K F d v) → EsRel K kvs es → EsRel K ((.str z, d) :: kvs) (⟨hs, .str z t, u⟩ :: es)
theorem isStr_str (z y : Str) (t : Nat) : (Value.str z t).isStr y = decide (z = y) := by
  show (z == y) = decide (z = y)
  by_cases e : z = y
  · subst e; simp
  · rw [decide_eq_false e]; simp [e]
theorem eqv_str (z y : Str) : PyData.eqv (.str z) (.str y) = decide (z = y) := by
  simp only [PyData.eqv]
  by_cases e : z = y
  · subst e; simp
  · rw [decide_eq_false e]; simp [e]
theorem EsRel.look {K : PySem.W.Frag} {kvs : List (D × D)} {es : List DictEntry} (h : EsRel K kvs es) (z : Str) :
    (∀ d, dLook kvs (.str z) = some d → ∃ e v, es.find? (fun x => x.key.isStr z) = some e ∧ RelV v e.val ∧ ∀ F, Rp K F d v) ∧ (dLook kvs (.str z) = none → es.find? (fun x => x.key.isStr z) = none) ∧ es.any (fun x => x.refKey) = false := by
  induction h with
  | nil => exact ⟨fun d e => (by cases e), fun _ => rfl, rfl⟩
  | @cons y t hs u v d kvs es r q h ih =>
    obtain ⟨i1, i2, i3⟩ := ih
    unfold dLook at i1 i2 ⊢
    by_cases e : y = z
    · refine ⟨fun d' w => ?_, fun w => ?_, ?_⟩
      · rw [List.find?_cons_of_pos (by rw [eqv_str]; exact decide_eq_true e)] at w
        cases w
        exact ⟨_, v, List.find?_cons_of_pos (by rw [isStr_str]; exact decide_eq_true e), r, q⟩
      · rw [List.find?_cons_of_pos (by rw [eqv_str]; exact decide_eq_true e)] at w
        cases w
      · rw [List.any_cons, i3]; rfl
    · refine ⟨fun d' w => ?_, fun w => ?_, ?_⟩
      · rw [List.find?_cons_of_neg (by rw [eqv_str, decide_eq_false e]; decide)] at w
        rw [List.find?_cons_of_neg (by rw [isStr_str, decide_eq_false e]; decide)]
        exact i1 d' w
      · rw [List.find?_cons_of_neg (by rw [eqv_str, decide_eq_false e]; decide)] at w
        rw [List.find?_cons_of_neg (by rw [isStr_str, decide_eq_false e]; decide)]
        exact i2 w
      · rw [List.any_cons, i3]; rfl
theorem dk_mk {K : PySem.W.Frag} {w : World} {h : Heap} {mg : Str → Option Value} {x : Str} {a : Addr} {kvs : List (D × D)} {es : Array DictEntry} {n : Nat} (X : K.In h) (G : h.Ns mainGlobals mg) (nm : PySem.W.nsIn K mainGlobals x = some (some (.ref a))) (l : K.lookup a = some { cls := .type "dict", data := .dict es n }) (lit : PySem.W.KeysLit w.params es.toList) (low : (a == sysModules) = false)
    (r : EsRel K kvs es.toList) : DK K w mg x kvs a := by
  refine ⟨PySem.W.mg_of X G nm, ⟨es, n, l, lit, low⟩, fun z d e => ?_, fun z e => ?_⟩
  · obtain ⟨en, v, e1, e2, e3⟩ := (r.look z).1 d e
    refine ⟨en.val, v, ?_, e2, e3⟩
    unfold PySem.W.nsIn
    rw [l]
    simp only [e1]
  · have e1 := (r.look z).2.1 e
    have e2 := (r.look z).2.2
    unfold PySem.W.nsIn
    rw [l]
    simp only [e1, e2]
    rfl
end RR
end
section
namespace RR
open PySem PySem.Spec L2
open PyProof.Rows hiding St
/-- the law's def as the head finds it, its promise told of any base: what walkG asks -/
theorem fin_mk {l : PySem.W.OpenLaw} {w : World} {K : PySem.W.Frag} {h : Heap} {mg : Str → Option Value} {fa f : Addr} {st : Stmt} {k : Nat} {oc : Value} {od an : Option Addr} {sl : Array (Option Value)} {kV doc pm cdv ct : Value} (X : K.In h) (G : h.Ns mainGlobals mg) (hfa : mg "law" = some (.ref fa))
    (a : PySem.W.nsIn K mainGlobals "law" = some (some (.ref f))) (lk : K.lookup f = some ⟨oc, od, .func (PySem.W.fnOf "law" "law" (defArgs st) (defBody st) (defScope st) .none kV doc pm an cdv ct), sl⟩) (c : PySem.W.codeIn K cdv "law" = true) (kp : PySem.W.keepIn K (.ref f) = true)
    (hb : ∀ (s : Shared) (v : Value), BindsTo s (PySem.W.fnOf "law" "law" (defArgs st) (defBody st) (defScope st) .none kV doc pm an cdv ct) ⟨[v], []⟩ [("script", v)])
    (hF : ∀ (base : Heap) (fd : FuncData), (∃ mm, base.Ns sysModules mm) → Fun K "law" "law" st f fd → FnG l.prog w K mg base k f fd ["script"] (spLaw K)) :
    ∃ fd : FuncData, (∀ (s : Shared) (v : Value), BindsTo s fd ⟨[v], []⟩ [("script", v)]) ∧ ∀ base : Heap, K.In base → base.Ns mainGlobals mg → (∃ mm, base.Ns sysModules mm) → FnG l.prog w K mg base k fa fd ["script"] (spLaw K) := by
  have e := hfa.symm.trans (PySem.W.mg_of X G a)
  cases e
  exact ⟨_, hb, fun base _ _ sy => hF base _ sy (fun_mk (st := st) lk c kp)⟩
end RR
end
section
namespace RR
open PySem PySem.Spec L2
open PyProof.Rows hiding St
section
variable {K : PySem.W.Frag} {d : D} {v : V} {ds : List D} {xs : List V}
theorem rq_int {i : Int} : ∀ F : Hp, Rp K F (.int i) (.int i) := fun _ => .int i
theorem rq_str {x : Str} : ∀ F : Hp, Rp K F (.str x) (.str x) := fun _ => .str x
theorem rqs_nil : ∀ F : Hp, Rps K F [] [] := fun _ => .nil
theorem rqs_cons (h : ∀ F : Hp, Rp K F d v) (t : ∀ F : Hp, Rps K F ds xs) : ∀ F : Hp, Rps K F (d :: ds) (v :: xs) := fun F => .cons (h F) (t F)
theorem rq_tup {f : Addr} {od : Option Addr} {its : Array Value} {n : Nat} {sl : Array (Option Value)} (l : K.lookup f = some ⟨.type "tuple", od, .seq its n, sl⟩) (z : its.size ≤ sizeLine) (r : ∀ F : Hp, Rps K F ds xs) (v : Vals xs its.toList) : ∀ F : Hp, Rp K F (.tuple ds) (.ref f) := fun F => rp_tup l z v F (r F)
end
end RR
end
section
namespace RR
open PySem PySem.Spec L2
open PyProof.Rows hiding St
open PySem.W (alike dataLt minD maxD)
def permL {α : Type} (is : List Nat) (xs : List α) : List α := is.filterMap fun i => xs[i]?
@[reducible] def mCallK (mf : MP) (is : List Nat) (ma : MA) : ME := fun Γ n Q => ma Γ n fun ds n1 => ds.length = is.length ∧ mf (permL is ds) fun d => Q d n1
theorem ifs' {α : Type} {c : Prop} [Decidable c] {x y : α} (h : (if c then some x else none) = some y) : c ∧ x = y := by
  by_cases k : c
  · rw [if_pos k] at h; cases h; exact ⟨k, rfl⟩
  · rw [if_neg k] at h; cases h
def notNone : D → Bool
  | .none => false
  | _ => true
def alikeB (xs : List D) : Bool := xs.all (fun x => xs.all fun y => alike x y) && xs.all notNone
theorem alikeB_all {xs : List D} (h : alikeB xs = true) : PySem.W.AlikeAll xs := by
  unfold alikeB at h
  rw [Bool.and_eq_true, List.all_eq_true, List.all_eq_true] at h
  refine ⟨fun x hx y hy => List.all_eq_true.mp (h.1 x hx) y hy, fun x hx e => ?_⟩
  have := h.2 x hx
  rw [e] at this
  cases this
def okMin (xs : List D) : Bool := alikeB xs && PyData.canLayAll0 xs && decide (PyData.depthAll xs ≤ 60)
def cMinD : List D → Option D
  | [.list (x :: xs)] => if okMin (x :: xs) = true then some (minD x xs) else none
  | _ => none
section
variable {X : Cx} {K : PySem.W.Frag}
def rMinD (K : PySem.W.Frag) (g : D → List D → D) : List V → Hp → VK → Prop := fun args H Q => ∃ (a : Addr) (vs : List V) (x : D) (xs : List D), args = [.ref a] ∧ SqL K H a vs ∧ DpAll K H vs (x :: xs) ∧ okMin (x :: xs) = true ∧ ∀ (i : Nat) v, vs[i]? = some v → (x :: xs)[i]? = some (g x xs) → Q v H
theorem canLay_at : ∀ {xs : List D} {i : Nat} {d : D}, PyData.canLayAll0 xs = true → xs[i]? = some d → d.canLay0 = true
  | x :: xs, 0, d, h, e => by
    rw [PyData.canLayAll0, Bool.and_eq_true] at h
    cases e
    exact h.1
  | x :: xs, i + 1, d, h, e => by
    rw [PyData.canLayAll0, Bool.and_eq_true] at h
    exact canLay_at (i := i) h.2 (by simpa using e)
theorem call_minD (hc : X.calm = true) (hw : X.A.units + 66 < cLine) : CallR X (.builtin "min") (rMinD X.K minD) := fun pins s σ H args us Q I r h => by
  obtain ⟨a, vs, x, xs, rfl, hs, hd, ok, q⟩ := h
  obtain ⟨its, rv, hl, _⟩ := I.list hs
  rw [Vals.ref1 r]
  obtain ⟨as, rd⟩ := Dp.readsAll I _ _ its hd rv
  unfold okMin at ok
  rw [Bool.and_eq_true, Bool.and_eq_true, decide_eq_true_eq] at ok
  obtain ⟨⟨o1, o2⟩, o3⟩ := ok
  refine PySem.W.min_list_data (I.ok.hd hc) hl.isList (by simpa using rd) (alikeB_all o1) (by omega) fun i v h' tk bs hv hr hk => ?_
  have hv' : its[i]? = some v := by simpa using hv
  obtain ⟨cs, r2, hi, _, _⟩ := PySem.W.readsAll_at (vs := its) rd i v hv'
  have e : (x :: xs)[i]? = some ((x :: xs).getD i .none) := by
    rw [List.getD_eq_getElem?_getD, List.getElem?_eq_getElem hi]; rfl
  have eq : (x :: xs).getD i .none = minD x xs := SeqAt.Reads.unique _ _ v cs bs (canLay_at o2 e) (PyProof.Rows.Reads.keeps hk r2) hr
  rw [eq] at e
  have hlen := rv.length
  have hi2 : i < vs.length := by have := (List.getElem?_eq_some_iff.mp hv').1; omega
  obtain ⟨u, e1, e2⟩ := rv.get (List.getElem?_eq_getElem hi2)
  rw [hv'] at e1
  cases e1
  exact ⟨vs[i], H, I.kept (t' := tk) hk, e2, q i _ (List.getElem?_eq_getElem hi2) e⟩
theorem l_minD : ClL K (rMinD K minD) cMinD := fun F H args ds d s r fe Q' k => by
  unfold cMinD at fe
  split at fe
  · rename_i x xs
    obtain ⟨ok, rfl⟩ := ifs' fe
    obtain ⟨v, w, rfl, r1, r2⟩ := r.uncons
    cases r2.unnil
    obtain ⟨a, vs, rfl, h1, h2⟩ := r1.lst_inv
    have hcl : PyData.canLayAll0 (x :: xs) = true := by
      unfold okMin at ok
      rw [Bool.and_eq_true, Bool.and_eq_true] at ok
      exact ok.1.2
    exact ⟨a, vs, x, xs, rfl, .of (s _ _ h1), Rp.dps _ _ hcl (h2.mono s), ok, fun i v e1 e2 => k v F H (.refl s) (h2.at_ i v _ e1 e2)⟩
  · cases fe
end
end RR
end
section
namespace RR
open PySem PySem.Spec L2
open PyProof.Rows hiding St
open PySem.W (alike dataLt minD maxD)
theorem keyOf_D (k : Key) : keyOf (keyD k) = some k := by cases k <;> rfl
def putD (kvs : List (D × D)) (k : Key) (d : D) : List (D × D) :=
  if (kvs.any fun q => decide (keyOf q.1 = some k)) = true then kvs.map (fun q => if keyOf q.1 = some k then (q.1, d) else q) else kvs ++ [(keyD k, d)]
inductive RKs (K : PySem.W.Frag) (F : Hp) : List (D × D) → List (Key × V) → Prop
  | nil : RKs K F [] []
  | cons {k : Key} {d : D} {v : V} {ds : List (D × D)} {kvs : List (Key × V)} : Rp K F d v → RKs K F ds kvs → RKs K F ((keyD k, d) :: ds) ((k, v) :: kvs)
section
variable {K : PySem.W.Frag} {F F' : Hp}
theorem RKs.mono {ds : List (D × D)} {kvs : List (Key × V)} (h : RKs K F ds kvs) (e : Same F F') : RKs K F' ds kvs := by
  induction h with
  | nil => exact .nil
  | cons r _ ih => exact .cons (r.mono e) ih
theorem RKs.keys {ds : List (D × D)} {kvs : List (Key × V)} (h : RKs K F ds kvs) : ds.map (·.1) = kvs.map (fun p => keyD p.1) := by
  induction h with
  | nil => rfl
  | cons r _ ih => rw [List.map_cons, List.map_cons, ih]
theorem RKs.at_ {ds : List (D × D)} {kvs : List (Key × V)} (h : RKs K F ds kvs) : ∀ (i : Nat) x d, kvs[i]? = some x → ds[i]? = some d → Rp K F d.2 x.2 := by
  induction h with
  | nil => intro i x d e; simp at e
  | cons r _ ih =>
    intro i x d e1 e2
    cases i with
    | zero => simp at e1 e2; subst e1 e2; exact r
    | succ i => exact ih i x d (by simpa using e1) (by simpa using e2)
theorem RKs.len {ds : List (D × D)} {kvs : List (Key × V)} (h : RKs K F ds kvs) : ds.length = kvs.length := by
  induction h with
  | nil => rfl
  | cons r _ ih => rw [List.length_cons, List.length_cons, ih]
theorem RKs.append {ds es : List (D × D)} {kvs lvs : List (Key × V)} (h : RKs K F ds kvs) (t : RKs K F es lvs) : RKs K F (ds ++ es) (kvs ++ lvs) := by
  induction h with
  | nil => exact t
  | cons r _ ih => exact .cons r ih
theorem RKs.any {ds : List (D × D)} {kvs : List (Key × V)} (h : RKs K F ds kvs) (k : Key) : (ds.any fun q => decide (keyOf q.1 = some k)) = kvs.any fun kv => decide (kv.1 = k) := by
  induction h with
  | nil => rfl
  | cons r _ ih =>
    rw [List.any_cons, List.any_cons, ih, keyOf_D]
    congr 1
    exact decide_eq_decide.mpr ⟨fun e => Option.some.inj e, fun e => congrArg some e⟩
theorem RKs.map {ds : List (D × D)} {kvs : List (Key × V)} (h : RKs K F ds kvs) (k : Key) {d : D} {v : V} (r : Rp K F d v) : RKs K F (ds.map fun q => if keyOf q.1 = some k then (q.1, d) else q) (kvs.map fun kv => if kv.1 = k then (kv.1, v) else kv) := by
  induction h with
  | nil => exact .nil
  | @cons k' d' v' _ _ r' _ ih =>
    rw [List.map_cons, List.map_cons]
    by_cases e : k' = k
    · rw [if_pos (show keyOf (keyD k') = some k by rw [keyOf_D, e]), if_pos (show k' = k from e)]
      exact .cons r ih
    · rw [if_neg (show ¬ keyOf (keyD k') = some k by rw [keyOf_D]; exact fun z => e (Option.some.inj z)), if_neg (show ¬ k' = k from e)]
      exact .cons r' ih
theorem RKs.put {ds : List (D × D)} {kvs : List (Key × V)} (h : RKs K F ds kvs) (k : Key) {d : D} {v : V} (r : Rp K F d v) : RKs K F (putD ds k d) (putK kvs k v) := by
  unfold putD putK
  rw [h.any k]
  split
  · exact h.map k r
  · exact h.append (.cons r .nil)
end
def dcompW (g : MG) (t : MT) (ek ev : ME) (Γ : DEnv) : List D → Nat → List (D × D) → (List (D × D) → Nat → Prop) → Prop
  | [], n, acc, Q => Q acc n
  | d :: ds, n, acc, Q => g d Γ fun Γ2 => t Γ2 n fun b n1 => if b = true then ek Γ2 n1 fun kd n2 => ev Γ2 n2 fun y n3 => ∃ k, keyOf kd = some k ∧ dcompW g t ek ev Γ ds n3 (putD acc k y) Q else dcompW g t ek ev Γ ds n1 acc Q
@[reducible] def mDc (mi : MI) (g : MG) (t : MT) (ek ev : ME) (vs : List Nat) : ME := fun Γ n Q => mi Γ n fun ds n1 => ds.length ≤ lim ∧ dcompW g t ek ev (wipeD Γ vs) ds n1 [] fun r n2 => Q (.dict r) n2
theorem Rp.key {K : PySem.W.Frag} {F : Hp} {d : D} {v : V} {k : Key} (r : Rp K F d v) (h : keyOf d = some k) : v = kV k := by
  cases r <;> (unfold keyOf at h; first | (cases h; done) | (cases h; rfl))
theorem fnMinD {X : Cx} {K : PySem.W.Frag} (hK : K = X.K) (hc : X.calm = true) (hx : X.A.units + 66 < cLine) : CallR X (.builtin "min") (rMinD K minD) := hK ▸ call_minD hc hx
end RR
end
section
namespace RR
open PySem PySem.Spec L2
open PyProof.Rows hiding St
section
variable {X : Cx} {K : PySem.W.Frag} {p : Pm} {O : List Nat} {e : Expr} {pos : Pos} {te : TE} {me : ME}
def dRev : D → Option D
  | .list xs => some (.list xs.reverse)
  | .tuple xs => some (.tuple xs.reverse)
  | _ => none
@[reducible] def mRev (me : ME) : ME := fun Γ n Q => me Γ n fun x n1 => ∃ d, dRev x = some d ∧ Q d n1
end
end RR
end
section
namespace RR
open PySem PySem.Spec L2
open PyProof.Rows hiding St
abbrev MPs := DEnv → Nat → (List (D × D) → Nat → Prop) → Prop
@[reducible] def mpNil : MPs := fun _ n Q => Q [] n
@[reducible] def mpCons (mk mv : ME) (r : MPs) : MPs := fun Γ n Q => mk Γ n fun kd n1 => mv Γ n1 fun d n2 => r Γ n2 fun ps n3 => Q ((kd, d) :: ps) n3
inductive Rpp (K : PySem.W.Frag) (F : Hp) : List (D × D) → List (V × V) → Prop
  | nil : Rpp K F [] []
  | cons {kd d : D} {x y : V} {ds : List (D × D)} {ps : List (V × V)} : Rp K F kd x → Rp K F d y → Rpp K F ds ps → Rpp K F ((kd, d) :: ds) ((x, y) :: ps)
def LPs (p : Pm) (O : List Nat) (t : List (TE × TE)) (m : MPs) : Prop :=
  ∀ F0 H0 F H σ Γ n (Q : List (D × D) → Nat → Prop), Sep p F0 H0 O F H σ Γ n → m Γ n Q → ∀ Q' : List (V × V) → Hp → Prop,
    (∀ ds vs F' H' n', Sep p F0 H0 O F' H' σ Γ n' → Gp p F H F' H' → Rpp p.K F' ds vs → Q ds n' → Q' vs H') → tPairs t σ H Q'
structure RPs (X : Cx) (p : Pm) (O : List Nat) (pos : Pos) (ks : List (Option Expr)) (vs : List Expr) (t : List (TE × TE)) (m : MPs) : Prop where
  pp : PPs X pos ks vs t
  le : LPs p O t m
section
variable {X : Cx} {p : Pm} {O : List Nat} {pos : Pos} {k v e : Expr} {ks : List (Option Expr)} {vs : List Expr} {tk tv te : TE} {mk mv me : ME} {t : List (TE × TE)} {m : MPs}
theorem d_nil : RPs X p O pos [] [] [] mpNil := ⟨pps_nil, fun F0 H0 F H σ Γ n Q s q Q' k => k [] [] F H n s .refl .nil q⟩
theorem d_cons (hk : RE X p O k tk mk) (hv : RE X p O v tv mv) (hr : RPs X p O pos ks vs t m) : RPs X p O pos (some k :: ks) (v :: vs) ((tk, tv) :: t) (mpCons mk mv m) :=
  ⟨pps_cons hk.pe hv.pe hr.pp, fun F0 H0 F H σ Γ n Q s q Q' k =>
    hk.le F0 H0 F H σ Γ n _ s q _ fun kd x F1 H1 n1 s1 g1 r1 q1 =>
      hv.le F0 H0 F1 H1 σ Γ n1 _ s1 q1 _ fun d y F2 H2 n2 s2 g2 r2 q2 =>
        hr.le F0 H0 F2 H2 σ Γ n2 _ s2 q2 _ fun ds ps F3 H3 n3 s3 g3 r3 q3 =>
          k _ _ F3 H3 n3 s3 ((g1.trans g2).trans g3) (.cons ((r1.mono g2.f).mono g3.f) (r2.mono g3.f) r3) q3⟩
def keysD : List (D × D) → Option (List (Key × D))
  | [] => some []
  | (kd, d) :: r => (keyOf kd).bind fun k => (keysD r).bind fun l => some ((k, d) :: l)
def mergeD (acc : List (D × D)) (l : List (Key × D)) : List (D × D) := l.foldl (fun a q => putD a q.1 q.2) acc
def dispD (ps : List (D × D)) : Option D := (keysD ps).bind fun l => if l.length ≤ 15 then some (.dict (mergeD [] l)) else none
@[reducible] def mDisp (m : MPs) : ME := fun Γ n Q => m Γ n fun ps n1 => ∃ d, dispD ps = some d ∧ Q d n1
theorem bnd0 {α β : Type} {x : Option α} {f : α → Option β} {b : β} (h : x.bind f = some b) : ∃ a, x = some a ∧ f a = some b := by
  cases x with
  | none => cases h
  | some a => exact ⟨a, rfl, h⟩
theorem keysD_rel {K : PySem.W.Frag} {F : Hp} {ds : List (D × D)} {ps : List (V × V)} (r : Rpp K F ds ps) : ∀ {l : List (Key × D)}, keysD ds = some l →
    ∃ kvs : List (Key × V), ps = kvs.map (fun kv => (kV kv.1, kv.2)) ∧ kvs.length = l.length ∧ ∀ acc accV, RKs K F acc accV → RKs K F (mergeD acc l) (mergeK accV kvs) := by
  induction r with
  | nil => intro l e; cases e; exact ⟨[], rfl, rfl, fun acc accV h => h⟩
  | @cons kd d x y ds ps rk rv _ ih =>
    intro l e
    obtain ⟨key, h1, e⟩ := bnd0 e
    obtain ⟨l', h2, e⟩ := bnd0 e
    cases e
    obtain ⟨kvs, e1, e2, e3⟩ := ih h2
    refine ⟨(key, y) :: kvs, ?_, by rw [List.length_cons, List.length_cons, e2], fun acc accV h => ?_⟩
    · rw [List.map_cons, e1, rk.key h1]
    · exact e3 _ _ (h.put key rv)
theorem lf_disp (h : LPs p O t m) : LF p O (tDisp t) (mDisp m) := fun F0 H0 F H σ Γ n Q s q Q' k => fun Dd hD => by
  have hp0 := (s.h0 hD).2
  have hH0 := (s.h0 hD).1
  have hF : F Dd = none := s.fh.free hD
  have sl1 : ∀ j ∈ O, ∀ dj, Γ[j]? = some (some dj) → σ[j]? ≠ some (some (.ref Dd)) := fun j hj dj e w => by
    obtain ⟨b, e1, r, _⟩ := s.ow j hj dj e
    rw [w] at e1
    cases e1
    obtain ⟨o, e2⟩ := r.at
    rw [hD] at e2; cases e2
  have g0 := Gr.new0 s.fh hD (.dK [])
  refine h F0 H0 F _ σ Γ n _ (s.gr g0) q _ fun ds ps F1 H1 n1 s1 g1 r1 ⟨d, fe, q1⟩ => ?_
  obtain ⟨l, e1, fe⟩ := bnd0 fe
  by_cases hl : l.length ≤ 15
  · rw [if_pos hl] at fe
    cases fe
    obtain ⟨kvs, ep, el, ek⟩ := keysD_rel r1 e1
    have hD1 : H1 Dd = some (.dK []) := g1.h _ _ upd_same hp0
    have f1 : F1 Dd = none := g1.none hF upd_same hp0
    have g01 := g0.gp.trans g1
    refine ⟨hD1, kvs, ep, by omega, ?_⟩
    have rk := ek [] [] .nil
    refine k (.dict (mergeD [] l)) Dd F1 _ n1 ((s.back s1 g01).poke f1 hH0 hp0 sl1) ⟨g01.f, fun a o e hp => ?_, g01.new⟩ (.dct upd_same rk.keys rk.at_) f1 hD q1
    rw [upd_ne fun z => by rw [z, hD] at e; cases e]
    exact g01.h a o e hp
  · rw [if_neg hl] at fe
    cases fe
theorem f_disp (h : RPs X p O pos ks vs t m) (hall : ks.all (·.isSome) = true) (hl : ks.length = vs.length) (h0 : ks ≠ []) (h15 : ks.length ≤ 15) : RF X p O (.Dict ks vs pos) (tDisp t) (mDisp m) :=
  ⟨pe_disp h.pp hall hl h0 h15, lf_disp h.le⟩
end
end RR
end
section
namespace RR
open PySem PySem.Spec L2
open PyProof.Rows hiding St
open PySem.W (alike dataLt dataLe EachIs)
def fullTup : D → Bool
  | .tuple (_ :: _) => true
  | _ => false
def otherKind : D → Bool
  | .none => false
  | .tuple _ => false
  | _ => true
def okSort (xs : List D) : Bool := xs.all (fun x => xs.all fun y => alike x y) && (xs.all fullTup || xs.all otherKind) && PyData.canLayAll0 xs && decide (PyData.depthAll xs ≤ 60)
def sortD (xs : List D) : List D := xs.mergeSort (dataLe false id)
def cSorted : List D → Option D
  | [.list xs] => if okSort xs = true then some (.list (sortD xs)) else none
  | _ => none
end RR
end
section
namespace RR
open PySem PySem.Spec L2
open PyProof.Rows hiding St
section
variable {X : Cx} {K : PySem.W.Frag} {pins : List (Addr × Obj)} {σ : St} {H : Hp} {s : Shared}
theorem Inv.noSys (I : L2.Inv X pins σ H s) (hs : ∃ mm, X.base.Ns sysModules mm) : H sysModules = none := by
  obtain ⟨mm, o, es, ep, e, _⟩ := hs
  exact (I.bs _ _ e).2
theorem readsAll_mk {h : Heap} : ∀ {us : List Value} {ds : List D}, us.length = ds.length → (∀ (i : Nat) u d, us[i]? = some u → ds[i]? = some d → ∃ as, Reads h u d as ∧ sysModules ∉ as) → ∃ as, ReadsAll h us ds as ∧ sysModules ∉ as
  | [], [], _, _ => ⟨[], .nil, fun h => nomatch h⟩
  | u :: us, d :: ds, hl, g => by
    obtain ⟨as, r, n⟩ := g 0 u d rfl rfl
    obtain ⟨bs, rs, ns⟩ := readsAll_mk (us := us) (ds := ds) (by simpa using hl) fun i u d a b => g (i + 1) u d (by simpa using a) (by simpa using b)
    exact ⟨as ++ bs, .cons r rs, fun h => (List.mem_append.mp h).elim n ns⟩
  | [], _ :: _, hl, _ => by simp at hl
  | _ :: _, [], hl, _ => by simp at hl
theorem key_reads {h : Heap} {k : Key} {u : Value} (i : keyIs k u = true) : Reads h u (keyD k) [] := by
  rcases keyIs_shape i with ⟨j, t, rfl, rfl⟩ | ⟨x, t, rfl, rfl⟩
  · exact .int j t
  · exact .str x t
theorem dict_reads {P : Program} {w : World} {h : Heap} : ∀ {kvs : List (Key × V)} {vs : List (Key × Value)} {es : List DictEntry} {ds : List (D × D)}, KV kvs vs → Pairs (mixKind P w) es vs → ds.map (·.1) = kvs.map (fun p => keyD p.1) →
    (∀ (i : Nat) x d u, kvs[i]? = some x → ds[i]? = some d → RelV x.2 u → ∃ as, Reads h u d.2 as ∧ sysModules ∉ as) →
    (∃ as, ReadsAll h (es.map (·.key)) (ds.map (·.1)) as ∧ sysModules ∉ as) ∧ ∃ bs, ReadsAll h (es.map (·.val)) (ds.map (·.2)) bs ∧ sysModules ∉ bs
  | [], _, _, [], .nil, .nil, _, _ => ⟨⟨[], .nil, fun h => nomatch h⟩, [], .nil, fun h => nomatch h⟩
  | x :: kvs, _, _, d :: ds, .cons r rs, .cons i1 i2 ps, hk, g => by
    rw [List.map_cons, List.map_cons] at hk
    injection hk with hk1 hk2
    obtain ⟨⟨as, a1, a2⟩, bs, b1, b2⟩ := dict_reads rs ps hk2 fun i x d u e1 e2 => g (i + 1) x d u (by simpa using e1) (by simpa using e2)
    obtain ⟨cs, c1, c2⟩ := g 0 x d _ rfl rfl r.2
    refine ⟨⟨[] ++ as, .cons ?_ a1, by simpa using a2⟩, cs ++ bs, .cons (by dsimp only; rw [i2]; exact c1) b1, fun h => (List.mem_append.mp h).elim c2 b2⟩
    dsimp only
    rw [hk1, r.1]
    exact key_reads i1
  | [], _, _, _ :: _, .nil, _, hk, _ => by simp at hk
  | _ :: _, _, _, [], .cons _ _, _, hk, _ => by simp at hk
theorem Rp.reads {F : Hp} {d : D} {v : V} (r : Rp K F d v) : F = H → K = X.K → ∀ (I : L2.Inv X pins σ H s) (hs : ∃ mm, X.base.Ns sysModules mm) (u : Value), RelV v u → ∃ as, Reads s.heap u d as ∧ sysModules ∉ as := by
  induction r with
  | non => intro _ _ I hs u ru; cases ru; exact ⟨_, .none, fun h => nomatch h⟩
  | bl b => intro _ _ I hs u ru; cases ru; exact ⟨_, .bool b, fun h => nomatch h⟩
  | int i => intro _ _ I hs u ru; obtain ⟨t, rfl⟩ := ru; exact ⟨_, .int i t, fun h => nomatch h⟩
  | str x => intro _ _ I hs u ru; obtain ⟨t, rfl⟩ := ru; exact ⟨_, .str x t, fun h => nomatch h⟩
  | @lst a xs ds h1 h2 h3 ih =>
    intro eF eK I hs u ru
    subst eF eK
    cases ru
    obtain ⟨its, rv, ⟨o, n, ho, hc, _, hd⟩, _⟩ := I.list (.of h1)
    have hl := rv.length
    obtain ⟨as, ra, na⟩ := readsAll_mk (h := s.heap) (us := its) (ds := ds) (by omega) fun i u d e1 e2 => by
      have hi : i < xs.length := by have := (List.getElem?_eq_some_iff.mp e1).1; omega
      obtain ⟨w, e3, e4⟩ := rv.get (List.getElem?_eq_getElem hi)
      rw [e1] at e3
      cases e3
      exact ih i _ d (List.getElem?_eq_getElem hi) e2 rfl rfl I hs u e4
    refine ⟨_, .list ho hc hd ra, fun h => ?_⟩
    rcases List.mem_cons.mp h with rfl | h
    · rw [Inv.noSys I hs] at h1; cases h1
    · exact na h
  | @tup a xs ds h1 h2 h3 ih =>
    intro eF eK I hs u ru
    subst eF eK
    cases ru
    obtain ⟨its, rv, ⟨o, ho, hc, n, hd⟩, _⟩ := I.tuple h1
    have hl := rv.length
    obtain ⟨as, ra, na⟩ := readsAll_mk (h := s.heap) (us := its) (ds := ds) (by omega) fun i u d e1 e2 => by
      have hi : i < xs.length := by have := (List.getElem?_eq_some_iff.mp e1).1; omega
      obtain ⟨w, e3, e4⟩ := rv.get (List.getElem?_eq_getElem hi)
      rw [e1] at e3
      cases e3
      exact ih i _ d (List.getElem?_eq_getElem hi) e2 rfl rfl I hs u e4
    exact ⟨_, .tuple ho hc hd ra, na⟩
  | @dct a kvs ds h1 h2 h3 ih =>
    intro eF eK I hs u ru
    subst eF eK
    cases ru
    obtain ⟨z, hd, vs, rel, o, es, ep, ho, he, hdat, hks, hps, hnd⟩ := dk_rd I.hok h1
    obtain ⟨⟨as, a1, a2⟩, bs, b1, b2⟩ := dict_reads (h := s.heap) rel hps h2 fun i x d u e1 e2 ru => ih i x d e1 e2 rfl rfl I hs u ru
    refine ⟨_, .dict ho he.1 hdat a1 b1, fun h => ?_⟩
    rcases List.mem_append.mp h with h | h
    · rcases List.mem_cons.mp h with rfl | h
      · exact absurd hd (by decide)
      · exact a2 h
    · exact b2 h
/-- repr of any data -/
def repOkD (d : D) : Bool := d.showable && decide (d.depth ≤ 64) && decide (d.shown.length ≤ sizeLine)
def rReprD (K : PySem.W.Frag) : List V → Hp → VK → Prop := fun xs H Q => ∃ (a : Addr) (d : D), xs = [.ref a] ∧ Rp K H d (.ref a) ∧ repOkD d = true ∧ Q (.str d.shown) H
theorem call_reprD (hs : ∃ mm, X.base.Ns sysModules mm) (hg : X.A.guards = some []) (hu : X.A.units + 66 < cLine) : CallR X (.builtin "repr") (rReprD X.K) := fun pins s σ H xs us Q I r h => by
  obtain ⟨a, d, rfl, hd, ok, q⟩ := h
  obtain ⟨u, rfl, ru⟩ := r.one
  cases ru
  simp only [repOkD, Bool.and_eq_true, decide_eq_true_eq] at ok
  obtain ⟨⟨c2, c3⟩, c4⟩ := ok
  obtain ⟨as, rd, na⟩ := hd.reads rfl rfl I hs _ rfl
  refine repr_of_reads' rd c2 (fun _ => na) hg (by omega) (fun _ _ z => z) (fun h' u tk hk => ?_) c4
  exact ⟨.str d.shown, H, I.kept (t' := tk) hk, ⟨_, rfl⟩, q⟩
end
end RR
end
section
namespace RR
open PySem PySem.Spec L2
open PyProof.Rows hiding St
section
variable {X : Cx} {p : Pm} {O : List Nat} {e : Expr} {te : TE} {me : ME} {tT : TT} {mT : MT}
def flatL : D → Bool
  | .list xs => xs.all flatD
  | _ => false
@[reducible] def mLookL (me : ME) : ME := fun Γ n Q => me Γ n fun d n1 => flatL d = true ∧ Q d n1
theorem Rps.flat_any {K : PySem.W.Frag} {F G : Hp} {ds : List D} {xs : List V} (f : ds.all flatD = true) (h : Rps K F ds xs) : Rps K G ds xs :=
  ⟨h.len, fun i x d e1 e2 => Rp.flat_any (List.all_eq_true.mp f d (List.mem_of_getElem? e2)) (h.at_ i x d e1 e2)⟩
end
end RR
end
section
namespace RR
open PySem PySem.Spec L2
open PyProof.Rows hiding St
end RR
end
section
namespace RR
open PySem PySem.Spec L2
open PyProof.Rows hiding St
section
variable {p : Pm} {F0 H0 F H F' H' : Hp} {O O' : List Nat} {σ σ' : St} {Γ Γ' : DEnv} {n n' : Nat} {a : Addr} {u w : HO} {kvs : List (Key × V)}
theorem Sep.dict (s : Sep p F0 H0 O F H σ Γ n) {i : Nat} {ds : List (D × D)} (hi : i ∉ O) (e : Γ[i]? = some (some (.dict ds))) : ∃ d kvs, σ[i]? = some (some (.ref d)) ∧ Rd F d (.dK kvs) ∧ ds.map (·.1) = kvs.map (fun p => keyD p.1) ∧ ∀ (i : Nat) x d, kvs[i]? = some x → ds[i]? = some d → Rp p.K F d.2 x.2 := by
  obtain ⟨v, h1, r⟩ := s.sh i _ hi e
  cases r with
  | dct a1 a2 a3 => exact ⟨_, _, h1, a1, a2, a3⟩
def tOrE (t u : TE) : TE := fun σ H Q => t σ H Q ∨ u σ H Q
theorem pe_or {X : Cx} {e : Expr} {t u : TE} (h : PE X e t) (k : PE X e u) : PE X e (tOrE t u) := ⟨fun pins s σ H D I q => q.elim (h.run pins s σ H D I) (k.run pins s σ H D I)⟩
@[reducible] def mIKeys (i : Nat) : MI := fun Γ n Q => ∃ ds, Γ[i]? = some (some (.dict ds)) ∧ Q (ds.map (·.1)) n
@[reducible] def mIVals (i : Nat) : MI := fun Γ n Q => ∃ ds, Γ[i]? = some (some (.dict ds)) ∧ Q (ds.map (·.2)) n
@[reducible] def mIItems (i : Nat) : MI := fun Γ n Q => ∃ ds, Γ[i]? = some (some (.dict ds)) ∧ Q (ds.map fun q => .tuple [q.1, q.2]) n
end
end RR
end
section
namespace RR
open PySem PySem.Spec L2
open PyProof.Rows hiding St
section
variable {X : Cx} {K : PySem.W.Frag}
def rCntD (K : PySem.W.Frag) : V → List V → Hp → VK → Prop := fun x xs H Q => ∃ (a : Addr) (y : V) (d : D) (ds : List D) (vs : List V), x = .ref a ∧ xs = [y] ∧ SqL K H a vs ∧ DpAll K H vs ds ∧ Dp K H y d ∧ PyData.plainAll ds = true ∧ d.plain = true ∧ d.depth ≤ 60 ∧ Q (.int ((ds.countP fun z => PyData.eqv z d : Nat) : Int)) H
theorem mt_cntD (hu : X.A.units + 65 < cLine) : MtR X "list.count" (rCntD X.K) := fun pins s σ H x xs v us Q I rx rxs w => by
  obtain ⟨a, y, d, ds, vs, rfl, rfl, hs, ha, hy, p1, p2, p3, fin⟩ := w
  cases rx
  obtain ⟨u, rfl, ru⟩ := rxs.one
  obtain ⟨its, rv, hl, hz⟩ := I.list hs
  obtain ⟨as, q1⟩ := Dp.readsAll I _ _ its ha rv
  obtain ⟨bs, q2⟩ := Dp.reads I d y u hy ru
  exact SeqAt.count_list_data (vs := its.toArray) hl.isList (by simpa using q1) q2 p1 p2 (by omega) ⟨.int _, H, I.tok _, ⟨s.toks, rfl⟩, fin⟩
def dCnt : D → D → Option D
  | .list xs, d => if PyData.plainAll xs = true ∧ PyData.canLayAll0 xs = true ∧ d.plain = true ∧ SeqAt.shaped d = true ∧ d.depth ≤ 60 then some (.int ((xs.countP fun z => PyData.eqv z d : Nat) : Int)) else none
  | _, _ => none
@[reducible] def mCnt (mo me : ME) : ME := fun Γ n Q => mo Γ n fun x n1 => ∃ xs, x = .list xs ∧ me Γ n1 fun d n2 => ∃ r, dCnt x d = some r ∧ Q r n2
@[reducible] def mGet2 (mo me mf : ME) : ME := fun Γ n Q => mo Γ n fun x n1 => ∃ kvs, x = .dict kvs ∧ me Γ n1 fun y n2 => mf Γ n2 fun z n3 => isKey y = true ∧ Q ((dLook kvs y).getD z) n3
variable {p : Pm} {O : List Nat} {o e f : Expr} {to te tf : TE} {mo me mf : ME} {apos cpos : Pos}
theorem le_cnt (ho : LE p O to mo) (he : LE p O te me) : LE p O (tBM p.K "list" (rCntD p.K) to (tCons te tNil)) (mCnt mo me) := fun F0 H0 F H σ Γ n Q s q Q' k =>
  ho F0 H0 F H σ Γ n _ s q _ fun dx x F1 H1 n1 s1 g1 r1 ⟨xs, ex, q1⟩ => by
    subst ex
    obtain ⟨a, vs, rfl, h1, r⟩ := r1.lst_inv
    refine ⟨.inl ⟨rfl, vs, .of (s1.fh _ _ h1)⟩, ?_⟩
    refine he F0 H0 F1 H1 σ Γ n1 _ s1 q1 _ fun d v F2 H2 n2 s2 g2 r2 ⟨z, fe, q2⟩ => ?_
    unfold dCnt at fe
    dsimp only at fe
    obtain ⟨⟨c1, c2, c3, c4, c5⟩, rfl⟩ := ifs' fe
    have rr := (r.mono g2.f).mono s2.fh
    exact ⟨a, v, d, xs, vs, rfl, rfl, .of (s2.fh _ _ (g2.f _ _ h1)), Rp.dps _ _ c2 rr, (r2.mono s2.fh).dpS c4, c1, c3, c5, k _ _ F2 H2 n2 s2 (g1.trans g2) (.int _) q2⟩
theorem eCnt (hK : p.K = X.K) (hu : X.A.units + 65 < cLine) (ho : RE X p O o to mo) (he : RE X p O e te me)
    (hbase : attributeBase o "count" X.env (eval o X.env) = eval o X.env := by rfl)
    (hfew : ((backTo cpos (starEach [e] X.env)).all (fun x => !x.1) && (backToKw cpos (keywordEach [] X.env)).all (fun x => x.1.isSome) && decide ([e].length + ([] : List Keyword).length + (if ([] : List Keyword).isEmpty then 0 else 1) < 30)) = true := by rfl)
    (hline : (apos.endLine == cpos.line) = true := by rfl) (h1 : starEach [e] X.env = (false, eval e X.env) :: starEach [] X.env := by rfl) (hpl : (backTo cpos (starEach [] X.env)).any (·.1) = false := by rfl) :
    RE X p O (.Call (.Attribute o "count" apos) [e] [] cpos) (tBM p.K "list" (rCntD p.K) to (tCons te tNil)) (mCnt mo me) :=
  ⟨hK ▸ pe_bm PySem.F.plainAttrs_list PySem.F.slot_list_count PySem.F.type_list_count (mt_cntD hu) ho.pe (pa_cons he.pe pa_nil h1) hbase hfew hline h1 hpl, le_cnt ho.le he.le⟩
theorem Rp.isD {F H : Hp} {kvs : List (D × D)} {v : V} (h : Rp K F (.dict kvs) v) (s : Same F H) : ∃ a, v = .ref a ∧ IsD H a := by
  cases h with
  | dct h1 h2 h3 => exact ⟨_, rfl, .inl ⟨_, Same.rd s h1⟩⟩
theorem le_get2 (ho : LE p O to mo) (he : LE p O te me) (hf : LE p O tf mf) : LE p O (tDGet2 to te tf) (mGet2 mo me mf) := fun F0 H0 F H σ Γ n Q s q Q' k =>
  ho F0 H0 F H σ Γ n _ s q _ fun dx x F1 H1 n1 s1 g1 r1 ⟨kvs, ex, q1⟩ => by
    subst ex
    obtain ⟨a, rfl, hd⟩ := r1.isD s1.fh
    refine ⟨a, rfl, hd, ?_⟩
    refine he F0 H0 F1 H1 σ Γ n1 _ s1 q1 _ fun dy y F2 H2 n2 s2 g2 r2 q2 => ?_
    refine hf F0 H0 F2 H2 σ Γ n2 _ s2 q2 _ fun dz z F3 H3 n3 s3 g3 r3 ⟨hk, q3⟩ => ?_
    have rd := ((r1.mono g2.f).mono g3.f)
    obtain ⟨b, o, e1, g, w⟩ := dct_get rd hk (r2.mono g3.f)
    cases e1
    refine ⟨o, ?_, ?_⟩
    · rcases g with ⟨k1, k2, z1, z2, z3⟩ | ⟨k1, k2, k3, z1, z2, z3, z4⟩
      · exact .inl ⟨k1, k2, Same.rd s3.fh z1, z2, z3⟩
      · exact .inr ⟨k1, k2, k3, Same.rd s3.fh z1, z2, s3.fh _ _ z3, z4⟩
    · refine k _ _ F3 H3 n3 s3 ((g1.trans g2).trans g3) ?_ q3
      split at w
      · rename_i d e1
        obtain ⟨v, rfl, rv⟩ := w
        rw [e1]; exact rv
      · rename_i e1
        rw [w, e1]; exact r3
theorem eGet2 (hu : X.A.units + 1 < cLine) (ho : RE X p O o to mo) (he : RE X p O e te me) (hf : RE X p O f tf mf) (m : M2 X o "get" apos e f cpos) : RE X p O (.Call (.Attribute o "get" apos) [e, f] [] cpos) (tDGet2 to te tf) (mGet2 mo me mf) :=
  ⟨pe_dget2 hu ho.pe he.pe hf.pe m, le_get2 ho.le he.le hf.le⟩
end
end RR
end
section
namespace RR
open PySem PySem.Spec L2
open PyProof.Rows hiding St
abbrev VE := DEnv → Option D
abbrev VT := DEnv → Option Bool
abbrev VA := DEnv → Option (List D)
abbrev VP := List D → Option D
abbrev VI := DEnv → Option (List D)
abbrev VO := DEnv → Option (Option Int)
abbrev VG := D → DEnv → Option DEnv
abbrev VGs := List D → DEnv → Option DEnv
inductive Rs
  | nx (Γ : DEnv)
  | rt (d : D)
  | bk (Γ : DEnv)
  | ct (Γ : DEnv)
abbrev VS := DEnv → Option Rs
def Rs.to (E : EndsD) (n : Nat) : Rs → Prop
  | .nx Γ => E.nx Γ n
  | .rt d => E.rt d n
  | .bk Γ => E.bk Γ n
  | .ct Γ => E.ct Γ n
def FE (m : ME) (v : VE) : Prop := ∀ Γ n d (Q : D → Nat → Prop), v Γ = some d → Q d n → m Γ n Q
def FT (m : MT) (v : VT) : Prop := ∀ Γ n d (Q : Bool → Nat → Prop), v Γ = some d → Q d n → m Γ n Q
def FA (m : MA) (v : VA) : Prop := ∀ Γ n d (Q : List D → Nat → Prop), v Γ = some d → Q d n → m Γ n Q
def FO (m : MO) (v : VO) : Prop := ∀ Γ n d (Q : Option Int → Nat → Prop), v Γ = some d → Q d n → m Γ n Q
def FS (m : MS) (v : VS) : Prop := ∀ Γ n r (E : EndsD), v Γ = some r → r.to E n → m E Γ n
def FP (m : MP) (v : VP) : Prop := ∀ ds d (R : D → Prop), v ds = some d → R d → m ds R
def FGt (m : MG) (v : VG) : Prop := ∀ d Γ Γ' (Q : DEnv → Prop), v d Γ = some Γ' → Q Γ' → m d Γ Q
def FGs (m : List D → DEnv → (DEnv → Prop) → Prop) (v : VGs) : Prop := ∀ d Γ Γ' (Q : DEnv → Prop), v d Γ = some Γ' → Q Γ' → m d Γ Q
theorem bnd {α β : Type} {x : Option α} {f : α → Option β} {b : β} (h : x.bind f = some b) : ∃ a, x = some a ∧ f a = some b := by
  cases x with
  | none => cases h
  | some a => exact ⟨a, rfl, h⟩
theorem ifs {α : Type} {c : Prop} [Decidable c] {x y : α} (h : (if c then some x else none) = some y) : c ∧ x = y := by
  by_cases k : c
  · rw [if_pos k] at h; cases h; exact ⟨k, rfl⟩
  · rw [if_neg k] at h; cases h
section
variable {ma mb mc me : ME} {a b c e : VE} {f g : D → D → Option D} {u : D → Option D} {mt mu : MT} {t s : VT} {mA : MA} {vA : VA} {mS nS : MS} {vS wS : VS} {mG : MG} {vG : VG} {mGs : List D → DEnv → (DEnv → Prop) → Prop} {vGs : VGs}
def vC (d : D) : VE := fun _ => some d
def vVar (i : Nat) : VE := fun Γ => match Γ[i]? with | some (some d) => some d | _ => none
theorem f_C {d : D} : FE (mC d) (vC d) := fun Γ n d' Q e q => by cases e; exact q
theorem f_Var {i : Nat} : FE (mVar i) (vVar i) := fun Γ n d' Q e q => by
  unfold vVar at e
  split at e
  · cases e; exact ⟨_, by assumption, q⟩
  · cases e
def vOp (f : D → D → Option D) (a b : VE) : VE := fun Γ => (a Γ).bind fun x => (b Γ).bind fun y => f x y
theorem f_Op (ha : FE ma a) (hb : FE mb b) : FE (mOp f ma mb) (vOp f a b) := fun Γ n d Q e q => by
  obtain ⟨x, h1, e⟩ := bnd e
  obtain ⟨y, h2, e⟩ := bnd e
  exact ha Γ n x _ h1 (hb Γ n y _ h2 ⟨d, e, q⟩)
def vUn (f : D → Option D) (a : VE) : VE := fun Γ => (a Γ).bind f
theorem f_Un (ha : FE ma a) : FE (mUn u ma) (vUn u a) := fun Γ n d Q e q => by
  obtain ⟨x, h1, e⟩ := bnd e
  exact ha Γ n x _ h1 ⟨d, e, q⟩
def asB : D → Option Bool
  | .bool b => some b
  | _ => none
theorem asB_eq {d : D} {k : Bool} (h : asB d = some k) : d = .bool k := by
  unfold asB at h
  split at h
  · cases h; rfl
  · cases h
def vTest (a : VE) : VT := fun Γ => (a Γ).bind asB
theorem f_Test (ha : FE ma a) : FT (mTest ma) (vTest a) := fun Γ n d Q e q => by
  obtain ⟨x, h1, e⟩ := bnd e
  exact ha Γ n x _ h1 ⟨d, asB_eq e, q⟩
def vTru (a : VE) : VT := fun Γ => (a Γ).bind truD
theorem f_Tru (ha : FE ma a) : FT (mTru ma) (vTru a) := fun Γ n d Q e q => by
  obtain ⟨x, h1, e⟩ := bnd e
  exact ha Γ n x _ h1 ⟨d, e, q⟩
def vChain (f g : D → D → Option D) (a b c : VE) : VE := fun Γ => (a Γ).bind fun x => (b Γ).bind fun y => (f x y).bind fun r => (asB r).bind fun k => if k = true then (c Γ).bind fun z => g y z else some (.bool false)
theorem f_Chain (ha : FE ma a) (hb : FE mb b) (hc : FE mc c) : FE (mChain f g ma mb mc) (vChain f g a b c) := fun Γ n d Q e q => by
  obtain ⟨x, h1, e⟩ := bnd e
  obtain ⟨y, h2, e⟩ := bnd e
  obtain ⟨r, h3, e⟩ := bnd e
  obtain ⟨k, h4, e⟩ := bnd e
  refine ha Γ n x _ h1 (hb Γ n y _ h2 ⟨k, by rw [h3, asB_eq h4], ?_⟩)
  cases k with
  | true =>
    rw [if_pos rfl] at e ⊢
    obtain ⟨z, h5, e⟩ := bnd e
    exact hc Γ n z _ h5 ⟨d, e, q⟩
  | false =>
    rw [if_neg (by decide)] at e ⊢
    cases e
    exact q
def vAnd (t s : VT) : VT := fun Γ => (t Γ).bind fun k => if k = true then s Γ else some false
def vOr (t s : VT) : VT := fun Γ => (t Γ).bind fun k => if k = true then some true else s Γ
def vNot (t : VT) : VT := fun Γ => (t Γ).bind fun k => some (!k)
theorem f_And (ha : FT mt t) (hb : FT mu s) : FT (mAnd mt mu) (vAnd t s) := fun Γ n d Q e q => by
  obtain ⟨k, h1, e⟩ := bnd e
  refine ha Γ n k _ h1 ?_
  cases k with
  | true => rw [if_pos rfl] at e ⊢; exact hb Γ n d Q e q
  | false => rw [if_neg (by decide)] at e ⊢; cases e; exact q
theorem f_Or (ha : FT mt t) (hb : FT mu s) : FT (mOr mt mu) (vOr t s) := fun Γ n d Q e q => by
  obtain ⟨k, h1, e⟩ := bnd e
  refine ha Γ n k _ h1 ?_
  cases k with
  | true => rw [if_pos rfl] at e ⊢; cases e; exact q
  | false => rw [if_neg (by decide)] at e ⊢; exact hb Γ n d Q e q
theorem f_Not (ha : FT mt t) : FT (mNot mt) (vNot t) := fun Γ n d Q e q => by
  obtain ⟨k, h1, e⟩ := bnd e
  cases e
  exact ha Γ n k _ h1 q
def vAndV (a b : VE) : VE := fun Γ => (a Γ).bind fun x => (asB x).bind fun k => if k = true then b Γ else some (.bool false)
def vOrV (a b : VE) : VE := fun Γ => (a Γ).bind fun x => (asB x).bind fun k => if k = true then some (.bool true) else b Γ
def vNotV (a : VE) : VE := fun Γ => (a Γ).bind fun x => (asB x).bind fun k => some (.bool (!k))
theorem f_AndV (ha : FE ma a) (hb : FE mb b) : FE (mAndV ma mb) (vAndV a b) := fun Γ n d Q e q => by
  obtain ⟨x, h1, e⟩ := bnd e
  obtain ⟨k, h2, e⟩ := bnd e
  refine ha Γ n x _ h1 ⟨k, asB_eq h2, ?_⟩
  cases k with
  | true => rw [if_pos rfl] at e ⊢; exact hb Γ n d Q e q
  | false => rw [if_neg (by decide)] at e ⊢; cases e; exact q
theorem f_OrV (ha : FE ma a) (hb : FE mb b) : FE (mOrV ma mb) (vOrV a b) := fun Γ n d Q e q => by
  obtain ⟨x, h1, e⟩ := bnd e
  obtain ⟨k, h2, e⟩ := bnd e
  refine ha Γ n x _ h1 ⟨k, asB_eq h2, ?_⟩
  cases k with
  | true => rw [if_pos rfl] at e ⊢; cases e; exact q
  | false => rw [if_neg (by decide)] at e ⊢; exact hb Γ n d Q e q
theorem f_NotV (ha : FE ma a) : FE (mNotV ma) (vNotV a) := fun Γ n d Q e q => by
  obtain ⟨x, h1, e⟩ := bnd e
  obtain ⟨k, h2, e⟩ := bnd e
  cases e
  exact ha Γ n x _ h1 ⟨k, asB_eq h2, q⟩
def vIf (t : VT) (a b : VE) : VE := fun Γ => (t Γ).bind fun k => if k = true then a Γ else b Γ
theorem f_If (ht : FT mt t) (ha : FE ma a) (hb : FE mb b) : FE (mIf mt ma mb) (vIf t a b) := fun Γ n d Q e q => by
  obtain ⟨k, h1, e⟩ := bnd e
  refine ht Γ n k _ h1 ?_
  cases k with
  | true => rw [if_pos rfl] at e ⊢; exact ha Γ n d Q e q
  | false => rw [if_neg (by decide)] at e ⊢; exact hb Γ n d Q e q
def vNil : VA := fun _ => some []
def vCons (a : VE) (r : VA) : VA := fun Γ => (a Γ).bind fun x => (r Γ).bind fun xs => some (x :: xs)
theorem f_Nil : FA mNil vNil := fun Γ n d Q e q => by cases e; exact q
theorem f_Cons (ha : FE ma a) (hr : FA mA vA) : FA (mCons ma mA) (vCons a vA) := fun Γ n d Q e q => by
  obtain ⟨x, h1, e⟩ := bnd e
  obtain ⟨xs, h2, e⟩ := bnd e
  cases e
  exact ha Γ n x _ h1 (hr Γ n xs _ h2 q)
def vTup (r : VA) : VE := fun Γ => (r Γ).bind fun xs => if xs.length ≤ lim then some (.tuple xs) else none
def vLst (r : VA) : VE := fun Γ => (r Γ).bind fun xs => if xs.length ≤ lim then some (.list xs) else none
theorem f_Tup (h : FA mA vA) : FE (mTup mA) (vTup vA) := fun Γ n d Q e q => by
  obtain ⟨xs, h1, e⟩ := bnd e
  obtain ⟨h2, rfl⟩ := ifs e
  exact h Γ n xs _ h1 ⟨h2, q⟩
theorem f_Lst (h : FA mA vA) : FE (mLst mA) (vLst vA) := fun Γ n d Q e q => by
  obtain ⟨xs, h1, e⟩ := bnd e
  obtain ⟨h2, rfl⟩ := ifs e
  exact h Γ n xs _ h1 ⟨h2, q⟩
def vDict0 : VE := fun _ => some (.dict [])
theorem f_Dict0 : FE mDict0 vDict0 := fun Γ n d Q e q => by cases e; exact q
def vCl (k : List D → Option D) (r : VA) : VE := fun Γ => (r Γ).bind k
theorem f_Cl {k : List D → Option D} (h : FA mA vA) : FE (mCl k mA) (vCl k vA) := fun Γ n d Q e q => by
  obtain ⟨xs, h1, e⟩ := bnd e
  exact h Γ n xs _ h1 ⟨d, e, q⟩
def vIsi (T : String) (a : VE) : VE := fun Γ => (a Γ).bind fun x => some (.bool (isiB x T))
def vIsi2 (T U : String) (a : VE) : VE := fun Γ => (a Γ).bind fun x => some (.bool (isiB x T || isiB x U))
theorem f_Isi {T : String} (h : FE ma a) : FE (mIsi T ma) (vIsi T a) := fun Γ n d Q e q => by
  obtain ⟨x, h1, e⟩ := bnd e
  cases e
  exact h Γ n x _ h1 q
theorem f_Isi2 {T U : String} (h : FE ma a) : FE (mIsi2 T U ma) (vIsi2 T U a) := fun Γ n d Q e q => by
  obtain ⟨x, h1, e⟩ := bnd e
  cases e
  exact h Γ n x _ h1 q
def vNoPart : VO := fun _ => some none
def asI : D → Option Int
  | .int i => some i
  | _ => none
theorem asI_eq {d : D} {k : Int} (h : asI d = some k) : d = .int k := by
  unfold asI at h
  split at h
  · cases h; rfl
  · cases h
def vPart (a : VE) : VO := fun Γ => (a Γ).bind fun x => (asI x).bind fun i => some (some i)
theorem f_NoPart : FO mNoPart vNoPart := fun Γ n d Q e q => by cases e; exact q
theorem f_Part (h : FE ma a) : FO (mPart ma) (vPart a) := fun Γ n d Q e q => by
  obtain ⟨x, h1, e⟩ := bnd e
  obtain ⟨i, h2, e⟩ := bnd e
  cases e
  exact h Γ n x _ h1 ⟨i, asI_eq h2, q⟩
def vSl (a : VE) (lo hi : VO) : VE := fun Γ => (a Γ).bind fun x => (lo Γ).bind fun l => (hi Γ).bind fun h => dSl l h x
theorem f_Sl {ml mh : MO} {lo hi : VO} (h : FE ma a) (hl : FO ml lo) (hh : FO mh hi) : FE (mSl ma ml mh) (vSl a lo hi) := fun Γ n d Q e q => by
  obtain ⟨x, h1, e⟩ := bnd e
  obtain ⟨l, h2, e⟩ := bnd e
  obtain ⟨k, h3, e⟩ := bnd e
  exact h Γ n x _ h1 (hl Γ n l _ h2 (hh Γ n k _ h3 ⟨d, e, q⟩))
def vCall (f : VP) (r : VA) : VE := fun Γ => (r Γ).bind f
theorem f_Call {mf : MP} {f : VP} (hf : FP mf f) (h : FA mA vA) : FE (mCall mf mA) (vCall f vA) := fun Γ n d Q e q => by
  obtain ⟨xs, h1, e⟩ := bnd e
  exact h Γ n xs _ h1 (hf xs d _ e q)
def vLook (a : VE) : VE := fun Γ => (a Γ).bind fun x => if flatD x = true then some x else none
theorem f_Look (h : FE ma a) : FE (mLook ma) (vLook a) := fun Γ n d Q e q => by
  obtain ⟨x, h1, e⟩ := bnd e
  obtain ⟨h2, rfl⟩ := ifs e
  exact h Γ n x _ h1 ⟨h2, q⟩
def vgName (i : Nat) : VG := fun d Γ => some (Γ.set i (some d))
def vgNil : VGs := fun ds Γ => match ds with | [] => some Γ | _ => none
def vgCons (g : VG) (r : VGs) : VGs := fun ds Γ => match ds with | d :: ds => (g d Γ).bind fun Γ1 => r ds Γ1 | _ => none
def vgTup (k : Nat) (r : VGs) : VG := fun d Γ => match d with | .tuple ds => if ds.length = k then r ds Γ else none | _ => none
theorem f_gName {i : Nat} : FGt (mgName i) (vgName i) := fun d Γ Γ' Q e q => by cases e; exact q
theorem f_gNil : FGs mgNil vgNil := fun d Γ Γ' Q e q => by
  unfold vgNil at e
  split at e
  · cases e; exact ⟨rfl, q⟩
  · cases e
theorem f_gCons (h : FGt mG vG) (hr : FGs mGs vGs) : FGs (mgCons mG mGs) (vgCons vG vGs) := fun d Γ Γ' Q e q => by
  unfold vgCons at e
  split at e
  · obtain ⟨Γ1, h1, e⟩ := bnd e
    exact ⟨_, _, rfl, h _ _ _ _ h1 (hr _ _ _ _ e q)⟩
  · cases e
theorem f_gTup {k : Nat} (hr : FGs mGs vGs) : FGt (mgTup k mGs) (vgTup k vGs) := fun d Γ Γ' Q e q => by
  unfold vgTup at e
  split at e
  · split at e
    · exact ⟨_, rfl, by assumption, hr _ _ _ _ e q⟩
    · cases e
  · cases e
def FI' (m : MI) (v : VI) : Prop := ∀ Γ n d (Q : List D → Nat → Prop), v Γ = some d → Q d n → m Γ n Q
def vISeq (a : VE) : VI := fun Γ => (a Γ).bind seqD
theorem f_ISeq (h : FE ma a) : FI' (mISeq ma) (vISeq a) := fun Γ n d Q e q => by
  obtain ⟨x, h1, e⟩ := bnd e
  exact h Γ n x _ h1 ⟨d, e, q⟩
def enum1 : List D → Option (List D)
  | [d] => (seqD d).bind fun xs => some (enumD 0 xs)
  | _ => none
def vIEn (r : VA) : VI := fun Γ => (r Γ).bind enum1
theorem f_IEn (h : FA mA vA) : FI' (mIEn mA) (vIEn vA) := fun Γ n d Q e q => by
  obtain ⟨xs, h1, e⟩ := bnd e
  unfold enum1 at e
  split at e
  · obtain ⟨ys, h2, e⟩ := bnd e
    cases e
    exact h Γ n _ _ h1 ⟨_, ys, rfl, h2, q⟩
  · cases e
def zip2 : List D → Option (List D)
  | [.list xs, .list ys] => some (zipD xs ys)
  | [.tuple xs, .tuple ys] => some (zipD xs ys)
  | _ => none
def vIZ (r : VA) : VI := fun Γ => (r Γ).bind zip2
theorem f_IZ (h : FA mA vA) : FI' (mIZ mA) (vIZ vA) := fun Γ n d Q e q => by
  obtain ⟨xs, h1, e⟩ := bnd e
  unfold zip2 at e
  split at e
  · cases e; exact h Γ n _ _ h1 (.inl ⟨_, _, rfl, q⟩)
  · cases e; exact h Γ n _ _ h1 (.inr ⟨_, _, rfl, q⟩)
  · cases e
instance (i : Int) : Decidable (okR i) := inferInstanceAs (Decidable (_ ∧ _))
def range1 : List D → Option (List D)
  | [.int j] => if okR j then some (rangeD 0 j.toNat) else none
  | _ => none
def range2 : List D → Option (List D)
  | [.int i, .int j] => if okR i ∧ okR j then some (rangeD i (j - i).toNat) else none
  | _ => none
def vIR1 (r : VA) : VI := fun Γ => (r Γ).bind range1
def vIR2 (r : VA) : VI := fun Γ => (r Γ).bind range2
theorem f_IR1 (h : FA mA vA) : FI' (mIR1 mA) (vIR1 vA) := fun Γ n d Q e q => by
  obtain ⟨xs, h1, e⟩ := bnd e
  unfold range1 at e
  split at e
  · obtain ⟨h2, rfl⟩ := ifs e
    exact h Γ n _ _ h1 ⟨_, rfl, h2, q⟩
  · cases e
theorem f_IR2 (h : FA mA vA) : FI' (mIR2 mA) (vIR2 vA) := fun Γ n d Q e q => by
  obtain ⟨xs, h1, e⟩ := bnd e
  unfold range2 at e
  split at e
  · obtain ⟨h2, rfl⟩ := ifs e
    exact h Γ n _ _ h1 ⟨_, _, rfl, h2.1, h2.2, q⟩
  · cases e
def vcomp (g : VG) (t : VT) (e : VE) (Γ : DEnv) : List D → Option (List D)
  | [] => some []
  | d :: ds => (g d Γ).bind fun Γ2 => (t Γ2).bind fun b => if b = true then (e Γ2).bind fun y => (vcomp g t e Γ ds).bind fun r => some (y :: r) else vcomp g t e Γ ds
def vYes : VT := fun _ => some true
theorem f_Yes : FT mYes vYes := fun Γ n d Q e q => by cases e; exact q
theorem f_comp (hg : FGt mG vG) (ht : FT mt t) (he : FE me e) {Γ : DEnv} : ∀ (ds r : List D) (n : Nat) (Q : List D → Nat → Prop), vcomp vG t e Γ ds = some r → Q r n → compW mG mt me Γ ds n Q
  | [], r, n, Q, h, q => by cases h; exact q
  | d :: ds, r, n, Q, h, q => by
    obtain ⟨Γ2, h1, h⟩ := bnd h
    obtain ⟨k, h2, h⟩ := bnd h
    refine hg _ _ _ _ h1 (ht _ _ _ _ h2 ?_)
    cases k with
    | true =>
      rw [if_pos rfl] at h ⊢
      obtain ⟨y, h3, h⟩ := bnd h
      obtain ⟨r', h4, h⟩ := bnd h
      cases h
      exact he _ _ _ _ h3 (f_comp hg ht he ds r' n _ h4 q)
    | false =>
      rw [if_neg (by decide)] at h ⊢
      exact f_comp hg ht he ds r n _ h q
def vLc (i : VI) (g : VG) (t : VT) (e : VE) (vs : List Nat) : VE := fun Γ => (i Γ).bind fun ds => if ds.length ≤ lim then (vcomp g t e (wipeD Γ vs) ds).bind fun r => some (.list r) else none
theorem f_Lc {mi : MI} {i : VI} {vs : List Nat} (hi : FI' mi i) (hg : FGt mG vG) (ht : FT mt t) (he : FE me e) : FE (mLc mi mG mt me vs) (vLc i vG t e vs) := fun Γ n d Q h q => by
  obtain ⟨ds, h1, h⟩ := bnd h
  split at h
  · obtain ⟨r, h2, h⟩ := bnd h
    cases h
    exact hi _ _ _ _ h1 ⟨by assumption, f_comp hg ht he ds r n _ h2 q⟩
  · cases h
def vcompI (g : VG) (t : VT) (e : VE) (Γ : DEnv) : List D → List D → Option (List D)
  | [], acc => some acc
  | d :: ds, acc => (g d Γ).bind fun Γ2 => (t Γ2).bind fun b => if b = true then (e Γ2).bind fun y => if acc.length < lim then vcompI g t e Γ ds (acc ++ [y]) else none else vcompI g t e Γ ds acc
def vcompO (g : VG) (t : VT) (i1 : VI) (g1 : VG) (t1 : VT) (e : VE) (vs1 : List Nat) (Γ : DEnv) : List D → List D → Option (List D)
  | [], acc => some acc
  | d :: ds, acc => (g d Γ).bind fun Γ2 => (t Γ2).bind fun b => if b = true then (i1 Γ2).bind fun es => (vcompI g1 t1 e (wipeD Γ2 vs1) es acc).bind fun acc' => vcompO g t i1 g1 t1 e vs1 Γ ds acc' else vcompO g t i1 g1 t1 e vs1 Γ ds acc
theorem f_compI (hg : FGt mG vG) (ht : FT mt t) (he : FE me e) {Γ : DEnv} : ∀ (ds acc r : List D) (n : Nat) (Q : List D → Nat → Prop), vcompI vG t e Γ ds acc = some r → Q r n → compI mG mt me Γ ds n acc Q
  | [], acc, r, n, Q, h, q => by cases h; exact q
  | d :: ds, acc, r, n, Q, h, q => by
    obtain ⟨Γ2, h1, h⟩ := bnd h
    obtain ⟨k, h2, h⟩ := bnd h
    refine hg _ _ _ _ h1 (ht _ _ _ _ h2 ?_)
    cases k with
    | true =>
      rw [if_pos rfl] at h ⊢
      obtain ⟨y, h3, h⟩ := bnd h
      refine he _ _ _ _ h3 ?_
      split at h
      · exact ⟨by assumption, f_compI hg ht he ds _ r n _ h q⟩
      · cases h
    | false =>
      rw [if_neg (by decide)] at h ⊢
      exact f_compI hg ht he ds acc r n _ h q
theorem f_compO {mi1 : MI} {i1 : VI} {mG1 : MG} {vG1 : VG} {vs1 : List Nat} (hg : FGt mG vG) (ht : FT mt t) (hi : FI' mi1 i1) (hg1 : FGt mG1 vG1) (ht1 : FT mu s) (he : FE me e) {Γ : DEnv} : ∀ (ds acc r : List D) (n : Nat) (Q : List D → Nat → Prop), vcompO vG t i1 vG1 s e vs1 Γ ds acc = some r → Q r n → compO mG mt mi1 mG1 mu me vs1 Γ ds n acc Q
  | [], acc, r, n, Q, h, q => by cases h; exact q
  | d :: ds, acc, r, n, Q, h, q => by
    obtain ⟨Γ2, h1, h⟩ := bnd h
    obtain ⟨k, h2, h⟩ := bnd h
    refine hg _ _ _ _ h1 (ht _ _ _ _ h2 ?_)
    cases k with
    | true =>
      rw [if_pos rfl] at h ⊢
      obtain ⟨es, h3, h⟩ := bnd h
      obtain ⟨acc', h4, h⟩ := bnd h
      exact hi _ _ _ _ h3 (f_compI hg1 ht1 he es acc acc' n _ h4 (f_compO hg ht hi hg1 ht1 he ds acc' r n Q h q))
    | false =>
      rw [if_neg (by decide)] at h ⊢
      exact f_compO hg ht hi hg1 ht1 he ds acc r n _ h q
def vLc2 (i : VI) (g : VG) (t : VT) (i1 : VI) (g1 : VG) (t1 : VT) (e : VE) (vs vs1 : List Nat) : VE := fun Γ => (i Γ).bind fun ds => (vcompO g t i1 g1 t1 e vs1 (wipeD Γ vs) ds []).bind fun r => some (.list r)
theorem f_Lc2 {mi mi1 : MI} {i i1 : VI} {mG1 : MG} {vG1 : VG} {vs vs1 : List Nat} (hi : FI' mi i) (hg : FGt mG vG) (ht : FT mt t) (hi1 : FI' mi1 i1) (hg1 : FGt mG1 vG1) (ht1 : FT mu s) (he : FE me e) : FE (mLc2 mi mG mt mi1 mG1 mu me vs vs1) (vLc2 i vG t i1 vG1 s e vs vs1) := fun Γ n d Q h q => by
  obtain ⟨ds, h1, h⟩ := bnd h
  obtain ⟨r, h2, h⟩ := bnd h
  cases h
  exact hi _ _ _ _ h1 (f_compO hg ht hi1 hg1 ht1 he ds [] r n _ h2 q)
def vNext : VS := fun Γ => some (.nx Γ)
def vSeqS (t u : VS) : VS := fun Γ => (t Γ).bind fun r => match r with | .nx Γ1 => u Γ1 | r => some r
theorem f_Next : FS mNext vNext := fun Γ n r E e q => by cases e; exact q
theorem f_Seq (h : FS mS vS) (k : FS nS wS) : FS (mSeq mS nS) (vSeqS vS wS) := fun Γ n r E e q => by
  obtain ⟨r1, h1, e⟩ := bnd e
  refine h Γ n r1 _ h1 ?_
  cases r1 with
  | nx Γ1 => exact k Γ1 n r E e q
  | rt d => cases e; exact q
  | bk Γ1 => cases e; exact q
  | ct Γ1 => cases e; exact q
def vNever : VS := fun _ => none
theorem f_Never : FS mNever vNever := fun Γ n r E e q => by cases e
def vDrop (a : VE) : VS := fun Γ => (a Γ).bind fun _ => some (.nx Γ)
theorem f_Drop (h : FE ma a) : FS (mDrop ma) (vDrop a) := fun Γ n r E e q => by
  obtain ⟨x, h1, e⟩ := bnd e
  cases e
  exact h Γ n x _ h1 q
def vRet (a : VE) : VS := fun Γ => (a Γ).bind fun x => some (.rt x)
theorem f_Ret (h : FE ma a) : FS (mRet ma) (vRet a) := fun Γ n r E e q => by
  obtain ⟨x, h1, e⟩ := bnd e
  cases e
  exact h Γ n x _ h1 q
def vIfS (t : VT) (x y : VS) : VS := fun Γ => (t Γ).bind fun k => if k = true then x Γ else y Γ
theorem f_IfS (ht : FT mt t) (h : FS mS vS) (k : FS nS wS) : FS (mIfS mt mS nS) (vIfS t vS wS) := fun Γ n r E e q => by
  obtain ⟨b, h1, e⟩ := bnd e
  refine ht Γ n b _ h1 ?_
  cases b with
  | true => rw [if_pos rfl] at e ⊢; exact h Γ n r E e q
  | false => rw [if_neg (by decide)] at e ⊢; exact k Γ n r E e q
def vSet (i : Nat) (a : VE) : VS := fun Γ => (a Γ).bind fun x => some (.nx (Γ.set i (some x)))
theorem f_Set {i : Nat} (h : FE ma a) : FS (mSet i ma) (vSet i a) := fun Γ n r E e q => by
  obtain ⟨x, h1, e⟩ := bnd e
  cases e
  exact h Γ n x _ h1 q
def vAug (i : Nat) (f : D → D → Option D) (a : VE) : VS := fun Γ => (vVar i Γ).bind fun x => (a Γ).bind fun y => (f x y).bind fun z => some (.nx (Γ.set i (some z)))
theorem f_Aug {i : Nat} (h : FE ma a) : FS (mAug i f ma) (vAug i f a) := fun Γ n r E e q => by
  obtain ⟨x, h1, e⟩ := bnd e
  obtain ⟨y, h2, e⟩ := bnd e
  obtain ⟨z, h3, e⟩ := bnd e
  cases e
  unfold vVar at h1
  split at h1
  · cases h1
    exact ⟨_, by assumption, h Γ n y _ h2 ⟨z, h3, q⟩⟩
  · cases h1
def vPar (is : List Nat) (r : VA) : VS := fun Γ => (r Γ).bind fun ds => if ds.length = is.length then some (.nx (setsD Γ is ds)) else none
theorem f_Par {is : List Nat} (h : FA mA vA) : FS (mPar is mA) (vPar is vA) := fun Γ n r E e q => by
  obtain ⟨ds, h1, e⟩ := bnd e
  obtain ⟨h2, rfl⟩ := ifs e
  exact h Γ n ds _ h1 ⟨h2, q⟩
def vAsg (a : VE) (g : VG) : VS := fun Γ => (a Γ).bind fun x => (g x Γ).bind fun Γ1 => some (.nx Γ1)
theorem f_Asg (h : FE ma a) (hg : FGt mG vG) : FS (mAsg ma mG) (vAsg a vG) := fun Γ n r E e q => by
  obtain ⟨x, h1, e⟩ := bnd e
  obtain ⟨Γ1, h2, e⟩ := bnd e
  cases e
  exact h Γ n x _ h1 (hg _ _ _ _ h2 q)
def asL : D → Option (List D)
  | .list xs => some xs
  | _ => none
def vAppend (i : Nat) (a : VE) : VS := fun Γ => (vVar i Γ).bind fun x => (asL x).bind fun ds => (a Γ).bind fun d => if ds.length < lim then some (.nx (Γ.set i (some (.list (ds ++ [d]))))) else none
theorem f_Append {i : Nat} (h : FE ma a) : FS (mAppend i ma) (vAppend i a) := fun Γ n r E e q => by
  obtain ⟨x, h1, e⟩ := bnd e
  obtain ⟨ds, h2, e⟩ := bnd e
  obtain ⟨d, h3, e⟩ := bnd e
  obtain ⟨h4, rfl⟩ := ifs e
  unfold vVar at h1
  split at h1
  · cases h1
    unfold asL at h2
    split at h2
    · cases h2
      exact ⟨_, by assumption, h Γ n d _ h3 ⟨h4, q⟩⟩
    · cases h2
  · cases h1
def vfor (g : VG) (b : VS) : List D → DEnv → Option Rs
  | [], Γ => some (.nx Γ)
  | d :: ds, Γ => (g d Γ).bind fun Γ1 => (b Γ1).bind fun r => match r with | .nx Γ2 => vfor g b ds Γ2 | .ct Γ2 => vfor g b ds Γ2 | .bk Γ2 => some (.nx Γ2) | .rt x => some (.rt x)
def vFor (i : VI) (g : VG) (b : VS) : VS := fun Γ => (i Γ).bind fun ds => vfor g b ds Γ
theorem f_for (hg : FGt mG vG) (h : FS mS vS) {E : EndsD} {n : Nat} : ∀ (ds : List D) (Γ : DEnv) (r : Rs), vfor vG vS ds Γ = some r → r.to E n → forW mG mS E ds Γ n
  | [], Γ, r, e, q => by cases e; exact q
  | d :: ds, Γ, r, e, q => by
    obtain ⟨Γ1, h1, e⟩ := bnd e
    obtain ⟨r1, h2, e⟩ := bnd e
    refine hg _ _ _ _ h1 (h Γ1 n r1 _ h2 ?_)
    cases r1 with
    | nx Γ2 => exact f_for hg h ds Γ2 r e q
    | ct Γ2 => exact f_for hg h ds Γ2 r e q
    | bk Γ2 => cases e; exact q
    | rt x => cases e; exact q
theorem f_For {mi : MI} {i : VI} (hi : FI' mi i) (hg : FGt mG vG) (h : FS mS vS) : FS (mFor mi mG mS) (vFor i vG vS) := fun Γ n r E e q => by
  obtain ⟨ds, h1, e⟩ := bnd e
  exact hi _ _ _ _ h1 (f_for hg h ds Γ r e q)
def vwhile (t : VT) (b : VS) : Nat → DEnv → Option Rs
  | 0, _ => none
  | m + 1, Γ => (t Γ).bind fun k => if k = true then (b Γ).bind fun r => match r with | .nx Γ2 => vwhile t b m Γ2 | .ct Γ2 => vwhile t b m Γ2 | .bk Γ2 => some (.nx Γ2) | .rt x => some (.rt x) else some (.nx Γ)
def fuel : Nat := 100000
def vWhile (t : VT) (b : VS) : VS := fun Γ => vwhile t b fuel Γ
theorem f_While (ht : FT mt t) (h : FS mS vS) : FS (mWhile mt mS) (vWhile t vS) := fun Γ n r E e q => by
  refine ⟨fun m Γ n' => n' = n ∧ ∃ r, vwhile t vS m Γ = some r ∧ r.to E n, ⟨fuel, rfl, r, e, q⟩, ?_⟩
  rintro m Γ n' ⟨rfl, r, e, q⟩
  cases m with
  | zero => cases e
  | succ m =>
    obtain ⟨k, h1, e⟩ := bnd e
    refine ht Γ n' k _ h1 ?_
    cases k with
    | true =>
      rw [if_pos rfl] at e ⊢
      obtain ⟨r1, h2, e⟩ := bnd e
      refine h Γ n' r1 _ h2 ?_
      cases r1 with
      | nx Γ2 => exact ⟨m, Nat.lt_succ_self m, rfl, r, e, q⟩
      | ct Γ2 => exact ⟨m, Nat.lt_succ_self m, rfl, r, e, q⟩
      | bk Γ2 => cases e; exact q
      | rt x => cases e; exact q
    | false =>
      rw [if_neg (by decide)] at e ⊢
      cases e
      exact q
def outD : Rs → Option D
  | .nx _ => some .none
  | .rt d => some d
  | _ => none
def vFun (N : List Str) (np : Nat) (b : VS) : VP := fun ds => if ds.length = np then (b (startD N (ds.map some))).bind outD else none
theorem f_Fun {N : List Str} {np : Nat} (h : FS mS vS) : FP (mFun N np mS) (vFun N np vS) := fun ds d R e q => by
  unfold vFun at e
  split at e
  · obtain ⟨r, h1, e⟩ := bnd e
    refine ⟨by assumption, h _ _ r _ h1 ?_⟩
    cases r with
    | nx Γ => cases e; exact q
    | rt x => cases e; exact q
    | bk Γ => cases e
    | ct Γ => cases e
  · cases e
def vCallK (f : VP) (is : List Nat) (r : VA) : VE := fun Γ => (r Γ).bind fun ds => if ds.length = is.length then f (permL is ds) else none
theorem f_CallK {mf : MP} {f : VP} {is : List Nat} (hf : FP mf f) (h : FA mA vA) : FE (mCallK mf is mA) (vCallK f is vA) := fun Γ n d Q e q => by
  obtain ⟨xs, h1, e⟩ := bnd e
  split at e
  · exact h Γ n xs _ h1 ⟨by assumption, hf _ d _ e q⟩
  · cases e
def vdcomp (g : VG) (t : VT) (ek ev : VE) (Γ : DEnv) : List D → List (D × D) → Option (List (D × D))
  | [], acc => some acc
  | d :: ds, acc => (g d Γ).bind fun Γ2 => (t Γ2).bind fun b => if b = true then (ek Γ2).bind fun kd => (ev Γ2).bind fun y => (keyOf kd).bind fun k => vdcomp g t ek ev Γ ds (putD acc k y) else vdcomp g t ek ev Γ ds acc
theorem f_dcomp {mk : ME} {ek : VE} (hg : FGt mG vG) (ht : FT mt t) (hk : FE mk ek) (he : FE me e) {Γ : DEnv} : ∀ (ds : List D) (acc r : List (D × D)) (n : Nat) (Q : List (D × D) → Nat → Prop), vdcomp vG t ek e Γ ds acc = some r → Q r n → dcompW mG mt mk me Γ ds n acc Q
  | [], acc, r, n, Q, h, q => by cases h; exact q
  | d :: ds, acc, r, n, Q, h, q => by
    obtain ⟨Γ2, h1, h⟩ := bnd h
    obtain ⟨k, h2, h⟩ := bnd h
    refine hg _ _ _ _ h1 (ht _ _ _ _ h2 ?_)
    cases k with
    | true =>
      rw [if_pos rfl] at h ⊢
      obtain ⟨kd, h3, h⟩ := bnd h
      obtain ⟨y, h4, h⟩ := bnd h
      obtain ⟨k, h5, h⟩ := bnd h
      exact hk _ _ _ _ h3 (he _ _ _ _ h4 ⟨k, h5, f_dcomp hg ht hk he ds _ r n _ h q⟩)
    | false =>
      rw [if_neg (by decide)] at h ⊢
      exact f_dcomp hg ht hk he ds acc r n _ h q
def vDc (i : VI) (g : VG) (t : VT) (ek ev : VE) (vs : List Nat) : VE := fun Γ => (i Γ).bind fun ds => if ds.length ≤ lim then (vdcomp g t ek ev (wipeD Γ vs) ds []).bind fun r => some (.dict r) else none
theorem f_Dc {mi : MI} {i : VI} {mk : ME} {ek : VE} {vs : List Nat} (hi : FI' mi i) (hg : FGt mG vG) (ht : FT mt t) (hk : FE mk ek) (he : FE me e) : FE (mDc mi mG mt mk me vs) (vDc i vG t ek e vs) := fun Γ n d Q h q => by
  obtain ⟨ds, h1, h⟩ := bnd h
  split at h
  · obtain ⟨r, h2, h⟩ := bnd h
    cases h
    exact hi _ _ _ _ h1 ⟨by assumption, f_dcomp hg ht hk he ds [] r n _ h2 q⟩
  · cases h
def vRev (a : VE) : VE := fun Γ => (a Γ).bind dRev
theorem f_Rev (h : FE ma a) : FE (mRev ma) (vRev a) := fun Γ n d Q e q => by
  obtain ⟨x, h1, e⟩ := bnd e
  exact h Γ n x _ h1 ⟨d, e, q⟩
abbrev VPs := DEnv → Option (List (D × D))
def FPs (m : MPs) (v : VPs) : Prop := ∀ Γ n d (Q : List (D × D) → Nat → Prop), v Γ = some d → Q d n → m Γ n Q
def vpNil : VPs := fun _ => some []
def vpCons (a b : VE) (r : VPs) : VPs := fun Γ => (a Γ).bind fun x => (b Γ).bind fun y => (r Γ).bind fun l => some ((x, y) :: l)
def vDisp (r : VPs) : VE := fun Γ => (r Γ).bind dispD
theorem f_pNil : FPs mpNil vpNil := fun Γ n d Q e q => by cases e; exact q
theorem f_pCons {mP : MPs} {vP : VPs} (ha : FE ma a) (hb : FE mb b) (hr : FPs mP vP) : FPs (mpCons ma mb mP) (vpCons a b vP) := fun Γ n d Q e q => by
  obtain ⟨x, h1, e⟩ := bnd e
  obtain ⟨y, h2, e⟩ := bnd e
  obtain ⟨l, h3, e⟩ := bnd e
  cases e
  exact ha Γ n x _ h1 (hb Γ n y _ h2 (hr Γ n l _ h3 q))
theorem f_Disp {mP : MPs} {vP : VPs} (h : FPs mP vP) : FE (mDisp mP) (vDisp vP) := fun Γ n d Q e q => by
  obtain ⟨l, h1, e⟩ := bnd e
  exact h Γ n l _ h1 ⟨d, e, q⟩
def vLookL (a : VE) : VE := fun Γ => (a Γ).bind fun x => if flatL x = true then some x else none
theorem f_LookL (h : FE ma a) : FE (mLookL ma) (vLookL a) := fun Γ n d Q e q => by
  obtain ⟨x, h1, e⟩ := bnd e
  obtain ⟨h2, rfl⟩ := ifs e
  exact h Γ n x _ h1 ⟨h2, q⟩
def dictAt (i : Nat) (Γ : DEnv) : Option (List (D × D)) := match Γ[i]? with | some (some (.dict ds)) => some ds | _ => none
theorem dictAt_eq {i : Nat} {Γ : DEnv} {ds : List (D × D)} (h : dictAt i Γ = some ds) : Γ[i]? = some (some (.dict ds)) := by
  unfold dictAt at h
  split at h
  · cases h; assumption
  · cases h
def vIKeys (i : Nat) : VI := fun Γ => (dictAt i Γ).bind fun ds => some (ds.map (·.1))
def vIVals (i : Nat) : VI := fun Γ => (dictAt i Γ).bind fun ds => some (ds.map (·.2))
def vIItems (i : Nat) : VI := fun Γ => (dictAt i Γ).bind fun ds => some (ds.map fun q => .tuple [q.1, q.2])
theorem f_IKeys {i : Nat} : FI' (mIKeys i) (vIKeys i) := fun Γ n d Q e q => by
  obtain ⟨ds, h, e⟩ := bnd e
  cases e
  exact ⟨ds, dictAt_eq h, q⟩
theorem f_IVals {i : Nat} : FI' (mIVals i) (vIVals i) := fun Γ n d Q e q => by
  obtain ⟨ds, h, e⟩ := bnd e
  cases e
  exact ⟨ds, dictAt_eq h, q⟩
theorem f_IItems {i : Nat} : FI' (mIItems i) (vIItems i) := fun Γ n d Q e q => by
  obtain ⟨ds, h, e⟩ := bnd e
  cases e
  exact ⟨ds, dictAt_eq h, q⟩
def vCnt (a b : VE) : VE := fun Γ => (a Γ).bind fun x => (asL x).bind fun xs => (b Γ).bind fun d => dCnt (.list xs) d
theorem asL_eq {d : D} {xs : List D} (h : asL d = some xs) : d = .list xs := by
  unfold asL at h
  split at h
  · cases h; rfl
  · cases h
theorem f_Cnt (ha : FE ma a) (hb : FE mb b) : FE (mCnt ma mb) (vCnt a b) := fun Γ n d Q e q => by
  obtain ⟨x, h1, e⟩ := bnd e
  obtain ⟨xs, h2, e⟩ := bnd e
  obtain ⟨y, h3, e⟩ := bnd e
  exact ha Γ n x _ h1 ⟨xs, asL_eq h2, hb Γ n y _ h3 ⟨d, by rw [asL_eq h2]; exact e, q⟩⟩
def asDict : D → Option (List (D × D))
  | .dict kvs => some kvs
  | _ => none
theorem asDict_eq {d : D} {xs : List (D × D)} (h : asDict d = some xs) : d = .dict xs := by
  unfold asDict at h
  split at h
  · cases h; rfl
  · cases h
def vGet2 (a b c : VE) : VE := fun Γ => (a Γ).bind fun x => (asDict x).bind fun kvs => (b Γ).bind fun y => (c Γ).bind fun z => if isKey y = true then some ((dLook kvs y).getD z) else none
theorem f_Get2 (ha : FE ma a) (hb : FE mb b) (hc : FE mc c) : FE (mGet2 ma mb mc) (vGet2 a b c) := fun Γ n d Q e q => by
  obtain ⟨x, h1, e⟩ := bnd e
  obtain ⟨xs, h2, e⟩ := bnd e
  obtain ⟨y, h3, e⟩ := bnd e
  obtain ⟨z, h4, e⟩ := bnd e
  obtain ⟨h5, rfl⟩ := ifs e
  exact ha Γ n x _ h1 ⟨xs, asDict_eq h2, hb Γ n y _ h3 (hc Γ n z _ h4 ⟨h5, q⟩)⟩
end
end RR
end
section
namespace RC
open PySem PySem.Spec L2 RR
open PyProof.Rows hiding St
def c_ROW_BOUNDS : List (D × D) := [((.str "plain"), (.tuple [(.tuple [(.int 1), (.int 99)]), (.tuple [(.int 0), (.int 999)])])), ((.str "stop"), (.tuple [(.tuple [(.int 1), (.int 99)])])), ((.str "jump"), (.tuple [(.tuple [(.int 0), (.int 19)])])), ((.str "branch"), (.tuple [(.tuple [(.int 0), (.int 19)])])), ((.str "far"), (.tuple [(.tuple [(.int 0), (.int 4)])])), ((.str "load"), (.tuple [(.tuple [(.int 0), (.int 65535)])])), ((.str "word"), (.tuple [(.tuple [(.int 0), (.int 65535)])])), ((.str "align"), (.tuple [(.tuple [(.int 2), (.int 16)])]))]
def c_HIGHEST : D := (.int 65535)
def c_MOST_STEPS : D := (.int 1000)
def c_MOST_ROWS : D := (.int 20)
def c_MOST_PARTS : D := (.int 5)
def c_MOST_JUMPS_BESIDE_ALIGN : D := (.int 6)
def c_MULTIPLES : D := (.tuple [(.int 2), (.int 4), (.int 8), (.int 16)])
def c_JUMPS : D := (.tuple [(.str "jump"), (.str "branch")])
def c_GOING_ON : D := (.tuple [(.str "plain"), (.str "branch"), (.str "load"), (.str "align")])
def b_is_within : MS := (mRet (mAndV (mIsi "int" (mVar 0)) (mAndV (mNotV (mIsi "bool" (mVar 0))) (mChain dLe dLe (mVar 1) (mVar 0) (mVar 2)))))
def m_is_within : MP := mFun ["thing", "low", "high"] 3 b_is_within
def vb_is_within : VS := (vRet (vAndV (vIsi "int" (vVar 0)) (vAndV (vNotV (vIsi "bool" (vVar 0))) (vChain dLe dLe (vVar 1) (vVar 0) (vVar 2)))))
def v_is_within : VP := vFun ["thing", "low", "high"] 3 vb_is_within
theorem fp_is_within : FP m_is_within v_is_within := by
  unfold m_is_within v_is_within b_is_within vb_is_within
  exact f_Fun (f_Ret (f_AndV (f_Isi f_Var) (f_AndV (f_NotV (f_Isi f_Var)) (f_Chain f_Var f_Var f_Var))))
def b_are_within : MS := (mSeq (mIfS (mTest (mOp dNe (mCl cLen (mCons (mVar 0) mNil)) (mCl cLen (mCons (mVar 1) mNil)))) (mRet (mC (.bool false))) mNext) (mRet (mCl cAll (mCons (mLc (mIZ (mCons (mVar 0) (mCons (mVar 1) mNil))) (mgTup 2 (mgCons (mgName 2) (mgCons (mgTup 2 (mgCons (mgName 3) (mgCons (mgName 4) mgNil))) mgNil))) mYes (mCall m_is_within (mCons (mVar 2) (mCons (mVar 3) (mCons (mVar 4) mNil)))) [2, 3, 4]) mNil))))
def m_are_within : MP := mFun ["things", "bounds", "thing", "low", "high"] 2 b_are_within
def vb_are_within : VS := (vSeqS (vIfS (vTest (vOp dNe (vCl cLen (vCons (vVar 0) vNil)) (vCl cLen (vCons (vVar 1) vNil)))) (vRet (vC (.bool false))) vNext) (vRet (vCl cAll (vCons (vLc (vIZ (vCons (vVar 0) (vCons (vVar 1) vNil))) (vgTup 2 (vgCons (vgName 2) (vgCons (vgTup 2 (vgCons (vgName 3) (vgCons (vgName 4) vgNil))) vgNil))) vYes (vCall v_is_within (vCons (vVar 2) (vCons (vVar 3) (vCons (vVar 4) vNil)))) [2, 3, 4]) vNil))))
def v_are_within : VP := vFun ["things", "bounds", "thing", "low", "high"] 2 vb_are_within
theorem fp_are_within : FP m_are_within v_are_within := by
  unfold m_are_within v_are_within b_are_within vb_are_within
  exact f_Fun (f_Seq (f_IfS (f_Test (f_Op (f_Cl (f_Cons f_Var f_Nil)) (f_Cl (f_Cons f_Var f_Nil)))) (f_Ret f_C) f_Next) (f_Ret (f_Cl (f_Cons (f_Lc (f_IZ (f_Cons f_Var (f_Cons f_Var f_Nil))) (f_gTup (f_gCons f_gName (f_gCons (f_gTup (f_gCons f_gName (f_gCons f_gName f_gNil))) f_gNil))) f_Yes (f_Call fp_is_within (f_Cons f_Var (f_Cons f_Var (f_Cons f_Var f_Nil))))) f_Nil))))
def b_is_row : MS := (mSeq (mIfS (mOr (mNot (mTest (mIsi "tuple" (mVar 0)))) (mTest (mOp dEq (mCl cLen (mCons (mVar 0) mNil)) (mC (.int 0))))) (mRet (mC (.bool false))) mNext) (mSeq (mIfS (mOr (mNot (mTest (mIsi "str" (mOp dIx (mVar 0) (mC (.int 0)))))) (mTest (mUn (kNin c_ROW_BOUNDS) (mOp dIx (mVar 0) (mC (.int 0)))))) (mRet (mC (.bool false))) mNext) (mSeq (mIfS (mNot (mTest (mCall m_are_within (mCons (mSl (mVar 0) (mPart (mC (.int 1))) mNoPart) (mCons (mUn (kIx c_ROW_BOUNDS) (mOp dIx (mVar 0) (mC (.int 0)))) mNil))))) (mRet (mC (.bool false))) mNext) (mRet (mOrV (mOp dNe (mOp dIx (mVar 0) (mC (.int 0))) (mC (.str "align"))) (mOp dIn (mOp dIx (mVar 0) (mC (.int 1))) (mC c_MULTIPLES)))))))
def m_is_row : MP := mFun ["thing"] 1 b_is_row
def vb_is_row : VS := (vSeqS (vIfS (vOr (vNot (vTest (vIsi "tuple" (vVar 0)))) (vTest (vOp dEq (vCl cLen (vCons (vVar 0) vNil)) (vC (.int 0))))) (vRet (vC (.bool false))) vNext) (vSeqS (vIfS (vOr (vNot (vTest (vIsi "str" (vOp dIx (vVar 0) (vC (.int 0)))))) (vTest (vUn (kNin c_ROW_BOUNDS) (vOp dIx (vVar 0) (vC (.int 0)))))) (vRet (vC (.bool false))) vNext) (vSeqS (vIfS (vNot (vTest (vCall v_are_within (vCons (vSl (vVar 0) (vPart (vC (.int 1))) vNoPart) (vCons (vUn (kIx c_ROW_BOUNDS) (vOp dIx (vVar 0) (vC (.int 0)))) vNil))))) (vRet (vC (.bool false))) vNext) (vRet (vOrV (vOp dNe (vOp dIx (vVar 0) (vC (.int 0))) (vC (.str "align"))) (vOp dIn (vOp dIx (vVar 0) (vC (.int 1))) (vC c_MULTIPLES)))))))
def v_is_row : VP := vFun ["thing"] 1 vb_is_row
theorem fp_is_row : FP m_is_row v_is_row := by
  unfold m_is_row v_is_row b_is_row vb_is_row
  exact f_Fun (f_Seq (f_IfS (f_Or (f_Not (f_Test (f_Isi f_Var))) (f_Test (f_Op (f_Cl (f_Cons f_Var f_Nil)) f_C))) (f_Ret f_C) f_Next) (f_Seq (f_IfS (f_Or (f_Not (f_Test (f_Isi (f_Op f_Var f_C)))) (f_Test (f_Un (f_Op f_Var f_C)))) (f_Ret f_C) f_Next) (f_Seq (f_IfS (f_Not (f_Test (f_Call fp_are_within (f_Cons (f_Sl f_Var (f_Part f_C) f_NoPart) (f_Cons (f_Un (f_Op f_Var f_C)) f_Nil))))) (f_Ret f_C) f_Next) (f_Ret (f_OrV (f_Op (f_Op f_Var f_C) f_C) (f_Op (f_Op f_Var f_C) f_C))))))
def b_jump_rows : MS := (mRet (mLc (mIEn (mCons (mVar 0) mNil)) (mgTup 2 (mgCons (mgName 1) (mgCons (mgName 2) mgNil))) (mTest (mOp dIn (mOp dIx (mVar 2) (mC (.int 0))) (mC c_JUMPS))) (mVar 1) [1, 2]))
def m_jump_rows : MP := mFun ["part", "number", "row"] 1 b_jump_rows
def vb_jump_rows : VS := (vRet (vLc (vIEn (vCons (vVar 0) vNil)) (vgTup 2 (vgCons (vgName 1) (vgCons (vgName 2) vgNil))) (vTest (vOp dIn (vOp dIx (vVar 2) (vC (.int 0))) (vC c_JUMPS))) (vVar 1) [1, 2]))
def v_jump_rows : VP := vFun ["part", "number", "row"] 1 vb_jump_rows
theorem fp_jump_rows : FP m_jump_rows v_jump_rows := by
  unfold m_jump_rows v_jump_rows b_jump_rows vb_jump_rows
  exact f_Fun (f_Ret (f_Lc (f_IEn (f_Cons f_Var f_Nil)) (f_gTup (f_gCons f_gName (f_gCons f_gName f_gNil))) (f_Test (f_Op (f_Op f_Var f_C) f_C)) f_Var))
def b_is_even : MS := (mRet (mCl cAll (mCons (mLc (mISeq (mVar 0)) (mgName 1) mYes (mOp dNe (mOp dIx (mVar 1) (mC (.int 0))) (mC (.str "align"))) [1]) mNil)))
def m_is_even : MP := mFun ["part", "row"] 1 b_is_even
def vb_is_even : VS := (vRet (vCl cAll (vCons (vLc (vISeq (vVar 0)) (vgName 1) vYes (vOp dNe (vOp dIx (vVar 1) (vC (.int 0))) (vC (.str "align"))) [1]) vNil)))
def v_is_even : VP := vFun ["part", "row"] 1 vb_is_even
theorem fp_is_even : FP m_is_even v_is_even := by
  unfold m_is_even v_is_even b_is_even vb_is_even
  exact f_Fun (f_Ret (f_Cl (f_Cons (f_Lc (f_ISeq f_Var) f_gName f_Yes (f_Op (f_Op f_Var f_C) f_C)) f_Nil)))
def b_goals_stand : MS := (mSeq (mSet 1 (mLc (mISeq (mCall m_jump_rows (mCons (mVar 0) mNil))) (mgName 2) mYes (mOp dIx (mOp dIx (mVar 0) (mVar 2)) (mC (.int 1))) [2])) (mRet (mCl cAll (mCons (mLc (mISeq (mVar 1)) (mgName 3) mYes (mAndV (mOp dLt (mVar 3) (mCl cLen (mCons (mVar 0) mNil))) (mOp dNe (mOp dIx (mOp dIx (mVar 0) (mVar 3)) (mC (.int 0))) (mC (.str "word")))) [3]) mNil))))
def m_goals_stand : MP := mFun ["rows", "goals", "number", "goal"] 1 b_goals_stand
def vb_goals_stand : VS := (vSeqS (vSet 1 (vLc (vISeq (vCall v_jump_rows (vCons (vVar 0) vNil))) (vgName 2) vYes (vOp dIx (vOp dIx (vVar 0) (vVar 2)) (vC (.int 1))) [2])) (vRet (vCl cAll (vCons (vLc (vISeq (vVar 1)) (vgName 3) vYes (vAndV (vOp dLt (vVar 3) (vCl cLen (vCons (vVar 0) vNil))) (vOp dNe (vOp dIx (vOp dIx (vVar 0) (vVar 3)) (vC (.int 0))) (vC (.str "word")))) [3]) vNil))))
def v_goals_stand : VP := vFun ["rows", "goals", "number", "goal"] 1 vb_goals_stand
theorem fp_goals_stand : FP m_goals_stand v_goals_stand := by
  unfold m_goals_stand v_goals_stand b_goals_stand vb_goals_stand
  exact f_Fun (f_Seq (f_Set (f_Lc (f_ISeq (f_Call fp_jump_rows (f_Cons f_Var f_Nil))) f_gName f_Yes (f_Op (f_Op f_Var f_Var) f_C))) (f_Ret (f_Cl (f_Cons (f_Lc (f_ISeq f_Var) f_gName f_Yes (f_AndV (f_Op f_Var (f_Cl (f_Cons f_Var f_Nil))) (f_Op (f_Op (f_Op f_Var f_Var) f_C) f_C))) f_Nil))))
def b_words_are_shunned : MS := (mSeq (mIfS (mOr (mTest (mOp dEq (mOp dIx (mOp dIx (mVar 0) (mC (.int 0))) (mC (.int 0))) (mC (.str "word")))) (mTest (mOp dIn (mOp dIx (mOp dIx (mVar 0) (mUn dNeg (mC (.int 1)))) (mC (.int 0))) (mC c_GOING_ON)))) (mRet (mC (.bool false))) mNext) (mRet (mCl cAll (mCons (mLc (mIZ (mCons (mVar 0) (mCons (mSl (mVar 0) (mPart (mC (.int 1))) mNoPart) mNil))) (mgTup 2 (mgCons (mgName 1) (mgCons (mgName 2) mgNil))) mYes (mOrV (mOp dNotIn (mOp dIx (mVar 1) (mC (.int 0))) (mC c_GOING_ON)) (mOp dNe (mOp dIx (mVar 2) (mC (.int 0))) (mC (.str "word")))) [1, 2]) mNil))))
def m_words_are_shunned : MP := mFun ["rows", "row", "behind"] 1 b_words_are_shunned
def vb_words_are_shunned : VS := (vSeqS (vIfS (vOr (vTest (vOp dEq (vOp dIx (vOp dIx (vVar 0) (vC (.int 0))) (vC (.int 0))) (vC (.str "word")))) (vTest (vOp dIn (vOp dIx (vOp dIx (vVar 0) (vUn dNeg (vC (.int 1)))) (vC (.int 0))) (vC c_GOING_ON)))) (vRet (vC (.bool false))) vNext) (vRet (vCl cAll (vCons (vLc (vIZ (vCons (vVar 0) (vCons (vSl (vVar 0) (vPart (vC (.int 1))) vNoPart) vNil))) (vgTup 2 (vgCons (vgName 1) (vgCons (vgName 2) vgNil))) vYes (vOrV (vOp dNotIn (vOp dIx (vVar 1) (vC (.int 0))) (vC c_GOING_ON)) (vOp dNe (vOp dIx (vVar 2) (vC (.int 0))) (vC (.str "word")))) [1, 2]) vNil))))
def v_words_are_shunned : VP := vFun ["rows", "row", "behind"] 1 vb_words_are_shunned
theorem fp_words_are_shunned : FP m_words_are_shunned v_words_are_shunned := by
  unfold m_words_are_shunned v_words_are_shunned b_words_are_shunned vb_words_are_shunned
  exact f_Fun (f_Seq (f_IfS (f_Or (f_Test (f_Op (f_Op (f_Op f_Var f_C) f_C) f_C)) (f_Test (f_Op (f_Op (f_Op f_Var (f_Un f_C)) f_C) f_C))) (f_Ret f_C) f_Next) (f_Ret (f_Cl (f_Cons (f_Lc (f_IZ (f_Cons f_Var (f_Cons (f_Sl f_Var (f_Part f_C) f_NoPart) f_Nil))) (f_gTup (f_gCons f_gName (f_gCons f_gName f_gNil))) f_Yes (f_OrV (f_Op (f_Op f_Var f_C) f_C) (f_Op (f_Op f_Var f_C) f_C))) f_Nil))))
def b_is_part : MS := (mSeq (mIfS (mOr (mNot (mTest (mIsi "tuple" (mVar 0)))) (mNot (mTest (mChain dLe dLe (mC (.int 1)) (mCl cLen (mCons (mVar 0) mNil)) (mC c_MOST_ROWS))))) (mRet (mC (.bool false))) mNext) (mSeq (mIfS (mNot (mTest (mCl cAll (mCons (mLc (mISeq (mVar 0)) (mgName 1) mYes (mCall m_is_row (mCons (mVar 1) mNil)) [1]) mNil)))) (mRet (mC (.bool false))) mNext) (mSeq (mIfS (mAnd (mNot (mTest (mCall m_is_even (mCons (mVar 0) mNil)))) (mTest (mOp dGt (mCl cLen (mCons (mCall m_jump_rows (mCons (mVar 0) mNil)) mNil)) (mC c_MOST_JUMPS_BESIDE_ALIGN)))) (mRet (mC (.bool false))) mNext) (mRet (mAndV (mCall m_goals_stand (mCons (mVar 0) mNil)) (mCall m_words_are_shunned (mCons (mVar 0) mNil)))))))
def m_is_part : MP := mFun ["thing", "row"] 1 b_is_part
def vb_is_part : VS := (vSeqS (vIfS (vOr (vNot (vTest (vIsi "tuple" (vVar 0)))) (vNot (vTest (vChain dLe dLe (vC (.int 1)) (vCl cLen (vCons (vVar 0) vNil)) (vC c_MOST_ROWS))))) (vRet (vC (.bool false))) vNext) (vSeqS (vIfS (vNot (vTest (vCl cAll (vCons (vLc (vISeq (vVar 0)) (vgName 1) vYes (vCall v_is_row (vCons (vVar 1) vNil)) [1]) vNil)))) (vRet (vC (.bool false))) vNext) (vSeqS (vIfS (vAnd (vNot (vTest (vCall v_is_even (vCons (vVar 0) vNil)))) (vTest (vOp dGt (vCl cLen (vCons (vCall v_jump_rows (vCons (vVar 0) vNil)) vNil)) (vC c_MOST_JUMPS_BESIDE_ALIGN)))) (vRet (vC (.bool false))) vNext) (vRet (vAndV (vCall v_goals_stand (vCons (vVar 0) vNil)) (vCall v_words_are_shunned (vCons (vVar 0) vNil)))))))
def v_is_part : VP := vFun ["thing", "row"] 1 vb_is_part
theorem fp_is_part : FP m_is_part v_is_part := by
  unfold m_is_part v_is_part b_is_part vb_is_part
  exact f_Fun (f_Seq (f_IfS (f_Or (f_Not (f_Test (f_Isi f_Var))) (f_Not (f_Test (f_Chain f_C (f_Cl (f_Cons f_Var f_Nil)) f_C)))) (f_Ret f_C) f_Next) (f_Seq (f_IfS (f_Not (f_Test (f_Cl (f_Cons (f_Lc (f_ISeq f_Var) f_gName f_Yes (f_Call fp_is_row (f_Cons f_Var f_Nil))) f_Nil)))) (f_Ret f_C) f_Next) (f_Seq (f_IfS (f_And (f_Not (f_Test (f_Call fp_is_even (f_Cons f_Var f_Nil)))) (f_Test (f_Op (f_Cl (f_Cons (f_Call fp_jump_rows (f_Cons f_Var f_Nil)) f_Nil)) f_C))) (f_Ret f_C) f_Next) (f_Ret (f_AndV (f_Call fp_goals_stand (f_Cons f_Var f_Nil)) (f_Call fp_words_are_shunned (f_Cons f_Var f_Nil)))))))
def b_far_goals : MS := (mRet (mLc (mISeq (mVar 0)) (mgName 1) (mTest (mOp dEq (mOp dIx (mVar 1) (mC (.int 0))) (mC (.str "far")))) (mOp dIx (mVar 1) (mC (.int 1))) [1]))
def m_far_goals : MP := mFun ["part", "row"] 1 b_far_goals
def vb_far_goals : VS := (vRet (vLc (vISeq (vVar 0)) (vgName 1) (vTest (vOp dEq (vOp dIx (vVar 1) (vC (.int 0))) (vC (.str "far")))) (vOp dIx (vVar 1) (vC (.int 1))) [1]))
def v_far_goals : VP := vFun ["part", "row"] 1 vb_far_goals
theorem fp_far_goals : FP m_far_goals v_far_goals := by
  unfold m_far_goals v_far_goals b_far_goals vb_far_goals
  exact f_Fun (f_Ret (f_Lc (f_ISeq f_Var) f_gName (f_Test (f_Op (f_Op f_Var f_C) f_C)) (f_Op f_Var f_C)))
def b_is_book : MS := (mSeq (mIfS (mOr (mNot (mTest (mIsi "tuple" (mVar 0)))) (mNot (mTest (mChain dLe dLe (mC (.int 1)) (mCl cLen (mCons (mVar 0) mNil)) (mC c_MOST_PARTS))))) (mRet (mC (.bool false))) mNext) (mSeq (mIfS (mNot (mTest (mCl cAll (mCons (mLc (mISeq (mVar 0)) (mgName 1) mYes (mCall m_is_part (mCons (mVar 1) mNil)) [1]) mNil)))) (mRet (mC (.bool false))) mNext) (mRet (mCl cAll (mCons (mLc2 (mISeq (mVar 0)) (mgName 1) mYes (mISeq (mCall m_far_goals (mCons (mVar 1) mNil))) (mgName 2) mYes (mOp dLt (mVar 2) (mCl cLen (mCons (mVar 0) mNil))) [1, 2] [2]) mNil)))))
def m_is_book : MP := mFun ["thing", "part", "goal"] 1 b_is_book
def vb_is_book : VS := (vSeqS (vIfS (vOr (vNot (vTest (vIsi "tuple" (vVar 0)))) (vNot (vTest (vChain dLe dLe (vC (.int 1)) (vCl cLen (vCons (vVar 0) vNil)) (vC c_MOST_PARTS))))) (vRet (vC (.bool false))) vNext) (vSeqS (vIfS (vNot (vTest (vCl cAll (vCons (vLc (vISeq (vVar 0)) (vgName 1) vYes (vCall v_is_part (vCons (vVar 1) vNil)) [1]) vNil)))) (vRet (vC (.bool false))) vNext) (vRet (vCl cAll (vCons (vLc2 (vISeq (vVar 0)) (vgName 1) vYes (vISeq (vCall v_far_goals (vCons (vVar 1) vNil))) (vgName 2) vYes (vOp dLt (vVar 2) (vCl cLen (vCons (vVar 0) vNil))) [1, 2] [2]) vNil)))))
def v_is_book : VP := vFun ["thing", "part", "goal"] 1 vb_is_book
theorem fp_is_book : FP m_is_book v_is_book := by
  unfold m_is_book v_is_book b_is_book vb_is_book
  exact f_Fun (f_Seq (f_IfS (f_Or (f_Not (f_Test (f_Isi f_Var))) (f_Not (f_Test (f_Chain f_C (f_Cl (f_Cons f_Var f_Nil)) f_C)))) (f_Ret f_C) f_Next) (f_Seq (f_IfS (f_Not (f_Test (f_Cl (f_Cons (f_Lc (f_ISeq f_Var) f_gName f_Yes (f_Call fp_is_part (f_Cons f_Var f_Nil))) f_Nil)))) (f_Ret f_C) f_Next) (f_Ret (f_Cl (f_Cons (f_Lc2 (f_ISeq f_Var) f_gName f_Yes (f_ISeq (f_Call fp_far_goals (f_Cons f_Var f_Nil))) f_gName f_Yes (f_Op f_Var (f_Cl (f_Cons f_Var f_Nil)))) f_Nil)))))
def b_check_book : MS := (mIfS (mNot (mTest (mCall m_is_book (mCons (mVar 0) mNil)))) mNever mNext)
def m_check_book : MP := mFun ["book"] 1 b_check_book
def vb_check_book : VS := (vIfS (vNot (vTest (vCall v_is_book (vCons (vVar 0) vNil)))) vNever vNext)
def v_check_book : VP := vFun ["book"] 1 vb_check_book
theorem fp_check_book : FP m_check_book v_check_book := by
  unfold m_check_book v_check_book b_check_book vb_check_book
  exact f_Fun (f_IfS (f_Not (f_Test (f_Call fp_is_book (f_Cons f_Var f_Nil)))) f_Never f_Next)
def b_check_number : MS := (mIfS (mNot (mTest (mCall m_is_within (mCons (mVar 0) (mCons (mC (.int 0)) (mCons (mVar 1) mNil)))))) mNever mNext)
def m_check_number : MP := mFun ["number", "highest"] 2 b_check_number
def vb_check_number : VS := (vIfS (vNot (vTest (vCall v_is_within (vCons (vVar 0) (vCons (vC (.int 0)) (vCons (vVar 1) vNil)))))) vNever vNext)
def v_check_number : VP := vFun ["number", "highest"] 2 vb_check_number
theorem fp_check_number : FP m_check_number v_check_number := by
  unfold m_check_number v_check_number b_check_number vb_check_number
  exact f_Fun (f_IfS (f_Not (f_Test (f_Call fp_is_within (f_Cons f_Var (f_Cons f_C (f_Cons f_Var f_Nil)))))) f_Never f_Next)
def b_added : MS := (mSeq (mIfS (mTest (mOp dEq (mOp dIx (mVar 0) (mC (.int 0))) (mC (.str "plain")))) (mRet (mOp dMod (mOp dAdd (mVar 1) (mOp dIx (mVar 0) (mC (.int 2)))) (mOp dAdd (mC c_HIGHEST) (mC (.int 1))))) mNext) (mSeq (mIfS (mTest (mOp dEq (mOp dIx (mVar 0) (mC (.int 0))) (mC (.str "load")))) (mRet (mOp dMod (mOp dAdd (mVar 1) (mOp dIx (mVar 0) (mC (.int 1)))) (mOp dAdd (mC c_HIGHEST) (mC (.int 1))))) mNext) (mRet (mVar 1))))
def m_added : MP := mFun ["row", "total"] 2 b_added
def vb_added : VS := (vSeqS (vIfS (vTest (vOp dEq (vOp dIx (vVar 0) (vC (.int 0))) (vC (.str "plain")))) (vRet (vOp dMod (vOp dAdd (vVar 1) (vOp dIx (vVar 0) (vC (.int 2)))) (vOp dAdd (vC c_HIGHEST) (vC (.int 1))))) vNext) (vSeqS (vIfS (vTest (vOp dEq (vOp dIx (vVar 0) (vC (.int 0))) (vC (.str "load")))) (vRet (vOp dMod (vOp dAdd (vVar 1) (vOp dIx (vVar 0) (vC (.int 1)))) (vOp dAdd (vC c_HIGHEST) (vC (.int 1))))) vNext) (vRet (vVar 1))))
def v_added : VP := vFun ["row", "total"] 2 vb_added
theorem fp_added : FP m_added v_added := by
  unfold m_added v_added b_added vb_added
  exact f_Fun (f_Seq (f_IfS (f_Test (f_Op (f_Op f_Var f_C) f_C)) (f_Ret (f_Op (f_Op f_Var (f_Op f_Var f_C)) (f_Op f_C f_C))) f_Next) (f_Seq (f_IfS (f_Test (f_Op (f_Op f_Var f_C) f_C)) (f_Ret (f_Op (f_Op f_Var (f_Op f_Var f_C)) (f_Op f_C f_C))) f_Next) (f_Ret f_Var)))
def b_next_place : MS := (mSeq (mAsg (mVar 1) (mgTup 2 (mgCons (mgName 3) (mgCons (mgName 4) mgNil)))) (mSeq (mSet 5 (mOp dIx (mOp dIx (mVar 0) (mVar 3)) (mVar 4))) (mSeq (mIfS (mTest (mOp dEq (mOp dIx (mVar 5) (mC (.int 0))) (mC (.str "far")))) (mRet (mTup (mCons (mOp dIx (mVar 5) (mC (.int 1))) (mCons (mC (.int 0)) mNil)))) mNext) (mSeq (mIfS (mOr (mTest (mOp dEq (mOp dIx (mVar 5) (mC (.int 0))) (mC (.str "jump")))) (mAnd (mTest (mOp dEq (mOp dIx (mVar 5) (mC (.int 0))) (mC (.str "branch")))) (mTest (mOp dEq (mOp dMod (mVar 2) (mC (.int 2))) (mC (.int 1)))))) (mRet (mTup (mCons (mVar 3) (mCons (mOp dIx (mVar 5) (mC (.int 1))) mNil)))) mNext) (mRet (mTup (mCons (mVar 3) (mCons (mOp dAdd (mVar 4) (mC (.int 1))) mNil))))))))
def m_next_place : MP := mFun ["book", "place", "total", "part", "number", "row"] 3 b_next_place
def vb_next_place : VS := (vSeqS (vAsg (vVar 1) (vgTup 2 (vgCons (vgName 3) (vgCons (vgName 4) vgNil)))) (vSeqS (vSet 5 (vOp dIx (vOp dIx (vVar 0) (vVar 3)) (vVar 4))) (vSeqS (vIfS (vTest (vOp dEq (vOp dIx (vVar 5) (vC (.int 0))) (vC (.str "far")))) (vRet (vTup (vCons (vOp dIx (vVar 5) (vC (.int 1))) (vCons (vC (.int 0)) vNil)))) vNext) (vSeqS (vIfS (vOr (vTest (vOp dEq (vOp dIx (vVar 5) (vC (.int 0))) (vC (.str "jump")))) (vAnd (vTest (vOp dEq (vOp dIx (vVar 5) (vC (.int 0))) (vC (.str "branch")))) (vTest (vOp dEq (vOp dMod (vVar 2) (vC (.int 2))) (vC (.int 1)))))) (vRet (vTup (vCons (vVar 3) (vCons (vOp dIx (vVar 5) (vC (.int 1))) vNil)))) vNext) (vRet (vTup (vCons (vVar 3) (vCons (vOp dAdd (vVar 4) (vC (.int 1))) vNil))))))))
def v_next_place : VP := vFun ["book", "place", "total", "part", "number", "row"] 3 vb_next_place
theorem fp_next_place : FP m_next_place v_next_place := by
  unfold m_next_place v_next_place b_next_place vb_next_place
  exact f_Fun (f_Seq (f_Asg f_Var (f_gTup (f_gCons f_gName (f_gCons f_gName f_gNil)))) (f_Seq (f_Set (f_Op (f_Op f_Var f_Var) f_Var)) (f_Seq (f_IfS (f_Test (f_Op (f_Op f_Var f_C) f_C)) (f_Ret (f_Tup (f_Cons (f_Op f_Var f_C) (f_Cons f_C f_Nil)))) f_Next) (f_Seq (f_IfS (f_Or (f_Test (f_Op (f_Op f_Var f_C) f_C)) (f_And (f_Test (f_Op (f_Op f_Var f_C) f_C)) (f_Test (f_Op (f_Op f_Var f_C) f_C)))) (f_Ret (f_Tup (f_Cons f_Var (f_Cons (f_Op f_Var f_C) f_Nil)))) f_Next) (f_Ret (f_Tup (f_Cons f_Var (f_Cons (f_Op f_Var f_C) f_Nil))))))))
def b_run_book : MS := (mSeq (mDrop (mCall m_check_book (mCons (mVar 0) mNil))) (mSeq (mDrop (mCall m_check_number (mCons (mVar 1) (mCons (mC c_HIGHEST) mNil)))) (mSeq (mDrop (mCall m_check_number (mCons (mVar 2) (mCons (mC c_MOST_STEPS) mNil)))) (mSeq (mSet 3 (mTup (mCons (mC (.int 0)) (mCons (mC (.int 0)) mNil)))) (mSeq (mSet 4 (mC (.int 0))) (mSeq (mWhile (mTest (mOp dLt (mVar 4) (mVar 2))) (mSeq (mSet 5 (mOp dIx (mOp dIx (mVar 0) (mOp dIx (mVar 3) (mC (.int 0)))) (mOp dIx (mVar 3) (mC (.int 1))))) (mSeq (mIfS (mTest (mOp dNe (mOp dIx (mVar 5) (mC (.int 0))) (mC (.str "align")))) (mAug 4 dAddI (mC (.int 1))) mNext) (mSeq (mIfS (mTest (mOp dEq (mOp dIx (mVar 5) (mC (.int 0))) (mC (.str "stop")))) (mRet (mTup (mCons (mC (.str "stop")) (mCons (mVar 1) (mCons (mVar 4) mNil))))) mNext) (mSeq (mSet 1 (mCall m_added (mCons (mVar 5) (mCons (mVar 1) mNil)))) (mSet 3 (mCall m_next_place (mCons (mVar 0) (mCons (mVar 3) (mCons (mVar 1) mNil)))))))))) (mRet (mTup (mCons (mC (.str "limit")) (mCons (mVar 1) (mCons (mVar 4) mNil)))))))))))
def m_run_book : MP := mFun ["book", "total", "limit", "place", "steps", "row"] 3 b_run_book
def vb_run_book : VS := (vSeqS (vDrop (vCall v_check_book (vCons (vVar 0) vNil))) (vSeqS (vDrop (vCall v_check_number (vCons (vVar 1) (vCons (vC c_HIGHEST) vNil)))) (vSeqS (vDrop (vCall v_check_number (vCons (vVar 2) (vCons (vC c_MOST_STEPS) vNil)))) (vSeqS (vSet 3 (vTup (vCons (vC (.int 0)) (vCons (vC (.int 0)) vNil)))) (vSeqS (vSet 4 (vC (.int 0))) (vSeqS (vWhile (vTest (vOp dLt (vVar 4) (vVar 2))) (vSeqS (vSet 5 (vOp dIx (vOp dIx (vVar 0) (vOp dIx (vVar 3) (vC (.int 0)))) (vOp dIx (vVar 3) (vC (.int 1))))) (vSeqS (vIfS (vTest (vOp dNe (vOp dIx (vVar 5) (vC (.int 0))) (vC (.str "align")))) (vAug 4 dAddI (vC (.int 1))) vNext) (vSeqS (vIfS (vTest (vOp dEq (vOp dIx (vVar 5) (vC (.int 0))) (vC (.str "stop")))) (vRet (vTup (vCons (vC (.str "stop")) (vCons (vVar 1) (vCons (vVar 4) vNil))))) vNext) (vSeqS (vSet 1 (vCall v_added (vCons (vVar 5) (vCons (vVar 1) vNil)))) (vSet 3 (vCall v_next_place (vCons (vVar 0) (vCons (vVar 3) (vCons (vVar 1) vNil)))))))))) (vRet (vTup (vCons (vC (.str "limit")) (vCons (vVar 1) (vCons (vVar 4) vNil)))))))))))
def v_run_book : VP := vFun ["book", "total", "limit", "place", "steps", "row"] 3 vb_run_book
theorem fp_run_book : FP m_run_book v_run_book := by
  unfold m_run_book v_run_book b_run_book vb_run_book
  exact f_Fun (f_Seq (f_Drop (f_Call fp_check_book (f_Cons f_Var f_Nil))) (f_Seq (f_Drop (f_Call fp_check_number (f_Cons f_Var (f_Cons f_C f_Nil)))) (f_Seq (f_Drop (f_Call fp_check_number (f_Cons f_Var (f_Cons f_C f_Nil)))) (f_Seq (f_Set (f_Tup (f_Cons f_C (f_Cons f_C f_Nil)))) (f_Seq (f_Set f_C) (f_Seq (f_While (f_Test (f_Op f_Var f_Var)) (f_Seq (f_Set (f_Op (f_Op f_Var (f_Op f_Var f_C)) (f_Op f_Var f_C))) (f_Seq (f_IfS (f_Test (f_Op (f_Op f_Var f_C) f_C)) (f_Aug f_C) f_Next) (f_Seq (f_IfS (f_Test (f_Op (f_Op f_Var f_C) f_C)) (f_Ret (f_Tup (f_Cons f_C (f_Cons f_Var (f_Cons f_Var f_Nil))))) f_Next) (f_Seq (f_Set (f_Call fp_added (f_Cons f_Var (f_Cons f_Var f_Nil)))) (f_Set (f_Call fp_next_place (f_Cons f_Var (f_Cons f_Var (f_Cons f_Var f_Nil)))))))))) (f_Ret (f_Tup (f_Cons f_C (f_Cons f_Var (f_Cons f_Var f_Nil)))))))))))
theorem mulb {x y a b : Int} (h1 : 0 ≤ x) (h2 : x ≤ a) (h3 : 0 ≤ y) (h4 : y ≤ b) : 0 ≤ x * y ∧ x * y ≤ a * b :=
  ⟨Int.mul_nonneg h1 h3, Int.mul_le_mul h2 h4 h3 (Int.le_trans h1 h2)⟩
theorem primes_at (j : Int) (h0 : 0 ≤ j) (h1 : j < 13) : ∃ p : Int, atI [PyData.int 2147483629, PyData.int 2147483587, PyData.int 2147483579, PyData.int 2147483563, PyData.int 2147483549, PyData.int 2147483543, PyData.int 2147483497, PyData.int 2147483489, PyData.int 2147483477, PyData.int 2147483423, PyData.int 2147483399, PyData.int 2147483353, PyData.int 2147483323] j = some (.int p) ∧ 0 < p ∧ p < 2147483648 := by
  have : j = 0 ∨ j = 1 ∨ j = 2 ∨ j = 3 ∨ j = 4 ∨ j = 5 ∨ j = 6 ∨ j = 7 ∨ j = 8 ∨ j = 9 ∨ j = 10 ∨ j = 11 ∨ j = 12 := by omega
  rcases this with h | h | h | h | h | h | h | h | h | h | h | h | h <;> subst h <;> exact ⟨_, rfl, by decide, by decide⟩
local macro_rules | `(tactic| walk_at "st") => `(tactic| first
  | refine ⟨_, rfl, ?_⟩
  | refine ⟨rfl, ?_⟩
  | refine ⟨by decide, ?_⟩)
theorem iteB {p A B : Prop} [Decidable p] (h1 : p → A) (h2 : ¬ p → B) : if decide p = true then A else B := by
  by_cases h : p
  · rw [if_pos (decide_eq_true h)]; exact h1 h
  · rw [if_neg (by rw [decide_eq_false h]; decide)]; exact h2 h
theorem if_some {c : Prop} [Decidable c] {d : D} (h : c) : (if c then some d else none) = some d := if_pos h
end RC
end
section
namespace RC
open PySem PySem.Spec L2 RR
open PyProof.Rows hiding St
def c_SHORT : D := (.int 0)
def c_REACH : D := (.int 1)
def c_LONG : D := (.int 2)
def c_FAR : D := (.int 3)
def c_LOAD : D := (.int 5)
def c_SPAN : D := (.int 6)
def c_WORD : D := (.int 7)
def c_MACHINE_BOUNDS : D := (.tuple [(.tuple [(.int 1), (.int 9)]), (.tuple [(.int 0), (.int 999)]), (.tuple [(.int 2), (.int 20)]), (.tuple [(.int 1), (.int 20)]), (.tuple [(.int 0), (.int 9999)]), (.tuple [(.int 1), (.int 9)]), (.tuple [(.int 0), (.int 999)]), (.tuple [(.int 1), (.int 16)])])
def b_is_machine : MS := (mSeq (mIfS (mOr (mNot (mTest (mIsi "tuple" (mVar 0)))) (mNot (mTest (mCall m_are_within (mCons (mVar 0) (mCons (mC c_MACHINE_BOUNDS) mNil)))))) (mRet (mC (.bool false))) mNext) (mRet (mOp dLt (mOp dIx (mVar 0) (mC c_SHORT)) (mOp dIx (mVar 0) (mC c_LONG)))))
def m_is_machine : MP := mFun ["thing"] 1 b_is_machine
def vb_is_machine : VS := (vSeqS (vIfS (vOr (vNot (vTest (vIsi "tuple" (vVar 0)))) (vNot (vTest (vCall v_are_within (vCons (vVar 0) (vCons (vC c_MACHINE_BOUNDS) vNil)))))) (vRet (vC (.bool false))) vNext) (vRet (vOp dLt (vOp dIx (vVar 0) (vC c_SHORT)) (vOp dIx (vVar 0) (vC c_LONG)))))
def v_is_machine : VP := vFun ["thing"] 1 vb_is_machine
theorem fp_is_machine : FP m_is_machine v_is_machine := by
  unfold m_is_machine v_is_machine b_is_machine vb_is_machine
  exact f_Fun (f_Seq (f_IfS (f_Or (f_Not (f_Test (f_Isi f_Var))) (f_Not (f_Test (f_Call fp_are_within (f_Cons f_Var (f_Cons f_C f_Nil)))))) (f_Ret f_C) f_Next) (f_Ret (f_Op (f_Op f_Var f_C) (f_Op f_Var f_C))))
def b_is_jump_row : MS := (mRet (mAndV (mCall m_is_within (mCons (mVar 1) (mCons (mC (.int 0)) (mCons (mOp dSub (mCl cLen (mCons (mVar 0) mNil)) (mC (.int 1))) mNil)))) (mOp dIn (mOp dIx (mOp dIx (mVar 0) (mVar 1)) (mC (.int 0))) (mC c_JUMPS))))
def m_is_jump_row : MP := mFun ["part", "thing"] 2 b_is_jump_row
def vb_is_jump_row : VS := (vRet (vAndV (vCall v_is_within (vCons (vVar 1) (vCons (vC (.int 0)) (vCons (vOp dSub (vCl cLen (vCons (vVar 0) vNil)) (vC (.int 1))) vNil)))) (vOp dIn (vOp dIx (vOp dIx (vVar 0) (vVar 1)) (vC (.int 0))) (vC c_JUMPS))))
def v_is_jump_row : VP := vFun ["part", "thing"] 2 vb_is_jump_row
theorem fp_is_jump_row : FP m_is_jump_row v_is_jump_row := by
  unfold m_is_jump_row v_is_jump_row b_is_jump_row vb_is_jump_row
  exact f_Fun (f_Ret (f_AndV (f_Call fp_is_within (f_Cons f_Var (f_Cons f_C (f_Cons (f_Op (f_Cl (f_Cons f_Var f_Nil)) f_C) f_Nil)))) (f_Op (f_Op (f_Op f_Var f_Var) f_C) f_C)))
def b_is_ascending : MS := (mRet (mCl cAll (mCons (mLc (mIZ (mCons (mVar 0) (mCons (mSl (mVar 0) (mPart (mC (.int 1))) mNoPart) mNil))) (mgTup 2 (mgCons (mgName 1) (mgCons (mgName 2) mgNil))) mYes (mOp dLt (mVar 1) (mVar 2)) [1, 2]) mNil)))
def m_is_ascending : MP := mFun ["members", "member", "behind"] 1 b_is_ascending
def vb_is_ascending : VS := (vRet (vCl cAll (vCons (vLc (vIZ (vCons (vVar 0) (vCons (vSl (vVar 0) (vPart (vC (.int 1))) vNoPart) vNil))) (vgTup 2 (vgCons (vgName 1) (vgCons (vgName 2) vgNil))) vYes (vOp dLt (vVar 1) (vVar 2)) [1, 2]) vNil)))
def v_is_ascending : VP := vFun ["members", "member", "behind"] 1 vb_is_ascending
theorem fp_is_ascending : FP m_is_ascending v_is_ascending := by
  unfold m_is_ascending v_is_ascending b_is_ascending vb_is_ascending
  exact f_Fun (f_Ret (f_Cl (f_Cons (f_Lc (f_IZ (f_Cons f_Var (f_Cons (f_Sl f_Var (f_Part f_C) f_NoPart) f_Nil))) (f_gTup (f_gCons f_gName (f_gCons f_gName f_gNil))) f_Yes (f_Op f_Var f_Var)) f_Nil)))
def b_check_part : MS := (mIfS (mNot (mTest (mCall m_is_part (mCons (mVar 0) mNil)))) mNever mNext)
def m_check_part : MP := mFun ["part"] 1 b_check_part
def vb_check_part : VS := (vIfS (vNot (vTest (vCall v_is_part (vCons (vVar 0) vNil)))) vNever vNext)
def v_check_part : VP := vFun ["part"] 1 vb_check_part
theorem fp_check_part : FP m_check_part v_check_part := by
  unfold m_check_part v_check_part b_check_part vb_check_part
  exact f_Fun (f_IfS (f_Not (f_Test (f_Call fp_is_part (f_Cons f_Var f_Nil)))) f_Never f_Next)
def b_check_machine : MS := (mIfS (mNot (mTest (mCall m_is_machine (mCons (mVar 0) mNil)))) mNever mNext)
def m_check_machine : MP := mFun ["machine"] 1 b_check_machine
def vb_check_machine : VS := (vIfS (vNot (vTest (vCall v_is_machine (vCons (vVar 0) vNil)))) vNever vNext)
def v_check_machine : VP := vFun ["machine"] 1 vb_check_machine
theorem fp_check_machine : FP m_check_machine v_check_machine := by
  unfold m_check_machine v_check_machine b_check_machine vb_check_machine
  exact f_Fun (f_IfS (f_Not (f_Test (f_Call fp_is_machine (f_Cons f_Var f_Nil)))) f_Never f_Next)
def b_is_forms : MS := (mSeq (mIfS (mOr (mNot (mTest (mIsi "list" (mVar 1)))) (mNot (mTest (mCl cAll (mCons (mLc (mISeq (mVar 1)) (mgName 2) mYes (mCall m_is_jump_row (mCons (mVar 0) (mCons (mVar 2) mNil))) [2]) mNil))))) (mRet (mC (.bool false))) mNext) (mRet (mCall m_is_ascending (mCons (mVar 1) mNil))))
def m_is_forms : MP := mFun ["part", "thing", "row"] 2 b_is_forms
def vb_is_forms : VS := (vSeqS (vIfS (vOr (vNot (vTest (vIsi "list" (vVar 1)))) (vNot (vTest (vCl cAll (vCons (vLc (vISeq (vVar 1)) (vgName 2) vYes (vCall v_is_jump_row (vCons (vVar 0) (vCons (vVar 2) vNil))) [2]) vNil))))) (vRet (vC (.bool false))) vNext) (vRet (vCall v_is_ascending (vCons (vVar 1) vNil))))
def v_is_forms : VP := vFun ["part", "thing", "row"] 2 vb_is_forms
theorem fp_is_forms : FP m_is_forms v_is_forms := by
  unfold m_is_forms v_is_forms b_is_forms vb_is_forms
  exact f_Fun (f_Seq (f_IfS (f_Or (f_Not (f_Test (f_Isi f_Var))) (f_Not (f_Test (f_Cl (f_Cons (f_Lc (f_ISeq f_Var) f_gName f_Yes (f_Call fp_is_jump_row (f_Cons f_Var (f_Cons f_Var f_Nil)))) f_Nil))))) (f_Ret f_C) f_Next) (f_Ret (f_Call fp_is_ascending (f_Cons f_Var f_Nil))))
def b_check_forms : MS := (mIfS (mNot (mTest (mCall m_is_forms (mCons (mVar 0) (mCons (mVar 1) mNil))))) mNever mNext)
def m_check_forms : MP := mFun ["part", "forms"] 2 b_check_forms
def vb_check_forms : VS := (vIfS (vNot (vTest (vCall v_is_forms (vCons (vVar 0) (vCons (vVar 1) vNil))))) vNever vNext)
def v_check_forms : VP := vFun ["part", "forms"] 2 vb_check_forms
theorem fp_check_forms : FP m_check_forms v_check_forms := by
  unfold m_check_forms v_check_forms b_check_forms vb_check_forms
  exact f_Fun (f_IfS (f_Not (f_Test (f_Call fp_is_forms (f_Cons f_Var (f_Cons f_Var f_Nil))))) f_Never f_Next)
def b_check_formed : MS := (mSeq (mDrop (mCall m_check_part (mCons (mVar 0) mNil))) (mSeq (mDrop (mCall m_check_machine (mCons (mVar 1) mNil))) (mDrop (mCall m_check_forms (mCons (mVar 0) (mCons (mVar 2) mNil))))))
def m_check_formed : MP := mFun ["part", "machine", "forms"] 3 b_check_formed
def vb_check_formed : VS := (vSeqS (vDrop (vCall v_check_part (vCons (vVar 0) vNil))) (vSeqS (vDrop (vCall v_check_machine (vCons (vVar 1) vNil))) (vDrop (vCall v_check_forms (vCons (vVar 0) (vCons (vVar 2) vNil))))))
def v_check_formed : VP := vFun ["part", "machine", "forms"] 3 vb_check_formed
theorem fp_check_formed : FP m_check_formed v_check_formed := by
  unfold m_check_formed v_check_formed b_check_formed vb_check_formed
  exact f_Fun (f_Seq (f_Drop (f_Call fp_check_part (f_Cons f_Var f_Nil))) (f_Seq (f_Drop (f_Call fp_check_machine (f_Cons f_Var f_Nil))) (f_Drop (f_Call fp_check_forms (f_Cons f_Var (f_Cons f_Var f_Nil))))))
def b_row_size : MS := (mSeq (mIfS (mTest (mOp dIn (mOp dIx (mVar 0) (mC (.int 0))) (mC c_JUMPS))) (mRet (mIf (mTest (mVar 3)) (mOp dIx (mVar 1) (mC c_SHORT)) (mOp dIx (mVar 1) (mC c_LONG)))) mNext) (mSeq (mIfS (mTest (mOp dEq (mOp dIx (mVar 0) (mC (.int 0))) (mC (.str "far")))) (mRet (mOp dIx (mVar 1) (mC c_FAR))) mNext) (mSeq (mIfS (mTest (mOp dEq (mOp dIx (mVar 0) (mC (.int 0))) (mC (.str "load")))) (mRet (mOp dIx (mVar 1) (mC c_LOAD))) mNext) (mSeq (mIfS (mTest (mOp dEq (mOp dIx (mVar 0) (mC (.int 0))) (mC (.str "word")))) (mRet (mOp dIx (mVar 1) (mC c_WORD))) mNext) (mSeq (mIfS (mTest (mOp dEq (mOp dIx (mVar 0) (mC (.int 0))) (mC (.str "align")))) (mRet (mOp dMod (mUn dNeg (mVar 2)) (mOp dIx (mVar 0) (mC (.int 1))))) mNext) (mRet (mOp dIx (mVar 0) (mC (.int 1)))))))))
def m_row_size : MP := mFun ["row", "machine", "address", "is_short"] 4 b_row_size
def vb_row_size : VS := (vSeqS (vIfS (vTest (vOp dIn (vOp dIx (vVar 0) (vC (.int 0))) (vC c_JUMPS))) (vRet (vIf (vTest (vVar 3)) (vOp dIx (vVar 1) (vC c_SHORT)) (vOp dIx (vVar 1) (vC c_LONG)))) vNext) (vSeqS (vIfS (vTest (vOp dEq (vOp dIx (vVar 0) (vC (.int 0))) (vC (.str "far")))) (vRet (vOp dIx (vVar 1) (vC c_FAR))) vNext) (vSeqS (vIfS (vTest (vOp dEq (vOp dIx (vVar 0) (vC (.int 0))) (vC (.str "load")))) (vRet (vOp dIx (vVar 1) (vC c_LOAD))) vNext) (vSeqS (vIfS (vTest (vOp dEq (vOp dIx (vVar 0) (vC (.int 0))) (vC (.str "word")))) (vRet (vOp dIx (vVar 1) (vC c_WORD))) vNext) (vSeqS (vIfS (vTest (vOp dEq (vOp dIx (vVar 0) (vC (.int 0))) (vC (.str "align")))) (vRet (vOp dMod (vUn dNeg (vVar 2)) (vOp dIx (vVar 0) (vC (.int 1))))) vNext) (vRet (vOp dIx (vVar 0) (vC (.int 1)))))))))
def v_row_size : VP := vFun ["row", "machine", "address", "is_short"] 4 vb_row_size
theorem fp_row_size : FP m_row_size v_row_size := by
  unfold m_row_size v_row_size b_row_size vb_row_size
  exact f_Fun (f_Seq (f_IfS (f_Test (f_Op (f_Op f_Var f_C) f_C)) (f_Ret (f_If (f_Test f_Var) (f_Op f_Var f_C) (f_Op f_Var f_C))) f_Next) (f_Seq (f_IfS (f_Test (f_Op (f_Op f_Var f_C) f_C)) (f_Ret (f_Op f_Var f_C)) f_Next) (f_Seq (f_IfS (f_Test (f_Op (f_Op f_Var f_C) f_C)) (f_Ret (f_Op f_Var f_C)) f_Next) (f_Seq (f_IfS (f_Test (f_Op (f_Op f_Var f_C) f_C)) (f_Ret (f_Op f_Var f_C)) f_Next) (f_Seq (f_IfS (f_Test (f_Op (f_Op f_Var f_C) f_C)) (f_Ret (f_Op (f_Un f_Var) (f_Op f_Var f_C))) f_Next) (f_Ret (f_Op f_Var f_C)))))))
def b_addresses_of : MS := (mSeq (mSet 3 (mLst (mCons (mC (.int 0)) mNil))) (mSeq (mFor (mIEn (mCons (mVar 0) mNil)) (mgTup 2 (mgCons (mgName 4) (mgCons (mgName 5) mgNil))) (mSeq (mSet 6 (mLook (mOp dIx (mVar 3) (mUn dNeg (mC (.int 1)))))) (mAppend 3 (mOp dAdd (mVar 6) (mCall m_row_size (mCons (mVar 5) (mCons (mVar 1) (mCons (mVar 6) (mCons (mOp dIn (mVar 4) (mVar 2)) mNil))))))))) (mRet (mVar 3))))
def m_addresses_of : MP := mFun ["part", "machine", "forms", "addresses", "number", "row", "address"] 3 b_addresses_of
def vb_addresses_of : VS := (vSeqS (vSet 3 (vLst (vCons (vC (.int 0)) vNil))) (vSeqS (vFor (vIEn (vCons (vVar 0) vNil)) (vgTup 2 (vgCons (vgName 4) (vgCons (vgName 5) vgNil))) (vSeqS (vSet 6 (vLook (vOp dIx (vVar 3) (vUn dNeg (vC (.int 1)))))) (vAppend 3 (vOp dAdd (vVar 6) (vCall v_row_size (vCons (vVar 5) (vCons (vVar 1) (vCons (vVar 6) (vCons (vOp dIn (vVar 4) (vVar 2)) vNil))))))))) (vRet (vVar 3))))
def v_addresses_of : VP := vFun ["part", "machine", "forms", "addresses", "number", "row", "address"] 3 vb_addresses_of
theorem fp_addresses_of : FP m_addresses_of v_addresses_of := by
  unfold m_addresses_of v_addresses_of b_addresses_of vb_addresses_of
  exact f_Fun (f_Seq (f_Set (f_Lst (f_Cons f_C f_Nil))) (f_Seq (f_For (f_IEn (f_Cons f_Var f_Nil)) (f_gTup (f_gCons f_gName (f_gCons f_gName f_gNil))) (f_Seq (f_Set (f_Look (f_Op f_Var (f_Un f_C)))) (f_Append (f_Op f_Var (f_Call fp_row_size (f_Cons f_Var (f_Cons f_Var (f_Cons f_Var (f_Cons (f_Op f_Var f_Var) f_Nil))))))))) (f_Ret f_Var)))
def b_distance : MS := (mRet (mCl cAbs (mCons (mOp dSub (mOp dIx (mVar 0) (mVar 1)) (mOp dIx (mVar 0) (mVar 2))) mNil)))
def m_distance : MP := mFun ["addresses", "row", "other"] 3 b_distance
def vb_distance : VS := (vRet (vCl cAbs (vCons (vOp dSub (vOp dIx (vVar 0) (vVar 1)) (vOp dIx (vVar 0) (vVar 2))) vNil)))
def v_distance : VP := vFun ["addresses", "row", "other"] 3 vb_distance
theorem fp_distance : FP m_distance v_distance := by
  unfold m_distance v_distance b_distance vb_distance
  exact f_Fun (f_Ret (f_Cl (f_Cons (f_Op (f_Op f_Var f_Var) (f_Op f_Var f_Var)) f_Nil)))
def b_server : MS := (mSeq (mSet 4 (mTup (mCons (mC (.str "word")) (mCons (mOp dIx (mOp dIx (mVar 0) (mVar 3)) (mC (.int 1))) mNil)))) (mSeq (mSet 5 (mLc (mIEn (mCons (mVar 0) mNil)) (mgTup 2 (mgCons (mgName 6) (mgCons (mgName 7) mgNil))) (mTest (mOp dEq (mVar 7) (mVar 4))) (mVar 6) [6, 7])) (mSeq (mSet 8 (mLc (mISeq (mVar 5)) (mgName 9) mYes (mTup (mCons (mCall m_distance (mCons (mVar 1) (mCons (mVar 3) (mCons (mVar 9) mNil)))) (mCons (mVar 9) mNil))) [9])) (mSeq (mSet 10 (mLc (mISeq (mVar 8)) (mgName 11) (mTest (mOp dLe (mOp dIx (mVar 11) (mC (.int 0))) (mVar 2))) (mVar 11) [11])) (mRet (mIf (mTru (mVar 10)) (mOp dIx (mCl cMinD (mCons (mVar 10) mNil)) (mC (.int 1))) (mC .none)))))))
def m_server : MP := mFun ["part", "addresses", "span", "load", "wanted", "words", "number", "row", "away", "word", "near", "pair"] 4 b_server
def vb_server : VS := (vSeqS (vSet 4 (vTup (vCons (vC (.str "word")) (vCons (vOp dIx (vOp dIx (vVar 0) (vVar 3)) (vC (.int 1))) vNil)))) (vSeqS (vSet 5 (vLc (vIEn (vCons (vVar 0) vNil)) (vgTup 2 (vgCons (vgName 6) (vgCons (vgName 7) vgNil))) (vTest (vOp dEq (vVar 7) (vVar 4))) (vVar 6) [6, 7])) (vSeqS (vSet 8 (vLc (vISeq (vVar 5)) (vgName 9) vYes (vTup (vCons (vCall v_distance (vCons (vVar 1) (vCons (vVar 3) (vCons (vVar 9) vNil)))) (vCons (vVar 9) vNil))) [9])) (vSeqS (vSet 10 (vLc (vISeq (vVar 8)) (vgName 11) (vTest (vOp dLe (vOp dIx (vVar 11) (vC (.int 0))) (vVar 2))) (vVar 11) [11])) (vRet (vIf (vTru (vVar 10)) (vOp dIx (vCl cMinD (vCons (vVar 10) vNil)) (vC (.int 1))) (vC .none)))))))
def v_server : VP := vFun ["part", "addresses", "span", "load", "wanted", "words", "number", "row", "away", "word", "near", "pair"] 4 vb_server
theorem fp_server : FP m_server v_server := by
  unfold m_server v_server b_server vb_server
  exact f_Fun (f_Seq (f_Set (f_Tup (f_Cons f_C (f_Cons (f_Op (f_Op f_Var f_Var) f_C) f_Nil)))) (f_Seq (f_Set (f_Lc (f_IEn (f_Cons f_Var f_Nil)) (f_gTup (f_gCons f_gName (f_gCons f_gName f_gNil))) (f_Test (f_Op f_Var f_Var)) f_Var)) (f_Seq (f_Set (f_Lc (f_ISeq f_Var) f_gName f_Yes (f_Tup (f_Cons (f_Call fp_distance (f_Cons f_Var (f_Cons f_Var (f_Cons f_Var f_Nil)))) (f_Cons f_Var f_Nil))))) (f_Seq (f_Set (f_Lc (f_ISeq f_Var) f_gName (f_Test (f_Op (f_Op f_Var f_C) f_Var)) f_Var)) (f_Ret (f_If (f_Tru f_Var) (f_Op (f_Cl (f_Cons f_Var f_Nil)) f_C) f_C))))))
def b_unfit_rows : MS := (mSeq (mSet 3 (mCall m_addresses_of (mCons (mVar 0) (mCons (mVar 1) (mCons (mVar 2) mNil))))) (mRet (mLc (mISeq (mVar 2)) (mgName 4) (mTest (mOp dGt (mCall m_distance (mCons (mVar 3) (mCons (mVar 4) (mCons (mOp dIx (mOp dIx (mVar 0) (mVar 4)) (mC (.int 1))) mNil)))) (mOp dIx (mVar 1) (mC c_REACH)))) (mVar 4) [4])))
def m_unfit_rows : MP := mFun ["part", "machine", "forms", "addresses", "row"] 3 b_unfit_rows
def vb_unfit_rows : VS := (vSeqS (vSet 3 (vCall v_addresses_of (vCons (vVar 0) (vCons (vVar 1) (vCons (vVar 2) vNil))))) (vRet (vLc (vISeq (vVar 2)) (vgName 4) (vTest (vOp dGt (vCall v_distance (vCons (vVar 3) (vCons (vVar 4) (vCons (vOp dIx (vOp dIx (vVar 0) (vVar 4)) (vC (.int 1))) vNil)))) (vOp dIx (vVar 1) (vC c_REACH)))) (vVar 4) [4])))
def v_unfit_rows : VP := vFun ["part", "machine", "forms", "addresses", "row"] 3 vb_unfit_rows
theorem fp_unfit_rows : FP m_unfit_rows v_unfit_rows := by
  unfold m_unfit_rows v_unfit_rows b_unfit_rows vb_unfit_rows
  exact f_Fun (f_Seq (f_Set (f_Call fp_addresses_of (f_Cons f_Var (f_Cons f_Var (f_Cons f_Var f_Nil))))) (f_Ret (f_Lc (f_ISeq f_Var) f_gName (f_Test (f_Op (f_Call fp_distance (f_Cons f_Var (f_Cons f_Var (f_Cons (f_Op (f_Op f_Var f_Var) f_C) f_Nil)))) (f_Op f_Var f_C))) f_Var)))
def b_servers : MS := (mSeq (mSet 3 (mCall m_addresses_of (mCons (mVar 0) (mCons (mVar 1) (mCons (mVar 2) mNil))))) (mSeq (mSet 4 (mLc (mIEn (mCons (mVar 0) mNil)) (mgTup 2 (mgCons (mgName 5) (mgCons (mgName 6) mgNil))) (mTest (mOp dEq (mOp dIx (mVar 6) (mC (.int 0))) (mC (.str "load")))) (mVar 5) [5, 6])) (mRet (mDc (mISeq (mVar 4)) (mgName 7) mYes (mVar 7) (mCall m_server (mCons (mVar 0) (mCons (mVar 3) (mCons (mOp dIx (mVar 1) (mC c_SPAN)) (mCons (mVar 7) mNil))))) [7]))))
def m_servers : MP := mFun ["part", "machine", "forms", "addresses", "loads", "number", "row", "load"] 3 b_servers
def vb_servers : VS := (vSeqS (vSet 3 (vCall v_addresses_of (vCons (vVar 0) (vCons (vVar 1) (vCons (vVar 2) vNil))))) (vSeqS (vSet 4 (vLc (vIEn (vCons (vVar 0) vNil)) (vgTup 2 (vgCons (vgName 5) (vgCons (vgName 6) vgNil))) (vTest (vOp dEq (vOp dIx (vVar 6) (vC (.int 0))) (vC (.str "load")))) (vVar 5) [5, 6])) (vRet (vDc (vISeq (vVar 4)) (vgName 7) vYes (vVar 7) (vCall v_server (vCons (vVar 0) (vCons (vVar 3) (vCons (vOp dIx (vVar 1) (vC c_SPAN)) (vCons (vVar 7) vNil))))) [7]))))
def v_servers : VP := vFun ["part", "machine", "forms", "addresses", "loads", "number", "row", "load"] 3 vb_servers
theorem fp_servers : FP m_servers v_servers := by
  unfold m_servers v_servers b_servers vb_servers
  exact f_Fun (f_Seq (f_Set (f_Call fp_addresses_of (f_Cons f_Var (f_Cons f_Var (f_Cons f_Var f_Nil))))) (f_Seq (f_Set (f_Lc (f_IEn (f_Cons f_Var f_Nil)) (f_gTup (f_gCons f_gName (f_gCons f_gName f_gNil))) (f_Test (f_Op (f_Op f_Var f_C) f_C)) f_Var)) (f_Ret (f_Dc (f_ISeq f_Var) f_gName f_Yes f_Var (f_Call fp_server (f_Cons f_Var (f_Cons f_Var (f_Cons (f_Op f_Var f_C) (f_Cons f_Var f_Nil)))))))))
def b_places : MS := (mSeq (mDrop (mCall m_check_formed (mCons (mVar 0) (mCons (mVar 1) (mCons (mVar 2) mNil))))) (mRet (mCall m_addresses_of (mCons (mVar 0) (mCons (mVar 1) (mCons (mVar 2) mNil))))))
def m_places : MP := mFun ["part", "machine", "forms"] 3 b_places
def vb_places : VS := (vSeqS (vDrop (vCall v_check_formed (vCons (vVar 0) (vCons (vVar 1) (vCons (vVar 2) vNil))))) (vRet (vCall v_addresses_of (vCons (vVar 0) (vCons (vVar 1) (vCons (vVar 2) vNil))))))
def v_places : VP := vFun ["part", "machine", "forms"] 3 vb_places
theorem fp_places : FP m_places v_places := by
  unfold m_places v_places b_places vb_places
  exact f_Fun (f_Seq (f_Drop (f_Call fp_check_formed (f_Cons f_Var (f_Cons f_Var (f_Cons f_Var f_Nil))))) (f_Ret (f_Call fp_addresses_of (f_Cons f_Var (f_Cons f_Var (f_Cons f_Var f_Nil))))))
def b_misfits : MS := (mSeq (mDrop (mCall m_check_formed (mCons (mVar 0) (mCons (mVar 1) (mCons (mVar 2) mNil))))) (mRet (mCall m_unfit_rows (mCons (mVar 0) (mCons (mVar 1) (mCons (mVar 2) mNil))))))
def m_misfits : MP := mFun ["part", "machine", "forms"] 3 b_misfits
def vb_misfits : VS := (vSeqS (vDrop (vCall v_check_formed (vCons (vVar 0) (vCons (vVar 1) (vCons (vVar 2) vNil))))) (vRet (vCall v_unfit_rows (vCons (vVar 0) (vCons (vVar 1) (vCons (vVar 2) vNil))))))
def v_misfits : VP := vFun ["part", "machine", "forms"] 3 vb_misfits
theorem fp_misfits : FP m_misfits v_misfits := by
  unfold m_misfits v_misfits b_misfits vb_misfits
  exact f_Fun (f_Seq (f_Drop (f_Call fp_check_formed (f_Cons f_Var (f_Cons f_Var (f_Cons f_Var f_Nil))))) (f_Ret (f_Call fp_unfit_rows (f_Cons f_Var (f_Cons f_Var (f_Cons f_Var f_Nil))))))
def b_served : MS := (mSeq (mDrop (mCall m_check_formed (mCons (mVar 0) (mCons (mVar 1) (mCons (mVar 2) mNil))))) (mRet (mCall m_servers (mCons (mVar 0) (mCons (mVar 1) (mCons (mVar 2) mNil))))))
def m_served : MP := mFun ["part", "machine", "forms"] 3 b_served
def vb_served : VS := (vSeqS (vDrop (vCall v_check_formed (vCons (vVar 0) (vCons (vVar 1) (vCons (vVar 2) vNil))))) (vRet (vCall v_servers (vCons (vVar 0) (vCons (vVar 1) (vCons (vVar 2) vNil))))))
def v_served : VP := vFun ["part", "machine", "forms"] 3 vb_served
theorem fp_served : FP m_served v_served := by
  unfold m_served v_served b_served vb_served
  exact f_Fun (f_Seq (f_Drop (f_Call fp_check_formed (f_Cons f_Var (f_Cons f_Var (f_Cons f_Var f_Nil))))) (f_Ret (f_Call fp_servers (f_Cons f_Var (f_Cons f_Var (f_Cons f_Var f_Nil))))))
def b_check_even_part : MS := (mSeq (mDrop (mCall m_check_part (mCons (mVar 0) mNil))) (mIfS (mNot (mTest (mCall m_is_even (mCons (mVar 0) mNil)))) mNever mNext))
def m_check_even_part : MP := mFun ["part"] 1 b_check_even_part
def vb_check_even_part : VS := (vSeqS (vDrop (vCall v_check_part (vCons (vVar 0) vNil))) (vIfS (vNot (vTest (vCall v_is_even (vCons (vVar 0) vNil)))) vNever vNext))
def v_check_even_part : VP := vFun ["part"] 1 vb_check_even_part
theorem fp_check_even_part : FP m_check_even_part v_check_even_part := by
  unfold m_check_even_part v_check_even_part b_check_even_part vb_check_even_part
  exact f_Fun (f_Seq (f_Drop (f_Call fp_check_part (f_Cons f_Var f_Nil))) (f_IfS (f_Not (f_Test (f_Call fp_is_even (f_Cons f_Var f_Nil)))) f_Never f_Next))
def b_without : MS := (mRet (mLc (mISeq (mVar 0)) (mgName 2) (mTest (mOp dNe (mVar 2) (mVar 1))) (mVar 2) [2]))
def m_without : MP := mFun ["rows", "row", "other"] 2 b_without
def vb_without : VS := (vRet (vLc (vISeq (vVar 0)) (vgName 2) (vTest (vOp dNe (vVar 2) (vVar 1))) (vVar 2) [2]))
def v_without : VP := vFun ["rows", "row", "other"] 2 vb_without
theorem fp_without : FP m_without v_without := by
  unfold m_without v_without b_without vb_without
  exact f_Fun (f_Ret (f_Lc (f_ISeq f_Var) f_gName (f_Test (f_Op f_Var f_Var)) f_Var))
def b_growth : MS := (mSeq (mSet 2 (mCall m_jump_rows (mCons (mVar 0) mNil))) (mSeq (mSet 3 (mLst mNil)) (mSeq (mSet 4 (mCall m_unfit_rows (mCons (mVar 0) (mCons (mVar 1) (mCons (mVar 2) mNil))))) (mSeq (mWhile (mTru (mVar 4)) (mSeq (mAppend 3 (mOp dIx (mVar 4) (mC (.int 0)))) (mSeq (mSet 2 (mCall m_without (mCons (mVar 2) (mCons (mOp dIx (mVar 4) (mC (.int 0))) mNil)))) (mSet 4 (mCall m_unfit_rows (mCons (mVar 0) (mCons (mVar 1) (mCons (mVar 2) mNil)))))))) (mRet (mTup (mCons (mVar 2) (mCons (mVar 3) mNil))))))))
def m_growth : MP := mFun ["part", "machine", "forms", "chain", "unfit"] 2 b_growth
def vb_growth : VS := (vSeqS (vSet 2 (vCall v_jump_rows (vCons (vVar 0) vNil))) (vSeqS (vSet 3 (vLst vNil)) (vSeqS (vSet 4 (vCall v_unfit_rows (vCons (vVar 0) (vCons (vVar 1) (vCons (vVar 2) vNil))))) (vSeqS (vWhile (vTru (vVar 4)) (vSeqS (vAppend 3 (vOp dIx (vVar 4) (vC (.int 0)))) (vSeqS (vSet 2 (vCall v_without (vCons (vVar 2) (vCons (vOp dIx (vVar 4) (vC (.int 0))) vNil)))) (vSet 4 (vCall v_unfit_rows (vCons (vVar 0) (vCons (vVar 1) (vCons (vVar 2) vNil)))))))) (vRet (vTup (vCons (vVar 2) (vCons (vVar 3) vNil))))))))
def v_growth : VP := vFun ["part", "machine", "forms", "chain", "unfit"] 2 vb_growth
theorem fp_growth : FP m_growth v_growth := by
  unfold m_growth v_growth b_growth vb_growth
  exact f_Fun (f_Seq (f_Set (f_Call fp_jump_rows (f_Cons f_Var f_Nil))) (f_Seq (f_Set (f_Lst f_Nil)) (f_Seq (f_Set (f_Call fp_unfit_rows (f_Cons f_Var (f_Cons f_Var (f_Cons f_Var f_Nil))))) (f_Seq (f_While (f_Tru f_Var) (f_Seq (f_Append (f_Op f_Var f_C)) (f_Seq (f_Set (f_Call fp_without (f_Cons f_Var (f_Cons (f_Op f_Var f_C) f_Nil)))) (f_Set (f_Call fp_unfit_rows (f_Cons f_Var (f_Cons f_Var (f_Cons f_Var f_Nil)))))))) (f_Ret (f_Tup (f_Cons f_Var (f_Cons f_Var f_Nil))))))))
def b_is_chain : MS := (mSeq (mIfS (mNot (mTest (mIsi "list" (mVar 2)))) (mRet (mC (.bool false))) mNext) (mSeq (mSet 3 (mCall m_jump_rows (mCons (mVar 0) mNil))) (mSeq (mFor (mISeq (mVar 2)) (mgName 4) (mSeq (mIfS (mOr (mNot (mTest (mCall m_is_jump_row (mCons (mVar 0) (mCons (mVar 4) mNil))))) (mTest (mOp dNotIn (mVar 4) (mCall m_unfit_rows (mCons (mVar 0) (mCons (mVar 1) (mCons (mVar 3) mNil))))))) (mRet (mC (.bool false))) mNext) (mSet 3 (mCall m_without (mCons (mVar 3) (mCons (mVar 4) mNil)))))) (mRet (mC (.bool true))))))
def m_is_chain : MP := mFun ["part", "machine", "thing", "forms", "row"] 3 b_is_chain
def vb_is_chain : VS := (vSeqS (vIfS (vNot (vTest (vIsi "list" (vVar 2)))) (vRet (vC (.bool false))) vNext) (vSeqS (vSet 3 (vCall v_jump_rows (vCons (vVar 0) vNil))) (vSeqS (vFor (vISeq (vVar 2)) (vgName 4) (vSeqS (vIfS (vOr (vNot (vTest (vCall v_is_jump_row (vCons (vVar 0) (vCons (vVar 4) vNil))))) (vTest (vOp dNotIn (vVar 4) (vCall v_unfit_rows (vCons (vVar 0) (vCons (vVar 1) (vCons (vVar 3) vNil))))))) (vRet (vC (.bool false))) vNext) (vSet 3 (vCall v_without (vCons (vVar 3) (vCons (vVar 4) vNil)))))) (vRet (vC (.bool true))))))
def v_is_chain : VP := vFun ["part", "machine", "thing", "forms", "row"] 3 vb_is_chain
theorem fp_is_chain : FP m_is_chain v_is_chain := by
  unfold m_is_chain v_is_chain b_is_chain vb_is_chain
  exact f_Fun (f_Seq (f_IfS (f_Not (f_Test (f_Isi f_Var))) (f_Ret f_C) f_Next) (f_Seq (f_Set (f_Call fp_jump_rows (f_Cons f_Var f_Nil))) (f_Seq (f_For (f_ISeq f_Var) f_gName (f_Seq (f_IfS (f_Or (f_Not (f_Test (f_Call fp_is_jump_row (f_Cons f_Var (f_Cons f_Var f_Nil))))) (f_Test (f_Op f_Var (f_Call fp_unfit_rows (f_Cons f_Var (f_Cons f_Var (f_Cons f_Var f_Nil))))))) (f_Ret f_C) f_Next) (f_Set (f_Call fp_without (f_Cons f_Var (f_Cons f_Var f_Nil)))))) (f_Ret f_C))))
def b_grown : MS := (mSeq (mDrop (mCall m_check_even_part (mCons (mVar 0) mNil))) (mSeq (mDrop (mCall m_check_machine (mCons (mVar 1) mNil))) (mRet (mCall m_growth (mCons (mVar 0) (mCons (mVar 1) mNil))))))
def m_grown : MP := mFun ["part", "machine"] 2 b_grown
def vb_grown : VS := (vSeqS (vDrop (vCall v_check_even_part (vCons (vVar 0) vNil))) (vSeqS (vDrop (vCall v_check_machine (vCons (vVar 1) vNil))) (vRet (vCall v_growth (vCons (vVar 0) (vCons (vVar 1) vNil))))))
def v_grown : VP := vFun ["part", "machine"] 2 vb_grown
theorem fp_grown : FP m_grown v_grown := by
  unfold m_grown v_grown b_grown vb_grown
  exact f_Fun (f_Seq (f_Drop (f_Call fp_check_even_part (f_Cons f_Var f_Nil))) (f_Seq (f_Drop (f_Call fp_check_machine (f_Cons f_Var f_Nil))) (f_Ret (f_Call fp_growth (f_Cons f_Var (f_Cons f_Var f_Nil))))))
def b_shows_chain : MS := (mSeq (mDrop (mCall m_check_even_part (mCons (mVar 0) mNil))) (mSeq (mDrop (mCall m_check_machine (mCons (mVar 1) mNil))) (mRet (mCall m_is_chain (mCons (mVar 0) (mCons (mVar 1) (mCons (mVar 2) mNil)))))))
def m_shows_chain : MP := mFun ["part", "machine", "thing"] 3 b_shows_chain
def vb_shows_chain : VS := (vSeqS (vDrop (vCall v_check_even_part (vCons (vVar 0) vNil))) (vSeqS (vDrop (vCall v_check_machine (vCons (vVar 1) vNil))) (vRet (vCall v_is_chain (vCons (vVar 0) (vCons (vVar 1) (vCons (vVar 2) vNil)))))))
def v_shows_chain : VP := vFun ["part", "machine", "thing"] 3 vb_shows_chain
theorem fp_shows_chain : FP m_shows_chain v_shows_chain := by
  unfold m_shows_chain v_shows_chain b_shows_chain vb_shows_chain
  exact f_Fun (f_Seq (f_Drop (f_Call fp_check_even_part (f_Cons f_Var f_Nil))) (f_Seq (f_Drop (f_Call fp_check_machine (f_Cons f_Var f_Nil))) (f_Ret (f_Call fp_is_chain (f_Cons f_Var (f_Cons f_Var (f_Cons f_Var f_Nil)))))))
end RC
end
section
namespace RC
open PySem PySem.Spec L2 RR
open PyProof.Rows hiding St
def b__law_size : MS := (mSeq (mIfS (mTest (mOp dIn (mOp dIx (mVar 0) (mC (.int 0))) (mTup (mCons (mC (.str "plain")) (mCons (mC (.str "stop")) mNil))))) (mRet (mOp dIx (mVar 0) (mC (.int 1)))) mNext) (mSeq (mIfS (mTest (mOp dIn (mOp dIx (mVar 0) (mC (.int 0))) (mTup (mCons (mC (.str "jump")) (mCons (mC (.str "branch")) mNil))))) (mRet (mIf (mTest (mVar 2)) (mOp dIx (mVar 1) (mC (.int 0))) (mOp dIx (mVar 1) (mC (.int 2))))) mNext) (mSeq (mIfS (mTest (mOp dEq (mOp dIx (mVar 0) (mC (.int 0))) (mC (.str "align")))) (mRet (mOp dMod (mCl cInt (mCons (mOp dSub (mC (.int 0)) (mVar 3)) mNil)) (mOp dIx (mVar 0) (mC (.int 1))))) mNext) (mRet (mOp dIx (mVar 1) (mOp dIx (mDisp (mpCons (mC (.str "far")) (mC (.int 3)) (mpCons (mC (.str "load")) (mC (.int 5)) (mpCons (mC (.str "word")) (mC (.int 7)) mpNil)))) (mOp dIx (mVar 0) (mC (.int 0)))))))))
def m__law_size : MP := mFun ["row", "machine", "is_short", "at"] 4 b__law_size
def vb__law_size : VS := (vSeqS (vIfS (vTest (vOp dIn (vOp dIx (vVar 0) (vC (.int 0))) (vTup (vCons (vC (.str "plain")) (vCons (vC (.str "stop")) vNil))))) (vRet (vOp dIx (vVar 0) (vC (.int 1)))) vNext) (vSeqS (vIfS (vTest (vOp dIn (vOp dIx (vVar 0) (vC (.int 0))) (vTup (vCons (vC (.str "jump")) (vCons (vC (.str "branch")) vNil))))) (vRet (vIf (vTest (vVar 2)) (vOp dIx (vVar 1) (vC (.int 0))) (vOp dIx (vVar 1) (vC (.int 2))))) vNext) (vSeqS (vIfS (vTest (vOp dEq (vOp dIx (vVar 0) (vC (.int 0))) (vC (.str "align")))) (vRet (vOp dMod (vCl cInt (vCons (vOp dSub (vC (.int 0)) (vVar 3)) vNil)) (vOp dIx (vVar 0) (vC (.int 1))))) vNext) (vRet (vOp dIx (vVar 1) (vOp dIx (vDisp (vpCons (vC (.str "far")) (vC (.int 3)) (vpCons (vC (.str "load")) (vC (.int 5)) (vpCons (vC (.str "word")) (vC (.int 7)) vpNil)))) (vOp dIx (vVar 0) (vC (.int 0)))))))))
def v__law_size : VP := vFun ["row", "machine", "is_short", "at"] 4 vb__law_size
theorem fp__law_size : FP m__law_size v__law_size := by
  unfold m__law_size v__law_size b__law_size vb__law_size
  exact f_Fun (f_Seq (f_IfS (f_Test (f_Op (f_Op f_Var f_C) (f_Tup (f_Cons f_C (f_Cons f_C f_Nil))))) (f_Ret (f_Op f_Var f_C)) f_Next) (f_Seq (f_IfS (f_Test (f_Op (f_Op f_Var f_C) (f_Tup (f_Cons f_C (f_Cons f_C f_Nil))))) (f_Ret (f_If (f_Test f_Var) (f_Op f_Var f_C) (f_Op f_Var f_C))) f_Next) (f_Seq (f_IfS (f_Test (f_Op (f_Op f_Var f_C) f_C)) (f_Ret (f_Op (f_Cl (f_Cons (f_Op f_C f_Var) f_Nil)) (f_Op f_Var f_C))) f_Next) (f_Ret (f_Op f_Var (f_Op (f_Disp (f_pCons f_C f_C (f_pCons f_C f_C (f_pCons f_C f_C f_pNil)))) (f_Op f_Var f_C)))))))
def b__law_places : MS := (mSeq (mPar [3, 4] (mCons (mLst mNil) (mCons (mC (.int 0)) mNil))) (mSeq (mFor (mIEn (mCons (mVar 0) mNil)) (mgTup 2 (mgCons (mgName 5) (mgCons (mgName 6) mgNil))) (mSeq (mAppend 3 (mVar 4)) (mSet 4 (mOp dAdd (mVar 4) (mCall m__law_size (mCons (mVar 6) (mCons (mVar 1) (mCons (mOp dIn (mVar 5) (mVar 2)) (mCons (mVar 4) mNil))))))))) (mRet (mOp dAdd (mVar 3) (mLst (mCons (mVar 4) mNil))))))
def m__law_places : MP := mFun ["part", "machine", "forms", "found", "at", "number", "row"] 3 b__law_places
def vb__law_places : VS := (vSeqS (vPar [3, 4] (vCons (vLst vNil) (vCons (vC (.int 0)) vNil))) (vSeqS (vFor (vIEn (vCons (vVar 0) vNil)) (vgTup 2 (vgCons (vgName 5) (vgCons (vgName 6) vgNil))) (vSeqS (vAppend 3 (vVar 4)) (vSet 4 (vOp dAdd (vVar 4) (vCall v__law_size (vCons (vVar 6) (vCons (vVar 1) (vCons (vOp dIn (vVar 5) (vVar 2)) (vCons (vVar 4) vNil))))))))) (vRet (vOp dAdd (vVar 3) (vLst (vCons (vVar 4) vNil))))))
def v__law_places : VP := vFun ["part", "machine", "forms", "found", "at", "number", "row"] 3 vb__law_places
theorem fp__law_places : FP m__law_places v__law_places := by
  unfold m__law_places v__law_places b__law_places vb__law_places
  exact f_Fun (f_Seq (f_Par (f_Cons (f_Lst f_Nil) (f_Cons f_C f_Nil))) (f_Seq (f_For (f_IEn (f_Cons f_Var f_Nil)) (f_gTup (f_gCons f_gName (f_gCons f_gName f_gNil))) (f_Seq (f_Append f_Var) (f_Set (f_Op f_Var (f_Call fp__law_size (f_Cons f_Var (f_Cons f_Var (f_Cons (f_Op f_Var f_Var) (f_Cons f_Var f_Nil))))))))) (f_Ret (f_Op f_Var (f_Lst (f_Cons f_Var f_Nil))))))
def b__law_misfits : MS := (mSeq (mSet 3 (mCall m__law_places (mCons (mVar 0) (mCons (mVar 1) (mCons (mVar 2) mNil))))) (mRet (mLc (mISeq (mVar 2)) (mgName 4) (mTest (mOp dGt (mCl cAbs (mCons (mOp dSub (mOp dIx (mVar 3) (mOp dIx (mOp dIx (mVar 0) (mVar 4)) (mC (.int 1)))) (mOp dIx (mVar 3) (mVar 4))) mNil)) (mOp dIx (mVar 1) (mC (.int 1))))) (mVar 4) [4])))
def m__law_misfits : MP := mFun ["part", "machine", "forms", "found", "row"] 3 b__law_misfits
def vb__law_misfits : VS := (vSeqS (vSet 3 (vCall v__law_places (vCons (vVar 0) (vCons (vVar 1) (vCons (vVar 2) vNil))))) (vRet (vLc (vISeq (vVar 2)) (vgName 4) (vTest (vOp dGt (vCl cAbs (vCons (vOp dSub (vOp dIx (vVar 3) (vOp dIx (vOp dIx (vVar 0) (vVar 4)) (vC (.int 1)))) (vOp dIx (vVar 3) (vVar 4))) vNil)) (vOp dIx (vVar 1) (vC (.int 1))))) (vVar 4) [4])))
def v__law_misfits : VP := vFun ["part", "machine", "forms", "found", "row"] 3 vb__law_misfits
theorem fp__law_misfits : FP m__law_misfits v__law_misfits := by
  unfold m__law_misfits v__law_misfits b__law_misfits vb__law_misfits
  exact f_Fun (f_Seq (f_Set (f_Call fp__law_places (f_Cons f_Var (f_Cons f_Var (f_Cons f_Var f_Nil))))) (f_Ret (f_Lc (f_ISeq f_Var) f_gName (f_Test (f_Op (f_Cl (f_Cons (f_Op (f_Op f_Var (f_Op (f_Op f_Var f_Var) f_C)) (f_Op f_Var f_Var)) f_Nil)) (f_Op f_Var f_C))) f_Var)))
def b__law_jumps : MS := (mRet (mLc (mIEn (mCons (mVar 0) mNil)) (mgTup 2 (mgCons (mgName 1) (mgCons (mgName 2) mgNil))) (mTest (mOp dIn (mOp dIx (mVar 2) (mC (.int 0))) (mTup (mCons (mC (.str "jump")) (mCons (mC (.str "branch")) mNil))))) (mVar 1) [1, 2]))
def m__law_jumps : MP := mFun ["part", "number", "row"] 1 b__law_jumps
def vb__law_jumps : VS := (vRet (vLc (vIEn (vCons (vVar 0) vNil)) (vgTup 2 (vgCons (vgName 1) (vgCons (vgName 2) vgNil))) (vTest (vOp dIn (vOp dIx (vVar 2) (vC (.int 0))) (vTup (vCons (vC (.str "jump")) (vCons (vC (.str "branch")) vNil))))) (vVar 1) [1, 2]))
def v__law_jumps : VP := vFun ["part", "number", "row"] 1 vb__law_jumps
theorem fp__law_jumps : FP m__law_jumps v__law_jumps := by
  unfold m__law_jumps v__law_jumps b__law_jumps vb__law_jumps
  exact f_Fun (f_Ret (f_Lc (f_IEn (f_Cons f_Var f_Nil)) (f_gTup (f_gCons f_gName (f_gCons f_gName f_gNil))) (f_Test (f_Op (f_Op f_Var f_C) (f_Tup (f_Cons f_C (f_Cons f_C f_Nil))))) f_Var))
end RC
end
section
namespace RC
open PySem PySem.Spec L2 RR
open PyProof.Rows hiding St
end RC
end
section
namespace RC
open PySem PySem.Spec L2 RR
open PyProof.Rows hiding St
def b__law_spread_v2 : MS := (mSeq (mIfS (mTest (mOp dGe (mVar 0) (mOp dPow (mC (.int 10)) (mC (.int 18))))) (mRet (mVar 0)) mNext) (mSeq (mSet 2 (mLst (mCons (mC (.int 2147483629)) (mCons (mC (.int 2147483587)) (mCons (mC (.int 2147483579)) (mCons (mC (.int 2147483563)) (mCons (mC (.int 2147483549)) (mCons (mC (.int 2147483543)) (mCons (mC (.int 2147483497)) (mCons (mC (.int 2147483489)) mNil)))))))))) (mSeq (mSet 2 (mOp dAdd (mVar 2) (mLst (mCons (mC (.int 2147483477)) (mCons (mC (.int 2147483423)) (mCons (mC (.int 2147483399)) (mCons (mC (.int 2147483353)) (mCons (mC (.int 2147483323)) mNil)))))))) (mSeq (mSet 3 (mOp dMul (mOp dMod (mCl cInt (mCons (mVar 0) mNil)) (mC (.int 1000000007))) (mOp dAdd (mOp dMul (mC (.int 2)) (mVar 1)) (mC (.int 69069))))) (mSeq (mSet 3 (mOp dMod (mCl cInt (mCons (mOp dPow (mOp dAdd (mOp dAdd (mVar 3) (mOp dMul (mVar 1) (mC (.int 40503)))) (mC (.int 977))) (mC (.int 3))) mNil)) (mOp dIx (mVar 2) (mOp dMod (mCl cInt (mCons (mVar 1) mNil)) (mC (.int 13)))))) (mSeq (mSet 4 (mOp dMod (mCl cInt (mCons (mOp dPow (mOp dAdd (mOp dAdd (mOp dMul (mVar 3) (mOp dAdd (mVar 1) (mC (.int 3)))) (mOp dMod (mCl cInt (mCons (mVar 0) mNil)) (mC (.int 65537)))) (mC (.int 5))) (mC (.int 5))) mNil)) (mOp dIx (mVar 2) (mOp dMod (mCl cInt (mCons (mOp dAdd (mVar 1) (mC (.int 5))) mNil)) (mC (.int 13)))))) (mSeq (mSet 5 (mOp dMod (mCl cInt (mCons (mOp dPow (mOp dAdd (mOp dAdd (mVar 4) (mOp dMod (mCl cInt (mCons (mVar 3) mNil)) (mC (.int 1009)))) (mVar 1)) (mC (.int 3))) mNil)) (mOp dIx (mVar 2) (mOp dMod (mCl cInt (mCons (mOp dAdd (mVar 1) (mC (.int 7))) mNil)) (mC (.int 13)))))) (mRet (mOp dAdd (mOp dMul (mOp dAdd (mOp dMul (mVar 3) (mC (.int 2147483647))) (mVar 4)) (mC (.int 2147483647))) (mVar 5))))))))))
def m__law_spread_v2 : MP := mFun ["cell", "at", "primes", "one", "two", "three"] 2 b__law_spread_v2
local macro_rules | `(tactic| walk_at "st") => `(tactic| first
  | refine ⟨_, rfl, ?_⟩
  | refine ⟨rfl, ?_⟩
  | refine ⟨by decide, ?_⟩)
theorem spread_ok_law_spread_v2 : SpreadOk m__law_spread_v2 := by
  intro c w R h0 h1 q
  obtain ⟨p1, e1, a1, b1⟩ := primes_at (w % 13) (Int.emod_nonneg _ (by decide)) (Int.emod_lt_of_pos _ (by decide))
  obtain ⟨p2, e2, a2, b2⟩ := primes_at ((w + 5) % 13) (Int.emod_nonneg _ (by decide)) (Int.emod_lt_of_pos _ (by decide))
  obtain ⟨p3, e3, a3, b3⟩ := primes_at ((w + 7) % 13) (Int.emod_nonneg _ (by decide)) (Int.emod_lt_of_pos _ (by decide))
  unfold m__law_spread_v2 b__law_spread_v2
  have hx0 : 0 ≤ c % 1000000007 := Int.emod_nonneg _ (by decide)
  have hx1 : c % 1000000007 < 1000000007 := Int.emod_lt_of_pos _ (by decide)
  have hy0 : 0 ≤ c % 65537 := Int.emod_nonneg _ (by decide)
  have hy1 : c % 65537 < 65537 := Int.emod_lt_of_pos _ (by decide)
  have m1 := mulb hx0 (show c % 1000000007 ≤ 1000000007 by omega) (show 0 ≤ 2 * w + 69069 by omega) (show 2 * w + 69069 ≤ 3000000 by omega)
  repeat walk_at "st"
  refine iteB (fun h => ?_) (fun h => ?_)
  · repeat walk_at "st"
    exact q c (Int.le_trans (by decide) h)
  · repeat walk_at "st"
    refine ⟨_, if_some (.inl ⟨by omega, by omega⟩), ?_⟩
    repeat walk_at "st"
    generalize c % 1000000007 * (2 * w + 69069) = z at m1 ⊢
    refine ⟨_, if_some (.inr ⟨by decide, by decide⟩), ?_⟩
    repeat walk_at "st"
    refine ⟨_, if_some ⟨by decide, by decide, by omega⟩, ?_⟩
    repeat walk_at "st"
    refine ⟨_, e1, ?_⟩
    refine ⟨_, if_some a1, ?_⟩
    repeat walk_at "st"
    have hu0 : 0 ≤ (z + w * 40503 + 977) ^ (3 : Int).toNat % p1 := Int.emod_nonneg _ (by omega)
    have hu1 : (z + w * 40503 + 977) ^ (3 : Int).toNat % p1 < p1 := Int.emod_lt_of_pos _ a1
    generalize (z + w * 40503 + 977) ^ (3 : Int).toNat % p1 = u at hu0 hu1 ⊢
    refine ⟨_, if_some (.inl ⟨by omega, by omega⟩), ?_⟩
    repeat walk_at "st"
    have m2 := mulb hu0 (show u ≤ 2147483648 by omega) (show 0 ≤ w + 3 by omega) (show w + 3 ≤ 1048579 by omega)
    generalize u * (w + 3) = z2 at m2 ⊢
    refine ⟨_, if_some ⟨by decide, by decide, by omega⟩, ?_⟩
    repeat walk_at "st"
    refine ⟨_, e2, ?_⟩
    refine ⟨_, if_some a2, ?_⟩
    repeat walk_at "st"
    generalize hv : (z2 + c % 65537 + 5) ^ (5 : Int).toNat % p2 = v
    have hv0 : 0 ≤ v := by rw [← hv]; exact Int.emod_nonneg _ (by omega)
    have hv1 : v < p2 := by rw [← hv]; exact Int.emod_lt_of_pos _ a2
    have hr0 : 0 ≤ u % 1009 := Int.emod_nonneg _ (by decide)
    have hr1 : u % 1009 < 1009 := Int.emod_lt_of_pos _ (by decide)
    refine ⟨_, if_some ⟨by decide, by decide, by omega⟩, ?_⟩
    repeat walk_at "st"
    refine ⟨_, e3, ?_⟩
    refine ⟨_, if_some a3, ?_⟩
    repeat walk_at "st"
    refine ⟨_, if_some (.inr ⟨by decide, by decide⟩), ?_⟩
    repeat walk_at "st"
    refine ⟨_, if_some (.inr ⟨by decide, by decide⟩), ?_⟩
    repeat walk_at "st"
    have ht0 : 0 ≤ (v + u % 1009 + w) ^ (3 : Int).toNat % p3 := Int.emod_nonneg _ (by omega)
    exact q _ (by omega)
abbrev m__law_take_v2 : MF := m_take
def b__law_w_pick : MS := (mRet (mOp dIx (mVar 1) (mCallP m__law_take_v2 (mCons (mCl cLen (mCons (mVar 1) mNil)) mNil))))
def m__law_w_pick : MF := mFunP ["pen", "some"] 1 b__law_w_pick
def b__law_w_words : MS := (mSeq (mSet 3 (mOp dAdd (mLst (mCons (mC (.str "plain")) (mCons (mC (.str "plain")) (mCons (mC (.str "branch")) (mCons (mC (.str "load")) mNil))))) (mOp dMul (mLst (mCons (mC (.str "align")) mNil)) (mCl cInt (mCons (mNotV (mVar 2)) mNil))))) (mSeq (mSet 4 (mLst mNil)) (mSeq (mFor (mIR1 (mCons (mOp dAdd (mC (.int 1)) (mCallP m__law_take_v2 (mCons (mC (.int 2)) mNil))) mNil)) (mgName 5) (mSeq (mSet 4 (mOp dAdd (mVar 4) (mLc (mIR1 (mCons (mCallP m__law_take_v2 (mCons (mOp dAdd (mVar 1) (mC (.int 1))) mNil)) mNil)) (mgName 6) mYes (mCallP m__law_w_pick (mCons (mVar 3) mNil)) [6]))) (mSet 4 (mOp dAdd (mOp dAdd (mVar 4) (mLst (mCons (mCallP m__law_w_pick (mCons (mLst (mCons (mC (.str "stop")) (mCons (mC (.str "jump")) (mCons (mC (.str "far")) (mCons (mC (.str "far")) mNil))))) mNil)) mNil))) (mOp dMul (mLst (mCons (mC (.str "word")) mNil)) (mCallP m__law_w_pick (mCons (mLst (mCons (mC (.int 0)) (mCons (mC (.int 0)) (mCons (mC (.int 1)) mNil)))) mNil))))))) (mRet (mVar 4)))))
def m__law_w_words : MF := mFunP ["pen", "longest", "evenly", "some", "row", "turn", "once"] 2 b__law_w_words
def b__law_w_part : MS := (mSeq (mSet 3 (mCallP m__law_w_words (mCons (mVar 1) (mCons (mOp dGt (mCallP m__law_take_v2 (mCons (mC (.int 3)) mNil)) (mC (.int 0))) mNil)))) (mSeq (mIfS (mTest (mOp dGt (mOp dAdd (mCnt (mVar 3) (mC (.str "jump"))) (mCnt (mVar 3) (mC (.str "branch")))) (mC (.int 3)))) (mSet 3 (mLc (mISeq (mVar 3)) (mgName 4) (mTest (mOp dNe (mVar 4) (mC (.str "align")))) (mVar 4) [4])) mNext) (mSeq (mPar [5, 6] (mCons (mLc (mIEn (mCons (mVar 3) mNil)) (mgTup 2 (mgCons (mgName 7) (mgCons (mgName 4) mgNil))) (mTest (mOp dNe (mVar 4) (mC (.str "word")))) (mVar 7) [7, 4]) (mCons (mLst mNil) mNil))) (mSeq (mFor (mISeq (mVar 3)) (mgName 4) (mIfS (mTest (mOp dEq (mVar 4) (mC (.str "plain")))) (mAppend 6 (mTup (mCons (mVar 4) (mCons (mCallP m__law_w_pick (mCons (mLst (mCons (mC (.int 1)) (mCons (mC (.int 2)) (mCons (mC (.int 7)) (mCons (mC (.int 20)) (mCons (mOp dAdd (mC (.int 1)) (mCallP m__law_take_v2 (mCons (mC (.int 60)) mNil))) mNil)))))) mNil)) (mCons (mCallP m__law_take_v2 (mCons (mC (.int 4)) mNil)) mNil))))) (mIfS (mTest (mOp dIn (mVar 4) (mTup (mCons (mC (.str "jump")) (mCons (mC (.str "branch")) mNil))))) (mAppend 6 (mTup (mCons (mVar 4) (mCons (mCallP m__law_w_pick (mCons (mVar 5) mNil)) mNil)))) (mIfS (mTest (mOp dEq (mVar 4) (mC (.str "align")))) (mAppend 6 (mTup (mCons (mVar 4) (mCons (mCallP m__law_w_pick (mCons (mLst (mCons (mC (.int 2)) (mCons (mC (.int 4)) (mCons (mC (.int 8)) (mCons (mC (.int 16)) mNil))))) mNil)) mNil)))) (mSeq (mSet 8 (mGet2 (mDisp (mpCons (mC (.str "stop")) (mC (.int 9)) (mpCons (mC (.str "far")) (mVar 2) mpNil))) (mVar 4) (mC (.int 3)))) (mAppend 6 (mTup (mCons (mVar 4) (mCons (mOp dAdd (mCallP m__law_take_v2 (mCons (mVar 8) mNil)) (mCl cInt (mCons (mOp dEq (mVar 4) (mC (.str "stop"))) mNil))) mNil))))))))) (mRet (mCl cTuple (mCons (mVar 6) mNil)))))))
def m__law_w_part : MF := mFunP ["pen", "longest", "parts", "words", "word", "goals", "rows", "number", "most"] 2 b__law_w_part
def b__law_w_book : MS := (mSeq (mSet 3 (mOp dAdd (mC (.int 1)) (mCallP m__law_take_v2 (mCons (mVar 1) mNil)))) (mSeq (mSet 4 (mLc (mIR1 (mCons (mVar 3) mNil)) (mgName 5) mYes (mCallP m__law_w_part (mCons (mVar 2) (mCons (mVar 3) mNil))) [5])) (mRet (mCl cTuple (mCons (mIf (mAnd (mTest (mOp dGt (mVar 3) (mC (.int 1)))) (mTest (mOp dEq (mCallP m__law_take_v2 (mCons (mC (.int 6)) mNil)) (mC (.int 0))))) (mOp dAdd (mOp dMul (mSl (mVar 4) mNoPart (mPart (mC (.int 1)))) (mC (.int 2))) (mSl (mVar 4) (mPart (mC (.int 2))) mNoPart)) (mVar 4)) mNil)))))
def m__law_w_book : MF := mFunP ["pen", "most", "longest", "many", "found", "number"] 2 b__law_w_book
def b__law_w_shifted : MS := (mRet (mCl cTuple (mCons (mLc (mISeq (mVar 0)) (mgName 1) mYes (mIf (mTest (mOp dIn (mOp dIx (mVar 1) (mC (.int 0))) (mTup (mCons (mC (.str "jump")) (mCons (mC (.str "branch")) mNil))))) (mTup (mCons (mOp dIx (mVar 1) (mC (.int 0))) (mCons (mOp dAdd (mOp dIx (mVar 1) (mC (.int 1))) (mC (.int 1))) mNil))) (mVar 1)) [1]) mNil)))
def m__law_w_shifted : MP := mFun ["part", "row"] 1 b__law_w_shifted
def vb__law_w_shifted : VS := (vRet (vCl cTuple (vCons (vLc (vISeq (vVar 0)) (vgName 1) vYes (vIf (vTest (vOp dIn (vOp dIx (vVar 1) (vC (.int 0))) (vTup (vCons (vC (.str "jump")) (vCons (vC (.str "branch")) vNil))))) (vTup (vCons (vOp dIx (vVar 1) (vC (.int 0))) (vCons (vOp dAdd (vOp dIx (vVar 1) (vC (.int 1))) (vC (.int 1))) vNil))) (vVar 1)) [1]) vNil)))
def v__law_w_shifted : VP := vFun ["part", "row"] 1 vb__law_w_shifted
theorem fp__law_w_shifted : FP m__law_w_shifted v__law_w_shifted := by
  unfold m__law_w_shifted v__law_w_shifted b__law_w_shifted vb__law_w_shifted
  exact f_Fun (f_Ret (f_Cl (f_Cons (f_Lc (f_ISeq f_Var) f_gName f_Yes (f_If (f_Test (f_Op (f_Op f_Var f_C) (f_Tup (f_Cons f_C (f_Cons f_C f_Nil))))) (f_Tup (f_Cons (f_Op f_Var f_C) (f_Cons (f_Op (f_Op f_Var f_C) f_C) f_Nil))) f_Var)) f_Nil)))
def b__law_w_machine : MS := (mSeq (mPar [1, 2] (mCons (mOp dAdd (mC (.int 1)) (mCallP m__law_take_v2 (mCons (mC (.int 3)) mNil))) (mCons (mCallP m__law_w_pick (mCons (mLst (mCons (mC (.int 0)) (mCons (mC (.int 3)) (mCons (mC (.int 10)) (mCons (mC (.int 25)) (mCons (mC (.int 50)) (mCons (mCallP m__law_take_v2 (mCons (mC (.int 60)) mNil)) mNil))))))) mNil)) mNil))) (mSeq (mSet 3 (mCallP m__law_w_pick (mCons (mLst (mCons (mC (.int 20)) (mCons (mC (.int 50)) (mCons (mC (.int 80)) (mCons (mC (.int 120)) (mCons (mC (.int 200)) (mCons (mCallP m__law_take_v2 (mCons (mC (.int 300)) mNil)) (mCons (mC (.int 9999)) mNil)))))))) mNil))) (mSeq (mSet 4 (mTup (mCons (mVar 1) (mCons (mVar 2) (mCons (mOp dAdd (mOp dAdd (mVar 1) (mC (.int 1))) (mCallP m__law_take_v2 (mCons (mC (.int 6)) mNil))) (mCons (mOp dAdd (mC (.int 1)) (mCallP m__law_take_v2 (mCons (mC (.int 6)) mNil))) (mCons (mVar 3) (mCons (mOp dAdd (mC (.int 1)) (mCallP m__law_take_v2 (mCons (mC (.int 4)) mNil))) mNil)))))))) (mRet (mOp dAdd (mVar 4) (mTup (mCons (mCallP m__law_w_pick (mCons (mLst (mCons (mC (.int 0)) (mCons (mC (.int 20)) (mCons (mC (.int 60)) (mCons (mC (.int 999)) mNil))))) mNil)) (mCons (mOp dAdd (mC (.int 1)) (mCallP m__law_take_v2 (mCons (mC (.int 8)) mNil))) mNil))))))))
def m__law_w_machine : MF := mFunP ["pen", "short", "reach", "leap", "machine"] 0 b__law_w_machine
def b_opens : MS := (mRet (mOp dEq (mOp dIx (mVar 0) (mC (.int 0))) (mTup (mCons (mC (.str "plain")) (mCons (mOp dIx (mVar 1) (mC c_FAR)) (mCons (mC (.int 0)) mNil))))))
def m_opens : MP := mFun ["part", "machine"] 2 b_opens
def vb_opens : VS := (vRet (vOp dEq (vOp dIx (vVar 0) (vC (.int 0))) (vTup (vCons (vC (.str "plain")) (vCons (vOp dIx (vVar 1) (vC c_FAR)) (vCons (vC (.int 0)) vNil))))))
def v_opens : VP := vFun ["part", "machine"] 2 vb_opens
theorem fp_opens : FP m_opens v_opens := by
  unfold m_opens v_opens b_opens vb_opens
  exact f_Fun (f_Ret (f_Op (f_Op f_Var f_C) (f_Tup (f_Cons f_C (f_Cons (f_Op f_Var f_C) (f_Cons f_C f_Nil))))))
def b_has_door : MS := (mSeq (mDrop (mCall m_check_part (mCons (mVar 0) mNil))) (mSeq (mDrop (mCall m_check_machine (mCons (mVar 1) mNil))) (mRet (mCall m_opens (mCons (mVar 0) (mCons (mVar 1) mNil))))))
def m_has_door : MP := mFun ["part", "machine"] 2 b_has_door
def vb_has_door : VS := (vSeqS (vDrop (vCall v_check_part (vCons (vVar 0) vNil))) (vSeqS (vDrop (vCall v_check_machine (vCons (vVar 1) vNil))) (vRet (vCall v_opens (vCons (vVar 0) (vCons (vVar 1) vNil))))))
def v_has_door : VP := vFun ["part", "machine"] 2 vb_has_door
theorem fp_has_door : FP m_has_door v_has_door := by
  unfold m_has_door v_has_door b_has_door vb_has_door
  exact f_Fun (f_Seq (f_Drop (f_Call fp_check_part (f_Cons f_Var f_Nil))) (f_Seq (f_Drop (f_Call fp_check_machine (f_Cons f_Var f_Nil))) (f_Ret (f_Call fp_opens (f_Cons f_Var (f_Cons f_Var f_Nil))))))
def b_is_part_number : MS := (mRet (mCall m_is_within (mCons (mVar 1) (mCons (mC (.int 0)) (mCons (mOp dSub (mCl cLen (mCons (mVar 0) mNil)) (mC (.int 1))) mNil)))))
def m_is_part_number : MP := mFun ["book", "thing"] 2 b_is_part_number
def vb_is_part_number : VS := (vRet (vCall v_is_within (vCons (vVar 1) (vCons (vC (.int 0)) (vCons (vOp dSub (vCl cLen (vCons (vVar 0) vNil)) (vC (.int 1))) vNil)))))
def v_is_part_number : VP := vFun ["book", "thing"] 2 vb_is_part_number
theorem fp_is_part_number : FP m_is_part_number v_is_part_number := by
  unfold m_is_part_number v_is_part_number b_is_part_number vb_is_part_number
  exact f_Fun (f_Ret (f_Call fp_is_within (f_Cons f_Var (f_Cons f_C (f_Cons (f_Op (f_Cl (f_Cons f_Var f_Nil)) f_C) f_Nil)))))
def b_with_part : MS := (mRet (mOp dAdd (mOp dAdd (mSl (mVar 0) mNoPart (mPart (mVar 1))) (mTup (mCons (mVar 2) mNil))) (mSl (mVar 0) (mPart (mOp dAdd (mVar 1) (mC (.int 1)))) mNoPart)))
def m_with_part : MP := mFun ["book", "p", "part"] 3 b_with_part
def vb_with_part : VS := (vRet (vOp dAdd (vOp dAdd (vSl (vVar 0) vNoPart (vPart (vVar 1))) (vTup (vCons (vVar 2) vNil))) (vSl (vVar 0) (vPart (vOp dAdd (vVar 1) (vC (.int 1)))) vNoPart)))
def v_with_part : VP := vFun ["book", "p", "part"] 3 vb_with_part
theorem fp_with_part : FP m_with_part v_with_part := by
  unfold m_with_part v_with_part b_with_part vb_with_part
  exact f_Fun (f_Ret (f_Op (f_Op (f_Sl f_Var f_NoPart (f_Part f_Var)) (f_Tup (f_Cons f_Var f_Nil))) (f_Sl f_Var (f_Part (f_Op f_Var f_C)) f_NoPart)))
def b_twin_of : MS := (mSeq (mSet 3 (mOp dAdd (mTup (mCons (mTup (mCons (mC (.str "far")) (mCons (mCl cLen (mCons (mVar 0) mNil)) mNil))) mNil)) (mSl (mOp dIx (mVar 0) (mVar 1)) (mPart (mC (.int 1))) mNoPart))) (mRet (mOp dAdd (mCall m_with_part (mCons (mVar 0) (mCons (mVar 1) (mCons (mVar 3) mNil)))) (mTup (mCons (mVar 2) mNil)))))
def m_twin_of : MP := mFun ["book", "p", "part", "through"] 3 b_twin_of
def vb_twin_of : VS := (vSeqS (vSet 3 (vOp dAdd (vTup (vCons (vTup (vCons (vC (.str "far")) (vCons (vCl cLen (vCons (vVar 0) vNil)) vNil))) vNil)) (vSl (vOp dIx (vVar 0) (vVar 1)) (vPart (vC (.int 1))) vNoPart))) (vRet (vOp dAdd (vCall v_with_part (vCons (vVar 0) (vCons (vVar 1) (vCons (vVar 3) vNil)))) (vTup (vCons (vVar 2) vNil)))))
def v_twin_of : VP := vFun ["book", "p", "part", "through"] 3 vb_twin_of
theorem fp_twin_of : FP m_twin_of v_twin_of := by
  unfold m_twin_of v_twin_of b_twin_of vb_twin_of
  exact f_Fun (f_Seq (f_Set (f_Op (f_Tup (f_Cons (f_Tup (f_Cons f_C (f_Cons (f_Cl (f_Cons f_Var f_Nil)) f_Nil))) f_Nil)) (f_Sl (f_Op f_Var f_Var) (f_Part f_C) f_NoPart))) (f_Ret (f_Op (f_Call fp_with_part (f_Cons f_Var (f_Cons f_Var (f_Cons f_Var f_Nil)))) (f_Tup (f_Cons f_Var f_Nil)))))
def b_check_twin : MS := (mSeq (mIfS (mOr (mNot (mTest (mCall m_is_part_number (mCons (mVar 0) (mCons (mVar 2) mNil))))) (mNot (mTest (mCall m_opens (mCons (mOp dIx (mVar 0) (mVar 2)) (mCons (mVar 1) mNil)))))) mNever mNext) (mIfS (mNot (mTest (mCall m_is_book (mCons (mCall m_twin_of (mCons (mVar 0) (mCons (mVar 2) (mCons (mVar 3) mNil)))) mNil)))) mNever mNext))
def m_check_twin : MP := mFun ["book", "machine", "p", "part"] 4 b_check_twin
def vb_check_twin : VS := (vSeqS (vIfS (vOr (vNot (vTest (vCall v_is_part_number (vCons (vVar 0) (vCons (vVar 2) vNil))))) (vNot (vTest (vCall v_opens (vCons (vOp dIx (vVar 0) (vVar 2)) (vCons (vVar 1) vNil)))))) vNever vNext) (vIfS (vNot (vTest (vCall v_is_book (vCons (vCall v_twin_of (vCons (vVar 0) (vCons (vVar 2) (vCons (vVar 3) vNil)))) vNil)))) vNever vNext))
def v_check_twin : VP := vFun ["book", "machine", "p", "part"] 4 vb_check_twin
theorem fp_check_twin : FP m_check_twin v_check_twin := by
  unfold m_check_twin v_check_twin b_check_twin vb_check_twin
  exact f_Fun (f_Seq (f_IfS (f_Or (f_Not (f_Test (f_Call fp_is_part_number (f_Cons f_Var (f_Cons f_Var f_Nil))))) (f_Not (f_Test (f_Call fp_opens (f_Cons (f_Op f_Var f_Var) (f_Cons f_Var f_Nil)))))) f_Never f_Next) (f_IfS (f_Not (f_Test (f_Call fp_is_book (f_Cons (f_Call fp_twin_of (f_Cons f_Var (f_Cons f_Var (f_Cons f_Var f_Nil)))) f_Nil)))) f_Never f_Next))
def b_twin : MS := (mSeq (mDrop (mCall m_check_book (mCons (mVar 0) mNil))) (mSeq (mDrop (mCall m_check_machine (mCons (mVar 1) mNil))) (mSeq (mDrop (mCall m_check_twin (mCons (mVar 0) (mCons (mVar 1) (mCons (mVar 2) (mCons (mVar 3) mNil)))))) (mRet (mCall m_twin_of (mCons (mVar 0) (mCons (mVar 2) (mCons (mVar 3) mNil))))))))
def m_twin : MP := mFun ["book", "machine", "p", "part"] 4 b_twin
def vb_twin : VS := (vSeqS (vDrop (vCall v_check_book (vCons (vVar 0) vNil))) (vSeqS (vDrop (vCall v_check_machine (vCons (vVar 1) vNil))) (vSeqS (vDrop (vCall v_check_twin (vCons (vVar 0) (vCons (vVar 1) (vCons (vVar 2) (vCons (vVar 3) vNil)))))) (vRet (vCall v_twin_of (vCons (vVar 0) (vCons (vVar 2) (vCons (vVar 3) vNil))))))))
def v_twin : VP := vFun ["book", "machine", "p", "part"] 4 vb_twin
theorem fp_twin : FP m_twin v_twin := by
  unfold m_twin v_twin b_twin vb_twin
  exact f_Fun (f_Seq (f_Drop (f_Call fp_check_book (f_Cons f_Var f_Nil))) (f_Seq (f_Drop (f_Call fp_check_machine (f_Cons f_Var f_Nil))) (f_Seq (f_Drop (f_Call fp_check_twin (f_Cons f_Var (f_Cons f_Var (f_Cons f_Var (f_Cons f_Var f_Nil)))))) (f_Ret (f_Call fp_twin_of (f_Cons f_Var (f_Cons f_Var (f_Cons f_Var f_Nil))))))))
end RC
end
section
namespace RR
open PySem PySem.Spec L2
open PyProof.Rows hiding St
/-- a statement that never returns: what a return would mean is nothing to it -/
def NRt (m : MS) : Prop := ∀ (E : EndsD) (R : D → Nat → Prop), m E = m { E with rt := R }
theorem nr_set {i : Nat} {me : ME} : NRt (mSet i me) := fun E R => rfl
theorem nr_drop {me : ME} : NRt (mDrop me) := fun E R => rfl
theorem nr_append {i : Nat} {me : ME} : NRt (mAppend i me) := fun E R => rfl
theorem nr_next : NRt mNext := fun E R => rfl
theorem nr_seq {t u : MS} (h : NRt t) (k : NRt u) : NRt (mSeq t u) := fun E R => by
  show t { E with nx := u E } = t { nx := u { E with rt := R }, rt := R, bk := E.bk, ct := E.ct }
  rw [h { E with nx := u E } R, k E R]
theorem nr_if {c : MT} {t u : MS} (h : NRt t) (k : NRt u) : NRt (mIfS c t u) := fun E R => by
  show (fun Γ n => c Γ n fun b n1 => if b = true then t E Γ n1 else u E Γ n1) = fun Γ n => c Γ n fun b n1 => if b = true then t { E with rt := R } Γ n1 else u { E with rt := R } Γ n1
  rw [h E R, k E R]
theorem nr_forW {g : MG} {tb : MS} (h : NRt tb) (E : EndsD) (R : D → Nat → Prop) : ∀ ds, forW g tb E ds = forW g tb { E with rt := R } ds
  | [] => rfl
  | d :: ds => by
    funext Γ n
    unfold forW
    rw [nr_forW h E R ds, h { E with nx := forW g tb { E with rt := R } ds, ct := forW g tb { E with rt := R } ds, bk := E.nx } R]
theorem nr_for {mi : MI} {g : MG} {tb : MS} (h : NRt tb) : NRt (mFor mi g tb) := fun E R => by
  show (fun Γ n => mi Γ n fun ds n1 => forW g tb E ds Γ n1) = fun Γ n => mi Γ n fun ds n1 => forW g tb { E with rt := R } ds Γ n1
  have : forW g tb E = forW g tb { E with rt := R } := funext fun ds => nr_forW h E R ds
  rw [this]
section
variable {X : Cx} {p : Pm} {O O1 Ob : List Nat} {st : Stmt} {sts : List Stmt} {t u : TS} {m mu : MS} {e : Expr} {te : TE} {me : ME} {pos : Pos} {c : Expr} {tA : TT} {mA : MT}
/-- a block that ends with a return of something new -/
def LSF (p : Pm) (O : List Nat) (t : TS) (m : MS) : Prop :=
  ∀ F0 H0 F H σ Γ n (N : DEnv → Nat → Prop) (R : D → Nat → Prop), Sep p F0 H0 O F H σ Γ n → m { nx := N, rt := R } Γ n → ∀ E' : Ends,
    (∀ d a F' H' n', Fin0 p F0 H0 F' H' n' → Own p.K F' H' d a → F' a = none → H0 a = none → R d n' → E'.rt (.ref a) H') → t E' σ H
structure RSF (X : Cx) (p : Pm) (O : List Nat) (sts : List Stmt) (t : TS) (m : MS) : Prop where
  ps : PSs X sts t
  le : LSF p O t m
theorem rsf_ret (he : RF X p O e te me) : RSF X p O [.Return (some e) pos] (tRet te) (mRet me) := ⟨pss_one (ps_ret he.pe), fun F0 H0 F H σ Γ n N R s q E' hr =>
  he.le F0 H0 F H σ Γ n _ s q _ fun d a F1 H1 n1 s1 g1 w f ha q1 => hr d a F1 H1 n1 s1.fin w f (s.h0 ha).1 q1⟩
theorem rsf_own (i : Nat) (hi : i ∈ O) (he : PE X e (tVar i)) : RSF X p O [.Return (some e) pos] (tRet (tVar i)) (mRet (mVar i)) := ⟨pss_one (ps_ret he), fun F0 H0 F H σ Γ n N R s ⟨d, ed, q⟩ E' hr => by
  obtain ⟨a, ea, w, fa, h0, _⟩ := s.ow i hi d ed
  exact ⟨_, ea, hr d a F H n s.fin w fa h0 q⟩⟩
theorem rsf_cons (h1 : RS X p [] O O1 st t m) (hn : NRt m) (h2 : RSF X p O1 sts u mu) : RSF X p O (st :: sts) (tSeq t u) (mSeq m mu) := ⟨pss_cons h1.ps h2.ps, fun F0 H0 F H σ Γ n N R s q E' hr => by
  have q' : m { nx := mu { nx := N, rt := R }, rt := fun _ _ => False } Γ n := by
    rw [← hn { nx := mu { nx := N, rt := R }, rt := R } fun _ _ => False]; exact q
  exact h1.le F0 H0 F H σ Γ n _ s q' _ (fun F1 H1 σ1 Γ1 n1 s1 e1 q1 => h2.le F0 H0 F1 H1 σ1 Γ1 n1 N R s1 q1 E' hr) (fun _ _ _ _ _ _ _ z => z.elim) (fun _ _ _ _ _ _ _ z => z.elim) (fun _ _ _ _ _ _ _ z => z.elim)⟩
/-- a def that leaves all as it is, and whose result is new -/
def spFr (K : PySem.W.Frag) (m : MP) : Sp := fun vs H Q _ => ∃ (F : Hp) (ds : List D) (R : D → Prop), Same F H ∧ Rps K F ds vs ∧ m ds R ∧ ∀ d a F' H', Gr F H F' H' → Own K F' H' d a → F' a = none → H a = none → R d → Q (.ref a) H'
theorem spF_fr {K : PySem.W.Frag} {m : MP} (vs : List V) (H : Hp) (Q : VK) (E : XK) (h : spF K m vs H Q E) : spFr K m vs H Q E := by
  obtain ⟨F, ds, R, s, r, q, k⟩ := h
  refine ⟨F, ds, R, s, r, q, fun d a F' H' g w f ha rd => ?_⟩
  have up : ∀ {o : HO}, H' a = some o → Gr F H (upd F' a o) H' := fun {o} e => ⟨g.f.trans (same_up f), fun b u z => by
      by_cases hb : b = a
      · subst hb; rw [upd_same] at z; cases z; exact e
      · rw [upd_ne hb] at z; exact g.fh _ _ z, g.h, fun b u z => by
      by_cases hb : b = a
      · subst hb; exact .inr ha
      · rw [upd_ne hb] at z; exact g.new b u z⟩
  cases w with
  | lst e1 e2 => exact k _ _ _ H' (up e1) (.of_lst upd_same (e2.mono (same_up f))) rd
  | dct e1 e2 e3 => exact k _ _ _ H' (up e1) (.dct (.inl upd_same) e2 fun i x d a b => (e3 i x d a b).mono (same_up f)) rd
theorem FI.plain {P : Program} {w : World} {K : PySem.W.Frag} {mg : Str → Option Value} {base : Heap} {k : Nat} {x : Str} {ps : List Str} {mf : MP} (F : FI P w K mg base k x ps (spFr K mf)) : FI P w K mg base k x ps (spF K mf) := by
  obtain ⟨f, fd, G, h⟩ := F.ex
  exact ⟨f, fd, G.imp spF_fr, h⟩
end
theorem FnG.fresh {P : Program} {w : World} {K : PySem.W.Frag} {mg : Str → Option Value} {base : Heap} {x qual : Str} {st : Stmt} {f : Addr} {fd : FuncData} {N ps : List Str} {k : Nat} {mb : MS} (F : Fun K x qual st f fd) (S : FnScope N ps (defScope st))
    (body : ∀ (cdv : Value) (A : Around) (outer : List Env) (s : Shared) (H : Hp) (E : XK), Room k (A.deeper (envOfC qual (defScope st) s.heap.objs.size f cdv)) → GB (k + 1) A →
      ∃ t, RSF (bodyCx P w K mg base N qual (defScope st) f cdv A outer s H E) ⟨K, none, 0⟩ [] (defBody st) t mb) : FnG P w K mg base (k + 1) f fd ps (spFr K (mFun N ps.length mb)) := by
  refine FnG.mk' F S (fun vs H Q E ⟨Fz, ds, R, s, r, ⟨hl, _⟩, _⟩ => r.len.trans hl) fun cdv A outer s H vs Q E hr hg ⟨Fz, ds, R, sm, r, ⟨hl, q⟩, fin⟩ => ?_
  obtain ⟨t, B⟩ := body cdv A outer s H E hr hg
  have hN : vs.length ≤ N.length := by
    rw [r.len, hl]
    have := congrArg List.length S.pre
    rw [List.length_take] at this
    omega
  refine ⟨t, B.ps, B.le Fz H Fz H _ _ 0 _ _ (sep_start sm r hN) q _ fun d a F' H' n' s' w f ha q' => ?_⟩
  exact fin d a F' H' ⟨s'.f0, s'.fh, fun b o e => s'.stay b o e (fun ⟨_, _, z, _⟩ => nomatch z), s'.newF⟩ w f ha q'
end RR
end
section
namespace RR
open PySem PySem.Spec L2
open PyProof.Rows hiding St
section
variable {X : Cx} {p : Pm} {O Ob : List Nat} {i : Nat} {o e ke value : Expr} {pos pos' cpos : Pos} {kt : Option Str} {td ty tv te tk : TE} {me mk : ME}
/-- a slot that is no longer looked at -/
theorem Sep.forget {F0 H0 F H : Hp} {σ : St} {Γ : DEnv} {n : Nat} (s : Sep p F0 H0 O F H σ Γ n) (i : Nat) : Sep p F0 H0 (O.filter (· ≠ i)) F H σ (Γ.set i none) n := by
  have gd : ∀ {j : Nat} {d : D}, (Γ.set i none)[j]? = some (some d) → j ≠ i ∧ Γ[j]? = some (some d) := fun {j d} e => by
    by_cases h : i = j
    · subst h
      rw [set_at, if_pos rfl] at e
      split at e <;> cases e
    · rw [List.getElem?_set_ne h] at e
      exact ⟨Ne.symm h, e⟩
  have of : ∀ {j : Nat}, j ∈ O.filter (· ≠ i) → j ∈ O := fun h => (List.mem_filter.mp h).1
  refine ⟨s.f0, s.fh, s.stay, s.newF, s.pen, by rw [List.length_set]; exact s.len, fun j d hj e => ?_, fun j hj d e => s.ow j (of hj) d (gd e).2, fun j hj k hk hjk a dj dk h1 h2 h3 h4 => s.dj j (of hj) k (of hk) hjk a dj dk (gd h1).2 (gd h2).2 h3 h4⟩
  obtain ⟨h1, h2⟩ := gd e
  exact s.sh j d (fun z => hj (List.mem_filter.mpr ⟨z, by simpa using h1⟩)) h2
theorem RKs.of {K : PySem.W.Frag} {F : Hp} : ∀ {ds : List (D × D)} {kvs : List (Key × V)}, ds.map (·.1) = kvs.map (fun p => keyD p.1) → (∀ (i : Nat) x d, kvs[i]? = some x → ds[i]? = some d → Rp K F d.2 x.2) → RKs K F ds kvs
  | [], [], _, _ => .nil
  | [], _ :: _, h, _ => by cases h
  | _ :: _, [], h, _ => by cases h
  | (kd, d) :: ds, (k, v) :: kvs, h, r => by
    rw [List.map_cons, List.map_cons] at h
    obtain ⟨h1, h2⟩ := List.cons.inj h
    cases (show kd = keyD k from h1)
    exact .cons (r 0 _ _ rfl rfl) (RKs.of h2 fun i x d e1 e2 => r (i + 1) x d (by simpa using e1) (by simpa using e2))
theorem set_same {α : Type} {xs : List α} {i : Nat} {x : α} (h : xs[i]? = some x) : xs.set i x = xs := by
  apply List.ext_getElem?
  intro j
  by_cases e : i = j
  · subst e
    rw [set_at, if_pos rfl, h, if_pos (List.getElem?_eq_some_iff.mp h).1]
  · rw [List.getElem?_set_ne e]
/-- what the slot's thing becomes -/
theorem Sep.rewrite {F0 H0 F H : Hp} {σ : St} {Γ : DEnv} {n : Nat} {a : Addr} {d0 d : D} {u : HO} (s : Sep p F0 H0 O F H σ Γ n) (hi : i ∈ O) (hp : p.off i) (ei : Γ[i]? = some (some d0)) (e1 : σ[i]? = some (some (.ref a))) (f : F a = none) (h0 : H0 a = none) (np : ¬ p.isPen a) (w : Own p.K F (upd H a u) d a) :
    ∃ F', Same F F' ∧ Sep p F0 H0 O F' (upd H a u) σ (Γ.set i (some d)) n := by
  have sl : ∀ j ∈ O.filter (· ≠ i), ∀ dj, (Γ.set i none)[j]? = some (some dj) → σ[j]? ≠ some (some (.ref a)) := fun j hj dj e z => by
    obtain ⟨j1, j2⟩ := List.mem_filter.mp hj
    have hji : j ≠ i := by simpa using j2
    rw [List.getElem?_set_ne (Ne.symm hji)] at e
    exact s.dj i hi j j1 (Ne.symm hji) a d0 dj ei e e1 z
  have s4 := (s.forget i).poke (o := u) f h0 np sl
  have s5 := s4.putOwn hp ⟨w, f, h0, np, sl⟩
  rw [set_same e1, List.set_set] at s5
  obtain ⟨F3, e3, s6⟩ := s5.weak (O' := O) fun j hj => by
    by_cases h : j = i
    · subst h; exact List.mem_cons_self ..
    · exact List.mem_cons_of_mem _ (List.mem_filter.mpr ⟨hj, by simpa using h⟩)
  exact ⟨F3, e3, s6⟩
end
end RR
end
section
namespace RR
open PySem PySem.Spec L2
open PyProof.Rows hiding St
open PySem.W (alike dataLt dataLe EachIs)
end RR
namespace RR
open PySem PySem.Spec L2
open PyProof.Rows hiding St
/-- what a slot holds is its own no more -/
theorem RSF.pre {X : Cx} {p : Pm} {O O2 : List Nat} {sts : List Stmt} {t : TS} {m : MS} (h : RSF X p O2 sts t m) (k : ∀ i ∈ O2, i ∈ O) : RSF X p O sts t m := ⟨h.ps, fun F0 H0 F H σ Γ n N R s q E' hr => by
  obtain ⟨F2, e2, s2⟩ := s.weak k
  exact h.le F0 H0 F2 H σ Γ n N R s2 q E' hr⟩
end RR
end
section
namespace RR
open PySem PySem.Spec L2
open PyProof.Rows hiding St
end RR
end
section
namespace RC
open PySem PySem.Spec L2 RR
open PyProof.Rows hiding St
end RC
end
section
namespace RR
open PySem PySem.Spec L2
open PyProof.Rows hiding St
section
variable {X : Cx} {p : Pm} {O Ob : List Nat} {i j : Nat} {e : Expr} {te : TE} {me : ME} {x y : Str} {q q2 pos ap : Pos}
theorem lim_le {k : Nat} (h : k ≤ lim) : k ≤ sizeLine := Nat.le_of_lt (lim_lt h)
end
end RR
end
section
namespace RR
open PySem PySem.Spec L2
open PyProof.Rows hiding St
section
variable {ma : ME} {a : VE} {i j : Nat}
def listAt (i : Nat) (Γ : DEnv) : Option (List D) := match Γ[i]? with | some (some (.list ds)) => some ds | _ => none
theorem listAt_eq {i : Nat} {Γ : DEnv} {ds : List D} (h : listAt i Γ = some ds) : Γ[i]? = some (some (.list ds)) := by
  unfold listAt at h
  split at h
  · rename_i e; cases h; exact e
  · cases h
end
end RR
end
section
namespace RR
open PySem PySem.Spec L2
open PyProof.Rows hiding St
def spFd (K : PySem.W.Frag) (m : MP) : Sp := fun vs H Q _ => ∃ (F : Hp) (ds : List D) (R : D → Prop), Same F H ∧ Rps K F ds vs ∧ m ds R ∧
  ∀ d1 d2 v1 t b F' H', Gr F H F' H' → Rps K F' [d1, d2] [v1, .ref b] → F' t = some (.tup [v1, .ref b]) → (∀ xs, d1 = .list xs → v1 ≠ .ref b) → H t = none → R (.tuple [d1, d2]) → Q (.ref t) H'
section
variable {X : Cx} {p : Pm} {O O1 Ob : List Nat} {i j : Nat} {st : Stmt} {sts : List Stmt} {t u : TS} {m mu : MS} {e : Expr} {es : List Expr} {te : TE} {me : ME} {pos q : Pos} {ta : TA} {ma : MA} {x : Str}
def LSD (p : Pm) (O : List Nat) (t : TS) (m : MS) : Prop :=
  ∀ F0 H0 F H σ Γ n (N : DEnv → Nat → Prop) (R : D → Nat → Prop), Sep p F0 H0 O F H σ Γ n → m { nx := N, rt := R } Γ n → ∀ E' : Ends,
    (∀ d1 d2 v1 t b F' H' n', Fin0 p F0 H0 F' H' n' → Rps p.K F' [d1, d2] [v1, .ref b] → F' t = some (.tup [v1, .ref b]) → (∀ xs, d1 = .list xs → v1 ≠ .ref b) → H0 t = none → R (.tuple [d1, d2]) n' → E'.rt (.ref t) H') → t E' σ H
structure RSD (X : Cx) (p : Pm) (O : List Nat) (sts : List Stmt) (t : TS) (m : MS) : Prop where
  ps : PSs X sts t
  le : LSD p O t m
theorem rsd_cons (h1 : RS X p [] O O1 st t m) (hn : NRt m) (h2 : RSD X p O1 sts u mu) : RSD X p O (st :: sts) (tSeq t u) (mSeq m mu) := ⟨pss_cons h1.ps h2.ps, fun F0 H0 F H σ Γ n N R s q E' hr => by
  have q' : m { nx := mu { nx := N, rt := R }, rt := fun _ _ => False } Γ n := by
    rw [← hn { nx := mu { nx := N, rt := R }, rt := R } fun _ _ => False]; exact q
  exact h1.le F0 H0 F H σ Γ n _ s q' _ (fun F1 H1 σ1 Γ1 n1 s1 e1 q1 => h2.le F0 H0 F1 H1 σ1 Γ1 n1 N R s1 q1 E' hr) (fun _ _ _ _ _ _ _ z => z.elim) (fun _ _ _ _ _ _ _ z => z.elim) (fun _ _ _ _ _ _ _ z => z.elim)⟩
theorem rsd_pair (i j : Nat) (hi : i ∉ O) (hj : j ∈ O) (ha : PE X e (tTup (tCons (tVar i) (tCons (tVar j) tNil)))) : RSD X p O [.Return (some e) pos] (tRet (tTup (tCons (tVar i) (tCons (tVar j) tNil)))) (mRet (mTup (mCons (mVar i) (mCons (mVar j) mNil)))) := ⟨pss_one (ps_ret ha), fun F0 H0 F H σ Γ n N R s ⟨d1, e1, d2, e2, l, q⟩ E' hr => by
  obtain ⟨v1, f1, r1⟩ := s.sh i d1 hi e1
  obtain ⟨b, f2, w, fb, h0, np⟩ := s.ow j hj d2 e2
  refine ⟨v1, f1, .ref b, f2, by show 2 ≤ sizeLine; exact Nat.le_trans (show 2 ≤ lim by decide) (lim_le (Nat.le_refl _)), fun t ht => ?_⟩
  have fr : Free p H0 (O.filter (· ≠ j)) F H σ (Γ.set j none) d2 b := ⟨w, fb, h0, np, fun k hk dk ek z => by
    obtain ⟨k1, k2⟩ := List.mem_filter.mp hk
    have hkj : k ≠ j := by simpa using k2
    rw [List.getElem?_set_ne (Ne.symm hkj)] at ek
    exact s.dj j hj k k1 (Ne.symm hkj) b d2 dk e2 ek f2 z⟩
  obtain ⟨F1, s1, sm, _, rb, _⟩ := (s.forget j).freeze0 fr
  have g := Gr.new1 (F := F1) s1.fh ht (.tup [v1, .ref b])
  have s2 := s1.gr g
  refine hr d1 d2 v1 t b _ _ n s2.fin (.cons ((r1.mono sm).mono g.f) (.cons (rb.mono g.f) .nil)) upd_same (fun xs ed z => ?_) (s.h0 ht).1 q
  subst ed z
  obtain ⟨a, xs', ea, fa, _⟩ := r1.lst_inv
  cases ea
  rw [fb] at fa; cases fa⟩
theorem rsd_call {k : Nat} {ps : List Str} {mf : MP} (F : FI X.prog X.w X.K X.mg X.base k x ps (spFd X.K mf)) {lv : Nat} (hr : Room k X.A) (hg : GB lv X.A) (hK : p.K = X.K) (hgl : Gl X x) (ha : RA X p O (e :: es) ta ma)
    (hdb : (x == ("__debug__" : Str)) = false := by decide) (he : starEach (e :: es) X.env = (false, eval e X.env) :: starEach es X.env := by rfl) (hpl : (backTo pos (starEach es X.env)).any (·.1) = false := by rfl) (hkm : k ≤ lv := by first | decide | omega) {pos' : Pos} :
    RSD X p O [.Return (some (.Call (.Name x q) (e :: es) [] pos)) pos'] (tRet (tCall (spFd p.K mf) [] E0 ta)) (mRet (mCall mf ma)) := by
  obtain ⟨f, fd, G, h1, h2, h3, _⟩ := F.ex
  refine ⟨pss_one (ps_ret (hK ▸ pe_callG G hr (hg.le hkm) hgl h1 h2 h3 ha.pa hdb he hpl)), fun F0 H0 F H σ Γ n N R s q E' hr => ?_⟩
  exact ha.le F0 H0 F H σ Γ n _ s q _ fun ds vs F1 H1 n1 s1 g1 r1 q1 =>
    ⟨F1, ds, _, s1.fh, by rw [List.append_nil]; exact r1, q1, fun d1 d2 v1 t b F2 H2 g2 r2 e2 z ht q2 => hr d1 d2 v1 t b F2 H2 n1 (s1.gr g2).fin r2 e2 z (s1.h0 ht).1 q2⟩
end
theorem FnG.two {P : Program} {w : World} {K : PySem.W.Frag} {mg : Str → Option Value} {base : Heap} {x qual : Str} {st : Stmt} {f : Addr} {fd : FuncData} {N ps : List Str} {k : Nat} {mb : MS} (F : Fun K x qual st f fd) (S : FnScope N ps (defScope st))
    (body : ∀ (cdv : Value) (A : Around) (outer : List Env) (s : Shared) (H : Hp) (E : XK), Room k (A.deeper (envOfC qual (defScope st) s.heap.objs.size f cdv)) → GB (k + 1) A →
      ∃ t, RSD (bodyCx P w K mg base N qual (defScope st) f cdv A outer s H E) ⟨K, none, 0⟩ [] (defBody st) t mb) : FnG P w K mg base (k + 1) f fd ps (spFd K (mFun N ps.length mb)) := by
  refine FnG.mk' F S (fun vs H Q E ⟨Fz, ds, R, s, r, ⟨hl, _⟩, _⟩ => r.len.trans hl) fun cdv A outer s H vs Q E hr hg ⟨Fz, ds, R, sm, r, ⟨hl, q⟩, fin⟩ => ?_
  obtain ⟨t, B⟩ := body cdv A outer s H E hr hg
  have hN : vs.length ≤ N.length := by
    rw [r.len, hl]
    have := congrArg List.length S.pre
    rw [List.length_take] at this
    omega
  refine ⟨t, B.ps, B.le Fz H Fz H _ _ 0 _ _ (sep_start sm r hN) q _ fun d1 d2 v1 t b F' H' n' s' r2 e2 z ht q' => ?_⟩
  exact fin d1 d2 v1 t b F' H' ⟨s'.f0, s'.fh, fun b o e => s'.stay b o e (fun ⟨_, _, z, _⟩ => nomatch z), s'.newF⟩ r2 e2 z ht q'
def tupD : D → Bool
  | .tuple xs => tupAll xs
  | .list _ => false
  | .dict _ => false
  | _ => true
where tupAll : List D → Bool
  | [] => true
  | x :: xs => tupD x && tupAll xs
/-- the tuples alone -/
def Ft (F : Hp) : Hp := fun a => match F a with
  | some (.tup xs) => some (.tup xs)
  | some (.frz o (.tup xs)) => some (.frz o (.tup xs))
  | _ => none
theorem Ft_sub {F : Hp} {a : Addr} {o : HO} (h : Ft F a = some o) : F a = some o := by
  unfold Ft at h
  split at h
  · rename_i e; cases h; exact e
  · rename_i e; cases h; exact e
  · cases h
theorem Ft_lst {F : Hp} {a : Addr} {xs : List V} : Ft F a ≠ some (.lst xs) := fun h => by
  unfold Ft at h
  split at h <;> cases h
theorem Ft_tup {K : PySem.W.Frag} {F : Hp} {a : Addr} {xs : List V} (h : SqT K F a xs) : SqT K (Ft F) a xs := by
  rcases h with (h | ⟨o, h⟩) | h
  · refine .inl (.inl ?_)
    unfold Ft; rw [h]
  · refine .inl (.inr ⟨o, ?_⟩)
    unfold Ft; rw [h]
  · exact .inr h
theorem tupAll_at : ∀ {ds : List D}, tupD.tupAll ds = true → ∀ {i : Nat} {d : D}, ds[i]? = some d → tupD d = true
  | x :: xs, h, i, d, e => by
    rw [tupD.tupAll, Bool.and_eq_true] at h
    cases i with
    | zero => cases e; exact h.1
    | succ i => exact tupAll_at h.2 e
theorem Rp.tups {K : PySem.W.Frag} {F : Hp} {d : D} {v : V} (h : Rp K F d v) : tupD d = true → Rp K (Ft F) d v := by
  induction h with
  | non => intro _; exact .non
  | bl b => intro _; exact .bl b
  | int i => intro _; exact .int i
  | str x => intro _; exact .str x
  | lst _ _ _ _ => intro z; cases z
  | dct _ _ _ _ => intro z; cases z
  | tup h1 h2 _ ih =>
    intro z
    rw [tupD] at z
    exact .tup (Ft_tup h1) h2 fun i x d e1 e2 => ih i x d e1 e2 (tupAll_at z e2)
theorem Rps.tups {K : PySem.W.Frag} {F : Hp} {ds : List D} {vs : List V} (h : Rps K F ds vs) (z : ds.all tupD = true) : Rps K (Ft F) ds vs :=
  ⟨h.len, fun i x d e1 e2 => (h.at_ i x d e1 e2).tups (List.all_eq_true.mp z d (List.mem_of_getElem? e2))⟩
section
variable {X : Cx} {p : Pm} {O Ob : List Nat} {F0 H0 F H : Hp} {σ : St} {Γ : DEnv} {n : Nat}
/-- back to what stood frozen before -/
theorem Sep.past {F' H' : Hp} {n' : Nat} (s : Sep p F0 H0 O F H σ Γ n) (hh : ∀ a o, H a = some o → ¬ p.isPen a → H' a = some o) (ff : Same F F') (hp : ∀ a i, p.ap = some (a, i) → PenAt p.dr.ad F' H' a n') (ht : p.dr.tb = []) : Sep p F0 H0 O F H' σ Γ n' := by
  have np : ∀ {a : Addr} {o : HO}, F a = some o → ¬ p.isPen a := fun e ⟨b, i, z, hb⟩ => by
    rcases hb with rfl | ⟨y, hy, _⟩
    · rw [(s.pen _ i z).1] at e; cases e
    · rw [ht] at hy; cases hy
  refine ⟨s.f0, fun a o e => hh a o (s.fh a o e) (np e), fun a o e q => hh a o (s.stay a o e q) q, s.newF, fun a i e => ?_, s.len, s.sh, fun j hj d e => ?_, s.dj⟩
  · obtain ⟨h1, h2, ⟨w0, l0, xs0, _, z0, _⟩, _⟩ := s.pen a i e
    obtain ⟨w, l, xs, y1, y2, y3⟩ := hp a i e
    have := ff _ _ z0
    rw [y2] at this
    exact ⟨h1, h2, ⟨w, l, xs, y1, z0.trans this.symm, y3⟩, ht ▸ .nil⟩
  · obtain ⟨a, e1, w, z1, z2, z3⟩ := s.ow j hj d e
    refine ⟨a, e1, ?_, z1, z2, z3⟩
    cases w with
    | lst q1 q2 => exact .lst (hh _ _ q1 z3) q2
    | dct q1 q2 q3 => exact .dct (hh _ _ q1 z3) q2 q3
/-- a slot that holds anything -/
theorem Sep.scr (s : Sep p F0 H0 O F H σ Γ n) {i : Nat} (hi : i ∉ O) (hp : p.off i) (x : Option V) : Sep p F0 H0 O F H (σ.set i x) (Γ.set i none) n := by
  have gd : ∀ {j : Nat} {d : D}, (Γ.set i none)[j]? = some (some d) → i ≠ j ∧ Γ[j]? = some (some d) := fun {j d} e => by
    by_cases h : i = j
    · subst h
      rw [set_at, if_pos rfl] at e
      split at e <;> cases e
    · rw [List.getElem?_set_ne h] at e
      exact ⟨h, e⟩
  refine ⟨s.f0, s.fh, s.stay, s.newF, fun a j e => ?_, by rw [List.length_set, List.length_set]; exact s.len, fun j d hj e => ?_, fun j hj d e => ?_, fun j hj k hk hjk a dj dk h1 h2 h3 h4 => ?_⟩
  · obtain ⟨h1, h2, h3⟩ := s.pen a j e
    exact ⟨h1, by rw [List.getElem?_set_ne (Ne.symm (hp a j e))]; exact h2, h3⟩
  · obtain ⟨h1, h2⟩ := gd e
    rw [List.getElem?_set_ne h1]
    exact s.sh j d hj h2
  · obtain ⟨h1, h2⟩ := gd e
    rw [List.getElem?_set_ne h1]
    exact s.ow j hj d h2
  · obtain ⟨z1, y1⟩ := gd h1
    obtain ⟨z2, y2⟩ := gd h2
    rw [List.getElem?_set_ne z1] at h3
    rw [List.getElem?_set_ne z2] at h4
    exact s.dj j hj k hk hjk a dj dk y1 y2 h3 h4
/-- an object that nobody here owns is frozen -/
theorem Sep.freezeT (s : Sep p F0 H0 O F H σ Γ n) {t : Addr} {o : HO} (e : H t = some o) (f : F t = none) (h0 : H0 t = none) (np : ¬ p.isPen t) (sl : ∀ j ∈ O, ∀ dj, Γ[j]? = some (some dj) → σ[j]? ≠ some (some (.ref t))) : Sep p F0 H0 O (upd F t o) H σ Γ n := by
  have sm : Same F (upd F t o) := same_up f
  refine ⟨s.f0.trans sm, fun b u z => ?_, s.stay, fun b u z => ?_, fun a i z => ?_, s.len, fun j d hj z => ?_, fun j hj d z => ?_, s.dj⟩
  · by_cases hb : b = t
    · subst hb; rw [upd_same] at z; cases z; exact e
    · rw [upd_ne hb] at z; exact s.fh _ _ z
  · by_cases hb : b = t
    · subst hb; exact .inr h0
    · rw [upd_ne hb] at z; exact s.newF _ _ z
  · obtain ⟨h1, h2, ⟨w, l, xs, y1, y2, y3⟩, zt⟩ := s.pen a i z
    exact ⟨by rw [upd_ne fun y : a = t => np ⟨a, i, z, .inl y.symm⟩]; exact h1, h2, ⟨w, l, xs, y1, sm _ _ y2, y3⟩, zt.up sm (fun y hy => by rw [upd_ne fun e' => np ⟨a, i, z, .inr ⟨y, hy, e'⟩⟩]; exact (zt y hy).1) (fun _ _ _ h => h)⟩
  · obtain ⟨v, h1, r⟩ := s.sh j d hj z
    exact ⟨v, h1, r.mono sm⟩
  · obtain ⟨a, h1, w, z1, z2, z3⟩ := s.ow j hj d z
    have ha : a ≠ t := fun y => sl j hj d z (y ▸ h1)
    refine ⟨a, h1, ?_, by rw [upd_ne ha]; exact z1, z2, z3⟩
    cases w with
    | lst q1 q2 => exact .lst q1 (q2.mono sm)
    | dct q1 q2 q3 => exact .dct q1 q2 fun i x d a b => (q3 i x d a b).mono sm
end
end RR
end
section
namespace RR
open PySem PySem.Spec L2
open PyProof.Rows hiding St
/-- what two that stand in one heap hold together -/
def joinF (F G : Hp) : Hp := fun a => match G a with | some o => some o | none => F a
end RR
namespace RR
open PySem PySem.Spec L2
open PyProof.Rows hiding St
section
variable {X : Cx} {p : Pm} {O Ob : List Nat} {e : Expr} {es : List Expr} {t : TA} {x : Str} {q pos : Pos}
theorem pFd {k : Nat} {ps : List Str} {mf : MP} (F : FI X.prog X.w X.K X.mg X.base k x ps (spFd X.K mf)) {lv : Nat} (hr : Room k X.A) (hg : GB lv X.A) (hK : p.K = X.K) (hgl : Gl X x) (ha : PA X (e :: es) t)
    (hdb : (x == ("__debug__" : Str)) = false := by decide) (he : starEach (e :: es) X.env = (false, eval e X.env) :: starEach es X.env := by rfl) (hpl : (backTo pos (starEach es X.env)).any (·.1) = false := by rfl) (hkm : k ≤ lv := by first | decide | omega) :
    PE X (.Call (.Name x q) (e :: es) [] pos) (tCall (spFd p.K mf) [] E0 t) := by
  obtain ⟨f, fd, G, h1, h2, h3, _⟩ := F.ex
  exact hK ▸ pe_callG G hr (hg.le hkm) hgl h1 h2 h3 ha hdb he hpl
variable {iT iD iU : Nat} {te1 te3 : TE} {m1 m3 : ME} {mf : MP} {ta : TA} {ma : MA} {tT tT5 : TT} {mT mT5 : MT} {xT xD xU : Str} {e1 eC e3 c3 c5 i0 i1 : Expr} {p1 p2 p3 p4 p5 p6 p7 p8 p9 p10 p11 p12 p13 p14 p15 p16 p17 p18 p19 p20 p21 p22 p23 : Pos} {kt k2 : Nat} {j1 j2 j3 j4 j5 j6 : Option Str}
end
end RR
namespace RR
open PySem PySem.Spec L2
open PyProof.Rows hiding St
end RR
end
section
namespace RC
open PySem PySem.Spec L2 RR
open PyProof.Rows hiding St
def b__law_chain : MS := (mSeq (mPar [2, 3] (mCons (mCall m__law_jumps (mCons (mVar 0) mNil)) (mCons (mLst mNil) mNil))) (mSeq (mWhile (mTest (mOp dNe (mCall m__law_misfits (mCons (mVar 0) (mCons (mVar 1) (mCons (mVar 2) mNil)))) (mLst mNil))) (mSeq (mAppend 3 (mOp dIx (mCall m__law_misfits (mCons (mVar 0) (mCons (mVar 1) (mCons (mVar 2) mNil)))) (mC (.int 0)))) (mSet 2 (mLookL (mLc (mISeq (mVar 2)) (mgName 4) (mTest (mOp dNe (mVar 4) (mOp dIx (mVar 3) (mUn dNeg (mC (.int 1)))))) (mVar 4) [4]))))) (mRet (mVar 3))))
def m__law_chain : MP := mFun ["part", "machine", "forms", "chain", "row"] 2 b__law_chain
def vb__law_chain : VS := (vSeqS (vPar [2, 3] (vCons (vCall v__law_jumps (vCons (vVar 0) vNil)) (vCons (vLst vNil) vNil))) (vSeqS (vWhile (vTest (vOp dNe (vCall v__law_misfits (vCons (vVar 0) (vCons (vVar 1) (vCons (vVar 2) vNil)))) (vLst vNil))) (vSeqS (vAppend 3 (vOp dIx (vCall v__law_misfits (vCons (vVar 0) (vCons (vVar 1) (vCons (vVar 2) vNil)))) (vC (.int 0)))) (vSet 2 (vLookL (vLc (vISeq (vVar 2)) (vgName 4) (vTest (vOp dNe (vVar 4) (vOp dIx (vVar 3) (vUn dNeg (vC (.int 1)))))) (vVar 4) [4]))))) (vRet (vVar 3))))
def v__law_chain : VP := vFun ["part", "machine", "forms", "chain", "row"] 2 vb__law_chain
theorem fp__law_chain : FP m__law_chain v__law_chain := by
  unfold m__law_chain v__law_chain b__law_chain vb__law_chain
  exact f_Fun (f_Seq (f_Par (f_Cons (f_Call fp__law_jumps (f_Cons f_Var f_Nil)) (f_Cons (f_Lst f_Nil) f_Nil))) (f_Seq (f_While (f_Test (f_Op (f_Call fp__law_misfits (f_Cons f_Var (f_Cons f_Var (f_Cons f_Var f_Nil)))) (f_Lst f_Nil))) (f_Seq (f_Append (f_Op (f_Call fp__law_misfits (f_Cons f_Var (f_Cons f_Var (f_Cons f_Var f_Nil)))) f_C)) (f_Set (f_LookL (f_Lc (f_ISeq f_Var) f_gName (f_Test (f_Op f_Var (f_Op f_Var (f_Un f_C)))) f_Var))))) (f_Ret f_Var)))
def b__law_greatest : MS := (mSeq (mPar [2, 3] (mCons (mLst (mCons (mLst mNil) mNil)) (mCons (mLst mNil) mNil))) (mSeq (mFor (mISeq (mCall m__law_jumps (mCons (mVar 0) mNil))) (mgName 4) (mSet 2 (mOp dAdd (mVar 2) (mLc (mISeq (mVar 2)) (mgName 5) mYes (mOp dAdd (mVar 5) (mLst (mCons (mVar 4) mNil))) [5])))) (mSeq (mFor (mISeq (mVar 2)) (mgName 6) (mIfS (mTest (mOp dEq (mCall m__law_misfits (mCons (mVar 0) (mCons (mVar 1) (mCons (mVar 6) mNil)))) (mLst mNil))) (mSet 3 (mOp dAdd (mVar 3) (mLc (mISeq (mVar 6)) (mgName 4) (mTest (mOp dNotIn (mVar 4) (mVar 3))) (mVar 4) [4]))) mNext)) (mRet (mCl cSorted (mCons (mVar 3) mNil))))))
def m__law_greatest : MP := mFun ["part", "machine", "lists", "found", "row", "some", "forms"] 2 b__law_greatest
def vb__law_greatest : VS := (vSeqS (vPar [2, 3] (vCons (vLst (vCons (vLst vNil) vNil)) (vCons (vLst vNil) vNil))) (vSeqS (vFor (vISeq (vCall v__law_jumps (vCons (vVar 0) vNil))) (vgName 4) (vSet 2 (vOp dAdd (vVar 2) (vLc (vISeq (vVar 2)) (vgName 5) vYes (vOp dAdd (vVar 5) (vLst (vCons (vVar 4) vNil))) [5])))) (vSeqS (vFor (vISeq (vVar 2)) (vgName 6) (vIfS (vTest (vOp dEq (vCall v__law_misfits (vCons (vVar 0) (vCons (vVar 1) (vCons (vVar 6) vNil)))) (vLst vNil))) (vSet 3 (vOp dAdd (vVar 3) (vLc (vISeq (vVar 6)) (vgName 4) (vTest (vOp dNotIn (vVar 4) (vVar 3))) (vVar 4) [4]))) vNext)) (vRet (vCl cSorted (vCons (vVar 3) vNil))))))
def v__law_greatest : VP := vFun ["part", "machine", "lists", "found", "row", "some", "forms"] 2 vb__law_greatest
theorem fp__law_greatest : FP m__law_greatest v__law_greatest := by
  unfold m__law_greatest v__law_greatest b__law_greatest vb__law_greatest
  exact f_Fun (f_Seq (f_Par (f_Cons (f_Lst (f_Cons (f_Lst f_Nil) f_Nil)) (f_Cons (f_Lst f_Nil) f_Nil))) (f_Seq (f_For (f_ISeq (f_Call fp__law_jumps (f_Cons f_Var f_Nil))) f_gName (f_Set (f_Op f_Var (f_Lc (f_ISeq f_Var) f_gName f_Yes (f_Op f_Var (f_Lst (f_Cons f_Var f_Nil))))))) (f_Seq (f_For (f_ISeq f_Var) f_gName (f_IfS (f_Test (f_Op (f_Call fp__law_misfits (f_Cons f_Var (f_Cons f_Var (f_Cons f_Var f_Nil)))) (f_Lst f_Nil))) (f_Set (f_Op f_Var (f_Lc (f_ISeq f_Var) f_gName (f_Test (f_Op f_Var f_Var)) f_Var))) f_Next)) (f_Ret (f_Cl (f_Cons f_Var f_Nil))))))
end RC
end
section
namespace RR
open PySem PySem.Spec L2
open PyProof.Rows hiding St
end RR
end
section
namespace RR
open PySem PySem.Spec L2
open PyProof.Rows hiding St
def dropD (ds : List (D × D)) (k : Key) : List (D × D) := ds.filter fun q => decide (keyOf q.1 ≠ some k)
theorem RKs.drop {K : PySem.W.Frag} {F : Hp} {ds : List (D × D)} {kvs : List (Key × V)} (h : RKs K F ds kvs) (k : Key) : RKs K F (dropD ds k) (dropK kvs k) := by
  induction h with
  | nil => exact .nil
  | @cons k' d v ds kvs r _ ih =>
    unfold dropD dropK at ih ⊢
    rw [List.filter_cons, List.filter_cons]
    by_cases e : k' = k
    · rw [if_neg (by show ¬ decide (keyOf (keyD k') ≠ some k) = true; rw [keyOf_D, e]; simp), if_neg (by show ¬ decide (k' ≠ k) = true; rw [e]; simp)]
      exact ih
    · rw [if_pos (by show decide (keyOf (keyD k') ≠ some k) = true; rw [keyOf_D]; exact decide_eq_true fun z => e (Option.some.inj z)), if_pos (by show decide (k' ≠ k) = true; exact decide_eq_true e)]
      exact .cons r ih
end RR
end
section
namespace RR
open PySem PySem.Spec L2
open PyProof.Rows hiding St
end RR
end
section
namespace RR
open PySem PySem.Spec L2
open PyProof.Rows hiding St
end RR
end
section
namespace RR
open PySem PySem.Spec L2
open PyProof.Rows hiding St
end RR
end
section
namespace RR
open PySem PySem.Spec L2
open PyProof.Rows hiding St
end RR
end
section
namespace RR
open PySem PySem.Spec L2
open PyProof.Rows hiding St
open PySem.W (alike dataLt)
variable {K : PySem.W.Frag} {X : Cx}
def notNon : D → Bool
  | .none => false
  | _ => true
def dLtA : D → D → Option D := fun x y => if alike x y = true ∧ notNon x = true ∧ x.canLay0 = true ∧ y.canLay0 = true ∧ x.depth ≤ 60 then some (.bool (dataLt x y)) else none
end RR
end
section
namespace RR
open PySem PySem.Spec L2
open PyProof.Rows hiding St
section
variable {X : Cx} {K : PySem.W.Frag}
def cReprX : List D → Option D
  | [d] => if repOkD d = true then some (.str (PyData.shown d)) else none
  | _ => none
def rReprX (K : PySem.W.Frag) : List V → Hp → VK → Prop := fun xs H Q => ∃ (v : V) (d : D), xs = [v] ∧ Rp K H d v ∧ repOkD d = true ∧ Q (.str d.shown) H
theorem call_reprX (hs : ∃ mm, X.base.Ns sysModules mm) (hg : X.A.guards = some []) (hu : X.A.units + 66 < cLine) : CallR X (.builtin "repr") (rReprX X.K) := fun pins s σ H xs us Q I r h => by
  obtain ⟨v, d, rfl, hd, ok, q⟩ := h
  have ref : ∀ a, v = .ref a → d ≠ .none → _ := fun a e _ => by
    subst e
    exact call_reprD hs hg hu pins s σ H [.ref a] us Q I r ⟨a, d, rfl, hd, ok, q⟩
  obtain ⟨u, rfl, ru⟩ := r.one
  have ok0 := ok
  simp only [repOkD, Bool.and_eq_true, decide_eq_true_eq] at ok
  obtain ⟨⟨c2, c3⟩, c4⟩ := ok
  cases hd with
  | non =>
    cases ru
    refine PySem.P.repr_of_none ⟨.str "None", H, I.tok _, ⟨s.toks, rfl⟩, ?_⟩
    simpa only [PyData.shown] using q
  | bl b =>
    cases ru
    refine PySem.P.repr_of_bool ⟨.str (if b then "True" else "False"), H, I.tok _, ⟨s.toks, ?_⟩, ?_⟩
    · cases b <;> rfl
    · cases b <;> simpa only [PyData.shown] using q
  | int i =>
    obtain ⟨t, rfl⟩ := ru
    refine PySem.P.repr_of_int (by simpa [PyData.showable] using c2) ⟨.str (toString i), H, I.tok _, ⟨s.toks, rfl⟩, ?_⟩
    simpa only [PyData.shown] using q
  | str x =>
    obtain ⟨t, rfl⟩ := ru
    refine PySem.P.repr_of_str ⟨.str (reprText x), H, I.tok _, ⟨s.toks, rfl⟩, ?_⟩ ?_
    · simpa only [PyData.shown] using q
    · simpa only [PyData.shown] using c4
  | lst h1 h2 h3 => exact ref _ rfl (fun z => nomatch z)
  | tup h1 h2 h3 => exact ref _ rfl (fun z => nomatch z)
  | dct h1 h2 h3 => exact ref _ rfl (fun z => nomatch z)
theorem l_reprX : ClL K (rReprX K) cReprX := fun F H xs ds d s r fe Q' k => by
  unfold cReprX at fe
  split at fe
  · obtain ⟨ok, rfl⟩ := ifs' fe
    obtain ⟨v, w, rfl, r1, r2⟩ := r.uncons
    cases r2.unnil
    exact ⟨v, _, rfl, r1.mono s, ok, k _ F H (.refl s) (.str _)⟩
  · cases fe
theorem fnReprX (hs : ∃ mm, X.base.Ns sysModules mm) (hK : K = X.K) (hg : X.A.guards = some []) (hu : X.A.units + 66 < cLine) : CallR X (.builtin "repr") (rReprX K) := hK ▸ call_reprX hs hg hu
end
end RR
end
section
namespace RC
open PySem PySem.Spec L2 RR
open PyProof.Rows hiding St
local macro_rules | `(tactic| walk_at "st") => `(tactic| first
  | refine ⟨_, rfl, ?_⟩
  | refine ⟨rfl, ?_⟩
  | refine ⟨by decide, ?_⟩)
def b__law_jumps_v2 : MS := (mRet (mLc (mIEn (mCons (mVar 0) mNil)) (mgTup 2 (mgCons (mgName 1) (mgCons (mgName 2) mgNil))) (mTest (mOp dIn (mOp dIx (mVar 2) (mC (.int 0))) (mTup (mCons (mC (.str "jump")) (mCons (mC (.str "branch")) mNil))))) (mVar 1) [1, 2]))
def m__law_jumps_v2 : MP := mFun ["part", "k", "row"] 1 b__law_jumps_v2
def vb__law_jumps_v2 : VS := (vRet (vLc (vIEn (vCons (vVar 0) vNil)) (vgTup 2 (vgCons (vgName 1) (vgCons (vgName 2) vgNil))) (vTest (vOp dIn (vOp dIx (vVar 2) (vC (.int 0))) (vTup (vCons (vC (.str "jump")) (vCons (vC (.str "branch")) vNil))))) (vVar 1) [1, 2]))
def v__law_jumps_v2 : VP := vFun ["part", "k", "row"] 1 vb__law_jumps_v2
theorem fp__law_jumps_v2 : FP m__law_jumps_v2 v__law_jumps_v2 := by
  unfold m__law_jumps_v2 v__law_jumps_v2 b__law_jumps_v2 vb__law_jumps_v2
  exact f_Fun (f_Ret (f_Lc (f_IEn (f_Cons f_Var f_Nil)) (f_gTup (f_gCons f_gName (f_gCons f_gName f_gNil))) (f_Test (f_Op (f_Op f_Var f_C) (f_Tup (f_Cons f_C (f_Cons f_C f_Nil))))) f_Var))
def b__law_places_v2 : MS := (mSeq (mSet 3 (mLst (mCons (mC (.int 0)) mNil))) (mSeq (mFor (mIEn (mCons (mVar 0) mNil)) (mgTup 2 (mgCons (mgName 4) (mgCons (mgName 5) mgNil))) (mSeq (mPar [6, 7] (mCons (mLook (mOp dIx (mVar 3) (mUn dNeg (mC (.int 1))))) (mCons (mOp dIx (mVar 5) (mC (.int 1))) mNil))) (mSeq (mIfS (mTest (mOp dIn (mOp dIx (mVar 5) (mC (.int 0))) (mTup (mCons (mC (.str "jump")) (mCons (mC (.str "branch")) mNil))))) (mSet 7 (mIf (mTest (mOp dIn (mVar 4) (mVar 2))) (mOp dIx (mVar 1) (mC (.int 0))) (mOp dIx (mVar 1) (mC (.int 2))))) (mIfS (mTest (mOp dEq (mOp dIx (mVar 5) (mC (.int 0))) (mC (.str "align")))) (mSet 7 (mOp dMod (mCl cInt (mCons (mOp dSub (mOp dIx (mVar 5) (mC (.int 1))) (mOp dMod (mCl cInt (mCons (mVar 6) mNil)) (mOp dIx (mVar 5) (mC (.int 1))))) mNil)) (mOp dIx (mVar 5) (mC (.int 1))))) (mIfS (mTest (mOp dIn (mOp dIx (mVar 5) (mC (.int 0))) (mTup (mCons (mC (.str "far")) (mCons (mC (.str "load")) (mCons (mC (.str "word")) mNil)))))) (mSet 7 (mOp dIx (mDisp (mpCons (mC (.str "far")) (mOp dIx (mVar 1) (mC (.int 3))) (mpCons (mC (.str "load")) (mOp dIx (mVar 1) (mC (.int 5))) (mpCons (mC (.str "word")) (mOp dIx (mVar 1) (mC (.int 7))) mpNil)))) (mOp dIx (mVar 5) (mC (.int 0))))) mNext))) (mAppend 3 (mOp dAdd (mVar 6) (mVar 7)))))) (mRet (mVar 3))))
def m__law_places_v2 : MP := mFun ["part", "machine", "forms", "found", "k", "row", "at", "size"] 3 b__law_places_v2
def vb__law_places_v2 : VS := (vSeqS (vSet 3 (vLst (vCons (vC (.int 0)) vNil))) (vSeqS (vFor (vIEn (vCons (vVar 0) vNil)) (vgTup 2 (vgCons (vgName 4) (vgCons (vgName 5) vgNil))) (vSeqS (vPar [6, 7] (vCons (vLook (vOp dIx (vVar 3) (vUn dNeg (vC (.int 1))))) (vCons (vOp dIx (vVar 5) (vC (.int 1))) vNil))) (vSeqS (vIfS (vTest (vOp dIn (vOp dIx (vVar 5) (vC (.int 0))) (vTup (vCons (vC (.str "jump")) (vCons (vC (.str "branch")) vNil))))) (vSet 7 (vIf (vTest (vOp dIn (vVar 4) (vVar 2))) (vOp dIx (vVar 1) (vC (.int 0))) (vOp dIx (vVar 1) (vC (.int 2))))) (vIfS (vTest (vOp dEq (vOp dIx (vVar 5) (vC (.int 0))) (vC (.str "align")))) (vSet 7 (vOp dMod (vCl cInt (vCons (vOp dSub (vOp dIx (vVar 5) (vC (.int 1))) (vOp dMod (vCl cInt (vCons (vVar 6) vNil)) (vOp dIx (vVar 5) (vC (.int 1))))) vNil)) (vOp dIx (vVar 5) (vC (.int 1))))) (vIfS (vTest (vOp dIn (vOp dIx (vVar 5) (vC (.int 0))) (vTup (vCons (vC (.str "far")) (vCons (vC (.str "load")) (vCons (vC (.str "word")) vNil)))))) (vSet 7 (vOp dIx (vDisp (vpCons (vC (.str "far")) (vOp dIx (vVar 1) (vC (.int 3))) (vpCons (vC (.str "load")) (vOp dIx (vVar 1) (vC (.int 5))) (vpCons (vC (.str "word")) (vOp dIx (vVar 1) (vC (.int 7))) vpNil)))) (vOp dIx (vVar 5) (vC (.int 0))))) vNext))) (vAppend 3 (vOp dAdd (vVar 6) (vVar 7)))))) (vRet (vVar 3))))
def v__law_places_v2 : VP := vFun ["part", "machine", "forms", "found", "k", "row", "at", "size"] 3 vb__law_places_v2
theorem fp__law_places_v2 : FP m__law_places_v2 v__law_places_v2 := by
  unfold m__law_places_v2 v__law_places_v2 b__law_places_v2 vb__law_places_v2
  exact f_Fun (f_Seq (f_Set (f_Lst (f_Cons f_C f_Nil))) (f_Seq (f_For (f_IEn (f_Cons f_Var f_Nil)) (f_gTup (f_gCons f_gName (f_gCons f_gName f_gNil))) (f_Seq (f_Par (f_Cons (f_Look (f_Op f_Var (f_Un f_C))) (f_Cons (f_Op f_Var f_C) f_Nil))) (f_Seq (f_IfS (f_Test (f_Op (f_Op f_Var f_C) (f_Tup (f_Cons f_C (f_Cons f_C f_Nil))))) (f_Set (f_If (f_Test (f_Op f_Var f_Var)) (f_Op f_Var f_C) (f_Op f_Var f_C))) (f_IfS (f_Test (f_Op (f_Op f_Var f_C) f_C)) (f_Set (f_Op (f_Cl (f_Cons (f_Op (f_Op f_Var f_C) (f_Op (f_Cl (f_Cons f_Var f_Nil)) (f_Op f_Var f_C))) f_Nil)) (f_Op f_Var f_C))) (f_IfS (f_Test (f_Op (f_Op f_Var f_C) (f_Tup (f_Cons f_C (f_Cons f_C (f_Cons f_C f_Nil)))))) (f_Set (f_Op (f_Disp (f_pCons f_C (f_Op f_Var f_C) (f_pCons f_C (f_Op f_Var f_C) (f_pCons f_C (f_Op f_Var f_C) f_pNil)))) (f_Op f_Var f_C))) f_Next))) (f_Append (f_Op f_Var f_Var))))) (f_Ret f_Var)))
def b__law_misfits_v2 : MS := (mSeq (mSet 3 (mCall m__law_places_v2 (mCons (mVar 0) (mCons (mVar 1) (mCons (mVar 2) mNil))))) (mRet (mLc (mISeq (mVar 2)) (mgName 4) (mTest (mOp dGt (mCl cAbs (mCons (mOp dSub (mOp dIx (mVar 3) (mOp dIx (mOp dIx (mVar 0) (mVar 4)) (mC (.int 1)))) (mOp dIx (mVar 3) (mVar 4))) mNil)) (mOp dIx (mVar 1) (mC (.int 1))))) (mVar 4) [4])))
def m__law_misfits_v2 : MP := mFun ["part", "machine", "forms", "found", "k"] 3 b__law_misfits_v2
def vb__law_misfits_v2 : VS := (vSeqS (vSet 3 (vCall v__law_places_v2 (vCons (vVar 0) (vCons (vVar 1) (vCons (vVar 2) vNil))))) (vRet (vLc (vISeq (vVar 2)) (vgName 4) (vTest (vOp dGt (vCl cAbs (vCons (vOp dSub (vOp dIx (vVar 3) (vOp dIx (vOp dIx (vVar 0) (vVar 4)) (vC (.int 1)))) (vOp dIx (vVar 3) (vVar 4))) vNil)) (vOp dIx (vVar 1) (vC (.int 1))))) (vVar 4) [4])))
def v__law_misfits_v2 : VP := vFun ["part", "machine", "forms", "found", "k"] 3 vb__law_misfits_v2
theorem fp__law_misfits_v2 : FP m__law_misfits_v2 v__law_misfits_v2 := by
  unfold m__law_misfits_v2 v__law_misfits_v2 b__law_misfits_v2 vb__law_misfits_v2
  exact f_Fun (f_Seq (f_Set (f_Call fp__law_places_v2 (f_Cons f_Var (f_Cons f_Var (f_Cons f_Var f_Nil))))) (f_Ret (f_Lc (f_ISeq f_Var) f_gName (f_Test (f_Op (f_Cl (f_Cons (f_Op (f_Op f_Var (f_Op (f_Op f_Var f_Var) f_C)) (f_Op f_Var f_Var)) f_Nil)) (f_Op f_Var f_C))) f_Var)))
def b_is_ascending_v2 : MS := (mRet (mCl cAll (mCons (mLc (mIZ (mCons (mVar 0) (mCons (mSl (mVar 0) (mPart (mC (.int 1))) mNoPart) mNil))) (mgTup 2 (mgCons (mgName 1) (mgCons (mgName 2) mgNil))) mYes (mOp dLtA (mVar 1) (mVar 2)) [1, 2]) mNil)))
def m_is_ascending_v2 : MP := mFun ["members", "member", "behind"] 1 b_is_ascending_v2
def vb_is_ascending_v2 : VS := (vRet (vCl cAll (vCons (vLc (vIZ (vCons (vVar 0) (vCons (vSl (vVar 0) (vPart (vC (.int 1))) vNoPart) vNil))) (vgTup 2 (vgCons (vgName 1) (vgCons (vgName 2) vgNil))) vYes (vOp dLtA (vVar 1) (vVar 2)) [1, 2]) vNil)))
def v_is_ascending_v2 : VP := vFun ["members", "member", "behind"] 1 vb_is_ascending_v2
theorem fp_is_ascending_v2 : FP m_is_ascending_v2 v_is_ascending_v2 := by
  unfold m_is_ascending_v2 v_is_ascending_v2 b_is_ascending_v2 vb_is_ascending_v2
  exact f_Fun (f_Ret (f_Cl (f_Cons (f_Lc (f_IZ (f_Cons f_Var (f_Cons (f_Sl f_Var (f_Part f_C) f_NoPart) f_Nil))) (f_gTup (f_gCons f_gName (f_gCons f_gName f_gNil))) f_Yes (f_Op f_Var f_Var)) f_Nil)))
def b_size_of : MS := (mRet (mOp dIx (mCall m_addresses_of (mCons (mVar 0) (mCons (mVar 1) (mCons (mVar 2) mNil)))) (mUn dNeg (mC (.int 1)))))
def m_size_of : MP := mFun ["part", "machine", "forms"] 3 b_size_of
def vb_size_of : VS := (vRet (vOp dIx (vCall v_addresses_of (vCons (vVar 0) (vCons (vVar 1) (vCons (vVar 2) vNil)))) (vUn dNeg (vC (.int 1)))))
def v_size_of : VP := vFun ["part", "machine", "forms"] 3 vb_size_of
theorem fp_size_of : FP m_size_of v_size_of := by
  unfold m_size_of v_size_of b_size_of vb_size_of
  exact f_Fun (f_Ret (f_Op (f_Call fp_addresses_of (f_Cons f_Var (f_Cons f_Var (f_Cons f_Var f_Nil)))) (f_Un f_C)))
end RC
end
section
namespace RR
open PySem PySem.Spec L2
open PyProof.Rows hiding St
structure EX where
  nx : DEnv → Nat → Prop
  rt : D → Nat → Prop
  xc : Str → Prop
/-- a class of errors: made with a text, known by its name -/
structure XC (K : PySem.W.Frag) (mg : Str → Option Value) (x : Str) (C : Addr) : Prop where
  g : mg x = some (.ref C)
  k : PySem.W.keepIn K (.ref C) = true
  q : ∃ bm n, PySem.W.excIn K C bm n = true ∧ ∃ B i, ExcBaseFacts B n i bm
  b : PySem.W.subIn K (.ref C) (.type "BaseException") = some true
  t : PySem.W.typeIn K (.ref C) = some (.type "type")
end RR
end
section
namespace RR
open PySem PySem.Spec L2
open PyProof.Rows hiding St
end RR
end
section
namespace RR
open PySem PySem.Spec L2
open PyProof.Rows hiding St
end RR
end
section
namespace RR
open PySem PySem.Spec L2
open PyProof.Rows hiding St
end RR
end
section
namespace RR
open PySem PySem.Spec L2
open PyProof.Rows hiding St
/-- empty tables stay -/
def TbS (H H' : Hp) : Prop := ∀ T, H T = some (.tbl #[]) → H' T = some (.tbl #[])
theorem TbS.refl {H : Hp} : TbS H H := fun _ h => h
theorem TbS.new {H H1 : Hp} {b : Addr} {o : HO} (t : TbS H H1) (n : H1 b = none) : TbS H (upd H1 b o) := fun T h => by
  rw [upd_ne (ne_of_none (t T h) n)]; exact t T h
theorem TbS.lst {H H1 : Hp} {b : Addr} {o : HO} {xs : List V} (t : TbS H H1) (n : H1 b = some (.lst xs)) : TbS H (upd H1 b o) := fun T h => by
  have z : T ≠ b := fun z => by have := t T h; rw [z, n] at this; cases this
  rw [upd_ne z]; exact t T h
end RR
end
section
namespace RR
open PySem PySem.Spec L2
open PyProof.Rows hiding St
/-- which of these classes an error of the class C is of -/
def KitL (K : PySem.W.Frag) (mg : Str → Option Value) (C : Addr) : List (Str × Bool) → Prop
  | [] => True
  | (y, b) :: r => (∃ c, mg y = some (.ref c) ∧ PySem.W.kitOne K (.ref C) (.ref c) = some b) ∧ KitL K mg C r
/-- a class under the class top that is caught -/
def XK (K : PySem.W.Frag) (mg : Str → Option Value) (top : Str) (ys : List (Str × Bool)) (x : Str) : Prop :=
  ∃ C, XC K mg x C ∧ ExcC K C ∧ (∃ CR, mg top = some (.ref CR) ∧ PySem.W.exmOne K (.ref C) (.ref CR) = some true) ∧ KitL K mg C ys
theorem XK.at {K : PySem.W.Frag} {mg : Str → Option Value} {top x : Str} {ys : List (Str × Bool)} {C CR : Addr} (h : XK K mg top ys x) (hC : mg x = some (.ref C)) (hR : mg top = some (.ref CR)) : ExcC K C ∧ PySem.W.exmOne K (.ref C) (.ref CR) = some true ∧ KitL K mg C ys := by
  obtain ⟨C', h1, h2, ⟨R', h3, h4⟩, h5⟩ := h
  rw [h1.g] at hC
  rw [h3] at hR
  cases hC
  cases hR
  exact ⟨h2, h4, h5⟩
end RR
end
section
namespace RC
open PySem PySem.Spec L2 RR
open PyProof.Rows hiding St
end RC
end
section
namespace RR
open PySem PySem.Spec L2
open PyProof.Rows hiding St
end RR
end
section
namespace RR
open PySem PySem.Spec L2
open PyProof.Rows hiding St
end RR
end
section
namespace Cmb
open PySem PySem.Spec
open Sem (wp)
abbrev cT : String := "itertools.combinations"
theorem c_mro : mroOf (.type cT) = pure [.type cT, .type "object"] := by rw [mroOf_type]; kernel_rfl
theorem c_new : typeLookup (.type cT) "__new__" = pure (some (.builtin "itertools.combinations.__new__")) := by rw [typeLookup_type, builtinLookup_eq_fast]; kernel_rfl
theorem c_init : Slot cT "__init__" "object.__init__" :=
  .of (owner := "object") (n := "__init__") (by rw [typeLookup_type, builtinLookup_eq_fast]; kernel_rfl) (by decide +kernel) (by decide +kernel) (by decide +kernel) (by first | exact .inl (by decide +kernel) | exact .inr (by decide +kernel)) (by rw [isSubtype_type]; kernel_rfl)
theorem c_sub : isSubtype (.type cT) (.type cT) = pure true := by rw [isSubtype_type]; kernel_rfl
theorem c_called : TypeCalled cT "itertools.combinations.__new__" "object.__init__" := ⟨by decide +kernel, by decide +kernel, ⟨_, _, c_mro⟩, madeBy_type c_mro c_new (by decide +kernel), by decide +kernel, c_sub, c_init⟩
theorem c_tcall (a b : Value) : checkTypeCall cT ⟨[a, b], []⟩ = pure () := by kernel_rfl
theorem c_ncall (a b : Value) : checkBuiltinCall "itertools.combinations.__new__" ⟨[.type cT, a, b], []⟩ = pure () := by kernel_rfl
theorem c_entryN : entryFor table "itertools.combinations.__new__" = some Builtin.«itertools.combinations.__new__» := entryFor_of_tree (by kernel_rfl)
theorem c_iter : Slot cT "__iter__" "itertools.combinations.__iter__" :=
  .of (owner := "itertools.combinations") (n := "__iter__") (by rw [typeLookup_type, builtinLookup_eq_fast]; kernel_rfl) (by decide +kernel) (by decide +kernel) (by decide +kernel) (by first | exact .inl (by decide +kernel) | exact .inr (by decide +kernel)) c_sub
theorem c_next : Slot cT "__next__" "itertools.combinations.__next__" :=
  .of (owner := "itertools.combinations") (n := "__next__") (by rw [typeLookup_type, builtinLookup_eq_fast]; kernel_rfl) (by decide +kernel) (by decide +kernel) (by decide +kernel) (by first | exact .inl (by decide +kernel) | exact .inr (by decide +kernel)) c_sub
theorem c_entryI : entryFor table "itertools.combinations.__iter__" = some Builtin.«dict_keyiterator.__iter__» :=
  entryFor_alias (id' := "dict_keyiterator.__iter__") (by kernel_rfl) (by first | rfl | decide +kernel | (unfold String.splitOn; simp +decide [String.splitOnAux])) (by decide +kernel) (by kernel_rfl)
theorem c_entryX : entryFor table "itertools.combinations.__next__" = some Builtin.«itertools.combinations.__next__» := entryFor_of_tree (by kernel_rfl)
theorem c_owner : Manifest.owners.lookup (String.ofList ['s', 'n', 'o', 'i', 't', 'a', 'n', 'i', 'b', 'm', 'o', 'c', '.', 's', 'l', 'o', 'o', 't', 'r', 'e', 't', 'i'].reverse) = some Manifest.sig_itertools_combinations := by kernel_rfl
theorem c_argsI (a : Value) : argsOk "itertools.combinations.__iter__" ⟨[a], []⟩ := by
  unfold argsOk; rw [signature?_of (id := "itertools.combinations.__iter__") (n := ['_', '_', 'r', 'e', 't', 'i', '_', '_']) (o := ['s', 'n', 'o', 'i', 't', 'a', 'n', 'i', 'b', 'm', 'o', 'c', '.', 's', 'l', 'o', 'o', 't', 'r', 'e', 't', 'i']) (by kernel_rfl) c_owner]; kernel_rfl
theorem c_argsX (a : Value) : argsOk "itertools.combinations.__next__" ⟨[a], []⟩ := by
  unfold argsOk; rw [signature?_of (id := "itertools.combinations.__next__") (n := ['_', '_', 't', 'x', 'e', 'n', '_', '_']) (o := ['s', 'n', 'o', 'i', 't', 'a', 'n', 'i', 'b', 'm', 'o', 'c', '.', 's', 'l', 'o', 'o', 't', 'r', 'e', 't', 'i']) (by kernel_rfl) c_owner]; kernel_rfl
theorem c_noDict : typeHasDict (.type cT) = false := by decide +kernel
/-- the record: the pool, where it stands, what it handed out, the indices -/
def cObj (P : Addr) (st : Int) (res : Value) (ix : List Nat) : Obj := { cls := .type cT, data := .fields ([.ref P, rawInt st, res] ++ ix.map fun (i : Nat) => rawInt i).toArray }
abbrev IsC (h : Heap) (it P : Addr) (st : Int) (res : Value) (ix : List Nat) : Prop := h.get? it = some (cObj P st res ix)
end Cmb
end
section
namespace Cmb
open PySem PySem.Spec
open Sem (wp)
theorem meets_cnew (l : Addr) (vs : List Value) (r : Nat) (t : Tok) (hr : r ≤ 1000) (hv : vs.length ≤ 1000) : Meets (Builtin.«itertools.combinations.__new__» ⟨[.type cT, .ref l, .int (r : Int) t], []⟩)
    (fun _ R s => s.heap.IsList l vs.toArray ∧
      ∀ h' : Heap, (∀ b o, s.heap.get? b = some o → h'.get? b = some o) → h'.objs.size = s.heap.objs.size + 1 → R (.ok (.ret (.ref (h'.objs.size + 1)))) { s with heap := (h'.push { cls := .type "tuple", data := .seq vs.toArray }).push (cObj h'.objs.size (if r > vs.length then 2 else 0) .none (List.range r)) }) :=
  .of_wp fun prog w A R s h => by
    obtain ⟨hl, h⟩ := h
    obtain ⟨hp, g, dd, tk, os⟩ := s
    have hsub := c_sub
    have hn : ¬ ((decide ((r : Int) < -(2 ^ 63 : Int)) || decide ((2 ^ 63 : Int) ≤ (r : Int))) = true) := by
      have a : decide ((r : Int) < -(2 ^ 63 : Int)) = false := decide_eq_false (by omega)
      have b : decide ((2 ^ 63 : Int) ≤ (r : Int)) = false := decide_eq_false (by omega)
      rw [a, b]
      decide
    repeat (first
      | wp_step
      | simp only [List.head?_cons, Option.some_or, List.getElem?_cons_succ, List.getElem?_cons_zero, List.length_cons, List.length_nil, List.forIn_nil])
    refine wpAny_of_eq (a := true) (show isSubtype (.type cT) (.type ("itertools." ++ "combinations")) = pure true from c_sub) ?_
    rw [if_neg (show ¬ ((!true) = true) by decide)]
    repeat (first
      | wp_step
      | simp only [List.head?_cons, Option.some_or, List.getElem?_cons_succ, List.getElem?_cons_zero, List.length_cons, List.length_nil, List.forIn_nil])
    rw [if_neg (show ¬ ((decide ((r : Int) < -2 ^ 63) || decide ((r : Int) ≥ 2 ^ 63)) = true) from hn)]
    refine wpAny_pure ?_
    have col : ∀ {Q : List Value → Shared → Prop} {E : Value → Shared → Prop}, (∀ h' : Heap, (∀ b o, hp.get? b = some o → h'.get? b = some o) → h'.objs.size = hp.objs.size + 1 → Q vs ⟨h', g, dd, tk, os⟩) → wpAny (model prog w) A.in1 (collect (.ref l)) Q E ⟨hp, g, dd, tk, os⟩ := fun {Q E} hQ => by
      refine PyProof.Rows.collect_list (s := ⟨hp, g, dd, tk, os⟩) hl (hQ _ (fun b o q => ?_) ?_) (Nat.le_trans hv (by decide))
      · exact ((Heap.SameBut.update ..).2 b (Nat.ne_of_lt (Heap.lt_size q))).trans (Heap.get?_push_of_some _ q)
      · rw [Heap.size_update, Heap.size_push]
    refine wpAny_bind (col fun h' hk hsz => ?_)
    rw [if_neg (show ¬ ((r : Int) < 0) by omega), if_neg (show ¬ (Builtin.Itertools.itTooMany (r : Int) = true) by
      unfold Builtin.Itertools.itTooMany
      simp only [decide_eq_true_eq]
      omega)]
    refine wpAny_bind (wpAny_newTuple (wpAny_pure ?_) (Nat.le_trans hv (by decide)))
    dsimp only
    unfold Builtin.Itertools.itNewRecord
    rw [c_noDict]
    simp only [Bool.not_false, if_true]
    refine wpAny_bind (wpAny_newObj_type ?_ ?_)
    · exact wpAny_pure ⟨_, rfl, by have z := h h' hk hsz; unfold cObj at z; simpa only [Int.toNat_natCast, Heap.size_push] using z⟩
    · show (([Value.ref h'.objs.size, rawInt (if (r : Int).toNat > vs.length then 2 else 0), Value.none] ++ List.map (fun (i : Nat) => rawInt (i : Int)) (List.range (r : Int).toNat)).toArray).size ≤ sizeLine + 2
      have : 1003 ≤ sizeLine + 2 := by decide
      simp
      omega
end Cmb
end
section
namespace Cmb
open PySem PySem.Spec
open Sem (wp)
section
variable {prog : Program} {w : World} {A : Around} {E : Value → Shared → Prop} {s : Shared}
theorem call_comb {l : Addr} {vs : List Value} {r : Nat} {t : Tok} {Q : Value → Shared → Prop} (hr : r ≤ 1000) (hv : vs.length ≤ 1000) (hl : s.heap.IsList l vs.toArray)
    (h : ∀ (it P : Addr) (h' : Heap), (∀ b o, s.heap.get? b = some o → h'.get? b = some o) → s.heap.objs.size ≤ it → s.heap.objs.size ≤ P → P ≠ it → IsC h' it P (if r > vs.length then 2 else 0) .none (List.range r) → h'.get? P = some { cls := .type "tuple", data := .seq vs.toArray } → Q (.ref it) { s with heap := h' }) :
    wpAny (model prog w) A (call (.type cT) [.ref l, .int (r : Int) t]) Q E s := by
  refine callType_new c_called (by decide +kernel) (c_tcall _ _) (c_ncall _ _) (fun obj => F.args_object_init_3 obj _ _) c_entryN (meets_cnew l vs r t hr hv) ⟨hl, fun h' hk hsz => ?_⟩
  have g1 : ((h'.push { cls := .type "tuple", data := .seq vs.toArray }).push (cObj h'.objs.size (if r > vs.length then 2 else 0) .none (List.range r))).get? (h'.objs.size + 1) = some (cObj h'.objs.size (if r > vs.length then 2 else 0) .none (List.range r)) := by
    have := Heap.get?_push_size (o := cObj h'.objs.size (if r > vs.length then 2 else 0) .none (List.range r)) (h'.push { cls := .type "tuple", data := .seq vs.toArray }) rfl
    rwa [Heap.size_push] at this
  have o1 : s.heap.objs.size ≤ h'.objs.size + 1 ∧ s.heap.objs.size ≤ h'.objs.size ∧ h'.objs.size ≠ h'.objs.size + 1 := by omega
  exact ⟨⟨_, g1, rfl⟩, h (h'.objs.size + 1) h'.objs.size _ (fun b o q => Heap.get?_push_of_some _ (Heap.get?_push_of_some _ (hk b o q))) o1.1 o1.2.1 o1.2.2 g1 (Heap.get?_push_of_some _ (Heap.get?_push_size _ rfl))⟩
theorem iter_comb {it P : Addr} {st : Int} {res : Value} {ix : List Nat} {Q : Value → Shared → Prop} (hit : IsC s.heap it P st res ix) (h : Q (.ref it) s) : wpAny (model prog w) A (pyIter (.ref it)) Q E s := by
  have hT : s.TypeIs (.ref it) cT := ⟨_, hit, rfl⟩
  refine wpAny_pyIter_slot hT c_iter (wpAny_call_entry c_iter hT c_entryI ?_ (c_argsI _))
  show wpAny _ _ (ret (.ref it)) _ _ s
  exact wpAny_pure ⟨_, rfl, cT, _, hT, c_next.lookup, h⟩
/-- one index list behind another, as the model steps -/
def nextC (n : Nat) (ix : List Nat) : Option (List Nat) :=
  match (List.range ix.length).reverse.find? fun i => ix.getD i 0 != i + n - ix.length with
  | none => none
  | some i => some (ix.take i ++ (List.range (ix.length - i)).map (ix.getD i 0 + 1 + ·))
theorem nums_of {a b c : Value} {ix : List Nat} (f : Value → Nat) (hf : ∀ n t, f (.int n t) = n.toNat) : List.map f (List.drop 3 ([a, b, c] ++ ix.map fun (i : Nat) => rawInt i).toArray.toList) = ix := by
  show List.map f (ix.map fun (i : Nat) => rawInt i) = ix
  rw [List.map_map]
  have e : (f ∘ fun (i : Nat) => rawInt i) = id := by
    funext i
    exact (hf _ _).trans (Int.toNat_natCast i)
  rw [e, List.map_id]
theorem obj_set1 {P : Addr} {st st' : Int} {res : Value} {ix : List Nat} : (cObj P st res ix).mapFields (fun x => x.setIfInBounds 1 (rawInt st')) = cObj P st' res ix := by
  unfold cObj Obj.mapFields
  simp
theorem obj_set2 {P : Addr} {st : Int} {res res' : Value} {ix : List Nat} : (cObj P st res ix).mapFields (fun x => x.setIfInBounds 2 res') = cObj P st res' ix := by
  unfold cObj Obj.mapFields
  simp
theorem obj_ix {P : Addr} {st : Int} {res : Value} {ix ix' : List Nat} : (cObj P st res ix).mapFields (fun fs => fs.extract 0 3 ++ (ix'.map fun (n : Nat) => rawInt n).toArray) = cObj P st res ix' := by
  unfold cObj Obj.mapFields
  simp
section
variable {M : Model} {prog : Program} {w : World} {A : Around} {E : Value → Shared → Prop} {s : Shared} {it P : Addr} {st : Int} {res : Value} {ix : List Nat} {vs : List Value}
theorem w_nums {Q : List Nat → Shared → Prop} (hit : IsC s.heap it P st res ix) (h : Q ix s) : wpAny M A (Builtin.Itertools.itNumbersFrom (.ref it) 3) Q E s := by
  unfold Builtin.Itertools.itNumbersFrom
  refine wpAny_bind (wpAny_load hit (wpAny_pure ?_))
  rw [nums_of _ (fun _ _ => rfl)]
  exact h
theorem w_int {Q : Int → Shared → Prop} (hit : IsC s.heap it P st res ix) (h : Q st s) : wpAny M A (Builtin.Itertools.itIntField (.ref it) 1) Q E s := by
  unfold Builtin.Itertools.itIntField
  exact wpAny_bind (wpAny_field hit rfl (x := rawInt st) rfl (wpAny_pure h))
theorem w_pool {Q : Array Value → Shared → Prop} (hP : s.heap.get? P = some { cls := .type "tuple", data := .seq vs.toArray }) (h : Q vs.toArray s) : wpAny M A (Builtin.Itertools.itPoolItems (.ref P)) Q E s := by
  unfold Builtin.Itertools.itPoolItems
  exact wpAny_bind (wpAny_seqItems hP rfl (wpAny_pure h))
/-- what is handed out: a new tuple, kept in the record -/
theorem w_hand {pk : Sem Value} {Q : PySem.Fin → Shared → Prop} (hpk : pk = (Builtin.Itertools.itPoolItems (.ref P) >>= fun items => newTuple (ix.map fun i => items.getD i .none))) (hit : IsC s.heap it P st res ix) (hP : s.heap.get? P = some { cls := .type "tuple", data := .seq vs.toArray }) (hx : ix.length ≤ 1000)
    (h : ∀ h' : Heap, (∀ b o, b ≠ it → s.heap.get? b = some o → h'.get? b = some o) → IsC h' it P st (.ref s.heap.objs.size) ix → h'.get? s.heap.objs.size = some { cls := .type "tuple", data := .seq (ix.map fun i => vs.toArray.getD i .none).toArray } → Q (.done (.ret (.ref s.heap.objs.size))) { s with heap := h' }) :
    wpAny M A (do
      let result ← pk
      let before ← field (.ref it) 2
      setField (.ref it) 2 result
      letGo [before] [result]
      ret result) Q E s := by
  subst hpk
  refine wpAny_bind (wpAny_bind (w_pool hP (wpAny_newTuple ?_ (by rw [List.length_map]; exact Nat.le_trans hx (by decide)))))
  have lt := Heap.lt_size hit
  have g1 : (s.heap.push { cls := .type "tuple", data := .seq (ix.map fun i => vs.toArray.getD i .none).toArray }).get? it = some (cObj P st res ix) := Heap.get?_push_of_some _ hit
  refine wpAny_bind (wpAny_field g1 rfl (x := res) rfl (wpAny_bind (wpAny_setField g1 rfl (by simp) (wpAny_bind (wpAny_letGo (wpAny_pure ?_))))))
  refine h _ (fun b o ne q => ?_) ?_ ?_
  · exact (Heap.SameBut.update ..).2 b ne |>.trans (Heap.get?_push_of_some _ q)
  · have z := Heap.get?_update_self (Obj.mapFields fun x => x.setIfInBounds 2 (.ref s.heap.objs.size)) g1 rfl
    rw [obj_set2] at z
    exact z
  · exact ((Heap.SameBut.update ..).2 _ (Nat.ne_of_gt lt)).trans (Heap.get?_push_size _ rfl)
end
end
end Cmb
end
section
namespace Cmb
open PySem PySem.Spec
open Sem (wp)
section
variable {prog : Program} {w : World} {A : Around} {E : Value → Shared → Prop} {s : Shared} {it P : Addr} {st : Int} {res : Value} {ix ix' : List Nat} {vs : List Value}
theorem upd_keep {h : Heap} {f : Obj → Obj} {b : Addr} {o : Obj} (ne : b ≠ it) (q : h.get? b = some o) : (h.update it f).get? b = some o := ((Heap.SameBut.update ..).2 b ne).trans q
/-- the first one -/
theorem comb_start {Q : Option Value → Shared → Prop} (hit : IsC s.heap it P 0 res ix) (hP : s.heap.get? P = some { cls := .type "tuple", data := .seq vs.toArray }) (ne : P ≠ it) (hx : ix.length ≤ 1000)
    (hQ : ∀ h' : Heap, (∀ b o, b ≠ it → s.heap.get? b = some o → h'.get? b = some o) → IsC h' it P 1 (.ref s.heap.objs.size) ix → h'.get? s.heap.objs.size = some { cls := .type "tuple", data := .seq (ix.map fun i => vs.toArray.getD i .none).toArray } → Q (some (.ref s.heap.objs.size)) { s with heap := h' }) :
    wpAny (model prog w) A (callSpecial? (.ref it) "__next__") Q E s := by
  have hT : s.TypeIs (.ref it) cT := ⟨_, hit, rfl⟩
  refine wpAny_callSpecial?_slot (name := Str.ofString "__next__") hT c_next (wpAny_call_entry c_next hT c_entryX ?_ (c_argsX _))
  show wpAny _ _ (field (.ref it) 0 >>= _) _ _ s
  refine wpAny_bind (wpAny_field hit rfl (x := .ref P) rfl (wpAny_bind (w_nums hit (wpAny_bind (w_int hit ?_)))))
  dsimp only
  refine wpAny_bind (wpAny_setField hit rfl (by simp) ?_)
  have g1 : IsC (s.heap.update it (Obj.mapFields fun x => x.setIfInBounds 1 (rawInt 1))) it P 1 res ix := by
    have z := Heap.get?_update_self (Obj.mapFields fun x => x.setIfInBounds 1 (rawInt 1)) hit rfl
    rw [obj_set1] at z
    exact z
  have sz : (s.heap.update it (Obj.mapFields fun x => x.setIfInBounds 1 (rawInt 1))).objs.size = s.heap.objs.size := Heap.size_update ..
  refine w_hand (vs := vs) rfl g1 (upd_keep ne hP) hx fun h' k i1 t1 => ?_
  rw [sz] at i1 t1 ⊢
  exact ⟨_, rfl, hQ h' (fun b o nb q => k b o nb (upd_keep nb q)) i1 t1⟩
/-- one more -/
theorem comb_step {Q : Option Value → Shared → Prop} (hit : IsC s.heap it P 1 res ix) (hP : s.heap.get? P = some { cls := .type "tuple", data := .seq vs.toArray }) (ne : P ≠ it) (hn : nextC vs.length ix = some ix') (hx : ix'.length ≤ 1000)
    (hQ : ∀ h' : Heap, (∀ b o, b ≠ it → s.heap.get? b = some o → h'.get? b = some o) → IsC h' it P 1 (.ref s.heap.objs.size) ix' → h'.get? s.heap.objs.size = some { cls := .type "tuple", data := .seq (ix'.map fun i => vs.toArray.getD i .none).toArray } → Q (some (.ref s.heap.objs.size)) { s with heap := h' }) :
    wpAny (model prog w) A (callSpecial? (.ref it) "__next__") Q E s := by
  have hT : s.TypeIs (.ref it) cT := ⟨_, hit, rfl⟩
  refine wpAny_callSpecial?_slot (name := Str.ofString "__next__") hT c_next (wpAny_call_entry c_next hT c_entryX ?_ (c_argsX _))
  show wpAny _ _ (field (.ref it) 0 >>= _) _ _ s
  refine wpAny_bind (wpAny_field hit rfl (x := .ref P) rfl (wpAny_bind (w_nums hit (wpAny_bind (w_int hit ?_)))))
  dsimp only
  refine wpAny_bind (w_pool hP ?_)
  show wpAny _ _ (match nextC vs.length ix with | some next => _ | none => _) _ _ _
  rw [hn]
  dsimp only
  have sz1 : ∀ {f : Obj → Obj}, (s.heap.update it f).objs.size = s.heap.objs.size := fun {f} => Heap.size_update ..
  have set : ∀ {Q' : Unit → Shared → Prop}, (∀ h1 : Heap, (∀ b o, b ≠ it → s.heap.get? b = some o → h1.get? b = some o) → h1.objs.size = s.heap.objs.size → IsC h1 it P 1 res ix' → Q' () { s with heap := h1 }) → wpAny (model prog w) A.in1 (Builtin.Itertools.itSetNumbersFrom (.ref it) 3 ix') Q' E s := fun {Q'} h => by
    unfold Builtin.Itertools.itSetNumbersFrom
    refine wpAny_updateFields hit rfl (h _ (fun b o nb q => upd_keep nb q) sz1 ?_) ?_
    · have z := Heap.get?_update_self (Obj.mapFields fun fs => fs.extract 0 3 ++ (ix'.map fun (n : Nat) => rawInt n).toArray) hit rfl
      rw [obj_ix] at z
      exact z
    · have : 1003 ≤ sizeLine + 3 := by decide
      simp
      omega
  refine wpAny_bind (set fun h1 k1 z1 g1 => ?_)
  refine w_hand (vs := vs) rfl g1 (k1 _ _ ne hP) hx fun h' k i1 t1 => ?_
  rw [z1] at i1 t1 ⊢
  exact ⟨_, rfl, hQ h' (fun b o nb q => k b o nb (k1 b o nb q)) i1 t1⟩
/-- the end: no more -/
theorem comb_stop {Q : Option Value → Shared → Prop} (hh : A.handled = none) (hit : IsC s.heap it P st res ix) (hP : s.heap.get? P = some { cls := .type "tuple", data := .seq vs.toArray }) (hst : st = 2 ∨ (st = 1 ∧ nextC vs.length ix = none))
    (hQ : ∀ e h', CpRep.StopE e h' → (∀ b o, b ≠ it → s.heap.get? b = some o → h'.get? b = some o) → E e { s with heap := h' }) : wpAny (model prog w) A (callSpecial? (.ref it) "__next__") Q E s := by
  have hT : s.TypeIs (.ref it) cT := ⟨_, hit, rfl⟩
  refine wpAny_callSpecial?_slot (name := Str.ofString "__next__") hT c_next (wpAny_call_entry c_next hT c_entryX ?_ (c_argsX _))
  show wpAny _ _ (field (.ref it) 0 >>= _) _ _ s
  refine wpAny_bind (wpAny_field hit rfl (x := .ref P) rfl (wpAny_bind (w_nums hit (wpAny_bind (w_int hit ?_)))))
  have stop : ∀ {α : Type} {Q' : α → Shared → Prop} {h1 : Heap}, (∀ b o, b ≠ it → s.heap.get? b = some o → h1.get? b = some o) → wpAny (model prog w) A.in1 (Builtin.Itertools.itStop : Sem α) Q' E { s with heap := h1 } := fun {α Q' h1} k1 => by
    unfold Builtin.Itertools.itStop
    refine wpAny_bind ?_
    simp only [newExc, newTuple]
    refine wpAny_bind (wpAny_newObj_type ?_ (by size_fits))
    refine wpAny_bind (m := firstArgMember _ _) (wpAny_of_eq (a := Value.none) (by first | rfl | (simp only [firstArgMember]; rfl)) ?_)
    refine wpAny_newObj_type ?_ (by size_fits)
    simp only [raiseNew]
    refine wpAny_bind (wpAny_handled ?_)
    first | rw [show A.in1.handled = none from hh] | rw [hh]
    refine wpAny_bind (wpAny_pure (wpAny_throw ?_))
    exact hQ _ _ ⟨_, _, _, rfl, Heap.get?_push_size _ rfl, rfl, rfl, rfl⟩ fun b o nb q => Heap.get?_push_of_some _ (Heap.get?_push_of_some _ (k1 b o nb q))
  rcases hst with rfl | ⟨rfl, hn⟩
  · dsimp only
    exact wpAny_bind (wpAny_rule (stop fun b o _ q => q))
  · dsimp only
    refine wpAny_bind (w_pool hP ?_)
    show wpAny _ _ (match nextC vs.length ix with | some next => _ | none => _) _ _ _
    rw [hn]
    dsimp only
    exact wpAny_bind (wpAny_setField hit rfl (by simp) (stop fun b o nb q => upd_keep nb q))
end
end Cmb
end
section
namespace Cmb
open PySem PySem.Spec L2
open PyProof.Rows hiding St
/-- the index lists in their order: n things, r at a time -/
structure Chain (n r : Nat) (cs : List (List Nat)) : Prop where
  none_ : r > n → cs = []
  first : ¬ r > n → cs[0]? = some (List.range r)
  step : ∀ (i : Nat) a b, cs[i]? = some a → cs[i + 1]? = some b → nextC n a = some b
  last : ∀ (i : Nat) a, cs[i]? = some a → cs[i + 1]? = none → nextC n a = none
  short : ∀ a ∈ cs, a.length ≤ 1000
/-- the tuples that come, one by one, each new -/
def ItCb (xs : List V) (cs : List (List Nat)) : It :=
  ⟨fun i _ => i < cs.length, fun i H v H' => ∃ T ix, cs[i]? = some ix ∧ v = .ref T ∧ H T = none ∧ H' = upd H T (.tup (ix.map fun j => xs.getD j .non)), fun i _ => cs.length ≤ i⟩
/-- where the record stands at turn i -/
def tnC (it P : Addr) (us : List Value) (r : Nat) (cs : List (List Nat)) (i : Nat) (h : Heap) : Prop :=
  h.get? P = some { cls := .type "tuple", data := .seq us.toArray } ∧ ∃ (res : Value) (ix : List Nat),
    (i = 0 ∧ IsC h it P (if r > us.length then 2 else 0) res ix ∧ ix = List.range r) ∨ (0 < i ∧ IsC h it P 1 res ix ∧ cs[i - 1]? = some ix)
theorem getD_rel {xs : List V} {us : List Value} (r : Vals xs us) (j : Nat) : RelV (xs.getD j .non) (us.toArray.getD j .none) := by
  have hl := r.length
  by_cases h : j < xs.length
  · obtain ⟨u, hu, ru⟩ := r.get (List.getElem?_eq_getElem h)
    have e1 : xs.getD j .non = xs[j] := by simp [List.getD, h]
    have e2 : us.toArray.getD j .none = u := by
      rw [Array.getD_eq_getD_getElem?]
      simp [hu]
    rw [e1, e2]; exact ru
  · have e1 : xs.getD j .non = .non := by simp [List.getD, List.getElem?_eq_none (Nat.not_lt.mp h)]
    have e2 : us.toArray.getD j .none = .none := by
      rw [Array.getD_eq_getD_getElem?]
      simp [List.getElem?_eq_none (show us.length ≤ j by omega)]
    rw [e1, e2]; exact rfl
theorem vals_map {xs : List V} {us : List Value} (r : Vals xs us) : ∀ ix : List Nat, Vals (ix.map fun j => xs.getD j .non) (ix.map fun j => us.toArray.getD j .none)
  | [] => .nil
  | j :: ix => .cons (getD_rel r j) (vals_map r ix)
section
variable {prog : Program} {w : World} {A : Around} {E : Value → Shared → Prop} {s : Shared} {it P : Addr} {st : Int} {res : Value} {ix ix' : List Nat} {us : List Value}
theorem turn_comb {K : PySem.W.Frag} {tg : Expr} {xs : List V} {r : Nat} {cs : List (List Nat)} (rv : Vals xs us) (ne : P ≠ it) (C : Chain us.length r cs) (hr : r ≤ 1000) : Turn prog w K tg (ItCb xs cs) [it, P] it (tnC it P us r cs) where
  mem := by simp
  obj := fun i h ⟨hP, res, ix, hc⟩ b hb => by
    have e : b = it ∨ b = P := by simpa using hb
    rcases e with rfl | rfl
    · rcases hc with ⟨_, hc, _⟩ | ⟨_, hc, _⟩
      · exact ⟨_, hc, fun v z => nomatch z⟩
      · exact ⟨_, hc, fun v z => nomatch z⟩
    · exact ⟨_, hP, fun v z => nomatch z⟩
  keep := fun i h h' ⟨hP, res, ix, hc⟩ k => ⟨k P (by simp) _ hP, res, ix, hc.imp (fun ⟨a, b, c⟩ => ⟨a, k it (by simp) _ b, c⟩) fun ⟨a, b, c⟩ => ⟨a, k it (by simp) _ b, c⟩⟩
  item := by
    intro X hP hw hK hc i pins s σ H E I hf st hg
    subst hP hw hK
    have hi : i < cs.length := hg
    obtain ⟨hPo, res, ix, hst⟩ := st
    have hx : cs[i]? = some cs[i] := List.getElem?_eq_getElem hi
    have out : ∀ {h' : Heap}, (∀ b o, b ≠ it → s.heap.get? b = some o → h'.get? b = some o) → IsC h' it P 1 (.ref s.heap.objs.size) cs[i] → h'.get? s.heap.objs.size = some { cls := .type "tuple", data := .seq (cs[i].map fun j => us.toArray.getD j .none).toArray } →
        ∃ u, some (Value.ref s.heap.objs.size) = some u ∧ wpAny (model X.prog X.w) X.A (letOwnedTupleGo tg (.ref it) u) (fun _ s2 => ∃ x H', Inv X pins σ H' s2 ∧ RelV x u ∧ (ItCb xs cs).yld i H x H' ∧ tnC it P us r cs (i + 1) s2.heap ∧ ∀ b ∈ [it, P], H' b = none) E { s with heap := h' } := fun {h'} k g1 t1 => by
      have lit : it < s.heap.objs.size := by rcases hst with ⟨_, q, _⟩ | ⟨_, q, _⟩ <;> exact Heap.lt_size q
      have lP : P < s.heap.objs.size := Heap.lt_size hPo
      have vm := vals_map rv cs[i]
      have new : ObjOk X.prog X.w (upd H s.heap.objs.size (.tup (cs[i].map fun j => xs.getD j .non))) h' s.heap.objs.size (.tup (cs[i].map fun j => xs.getD j .non)) :=
        ⟨by rw [List.length_map]; exact Nat.le_trans (C.short _ (List.getElem_mem hi)) (by decide), _, vm, ⟨_, t1, rfl, _, rfl⟩⟩
      have I1 : Inv X pins σ (upd H s.heap.objs.size (.tup (cs[i].map fun j => xs.getD j .non))) { s with heap := h' } :=
        I.turnedNew (t' := s.toks) (ch := [it, P]) (fun b o hb q => k b o (fun z => hb (by simp [z])) q) hf (Nat.le_refl _) new
      refine ⟨_, rfl, go_of (s := { s with heap := h' }) (n := cT) g1 rfl rfl (by decide) ⟨.ref s.heap.objs.size, _, I1, rfl, ⟨_, _, hx, rfl, I.hok.fresh (Nat.le_refl _), rfl⟩, ⟨k P _ ne hPo, _, cs[i], .inr ⟨Nat.succ_pos i, g1, hx⟩⟩, fun b hb => ?_⟩⟩
      have lt : b < s.heap.objs.size := by
        have e : b = it ∨ b = P := by simpa using hb
        rcases e with rfl | rfl
        · exact lit
        · exact lP
      rw [upd_ne (Nat.ne_of_lt lt)]
      exact (hf b hb).1
    have nr : ¬ r > us.length := fun z => by rw [C.none_ z] at hi; cases hi
    unfold pyNext
    rcases hst with ⟨rfl, q, rfl⟩ | ⟨i0, q, hq⟩
    · rw [if_neg nr] at q
      have e0 : cs[0] = List.range r := by
        have z := C.first nr
        rw [hx] at z
        exact Option.some.inj z
      refine wpAny_bind (wpAny_attempt (comb_start q hPo ne (by simpa using hr) fun h' k g1 t1 => wpAny_pure ?_))
      rw [← e0] at g1 t1
      exact out k g1 t1
    · obtain ⟨j, rfl⟩ : ∃ j, i = j + 1 := ⟨i - 1, by omega⟩
      have hn := C.step j ix cs[j + 1] hq hx
      exact wpAny_bind (wpAny_attempt (comb_step q hPo ne hn (C.short _ (List.getElem_mem hi)) fun h' k g1 t1 => wpAny_pure (out k g1 t1)))
  done := by
    intro X hP hw hK hc i pins s σ H E I hf st hg
    subst hP hw hK
    have hi : cs.length ≤ i := hg
    obtain ⟨hPo, res, ix, hst⟩ := st
    have fin : ∀ {st : Int}, IsC s.heap it P st res ix → (st = 2 ∨ (st = 1 ∧ nextC us.length ix = none)) → wpAny (model X.prog X.w) X.A (pyNext (.ref it)) (fun r s1 => r = none ∧ Inv X pins σ H s1) E s := fun {st} q hs => by
      unfold pyNext
      refine wpAny_bind (wpAny_attempt (comb_stop (I.ok.hd hc) q hPo hs fun e h' he k => ?_))
      obtain ⟨a, o, vs, rfl, ho, hcl, _⟩ := he
      refine wpAny_bind (wpAny_isInstance (T := "StopIteration") (b := true) ⟨o, ho, hcl⟩ isSubtype_stop ?_)
      exact wpAny_pure ⟨rfl, I.turnedL (t' := s.toks) (ch := [it, P]) (fun b o hb q => k b o (fun z => hb (by simp [z])) q) hf⟩
    rcases hst with ⟨rfl, q, rfl⟩ | ⟨i0, q, hq⟩
    · by_cases z : r > us.length
      · rw [if_pos z] at q
        exact fin q (.inl rfl)
      · have := C.first z
        rw [List.getElem?_eq_none hi] at this
        cases this
    · have hl := (List.getElem?_eq_some_iff.mp hq).1
      have e : i - 1 + 1 = i := by omega
      exact fin q (.inr ⟨rfl, C.last (i - 1) ix hq (by rw [e]; exact List.getElem?_eq_none hi)⟩)
  self := fun A i s Q E st h => by
    obtain ⟨_, res, ix, ⟨_, q, _⟩ | ⟨_, q, _⟩⟩ := st
    · exact iter_comb q h
    · exact iter_comb q h
end
/-- combinations(xs, r), xs a list -/
def iComb (K : PySem.W.Frag) (ta : TA) : TI := fun σ H R => ta σ H fun vs H1 => ∃ (a : Addr) (xs : List V) (r : Nat) (cs : List (List Nat)), vs = [.ref a, .int (r : Int)] ∧ SqL K H1 a xs ∧ xs.length ≤ 1000 ∧ r ≤ 1000 ∧ Chain xs.length r cs ∧ R (ItCb xs cs) H1
theorem pi_comb {X : Cx} {tg e e2 : Expr} {ta : TA} {x : Str} {p pos : Pos} (hg : Gl X x) (hm : X.mg x = some (.type cT)) (ha : PA X [e, e2] ta) (hdb : (x == ("__debug__" : Str)) = false := by decide)
    (hs : starEach [e, e2] X.env = (false, eval e X.env) :: starEach [e2] X.env := by rfl) (hpl : (backTo pos (starEach [e2] X.env)).any (·.1) = false := by rfl) : PI X tg (.Call (.Name x p) [e, e2] [] pos) (iComb X.K ta) := by
  refine ⟨fun pins s σ H R I h => ?_⟩
  refine Call_ (ld_glob I hg hm (PyProof.Rows.callWith_type1 (thn (ha.run pos pins s σ H _ I h) fun us s1 ⟨vs, H1, I1, r1, q1⟩ => ?_) hs hpl) hdb)
  obtain ⟨a, xs, r, cs, ex, hq, hx, hr, C, q⟩ := q1
  subst ex
  obtain ⟨u1, t1, rfl⟩ : ∃ u1 t1, us = u1 :: t1 := by cases r1; exact ⟨_, _, rfl⟩
  cases r1 with
  | cons g1 g2 =>
    cases g2 with
    | cons g3 g4 =>
      cases g4
      cases g1
      obtain ⟨t, rfl⟩ := g3
      obtain ⟨its, rv, p1, _⟩ := I1.list hq
      have hl := rv.length
      refine call_comb (vs := its) hr (by omega) p1.isList fun it P h' hk l1 l2 ne hi hP => iter_comb hi ?_
      have I2 : Inv X pins σ H1 { s1 with heap := h' } := I1.kept (t' := s1.toks) hk
      refine ⟨it, [it, P], tnC it P its r cs, ItCb xs cs, H1, rfl, I2, turn_comb rv ne (hl ▸ C) hr, ⟨hP, _, _, .inl ⟨rfl, hi, rfl⟩⟩, fun b hb => ?_, q⟩
      have hle : s1.heap.objs.size ≤ b := by
        have z : b = it ∨ b = P := by simpa using hb
        rcases z with rfl | rfl
        · exact l1
        · exact l2
      exact I1.fpOk hle (I1.hok.fresh hle)
end Cmb
end
section
namespace RR
open PySem PySem.Spec L2
open PyProof.Rows hiding St
def chainGo (n : Nat) : Nat → List Nat → Option (List (List Nat))
  | 0, _ => none
  | f + 1, ix => match Cmb.nextC n ix with
    | none => some [ix]
    | some ix' => (chainGo n f ix').map fun r => ix :: r
/-- the index lists, as the model steps from one to the next -/
def combL (n r : Nat) : Option (List (List Nat)) := if r > n then some [] else chainGo n 100000 (List.range r)
theorem nextC_len {n : Nat} {ix ix' : List Nat} (h : Cmb.nextC n ix = some ix') : ix'.length = ix.length := by
  unfold Cmb.nextC at h
  split at h
  · cases h
  · rename_i i hi
    cases h
    have := List.mem_of_find?_eq_some hi
    simp only [List.mem_reverse, List.mem_range] at this
    simp
    omega
theorem chainGo_ok {n : Nat} : ∀ (f : Nat) (ix : List Nat) (cs : List (List Nat)), chainGo n f ix = some cs → cs[0]? = some ix ∧ (∀ (i : Nat) a b, cs[i]? = some a → cs[i + 1]? = some b → Cmb.nextC n a = some b) ∧ (∀ (i : Nat) a, cs[i]? = some a → cs[i + 1]? = none → Cmb.nextC n a = none) ∧ ∀ a ∈ cs, a.length = ix.length
  | 0, ix, cs, h => by cases h
  | f + 1, ix, cs, h => by
    unfold chainGo at h
    split at h
    · rename_i hn
      cases h
      refine ⟨rfl, fun i a b h1 h2 => ?_, fun i a h1 h2 => ?_, fun a ha => by rw [List.mem_singleton.mp ha]⟩
      · cases h2
      · cases i with
        | zero => cases h1; exact hn
        | succ i => cases h1
    · rename_i ix' hn
      obtain ⟨r, hr, rfl⟩ := Option.map_eq_some_iff.mp h
      obtain ⟨h0, h1, h2, h3⟩ := chainGo_ok f ix' r hr
      refine ⟨rfl, fun i a b e1 e2 => ?_, fun i a e1 e2 => ?_, fun a ha => ?_⟩
      · cases i with
        | zero =>
          cases e1
          rw [List.getElem?_cons_succ, h0] at e2
          cases e2
          exact hn
        | succ i => exact h1 i a b e1 e2
      · cases i with
        | zero => rw [List.getElem?_cons_succ, h0] at e2; cases e2
        | succ i => exact h2 i a e1 e2
      · rcases List.mem_cons.mp ha with rfl | ha
        · rfl
        · rw [h3 a ha, nextC_len hn]
theorem chain_of {n r : Nat} {cs : List (List Nat)} (h : combL n r = some cs) (hr : r ≤ 1000) : Cmb.Chain n r cs := by
  unfold combL at h
  by_cases hn : r > n
  · rw [if_pos hn] at h
    cases h
    exact ⟨fun _ => rfl, fun z => absurd hn z, fun i a b e => by simp at e, fun i a e => by simp at e, fun a ha => by cases ha⟩
  · rw [if_neg hn] at h
    obtain ⟨h0, h1, h2, h3⟩ := chainGo_ok _ _ _ h
    exact ⟨fun z => absurd z hn, fun _ => h0, h1, h2, fun a ha => by rw [h3 a ha, List.length_range]; exact hr⟩
def pickD (xs : List D) (ix : List Nat) : D := .tuple (ix.map fun j => xs.getD j .none)
@[reducible] def mICb (ma : MA) : MI := fun Γ n Q => ma Γ n fun ds n1 => ∃ (xs : List D) (r : Nat) (cs : List (List Nat)), ds = [.list xs, .int (r : Int)] ∧ xs.length ≤ 1000 ∧ r ≤ 1000 ∧ combL xs.length r = some cs ∧ Q (cs.map (pickD xs)) n1
section
variable {K : PySem.W.Frag} {F : Hp} {xs : List V} {ds : List D} {cs : List (List Nat)}
theorem rps_pick (r : Rps K F ds xs) : ∀ ix : List Nat, Rps K F (ix.map fun j => ds.getD j .none) (ix.map fun j => xs.getD j .non)
  | [] => .nil
  | j :: ix => .cons (by
      by_cases h : j < ds.length
      · have h' : j < xs.length := by rw [r.len]; exact h
        have e1 : ds.getD j .none = ds[j] := by simp [List.getD, h]
        have e2 : xs.getD j .non = xs[j] := by simp [List.getD, h']
        dsimp only
        rw [e1, e2]
        exact r.at_ j _ _ (List.getElem?_eq_getElem h') (List.getElem?_eq_getElem h)
      · have e1 : ds.getD j .none = .none := by simp [List.getD, List.getElem?_eq_none (Nat.not_lt.mp h)]
        have e2 : xs.getD j .non = .non := by simp [List.getD, List.getElem?_eq_none (show xs.length ≤ j by rw [r.len]; exact Nat.not_lt.mp h)]
        dsimp only
        rw [e1, e2]
        exact .non) (rps_pick r ix)
theorem feeds_comb (r : Rps K F ds xs) : Feeds K (Cmb.ItCb xs cs) (cs.map (pickD ds)) F where
  stop := fun F' H' _ _ => by show cs.length ≤ _; rw [List.length_map]; exact Nat.le_refl _
  go := fun i d F' H' hd e e' => by
    rw [List.getElem?_map] at hd
    cases q : cs[i]? with
    | none => rw [q] at hd; cases hd
    | some ix =>
      rw [q] at hd
      cases hd
      refine ⟨(List.getElem?_eq_some_iff.mp q).1, fun x H2 ⟨T, ix', h1, h2, h3, h4⟩ => ?_⟩
      rw [q] at h1
      cases h1
      subst h2 h4
      exact ⟨_, .new1 e' h3 _, .of_tup (.inl (.inl upd_same)) (rps_pick ((r.mono e).mono (same_up (e'.free h3))) ix)⟩
end
section
variable {X : Cx} {p : Pm} {O : List Nat} {tg e e2 : Expr} {ta : TA} {ma : MA} {pos q : Pos} {x : Str}
theorem iCb (hK : p.K = X.K) (hg : Gl X x) (hm : X.mg x = some (.type "itertools.combinations")) (ha : RA X p O [e, e2] ta ma) (hdb : (x == ("__debug__" : Str)) = false := by decide)
    (hs : starEach [e, e2] X.env = (false, eval e X.env) :: starEach [e2] X.env := by rfl) (hpl : (backTo pos (starEach [e2] X.env)).any (·.1) = false := by rfl) : RI X p O tg (.Call (.Name x q) [e, e2] [] pos) (Cmb.iComb p.K ta) (mICb ma) :=
  ⟨hK ▸ Cmb.pi_comb hg hm ha.pa hdb hs hpl, fun F0 H0 F H σ Γ n R s q R' k =>
    ha.le F0 H0 F H σ Γ n _ s q _ fun ds vs F1 H1 n1 s1 e1 r1 ⟨xs, r, cs, ed, hx, hr, hc, q1⟩ => by
      subst ed
      obtain ⟨v, w, rfl, r2, r3⟩ := r1.uncons
      obtain ⟨v', w', rfl, r4, r5⟩ := r3.uncons
      cases r5.unnil
      obtain ⟨a, zs, rfl, h1, r6⟩ := r2.lst_inv
      cases r4.int_inv
      have hl := r6.len
      exact ⟨a, zs, r, cs, rfl, .of (s1.fh _ _ h1), by rw [hl]; exact hx, hr, by rw [hl]; exact chain_of hc hr, k _ _ F1 H1 n1 s1 e1 (feeds_comb r6) q1⟩⟩
end
def asN : D → Option Nat
  | .int i => if 0 ≤ i then some i.toNat else none
  | _ => none
def vICb (a : VA) : VI := fun Γ => (a Γ).bind fun ds => match ds with
  | [.list xs, d] => (asN d).bind fun r => if xs.length ≤ 1000 ∧ r ≤ 1000 then (combL xs.length r).map fun cs => cs.map (pickD xs) else none
  | _ => none
theorem asN_eq {d : D} {r : Nat} (h : asN d = some r) : d = .int (r : Int) := by
  unfold asN at h
  split at h
  · split at h
    · cases h; congr 1; omega
    · cases h
  · cases h
theorem f_ICb {mA : MA} {vA : VA} (h : FA mA vA) : FI' (mICb mA) (vICb vA) := fun Γ n d Q e q => by
  obtain ⟨ds, h1, e⟩ := bnd e
  split at e
  · obtain ⟨r, h2, e⟩ := bnd e
    split at e
    · rename_i hh
      obtain ⟨cs, hc, rfl⟩ := Option.map_eq_some_iff.mp e
      rw [asN_eq h2] at h1
      exact h Γ n _ _ h1 ⟨_, r, cs, rfl, hh.1, hh.2, hc, q⟩
    · cases e
  · cases e
end RR
end
section
namespace RR
open PySem PySem.Spec L2
open PyProof.Rows hiding St
end RR
end
section
namespace RR
open PySem PySem.Spec L2
open PyProof.Rows hiding St
end RR
end
section
namespace RC
open PySem PySem.Spec L2 RR
open PyProof.Rows hiding St
end RC
end
section
namespace RR
open PySem PySem.Spec L2
open PyProof.Rows hiding St
end RR
end
section
namespace RR
open PySem PySem.Spec L2
open PyProof.Rows hiding St
end RR
end
section
namespace RR
open PySem PySem.Spec L2
open PyProof.Rows hiding St
end RR
end
section
namespace RR
open PySem PySem.Spec L2
open PyProof.Rows hiding St
@[reducible] def mPutI (i : Nat) (mk mv : ME) : MS := fun E Γ n => mv Γ n fun d n1 => ∃ ds, Γ[i]? = some (some (.list ds)) ∧ mk Γ n1 fun kd n2 => ∃ k j, kd = .int k ∧ ixN ds.length k = some j ∧ E.nx (Γ.set i (some (.list (ds.set j d)))) n2
section
variable {X : Cx} {p : Pm} {O Ob : List Nat} {i : Nat} {ke value : Expr} {pos pos' q : Pos} {tv tk : TE} {me mk mv : ME} {x : Str}
theorem nr_putI : NRt (mPutI i mk mv) := fun E R => rfl
theorem ls_putI (hv : LE p O tv mv) (hk : LE p O tk mk) (hi : i ∈ O) (hp : p.off i) : LS p Ob O O (tAsg tv (gSub (tVar i) tk rSetL)) (mPutI i mk mv) := fun F0 H0 F H σ Γ n E s q E' hn _ _ _ => by
  refine hv F0 H0 F H σ Γ n _ s q _ fun d v F1 H1 n1 s1 g1 r1 ⟨ds, ei, q1⟩ => ?_
  obtain ⟨a, e1, w, z1, z2, z3⟩ := s1.ow i hi _ ei
  refine ⟨.ref a, e1, ?_⟩
  refine hk F0 H0 F1 H1 σ Γ n1 _ s1 q1 _ fun kd y F2 H2 n2 s2 g2 r2 ⟨k, j, ek, hj, q2⟩ => ?_
  subst ek
  obtain ⟨a', e1', w2, y1, y2, y3⟩ := s2.ow i hi _ ei
  rw [e1] at e1'
  cases e1'
  cases w2 with
  | lst u1 u2 =>
    rename_i xs
    obtain ⟨F3, e3, s6⟩ := s2.rewrite (u := .lst (xs.set j v)) (d := .list (ds.set j d)) hi hp ei e1 y1 y2 y3 (.lst upd_same (u2.set j (r1.mono g2.f)))
    exact ⟨a, xs, k, j, rfl, r2.int_inv, u1, by rw [u2.len]; exact hj, hn F3 _ σ _ n2 s6 ((g1.f.trans g2.f).trans e3) q2⟩
theorem sPutI (i : Nat) (hN : PE X (.Name x q) (tVar i)) (hk : RE X p O ke tk mk) (hv : RE X p O value tv mv) (hi : i ∈ O) (hp : p.off i)
    (ha : ∀ v, assign (.Subscript (.Name x q) ke pos') X.env v = (do
      let ov ← holding [v] (eval (.Name x q) X.env)
      let iv ← holding [v, ov] (eval ke X.env)
      standAt pos'
      holding [v, ov, iv] (setItem ov iv v)
      release [v, ov, iv] []) := by intro _; rfl)
    (hs : swapsWithSole [.Subscript (.Name x q) ke pos'] value pos.line X.env = pure false := by rfl) (hw : swappedStores [.Subscript (.Name x q) ke pos'] value X.env = pure none := by rfl)
    (h1 : (assignEach [.Subscript (.Name x q) ke pos'] X.env).map (·.2) = [assign (.Subscript (.Name x q) ke pos') X.env] := by rfl) :
    RS X p Ob O O (.Assign [.Subscript (.Name x q) ke pos'] value pos) (tAsg tv (gSub (tVar i) tk rSetL)) (mPutI i mk mv) := ⟨ps_asg hv.pe (pg_sub hN hk.pe set_list ha) hs hw h1, ls_putI hv.le hk.le hi hp⟩
end
end RR
end
section
namespace RR
open PySem PySem.Spec L2
open PyProof.Rows hiding St
end RR
namespace RR
open PySem PySem.Spec L2
open PyProof.Rows hiding St
end RR
end
section
namespace RR
open PySem PySem.Spec L2
open PyProof.Rows hiding St
end RR
namespace RR
open PySem PySem.Spec L2
open PyProof.Rows hiding St
end RR
end
section
namespace RR
open PySem PySem.Spec L2
open PyProof.Rows hiding St
end RR
end
section
namespace RR
open PySem PySem.Spec L2
open PyProof.Rows hiding St
section
variable {mk mv : ME} {ek ev : VE}
def vPutI (i : Nat) (ek ev : VE) : VS := fun Γ => (ev Γ).bind fun d => (listAt i Γ).bind fun ds => (ek Γ).bind fun kd => match kd with
  | .int k => (ixN ds.length k).bind fun j => some (.nx (Γ.set i (some (.list (ds.set j d)))))
  | _ => none
theorem f_PutI {i : Nat} (hk : FE mk ek) (hv : FE mv ev) : FS (mPutI i mk mv) (vPutI i ek ev) := fun Γ n r E e q => by
  obtain ⟨d, h1, e⟩ := bnd e
  obtain ⟨ds, h2, e⟩ := bnd e
  obtain ⟨kd, h3, e⟩ := bnd e
  split at e
  · obtain ⟨j, h4, e⟩ := bnd e
    cases e
    exact hv _ _ _ _ h1 ⟨ds, listAt_eq h2, hk _ _ _ _ h3 ⟨_, j, rfl, h4, q⟩⟩
  · cases e
end
end RR
namespace RR
open PySem PySem.Spec L2
open PyProof.Rows hiding St
end RR
namespace RR
open PySem PySem.Spec L2
open PyProof.Rows hiding St
end RR
end
section
namespace RR
open PySem PySem.Spec L2
open PyProof.Rows hiding St
open PySem.W (dataLe)
end RR
end
section
namespace RC
open PySem PySem.Spec L2 RR
open PyProof.Rows hiding St
end RC
end
section
namespace RR
open PySem PySem.Spec L2
open PyProof.Rows hiding St
end RR
end
section
namespace RR
open PySem PySem.Spec L2
open PyProof.Rows hiding St
@[reducible] def mOkS (me : ME) : ME := fun Γ n Q => me Γ n fun d n1 => ∃ z : Str, d = .str z ∧ z.length ≤ 1921 ∧ Q d n1
@[reducible] def mOkI (me : ME) : ME := fun Γ n Q => me Γ n fun d n1 => ∃ i : Int, d = .int i ∧ i.natAbs.log2 < 1920 ∧ Q d n1
inductive RJ (X : Cx) (p : Pm) : List Expr → List TE → MA → Prop
  | nil : RJ X p [] [] mNil
  | str {e : Expr} {te : TE} {me : ME} {es : List Expr} {ts : List TE} {ma : MA} (h : RE X p [] e te me) (r : RJ X p es ts ma) : RJ X p (e :: es) (te :: ts) (mCons (mOkS me) ma)
  | fmt {e : Expr} {te : TE} {me : ME} {pos : Pos} {es : List Expr} {ts : List TE} {ma : MA} (h : RE X p [] e te me) (r : RJ X p es ts ma) : RJ X p (.FormattedValue e (-1) none pos :: es) (tFmt te :: ts) (mCons (mOkI me) ma)
section
variable {X : Cx} {p : Pm} {W : WX} {es : List Expr} {ts : List TE} {ma : MA} {x : Str}
theorem RJ.le (h : RJ X p es ts ma) {F0 H0 : Hp} {σ : St} {Γ : DEnv} : ∀ {F H : Hp} {n : Nat} {acc : Str} {R : List D → Nat → Prop} {Q : Str → Hp → Prop}, Sep p F0 H0 [] F H σ Γ n → ma Γ n R → acc.length + 2000 * es.length ≤ sizeLine →
    (∀ out F' H' n' ds, Sep p F0 H0 [] F' H' σ Γ n' → R ds n' → Q out H') → tJs ts acc σ H Q := by
  induction h with
  | nil => exact fun s q _ k => k _ _ _ _ _ s q
  | str h r ih =>
    intro F H n acc R Q s q hl k
    refine h.le F0 H0 F H σ Γ n _ s q _ fun d v F1 H1 n1 s1 g1 r1 ⟨z, ez, hz, q1⟩ => ?_
    subst ez
    cases r1.str_inv
    rw [List.length_cons] at hl
    have hz2 : (acc ++ z).length = acc.length + z.length := Str.length_append ..
    refine ⟨z, rfl, by omega, ih s1 q1 (by omega) fun out F' H' n' ds s' hr => k out F' H' n' _ s' hr⟩
  | fmt h r ih =>
    intro F H n acc R Q s q hl k
    refine h.le F0 H0 F H σ Γ n _ s q _ fun d v F1 H1 n1 s1 g1 r1 ⟨i, ez, hz, q1⟩ => ?_
    subst ez
    cases r1.int_inv
    rw [List.length_cons] at hl
    have hi : (Str.ofString (toString i)).length ≤ 1921 := PyProof.Rows.int_text_len_1921 hz
    have hz2 : (acc ++ Str.ofString (toString i)).length = acc.length + (Str.ofString (toString i)).length := Str.length_append ..
    exact .inr ⟨i, rfl, hz, Str.ofString (toString i), rfl, by omega, ih s1 q1 (by omega) fun out F' H' n' ds s' hr => k out F' H' n' _ s' hr⟩
end
end RR
end
section
namespace RR
open PySem PySem.Spec L2
open PyProof.Rows hiding St
end RR
end
section
namespace RR
open PySem PySem.Spec L2
open PyProof.Rows hiding St
inductive Rx
  | nx (Γ : DEnv)
  | rt (d : D)
  | xc (x : Str)
def Rx.to (E : EX) (n : Nat) : Rx → Prop
  | .nx Γ => E.nx Γ n
  | .rt d => E.rt d n
  | .xc x => E.xc x
end RR
end
section
namespace RC
open PySem PySem.Spec L2 RR
open PyProof.Rows hiding St
def b_sublists : MS := (mRet (mLc2 (mIR1 (mCons (mOp dAdd (mCl cLen (mCons (mVar 0) mNil)) (mC (.int 1))) mNil)) (mgName 1) mYes (mICb (mCons (mVar 0) (mCons (mVar 1) mNil))) (mgName 2) mYes (mCl cList (mCons (mVar 2) mNil)) [1, 2] [2]))
def m_sublists : MP := mFun ["members", "many", "some"] 1 b_sublists
def vb_sublists : VS := (vRet (vLc2 (vIR1 (vCons (vOp dAdd (vCl cLen (vCons (vVar 0) vNil)) (vC (.int 1))) vNil)) (vgName 1) vYes (vICb (vCons (vVar 0) (vCons (vVar 1) vNil))) (vgName 2) vYes (vCl cList (vCons (vVar 2) vNil)) [1, 2] [2]))
def v_sublists : VP := vFun ["members", "many", "some"] 1 vb_sublists
theorem fp_sublists : FP m_sublists v_sublists := by
  unfold m_sublists v_sublists b_sublists vb_sublists
  exact f_Fun (f_Ret (f_Lc2 (f_IR1 (f_Cons (f_Op (f_Cl (f_Cons f_Var f_Nil)) f_C) f_Nil)) f_gName f_Yes (f_ICb (f_Cons f_Var (f_Cons f_Var f_Nil))) f_gName f_Yes (f_Cl (f_Cons f_Var f_Nil))))
end RC
end
section
namespace RR
open PySem PySem.Spec L2
open PyProof.Rows hiding St
end RR
end
section
namespace RC
open PySem PySem.Spec L2 RR
open PyProof.Rows hiding St
def c_MOST_TRIED : D := (.int 6)
def b_is_forms_v2 : MS := (mSeq (mIfS (mOr (mNot (mTest (mIsi "list" (mVar 1)))) (mNot (mTest (mCl cAll (mCons (mLc (mISeq (mVar 1)) (mgName 2) mYes (mCall m_is_jump_row (mCons (mVar 0) (mCons (mVar 2) mNil))) [2]) mNil))))) (mRet (mC (.bool false))) mNext) (mRet (mCall m_is_ascending_v2 (mCons (mVar 1) mNil))))
def m_is_forms_v2 : MP := mFun ["part", "thing", "row"] 2 b_is_forms_v2
def vb_is_forms_v2 : VS := (vSeqS (vIfS (vOr (vNot (vTest (vIsi "list" (vVar 1)))) (vNot (vTest (vCl cAll (vCons (vLc (vISeq (vVar 1)) (vgName 2) vYes (vCall v_is_jump_row (vCons (vVar 0) (vCons (vVar 2) vNil))) [2]) vNil))))) (vRet (vC (.bool false))) vNext) (vRet (vCall v_is_ascending_v2 (vCons (vVar 1) vNil))))
def v_is_forms_v2 : VP := vFun ["part", "thing", "row"] 2 vb_is_forms_v2
theorem fp_is_forms_v2 : FP m_is_forms_v2 v_is_forms_v2 := by
  unfold m_is_forms_v2 v_is_forms_v2 b_is_forms_v2 vb_is_forms_v2
  exact f_Fun (f_Seq (f_IfS (f_Or (f_Not (f_Test (f_Isi f_Var))) (f_Not (f_Test (f_Cl (f_Cons (f_Lc (f_ISeq f_Var) f_gName f_Yes (f_Call fp_is_jump_row (f_Cons f_Var (f_Cons f_Var f_Nil)))) f_Nil))))) (f_Ret f_C) f_Next) (f_Ret (f_Call fp_is_ascending_v2 (f_Cons f_Var f_Nil))))
def b_least_forms : MS := (mSeq (mSet 2 (mLc (mISeq (mCall m_sublists (mCons (mCall m_jump_rows (mCons (mVar 0) mNil)) mNil))) (mgName 3) (mNot (mTru (mCall m_unfit_rows (mCons (mVar 0) (mCons (mVar 1) (mCons (mVar 3) mNil)))))) (mVar 3) [3])) (mRet (mOp dIx (mCl cMinD (mCons (mLc (mISeq (mVar 2)) (mgName 3) mYes (mTup (mCons (mCall m_size_of (mCons (mVar 0) (mCons (mVar 1) (mCons (mVar 3) mNil)))) (mCons (mUn dNeg (mCl cLen (mCons (mVar 3) mNil))) (mCons (mVar 3) mNil)))) [3]) mNil)) (mC (.int 2)))))
def m_least_forms : MP := mFun ["part", "machine", "fitting", "forms"] 2 b_least_forms
def vb_least_forms : VS := (vSeqS (vSet 2 (vLc (vISeq (vCall v_sublists (vCons (vCall v_jump_rows (vCons (vVar 0) vNil)) vNil))) (vgName 3) (vNot (vTru (vCall v_unfit_rows (vCons (vVar 0) (vCons (vVar 1) (vCons (vVar 3) vNil)))))) (vVar 3) [3])) (vRet (vOp dIx (vCl cMinD (vCons (vLc (vISeq (vVar 2)) (vgName 3) vYes (vTup (vCons (vCall v_size_of (vCons (vVar 0) (vCons (vVar 1) (vCons (vVar 3) vNil)))) (vCons (vUn dNeg (vCl cLen (vCons (vVar 3) vNil))) (vCons (vVar 3) vNil)))) [3]) vNil)) (vC (.int 2)))))
def v_least_forms : VP := vFun ["part", "machine", "fitting", "forms"] 2 vb_least_forms
theorem fp_least_forms : FP m_least_forms v_least_forms := by
  unfold m_least_forms v_least_forms b_least_forms vb_least_forms
  exact f_Fun (f_Seq (f_Set (f_Lc (f_ISeq (f_Call fp_sublists (f_Cons (f_Call fp_jump_rows (f_Cons f_Var f_Nil)) f_Nil))) f_gName (f_Not (f_Tru (f_Call fp_unfit_rows (f_Cons f_Var (f_Cons f_Var (f_Cons f_Var f_Nil)))))) f_Var)) (f_Ret (f_Op (f_Cl (f_Cons (f_Lc (f_ISeq f_Var) f_gName f_Yes (f_Tup (f_Cons (f_Call fp_size_of (f_Cons f_Var (f_Cons f_Var (f_Cons f_Var f_Nil)))) (f_Cons (f_Un (f_Cl (f_Cons f_Var f_Nil))) (f_Cons f_Var f_Nil))))) f_Nil)) f_C)))
def b_laid_forms : MS := (mSeq (mIfS (mTest (mCall m_is_even (mCons (mVar 0) mNil))) (mRet (mOp dIx (mCall m_growth (mCons (mVar 0) (mCons (mVar 1) mNil))) (mC (.int 0)))) mNext) (mRet (mCall m_least_forms (mCons (mVar 0) (mCons (mVar 1) mNil)))))
def m_laid_forms : MP := mFun ["part", "machine"] 2 b_laid_forms
def vb_laid_forms : VS := (vSeqS (vIfS (vTest (vCall v_is_even (vCons (vVar 0) vNil))) (vRet (vOp dIx (vCall v_growth (vCons (vVar 0) (vCons (vVar 1) vNil))) (vC (.int 0)))) vNext) (vRet (vCall v_least_forms (vCons (vVar 0) (vCons (vVar 1) vNil)))))
def v_laid_forms : VP := vFun ["part", "machine"] 2 vb_laid_forms
theorem fp_laid_forms : FP m_laid_forms v_laid_forms := by
  unfold m_laid_forms v_laid_forms b_laid_forms vb_laid_forms
  exact f_Fun (f_Seq (f_IfS (f_Test (f_Call fp_is_even (f_Cons f_Var f_Nil))) (f_Ret (f_Op (f_Call fp_growth (f_Cons f_Var (f_Cons f_Var f_Nil))) f_C)) f_Next) (f_Ret (f_Call fp_least_forms (f_Cons f_Var (f_Cons f_Var f_Nil)))))
end RC
end
section
namespace RR
open PySem PySem.Spec L2
open PyProof.Rows hiding St
open PySem.W (alike dataLt minD maxD)
def okRg (a b : Int) : Prop := 0 ≤ a ∧ a ≤ 1000 ∧ 0 ≤ b ∧ b ≤ 1000
instance (a b : Int) : Decidable (okRg a b) := by unfold okRg; infer_instance
theorem okRg.ok {a b : Int} (h : okRg a b) : RgOk a b := RgOk.of_le h.1 (by have := h.2.2.2; omega) (by have := h.2.1; omega) h.2.2.1
end RR
namespace RR
open PySem PySem.Spec L2
open PyProof.Rows hiding St
end RR
end
section
namespace RR
open PySem PySem.Spec L2
open PyProof.Rows hiding St
end RR
end
section
namespace RR
open PySem PySem.Spec L2
open PyProof.Rows hiding St
end RR
end
section
namespace RR
open PySem PySem.Spec L2
open PyProof.Rows hiding St
end RR
end
section
namespace RC
open PySem PySem.Spec L2 RR
open PyProof.Rows hiding St
def b_laid_size : MS := (mRet (mCall m_size_of (mCons (mVar 0) (mCons (mVar 1) (mCons (mCall m_laid_forms (mCons (mVar 0) (mCons (mVar 1) mNil))) mNil)))))
def m_laid_size : MP := mFun ["part", "machine"] 2 b_laid_size
def vb_laid_size : VS := (vRet (vCall v_size_of (vCons (vVar 0) (vCons (vVar 1) (vCons (vCall v_laid_forms (vCons (vVar 0) (vCons (vVar 1) vNil))) vNil)))))
def v_laid_size : VP := vFun ["part", "machine"] 2 vb_laid_size
theorem fp_laid_size : FP m_laid_size v_laid_size := by
  unfold m_laid_size v_laid_size b_laid_size vb_laid_size
  exact f_Fun (f_Ret (f_Call fp_size_of (f_Cons f_Var (f_Cons f_Var (f_Cons (f_Call fp_laid_forms (f_Cons f_Var (f_Cons f_Var f_Nil))) f_Nil)))))
def b_sizes_of : MS := (mRet (mLc (mISeq (mVar 0)) (mgName 2) mYes (mCall m_laid_size (mCons (mVar 2) (mCons (mVar 1) mNil))) [2]))
def m_sizes_of : MP := mFun ["book", "machine", "part"] 2 b_sizes_of
def vb_sizes_of : VS := (vRet (vLc (vISeq (vVar 0)) (vgName 2) vYes (vCall v_laid_size (vCons (vVar 2) (vCons (vVar 1) vNil))) [2]))
def v_sizes_of : VP := vFun ["book", "machine", "part"] 2 vb_sizes_of
theorem fp_sizes_of : FP m_sizes_of v_sizes_of := by
  unfold m_sizes_of v_sizes_of b_sizes_of vb_sizes_of
  exact f_Fun (f_Ret (f_Lc (f_ISeq f_Var) f_gName f_Yes (f_Call fp_laid_size (f_Cons f_Var (f_Cons f_Var f_Nil)))))
end RC
end
section
namespace RR
open PySem PySem.Spec L2
open PyProof.Rows hiding St
end RR
namespace RR
open PySem PySem.Spec L2
open PyProof.Rows hiding St
end RR
end
section
namespace RR
open PySem PySem.Spec L2
open PyProof.Rows hiding St
end RR
end
section
namespace RR
open PySem PySem.Spec L2
open PyProof.Rows hiding St
end RR
end
section
namespace RC
open PySem PySem.Spec L2 RR
open PyProof.Rows hiding St
end RC
end
section
namespace RR
open PySem PySem.Spec L2
open PyProof.Rows hiding St
end RR
end
section
namespace RR
open PySem PySem.Spec L2
open PyProof.Rows hiding St
end RR
end
section
namespace RR
open PySem PySem.Spec L2
open PyProof.Rows hiding St
end RR
end
section
namespace RC
open PySem PySem.Spec L2 RR
open PyProof.Rows hiding St
end RC
end
section
namespace RR
open PySem PySem.Spec L2
open PyProof.Rows hiding St
end RR
end
section
namespace RR
open PySem PySem.Spec L2
open PyProof.Rows hiding St
end RR
end
section
namespace RR
open PySem PySem.Spec L2
open PyProof.Rows hiding St
end RR
end
section
namespace RC
open PySem PySem.Spec L2 RR
open PyProof.Rows hiding St
def b__law_grown : MS := (mSeq (mSet 2 (mCall m__law_jumps_v2 (mCons (mVar 0) mNil))) (mSeq (mSet 3 (mCall m__law_misfits_v2 (mCons (mVar 0) (mCons (mVar 1) (mCons (mVar 2) mNil))))) (mSeq (mWhile (mTest (mOp dNe (mVar 3) (mLst mNil))) (mSeq (mSet 2 (mLc (mISeq (mVar 2)) (mgName 4) (mTest (mOp dNotIn (mVar 4) (mVar 3))) (mVar 4) [4])) (mSet 3 (mCall m__law_misfits_v2 (mCons (mVar 0) (mCons (mVar 1) (mCons (mVar 2) mNil))))))) (mRet (mVar 2)))))
def m__law_grown : MP := mFun ["part", "machine", "forms", "bad", "k"] 2 b__law_grown
def vb__law_grown : VS := (vSeqS (vSet 2 (vCall v__law_jumps_v2 (vCons (vVar 0) vNil))) (vSeqS (vSet 3 (vCall v__law_misfits_v2 (vCons (vVar 0) (vCons (vVar 1) (vCons (vVar 2) vNil))))) (vSeqS (vWhile (vTest (vOp dNe (vVar 3) (vLst vNil))) (vSeqS (vSet 2 (vLc (vISeq (vVar 2)) (vgName 4) (vTest (vOp dNotIn (vVar 4) (vVar 3))) (vVar 4) [4])) (vSet 3 (vCall v__law_misfits_v2 (vCons (vVar 0) (vCons (vVar 1) (vCons (vVar 2) vNil))))))) (vRet (vVar 2)))))
def v__law_grown : VP := vFun ["part", "machine", "forms", "bad", "k"] 2 vb__law_grown
theorem fp__law_grown : FP m__law_grown v__law_grown := by
  unfold m__law_grown v__law_grown b__law_grown vb__law_grown
  exact f_Fun (f_Seq (f_Set (f_Call fp__law_jumps_v2 (f_Cons f_Var f_Nil))) (f_Seq (f_Set (f_Call fp__law_misfits_v2 (f_Cons f_Var (f_Cons f_Var (f_Cons f_Var f_Nil))))) (f_Seq (f_While (f_Test (f_Op f_Var (f_Lst f_Nil))) (f_Seq (f_Set (f_Lc (f_ISeq f_Var) f_gName (f_Test (f_Op f_Var f_Var)) f_Var)) (f_Set (f_Call fp__law_misfits_v2 (f_Cons f_Var (f_Cons f_Var (f_Cons f_Var f_Nil))))))) (f_Ret f_Var))))
def b__law_lists : MS := (mSeq (mSet 1 (mLst (mCons (mLst mNil) mNil))) (mSeq (mFor (mISeq (mVar 0)) (mgName 2) (mSet 1 (mOp dAdd (mVar 1) (mLc (mISeq (mVar 1)) (mgName 3) mYes (mOp dAdd (mVar 3) (mLst (mCons (mVar 2) mNil))) [3])))) (mRet (mVar 1))))
def m__law_lists : MP := mFun ["members", "found", "one", "row"] 1 b__law_lists
def vb__law_lists : VS := (vSeqS (vSet 1 (vLst (vCons (vLst vNil) vNil))) (vSeqS (vFor (vISeq (vVar 0)) (vgName 2) (vSet 1 (vOp dAdd (vVar 1) (vLc (vISeq (vVar 1)) (vgName 3) vYes (vOp dAdd (vVar 3) (vLst (vCons (vVar 2) vNil))) [3])))) (vRet (vVar 1))))
def v__law_lists : VP := vFun ["members", "found", "one", "row"] 1 vb__law_lists
theorem fp__law_lists : FP m__law_lists v__law_lists := by
  unfold m__law_lists v__law_lists b__law_lists vb__law_lists
  exact f_Fun (f_Seq (f_Set (f_Lst (f_Cons (f_Lst f_Nil) f_Nil))) (f_Seq (f_For (f_ISeq f_Var) f_gName (f_Set (f_Op f_Var (f_Lc (f_ISeq f_Var) f_gName f_Yes (f_Op f_Var (f_Lst (f_Cons f_Var f_Nil))))))) (f_Ret f_Var)))
def b__law_least : MS := (mSeq (mSet 2 (mLst mNil)) (mSeq (mFor (mISeq (mCall m__law_lists (mCons (mCall m__law_jumps_v2 (mCons (mVar 0) mNil)) mNil))) (mgName 3) (mIfS (mTest (mOp dEq (mCall m__law_misfits_v2 (mCons (mVar 0) (mCons (mVar 1) (mCons (mVar 3) mNil)))) (mLst mNil))) (mAppend 2 (mTup (mCons (mOp dIx (mCall m__law_places_v2 (mCons (mVar 0) (mCons (mVar 1) (mCons (mVar 3) mNil)))) (mUn dNeg (mC (.int 1)))) (mCons (mUn dNeg (mCl cLen (mCons (mVar 3) mNil))) (mCons (mVar 3) mNil))))) mNext)) (mRet (mOp dIx (mCl cMinD (mCons (mVar 2) mNil)) (mC (.int 2))))))
def m__law_least : MP := mFun ["part", "machine", "rows", "forms"] 2 b__law_least
def vb__law_least : VS := (vSeqS (vSet 2 (vLst vNil)) (vSeqS (vFor (vISeq (vCall v__law_lists (vCons (vCall v__law_jumps_v2 (vCons (vVar 0) vNil)) vNil))) (vgName 3) (vIfS (vTest (vOp dEq (vCall v__law_misfits_v2 (vCons (vVar 0) (vCons (vVar 1) (vCons (vVar 3) vNil)))) (vLst vNil))) (vAppend 2 (vTup (vCons (vOp dIx (vCall v__law_places_v2 (vCons (vVar 0) (vCons (vVar 1) (vCons (vVar 3) vNil)))) (vUn dNeg (vC (.int 1)))) (vCons (vUn dNeg (vCl cLen (vCons (vVar 3) vNil))) (vCons (vVar 3) vNil))))) vNext)) (vRet (vOp dIx (vCl cMinD (vCons (vVar 2) vNil)) (vC (.int 2))))))
def v__law_least : VP := vFun ["part", "machine", "rows", "forms"] 2 vb__law_least
theorem fp__law_least : FP m__law_least v__law_least := by
  unfold m__law_least v__law_least b__law_least vb__law_least
  exact f_Fun (f_Seq (f_Set (f_Lst f_Nil)) (f_Seq (f_For (f_ISeq (f_Call fp__law_lists (f_Cons (f_Call fp__law_jumps_v2 (f_Cons f_Var f_Nil)) f_Nil))) f_gName (f_IfS (f_Test (f_Op (f_Call fp__law_misfits_v2 (f_Cons f_Var (f_Cons f_Var (f_Cons f_Var f_Nil)))) (f_Lst f_Nil))) (f_Append (f_Tup (f_Cons (f_Op (f_Call fp__law_places_v2 (f_Cons f_Var (f_Cons f_Var (f_Cons f_Var f_Nil)))) (f_Un f_C)) (f_Cons (f_Un (f_Cl (f_Cons f_Var f_Nil))) (f_Cons f_Var f_Nil))))) f_Next)) (f_Ret (f_Op (f_Cl (f_Cons f_Var f_Nil)) f_C))))
def b__law_laid : MS := (mSeq (mSet 2 (mOp dNotIn (mC (.str "align")) (mLc (mISeq (mVar 0)) (mgName 3) mYes (mOp dIx (mVar 3) (mC (.int 0))) [3]))) (mRet (mIf (mTest (mVar 2)) (mCall m__law_grown (mCons (mVar 0) (mCons (mVar 1) mNil))) (mCall m__law_least (mCons (mVar 0) (mCons (mVar 1) mNil))))))
def m__law_laid : MP := mFun ["part", "machine", "is_flat", "row"] 2 b__law_laid
def vb__law_laid : VS := (vSeqS (vSet 2 (vOp dNotIn (vC (.str "align")) (vLc (vISeq (vVar 0)) (vgName 3) vYes (vOp dIx (vVar 3) (vC (.int 0))) [3]))) (vRet (vIf (vTest (vVar 2)) (vCall v__law_grown (vCons (vVar 0) (vCons (vVar 1) vNil))) (vCall v__law_least (vCons (vVar 0) (vCons (vVar 1) vNil))))))
def v__law_laid : VP := vFun ["part", "machine", "is_flat", "row"] 2 vb__law_laid
theorem fp__law_laid : FP m__law_laid v__law_laid := by
  unfold m__law_laid v__law_laid b__law_laid vb__law_laid
  exact f_Fun (f_Seq (f_Set (f_Op f_C (f_Lc (f_ISeq f_Var) f_gName f_Yes (f_Op f_Var f_C)))) (f_Ret (f_If (f_Test f_Var) (f_Call fp__law_grown (f_Cons f_Var (f_Cons f_Var f_Nil))) (f_Call fp__law_least (f_Cons f_Var (f_Cons f_Var f_Nil))))))
def b_check_forms_v2 : MS := (mIfS (mNot (mTest (mCall m_is_forms_v2 (mCons (mVar 0) (mCons (mVar 1) mNil))))) mNever mNext)
def m_check_forms_v2 : MP := mFun ["part", "forms"] 2 b_check_forms_v2
def vb_check_forms_v2 : VS := (vIfS (vNot (vTest (vCall v_is_forms_v2 (vCons (vVar 0) (vCons (vVar 1) vNil))))) vNever vNext)
def v_check_forms_v2 : VP := vFun ["part", "forms"] 2 vb_check_forms_v2
theorem fp_check_forms_v2 : FP m_check_forms_v2 v_check_forms_v2 := by
  unfold m_check_forms_v2 v_check_forms_v2 b_check_forms_v2 vb_check_forms_v2
  exact f_Fun (f_IfS (f_Not (f_Test (f_Call fp_is_forms_v2 (f_Cons f_Var (f_Cons f_Var f_Nil))))) f_Never f_Next)
def b_bar : MS := (mSeq (mDrop (mCall m_check_part (mCons (mVar 0) mNil))) (mSeq (mDrop (mCall m_check_machine (mCons (mVar 1) mNil))) (mSeq (mDrop (mCall m_check_forms_v2 (mCons (mVar 0) (mCons (mVar 2) mNil)))) (mSeq (mSet 3 (mCall m_unfit_rows (mCons (mVar 0) (mCons (mVar 1) (mCons (mVar 2) mNil))))) (mRet (mIf (mTru (mVar 3)) (mOp dIx (mVar 3) (mC (.int 0))) (mC .none)))))))
def m_bar : MP := mFun ["part", "machine", "rival", "unfit"] 3 b_bar
def vb_bar : VS := (vSeqS (vDrop (vCall v_check_part (vCons (vVar 0) vNil))) (vSeqS (vDrop (vCall v_check_machine (vCons (vVar 1) vNil))) (vSeqS (vDrop (vCall v_check_forms_v2 (vCons (vVar 0) (vCons (vVar 2) vNil)))) (vSeqS (vSet 3 (vCall v_unfit_rows (vCons (vVar 0) (vCons (vVar 1) (vCons (vVar 2) vNil))))) (vRet (vIf (vTru (vVar 3)) (vOp dIx (vVar 3) (vC (.int 0))) (vC .none)))))))
def v_bar : VP := vFun ["part", "machine", "rival", "unfit"] 3 vb_bar
theorem fp_bar : FP m_bar v_bar := by
  unfold m_bar v_bar b_bar vb_bar
  exact f_Fun (f_Seq (f_Drop (f_Call fp_check_part (f_Cons f_Var f_Nil))) (f_Seq (f_Drop (f_Call fp_check_machine (f_Cons f_Var f_Nil))) (f_Seq (f_Drop (f_Call fp_check_forms_v2 (f_Cons f_Var (f_Cons f_Var f_Nil)))) (f_Seq (f_Set (f_Call fp_unfit_rows (f_Cons f_Var (f_Cons f_Var (f_Cons f_Var f_Nil))))) (f_Ret (f_If (f_Tru f_Var) (f_Op f_Var f_C) f_C))))))
def b_laid : MS := (mSeq (mDrop (mCall m_check_part (mCons (mVar 0) mNil))) (mSeq (mDrop (mCall m_check_machine (mCons (mVar 1) mNil))) (mSeq (mSet 2 (mCall m_laid_forms (mCons (mVar 0) (mCons (mVar 1) mNil)))) (mRet (mTup (mCons (mVar 2) (mCons (mCall m_addresses_of (mCons (mVar 0) (mCons (mVar 1) (mCons (mVar 2) mNil)))) mNil)))))))
def m_laid : MP := mFun ["part", "machine", "forms"] 2 b_laid
def vb_laid : VS := (vSeqS (vDrop (vCall v_check_part (vCons (vVar 0) vNil))) (vSeqS (vDrop (vCall v_check_machine (vCons (vVar 1) vNil))) (vSeqS (vSet 2 (vCall v_laid_forms (vCons (vVar 0) (vCons (vVar 1) vNil)))) (vRet (vTup (vCons (vVar 2) (vCons (vCall v_addresses_of (vCons (vVar 0) (vCons (vVar 1) (vCons (vVar 2) vNil)))) vNil)))))))
def v_laid : VP := vFun ["part", "machine", "forms"] 2 vb_laid
theorem fp_laid : FP m_laid v_laid := by
  unfold m_laid v_laid b_laid vb_laid
  exact f_Fun (f_Seq (f_Drop (f_Call fp_check_part (f_Cons f_Var f_Nil))) (f_Seq (f_Drop (f_Call fp_check_machine (f_Cons f_Var f_Nil))) (f_Seq (f_Set (f_Call fp_laid_forms (f_Cons f_Var (f_Cons f_Var f_Nil)))) (f_Ret (f_Tup (f_Cons f_Var (f_Cons (f_Call fp_addresses_of (f_Cons f_Var (f_Cons f_Var (f_Cons f_Var f_Nil)))) f_Nil)))))))
def b_check_few_jumps : MS := (mIfS (mTest (mOp dGt (mCl cLen (mCons (mCall m_jump_rows (mCons (mVar 0) mNil)) mNil)) (mC c_MOST_TRIED))) mNever mNext)
def m_check_few_jumps : MP := mFun ["part"] 1 b_check_few_jumps
def vb_check_few_jumps : VS := (vIfS (vTest (vOp dGt (vCl cLen (vCons (vCall v_jump_rows (vCons (vVar 0) vNil)) vNil)) (vC c_MOST_TRIED))) vNever vNext)
def v_check_few_jumps : VP := vFun ["part"] 1 vb_check_few_jumps
theorem fp_check_few_jumps : FP m_check_few_jumps v_check_few_jumps := by
  unfold m_check_few_jumps v_check_few_jumps b_check_few_jumps vb_check_few_jumps
  exact f_Fun (f_IfS (f_Test (f_Op (f_Cl (f_Cons (f_Call fp_jump_rows (f_Cons f_Var f_Nil)) f_Nil)) f_C)) f_Never f_Next)
def b_least : MS := (mSeq (mDrop (mCall m_check_part (mCons (mVar 0) mNil))) (mSeq (mDrop (mCall m_check_machine (mCons (mVar 1) mNil))) (mSeq (mDrop (mCall m_check_few_jumps (mCons (mVar 0) mNil))) (mRet (mCall m_least_forms (mCons (mVar 0) (mCons (mVar 1) mNil)))))))
def m_least : MP := mFun ["part", "machine"] 2 b_least
def vb_least : VS := (vSeqS (vDrop (vCall v_check_part (vCons (vVar 0) vNil))) (vSeqS (vDrop (vCall v_check_machine (vCons (vVar 1) vNil))) (vSeqS (vDrop (vCall v_check_few_jumps (vCons (vVar 0) vNil))) (vRet (vCall v_least_forms (vCons (vVar 0) (vCons (vVar 1) vNil)))))))
def v_least : VP := vFun ["part", "machine"] 2 vb_least
theorem fp_least : FP m_least v_least := by
  unfold m_least v_least b_least vb_least
  exact f_Fun (f_Seq (f_Drop (f_Call fp_check_part (f_Cons f_Var f_Nil))) (f_Seq (f_Drop (f_Call fp_check_machine (f_Cons f_Var f_Nil))) (f_Seq (f_Drop (f_Call fp_check_few_jumps (f_Cons f_Var f_Nil))) (f_Ret (f_Call fp_least_forms (f_Cons f_Var (f_Cons f_Var f_Nil)))))))
end RC
end
section
namespace RR
open PySem PySem.Spec L2
open PyProof.Rows hiding St
def kd31 : D → Nat
  | .none => 0
  | .bool _ => 1
  | .int _ => 2
  | .str _ => 3
  | _ => 4
def kv31 : V → Nat
  | .non => 0
  | .bl _ => 1
  | .int _ => 2
  | .str _ => 3
  | _ => 4
theorem kd_rp {K : PySem.W.Frag} {F : Hp} {d : D} {v : V} (h : Rp K F d v) : kd31 d = kv31 v := by cases h <;> rfl
/-- a list that is not the thing g: another length, or its first member of another kind -/
def apL (g : D) (ds : List D) : Bool := match g with
  | .list gs => !(ds.length == gs.length) || !(ds.head?.map kd31 == gs.head?.map kd31)
  | .dict _ => true
  | _ => false
/-- no list, no dict in d is the thing g -/
def apD (g : D) : D → Bool
  | .list xs => apL g xs && apAll xs
  | .tuple xs => apAll xs
  | .dict _ => false
  | _ => true
where apAll : List D → Bool
  | [] => true
  | x :: xs => apD g x && apAll xs
theorem apAll_mem {g : D} : ∀ {xs : List D}, apD.apAll g xs = true → ∀ x ∈ xs, apD g x = true
  | x :: xs, h, y, hy => by
    rw [apD.apAll, Bool.and_eq_true] at h
    rcases List.mem_cons.mp hy with rfl | hy
    · exact h.1
    · exact apAll_mem h.2 y hy
theorem head_kd {K : PySem.W.Frag} {F : Hp} {ds : List D} {xs : List V} (h : Rps K F ds xs) : ds.head?.map kd31 = xs.head?.map kv31 := by
  cases ds with
  | nil => rw [h.unnil]; rfl
  | cons d ds =>
    obtain ⟨v, r, rfl, h1, _⟩ := h.uncons
    show some (kd31 d) = some (kv31 v)
    rw [kd_rp h1]
theorem Rp.cut {K : PySem.W.Frag} {F F2 H : Hp} {g d : D} {a : Addr} {v : V} (w : Own K F H g a) (ho : ∀ o, F2 a = some o → H a = some o) (h : Rp K F2 d v) : apD g d = true → Rp K (fun b => if b = a then none else F2 b) d v := by
  have keep : ∀ {b : Addr} {o : HO}, F2 b = some o → b ≠ a → (fun b => if b = a then none else F2 b) b = some o := fun {b o} e z => by
    show (if b = a then none else F2 b) = some o
    rw [if_neg z]; exact e
  induction h with
  | non => exact fun _ => .non
  | bl b => exact fun _ => .bl b
  | int i => exact fun _ => .int i
  | str x => exact fun _ => .str x
  | @lst b xs ds h1 h2 h3 ih =>
    intro ap
    rw [apD, Bool.and_eq_true] at ap
    have hb : b ≠ a := by
      rintro rfl
      have e := ho _ h1
      cases w with
      | lst q1 q2 =>
        rw [e] at q1
        cases q1
        have k1 := head_kd q2
        have k2 := head_kd (⟨h2, h3⟩ : Rps K F2 ds xs)
        have l1 := q2.len
        have := ap.1
        unfold apL at this
        simp only [Bool.or_eq_true, Bool.not_eq_true', beq_eq_false_iff_ne] at this
        rcases this with z | z
        · exact z (h2.symm.trans l1)
        · exact z (k2.trans k1.symm)
      | dct q1 _ _ => rw [e] at q1; cases q1
    exact .lst (keep h1 hb) h2 fun i x d e1 e2 => ih i x d e1 e2 (apAll_mem ap.2 d (List.mem_of_getElem? e2))
  | @tup b xs ds h1 h2 h3 ih =>
    intro ap
    rw [apD] at ap
    refine .tup ?_ h2 fun i x d e1 e2 => ih i x d e1 e2 (apAll_mem ap d (List.mem_of_getElem? e2))
    have hb : ∀ {o : HO}, F2 b = some o → (∀ xs, o ≠ .lst xs) → (∀ xs, o ≠ .dK xs) → b ≠ a := fun {o} e n1 n2 => by
      rintro rfl
      have e := ho _ e
      cases w with
      | lst q1 _ => rw [e] at q1; cases q1; exact n1 _ rfl
      | dct q1 _ _ => rw [e] at q1; cases q1; exact n2 _ rfl
    rcases h1 with (h1 | ⟨o, h1⟩) | h1
    · exact .inl (.inl (keep h1 (hb h1 (fun _ z => nomatch z) (fun _ z => nomatch z))))
    · exact .inl (.inr ⟨o, keep h1 (hb h1 (fun _ z => nomatch z) (fun _ z => nomatch z))⟩)
    · exact .inr h1
  | dct _ _ _ _ =>
    intro ap
    rw [apD] at ap
    cases ap
section
variable {X : Cx} {p : Pm} {O : List Nat} {e : Expr} {te : TE} {me : ME} {tT : TT} {mT : MT}
theorem Sep.unlookA {F0 H0 F H F1 F2 H2 : Hp} {σ : St} {Γ : DEnv} {n n2 : Nat} {i : Nat} (s : Sep p F0 H0 O F H σ Γ n) (e1 : Same F F1) (hn : ∀ b o, F1 b = some o → F b = some o ∨ (i ∈ O ∧ σ[i]? = some (some (.ref b)) ∧ ∃ d, Γ[i]? = some (some d)))
    (s2 : Sep p F0 H0 (O.filter (· ≠ i)) F2 H2 σ Γ n2) (g : Gp p F1 H F2 H2) : ∃ F3, Sep p F0 H0 O F3 H2 σ Γ n2 ∧ Gp p F H F3 H2 ∧ (F3 = F2 ∨ ∃ a d, Γ[i]? = some (some d) ∧ Own p.K F H d a ∧ (∀ o, F2 a = some o → H a = some o) ∧ F3 = fun b => if b = a then none else F2 b) := by
  by_cases hi : i ∈ O ∧ ∃ d, Γ[i]? = some (some d)
  · obtain ⟨hi, d, ed⟩ := hi
    obtain ⟨a, ea, w, fa, h0a, pa⟩ := s.ow i hi d ed
    have key : ∀ b o, F1 b = some o → b ≠ a → F b = some o := fun b o h hb => by
      rcases hn b o h with z | ⟨_, z, _⟩
      · exact z
      · rw [ea] at z; cases z; exact absurd rfl hb
    have nf : ∀ {b : Addr} {o : HO}, F b = some o → b ≠ a := fun h z => by rw [z, fa] at h; cases h
    have f3 : ∀ b o, F b = some o → (fun b => if b = a then none else F2 b) b = some o := fun b o h => by
      show (if b = a then none else F2 b) = some o
      rw [if_neg (nf h)]
      exact g.f _ _ (e1 _ _ h)
    have f32 : ∀ b o, (fun b => if b = a then none else F2 b) b = some o → b ≠ a ∧ F2 b = some o := fun b o h => by
      have h' : (if b = a then none else F2 b) = some o := h
      by_cases z : b = a
      · rw [if_pos z] at h'; cases h'
      · rw [if_neg z] at h'; exact ⟨z, h'⟩
    obtain ⟨oa, hoa⟩ := w.at
    have ha2 : ∀ {u : HO}, H a = some u → H2 a = some u := fun h => g.h a _ h pa
    refine ⟨fun b => if b = a then none else F2 b, ⟨fun b o h => f3 b o (s.f0 b o h), fun b o h => s2.fh _ _ (f32 b o h).2, s2.stay, fun b o h => s2.newF b o (f32 b o h).2, fun b j h => ?_, s.len, fun j dj hj h => ?_, fun j hj dj h => ?_, s.dj⟩, ⟨fun b o h => f3 b o h, g.h, fun b o h => ?_⟩, .inr ⟨a, d, ed, w, fun o h => ?_, rfl⟩⟩
    · obtain ⟨h1, h2, ⟨x, l, xs, z1, z2, z3⟩, zt⟩ := s2.pen b j h
      obtain ⟨_, _, ⟨_, _, ys, _, y2, _⟩, _⟩ := s.pen b j h
      have hb : b ≠ a := fun z => pa ⟨b, j, h, .inl z.symm⟩
      have hd : p.dr.ad ≠ a := nf y2
      refine ⟨?_, h2, ⟨x, l, xs, z1, ?_, z3⟩, fun y hy => ?_⟩
      · show (if b = a then none else F2 b) = none
        rw [if_neg hb]; exact h1
      · show (if p.dr.ad = a then none else F2 p.dr.ad) = some _
        rw [if_neg hd]; exact z2
      · obtain ⟨t1, ps, t2, t3, t4⟩ := zt y hy
        refine ⟨?_, ps, t2, t3, fun pos cv hc => ?_⟩
        · show (if y.1 = a then none else F2 y.1) = none
          split
          · rfl
          · exact t1
        · obtain ⟨c, e1, e2⟩ := t4 pos cv hc
          refine ⟨c, e1, ?_⟩
          show (if c = a then none else F2 c) = some _
          rw [if_neg fun z => ?_]
          · exact e2
          · have h3 := s2.fh _ _ e2
            have h4 := g.h a _ hoa pa
            rw [z, h4] at h3
            exact w.notCode hoa _ (Option.some.inj h3)
    · obtain ⟨v, h1, r⟩ := s.sh j dj hj h
      exact ⟨v, h1, r.mono f3⟩
    · obtain ⟨b, h1, r, z1, z2, z3⟩ := s.ow j hj dj h
      have hb3 : (fun b => if b = a then none else F2 b) b = none := by
        show (if b = a then none else F2 b) = none
        by_cases z : b = a
        · rw [if_pos z]
        · rw [if_neg z]
          by_cases hji : j = i
          · subst hji
            rw [ea] at h1
            cases h1
            exact absurd rfl z
          · obtain ⟨b', h1', _, z1', _⟩ := s2.ow j (List.mem_filter.mpr ⟨hj, by simpa using hji⟩) dj h
            rw [h1] at h1'
            cases h1'
            exact z1'
      refine ⟨b, h1, ?_, hb3, z2, z3⟩
      cases r with
      | lst q1 q2 => exact .lst (g.h _ _ q1 z3) (q2.mono f3)
      | dct q1 q2 q3 => exact .dct (g.h _ _ q1 z3) q2 fun i x d a b => (q3 i x d a b).mono f3
    · obtain ⟨h1, h2⟩ := f32 b o h
      rcases g.new b o h2 with z | z | z
      · exact .inl (key b o z h1)
      · exact .inr (.inl z)
      · exact .inr (.inr z)
    · have h2 := s2.fh _ _ h
      have h4 := g.h a _ hoa pa
      rw [h2] at h4
      rw [Option.some.inj h4]; exact hoa
  · have hF : F1 = F := by
      funext b
      cases h : F1 b with
      | none => cases q : F b with
        | none => rfl
        | some o => rw [e1 _ _ q] at h; cases h
      | some o =>
        rcases hn b o h with z | ⟨z1, _, z2⟩
        · exact z.symm
        · exact absurd ⟨z1, z2⟩ hi
    subst hF
    refine ⟨F2, ⟨s2.f0, s2.fh, s2.stay, s2.newF, s2.pen, s.len, fun j dj hj h => s2.sh j dj (fun z => hj (List.mem_filter.mp z).1) h, fun j hj dj h => ?_, s.dj⟩, g, .inl rfl⟩
    exact s2.ow j (List.mem_filter.mpr ⟨hj, by
      simp only [ne_eq, decide_not, Bool.not_eq_eq_eq_not, Bool.not_true, decide_eq_false_iff_not]
      intro z
      subst z
      exact hi ⟨hj, dj, h⟩⟩) dj h
end
end RR
end
section
namespace RR
open PySem PySem.Spec L2
open PyProof.Rows hiding St
section
variable {X : Cx} {p : Pm} {O Ob : List Nat} {i j : Nat} {e : Expr} {te : TE} {me : ME} {x y : Str} {q q2 q3 q4 pos ap bp : Pos}
theorem Rps.eraseIdx {K : PySem.W.Frag} {F : Hp} {ds : List D} {xs : List V} (h : Rps K F ds xs) (k : Nat) : Rps K F (ds.eraseIdx k) (xs.eraseIdx k) := by
  rw [List.eraseIdx_eq_take_drop_succ, List.eraseIdx_eq_take_drop_succ]
  exact (h.take k).append (h.drop (k + 1))
theorem seqIx_nat {k l : Nat} (h : k < l) : seqIndex? (k : Int) l = some k := by
  unfold seqIndex?
  simp
  omega
/-- slot i's list loses the member at the index -/
@[reducible] def mPopI (i : Nat) (me : ME) : MS := fun E Γ n => ∃ ds, Γ[i]? = some (some (.list ds)) ∧ me Γ n fun d n1 => ∃ k : Nat, d = .int (k : Int) ∧ k < ds.length ∧ ds.length ≤ lim ∧ E.nx (Γ.set i (some (.list (ds.eraseIdx k)))) n1
theorem big_ix {k l : Nat} (h : k < l) (hl : l ≤ lim) : -(2 ^ 63 : Int) ≤ (k : Int) ∧ (k : Int) < 2 ^ 63 := by
  have : (lim : Int) ≤ 2 ^ 63 := by decide
  omega
theorem ls_popI (he : LE p O te me) (hi : i ∈ O) (hp : p.off i) : LS p Ob O O (tDrop (tBM p.K "list" rPopAt (tVar i) (tCons te tNil))) (mPopI i me) := fun F0 H0 F H σ Γ n E s ⟨ds, ei, q⟩ E' hn _ _ _ => by
  obtain ⟨a, e1, w, z1, z2, z3⟩ := s.ow i hi _ ei
  cases w with
  | lst w1 w2 =>
    rename_i xs
    refine ⟨.ref a, e1, .inl ⟨rfl, xs, .of w1⟩, ?_⟩
    refine he F0 H0 F H σ Γ n _ s q _ fun d v F1 H1 n1 s1 g1 r1 ⟨k, ed, hk, hl, q1⟩ => ?_
    subst ed
    have ev := r1.int_inv
    subst ev
    have w1' := g1.h _ _ w1 z3
    have f1 := g1.none z1 w1 z3
    have hkx : k < xs.length := by rw [w2.len]; exact hk
    obtain ⟨b1, b2⟩ := big_ix hk hl
    obtain ⟨F3, e3, s6⟩ := s1.rewrite (u := .lst (xs.eraseIdx k)) (d := .list (ds.eraseIdx k)) hi hp ei e1 f1 z2 z3 (.lst upd_same ((w2.mono g1.f).eraseIdx k))
    exact ⟨a, xs, (k : Int), k, xs[k], rfl, rfl, w1', b1, b2, seqIx_nat hkx, List.getElem?_eq_getElem hkx, hn F3 _ σ _ n1 s6 (g1.f.trans e3) q1⟩
theorem sPopI (i : Nat) (hK : p.K = X.K) (hv : PE X (.Name x q) (tVar i)) (he : RE X p O e te me) (hi : i ∈ O) (hp : p.off i)
    (hbase : attributeBase (.Name x q) "pop" X.env (eval (.Name x q) X.env) = eval (.Name x q) X.env := by rfl)
    (hfew : ((backTo q2 (starEach [e] X.env)).all (fun x => !x.1) && (backToKw q2 (keywordEach [] X.env)).all (fun x => x.1.isSome) && decide ([e].length + ([] : List Keyword).length + (if ([] : List Keyword).isEmpty then 0 else 1) < 30)) = true := by rfl)
    (hline : (ap.endLine == q2.line) = true := by rfl) (h1 : starEach [e] X.env = (false, eval e X.env) :: starEach [] X.env := by rfl) (hpl : (backTo q2 (starEach [] X.env)).any (·.1) = false := by rfl)
    (hs : swapsWith (.Call (.Attribute (.Name x q) "pop" ap) [e] [] q2) none pos.line X.env = pure false := by rfl) :
    RS X p Ob O O (.Expr (.Call (.Attribute (.Name x q) "pop" ap) [e] [] q2) pos) (tDrop (tBM p.K "list" rPopAt (tVar i) (tCons te tNil))) (mPopI i me) :=
  ⟨hK ▸ ps_expr (pe_bm PySem.F.plainAttrs_list PySem.F.slot_list_pop PySem.F.type_list_pop mt_popAt hv (pa_cons he.pe pa_nil h1) hbase hfew hline h1 hpl) hs, ls_popI he.le hi hp⟩
end
end RR
end
section
namespace RR
open PySem PySem.Spec L2
open PyProof.Rows hiding St
def dMulL : D → D → Option D
  | .list xs, .int k => if xs.length * k.toNat ≤ lim ∧ -(2 ^ 63) ≤ k ∧ k < 2 ^ 63 then some (.list (List.replicate k.toNat xs).flatten) else none
  | _, _ => none
theorem dMulL_eq {x y d : D} (h : dMulL x y = some d) : ∃ xs k, x = .list xs ∧ y = .int k ∧ xs.length * k.toNat ≤ lim ∧ -(2 ^ 63) ≤ k ∧ k < 2 ^ 63 ∧ d = .list (List.replicate k.toNat xs).flatten := by
  unfold dMulL at h
  split at h
  · obtain ⟨hl, rfl⟩ := ifs' h
    exact ⟨_, _, rfl, rfl, hl.1, hl.2.1, hl.2.2, rfl⟩
  · cases h
theorem lf_rep {p : Pm} {O : List Nat} {ta tb : TE} {ma mb : ME} (ha : LE p O ta ma) (hb : LE p O tb mb) : LF p O (tOp rRep ta tb) (mOp dMulL ma mb) := fun F0 H0 F H σ Γ n Q s q Q' k => by
  refine ha F0 H0 F H σ Γ n _ s q _ fun dx x F1 H1 n1 s1 g1 r1 q1 => ?_
  refine hb F0 H0 F1 H1 σ Γ n1 _ s1 q1 _ fun dy y F2 H2 n2 s2 g2 r2 ⟨d, fe, q2⟩ => ?_
  obtain ⟨xs, j, rfl, rfl, hl, j1, j2, rfl⟩ := dMulL_eq fe
  obtain ⟨a, us, rfl, h1, ra⟩ := (r1.mono g2.f).lst_inv
  have ev := r2.int_inv
  subst ev
  refine ⟨a, j, us, rfl, rfl, s2.fh _ _ h1, j1, j2, by rw [ra.len]; exact lim_line hl, fun z hz => ?_⟩
  have hz0 : H z = none := by
    cases w : H z with
    | none => rfl
    | some o =>
      have := (g1.trans g2).h z o w fun hp => by
        cases w2 : H2 z with
        | none =>
          obtain ⟨b', i, e, hb'⟩ := hp
          rcases hb' with rfl | ⟨y, hy, rfl⟩
          · obtain ⟨o, q⟩ := (s2.pen _ i e).2.2.1.at
            rw [hz] at q; cases q
          · obtain ⟨_, ps, q, _⟩ := (s2.pen b' i e).2.2.2 y hy
            rw [hz] at q; cases q
        | some o2 => rw [hz] at w2; cases w2
      rw [hz] at this
      cases this
  have gr := Gr.new0 s2.fh hz (.lst (List.replicate j.toNat us).flatten)
  exact k _ _ F2 _ n2 (s2.gr gr) ((g1.trans g2).trans gr.gp) (.lst upd_same (ra.rep _)) (s2.fh.free hz) hz0 q2
theorem f_rep {X : Cx} {p : Pm} {O : List Nat} {e f : Expr} {pos : Pos} {ta tb : TE} {ma mb : ME} (ha : RE X p O e ta ma) (hb : RE X p O f tb mb) : RF X p O (.BinOp e .Mult f pos) (tOp rRep ta tb) (mOp dMulL ma mb) := ⟨pe_op op_rep ha.pe hb.pe, lf_rep ha.le hb.le⟩
theorem rsd_pre {X : Cx} {p : Pm} {O O2 : List Nat} {sts : List Stmt} {t : TS} {m : MS} (i : Nat) (h : RSD X p O2 sts t m) (k : O2 = O.filter (· ≠ i)) : RSD X p O sts t m := ⟨h.ps, fun F0 H0 F H σ Γ n N R s q E' hr => by
  subst k
  obtain ⟨F1, e1, s1⟩ := s.freeze i
  exact h.le F0 H0 F1 H σ Γ n N R s1 q E' hr⟩
end RR
end
section
namespace RR
open PySem PySem.Spec L2
open PyProof.Rows hiding St
@[reducible] def mPut2 (i j : Nat) (m1 m2 mk ml : ME) : MS := fun E Γ n => m1 Γ n fun d1 n1 => m2 Γ n1 fun d2 n2 => ∃ ds, Γ[i]? = some (some (.list ds)) ∧ mk Γ n2 fun kd n3 => ∃ k a, kd = .int k ∧ ixN ds.length k = some a ∧
  ∃ es, (Γ.set i (some (.list (ds.set a d1))))[j]? = some (some (.list es)) ∧ ml (Γ.set i (some (.list (ds.set a d1)))) n3 fun ld n4 => ∃ l b, ld = .int l ∧ ixN es.length l = some b ∧ E.nx ((Γ.set i (some (.list (ds.set a d1)))).set j (some (.list (es.set b d2)))) n4
section
variable {X : Cx} {p : Pm} {O Ob : List Nat} {i j : Nat} {k1 k2 e1 e2 : Expr} {pos pa pb pt pt2 q q2 : Pos} {t1 t2 tk tl : TE} {m1 m2 mk ml : ME} {x y : Str}
theorem put_step {F0 H0 F H : Hp} {σ : St} {Γ : DEnv} {n : Nat} (hk : LE p O tk mk) (hi : i ∈ O) (hp : p.off i) (s : Sep p F0 H0 O F H σ Γ n) {d : D} {v : V} (r : Rp p.K F d v) {ds : List D} (ei : Γ[i]? = some (some (.list ds))) {Q : St → Hp → Prop} {P : Nat → Nat → Prop}
    (q : mk Γ n fun kd n2 => ∃ k a, kd = .int k ∧ ixN ds.length k = some a ∧ P a n2)
    (c : ∀ a F3 H3 n2, Sep p F0 H0 O F3 H3 σ (Γ.set i (some (.list (ds.set a d)))) n2 → Same F F3 → P a n2 → Q σ H3) : gSub (tVar i) tk rSetL v σ H Q := by
  obtain ⟨a, e1, w, z1, z2, z3⟩ := s.ow i hi _ ei
  refine ⟨.ref a, e1, ?_⟩
  refine hk F0 H0 F H σ Γ n _ s q _ fun kd y F2 H2 n2 s2 g2 r2 ⟨k, b, ek, hj, q2⟩ => ?_
  subst ek
  obtain ⟨a', e1', w2, y1, y2, y3⟩ := s2.ow i hi _ ei
  rw [e1] at e1'
  cases e1'
  cases w2 with
  | lst u1 u2 =>
    rename_i xs
    obtain ⟨F3, e3, s6⟩ := s2.rewrite (u := .lst (xs.set b v)) (d := .list (ds.set b d)) hi hp ei e1 y1 y2 y3 (.lst upd_same (u2.set b (r.mono g2.f)))
    exact ⟨a, xs, k, b, rfl, r2.int_inv, u1, by rw [u2.len]; exact hj, c b F3 _ n2 s6 (g2.f.trans e3) q2⟩
theorem ls_put2 (h1 : LE p O t1 m1) (h2 : LE p O t2 m2) (hk : LE p O tk mk) (hl : LE p O tl ml) (hi : i ∈ O) (hj : j ∈ O) (hp : p.off i) (hpj : p.off j) :
    LS p Ob O O (tAsg (tTup (tCons t1 (tCons t2 tNil))) (gTup p.K 2 (gCons (gSub (tVar i) tk rSetL) (gCons (gSub (tVar j) tl rSetL) gNil)))) (mPut2 i j m1 m2 mk ml) := fun F0 H0 F H σ Γ n E s q E' hn _ _ _ => by
  refine h1 F0 H0 F H σ Γ n _ s q _ fun d1 v1 F1 H1 n1 s1 g1 r1 q1 => ?_
  refine h2 F0 H0 F1 H1 σ Γ n1 _ s1 q1 _ fun d2 v2 F2 H2 n2 s2 g2 r2 ⟨ds, ei, q2⟩ => ?_
  refine ⟨by show 2 ≤ sizeLine; exact Nat.le_trans (show 2 ≤ lim by decide) (lim_le (Nat.le_refl _)), fun t ht => ?_⟩
  have gr := Gr.new0 s2.fh ht (.tup [v1, v2])
  have s3 := s2.gr gr
  refine ⟨t, [v1, v2], rfl, .inl (.inl upd_same), rfl, v1, [v2], rfl, ?_⟩
  refine put_step hk hi hp s3 ((r1.mono g2.f)) ei q2 fun a F3 H3 n3 s4 f4 ⟨es, ej, q3⟩ => ?_
  refine ⟨v2, [], rfl, ?_⟩
  refine put_step hl hj hpj s4 (r2.mono f4) ej q3 fun b F5 H5 n4 s5 f5 q4 => ?_
  exact ⟨rfl, hn F5 _ σ _ n4 s5 (((g1.f.trans g2.f).trans f4).trans f5) q4⟩
theorem sPut2 {kt kt2 : Nat} (i j : Nat) (hK : p.K = X.K) (hc : X.calm = true) (hN : PE X (.Name x q) (tVar i)) (hM : PE X (.Name y q2) (tVar j)) (h1 : RE X p O e1 t1 m1) (h2 : RE X p O e2 t2 m2) (hk : RE X p O k1 tk mk) (hl : RE X p O k2 tl ml) (hi : i ∈ O) (hj : j ∈ O) (hp : p.off i) (hpj : p.off j)
    (ha : ∀ v, assign (.Subscript (.Name x q) k1 pa) X.env v = (do
      let ov ← holding [v] (eval (.Name x q) X.env)
      let iv ← holding [v, ov] (eval k1 X.env)
      standAt pa
      holding [v, ov, iv] (setItem ov iv v)
      release [v, ov, iv] []) := by intro _; rfl)
    (hb : ∀ v, assign (.Subscript (.Name y q2) k2 pb) X.env v = (do
      let ov ← holding [v] (eval (.Name y q2) X.env)
      let iv ← holding [v, ov] (eval k2 X.env)
      standAt pb
      holding [v, ov, iv] (setItem ov iv v)
      release [v, ov, iv] []) := by intro _; rfl)
    (hs : swapsWithSole [.Tuple [.Subscript (.Name x q) k1 pa, .Subscript (.Name y q2) k2 pb] kt pt] (.Tuple [e1, e2] kt2 pt2) pos.line X.env = pure false := by rfl)
    (hw : swappedStores [.Tuple [.Subscript (.Name x q) k1 pa, .Subscript (.Name y q2) k2 pb] kt pt] (.Tuple [e1, e2] kt2 pt2) X.env = pure none := by rfl)
    (hA : (assignEach [.Tuple [.Subscript (.Name x q) k1 pa, .Subscript (.Name y q2) k2 pb] kt pt] X.env).map (·.2) = [assign (.Tuple [.Subscript (.Name x q) k1 pa, .Subscript (.Name y q2) k2 pb] kt pt) X.env] := by rfl)
    (hE : (assignEach [.Subscript (.Name x q) k1 pa, .Subscript (.Name y q2) k2 pb] X.env).map (·.2) = assign (.Subscript (.Name x q) k1 pa) X.env :: (assignEach [.Subscript (.Name y q2) k2 pb] X.env).map (·.2) := by rfl)
    (hF : (assignEach [.Subscript (.Name y q2) k2 pb] X.env).map (·.2) = assign (.Subscript (.Name y q2) k2 pb) X.env :: (assignEach [] X.env).map (·.2) := by rfl)
    (hn : (assignEach [.Subscript (.Name x q) k1 pa, .Subscript (.Name y q2) k2 pb] X.env).length = 2 := by rfl) (hst : (assignEach [.Subscript (.Name x q) k1 pa, .Subscript (.Name y q2) k2 pb] X.env).findIdx? (·.1) = none := by rfl)
    (hS : starEach [e1, e2] X.env = (false, eval e1 X.env) :: starEach [e2] X.env := by rfl) (hS2 : starEach [e2] X.env = (false, eval e2 X.env) :: starEach [] X.env := by rfl) :
    RS X p Ob O O (.Assign [.Tuple [.Subscript (.Name x q) k1 pa, .Subscript (.Name y q2) k2 pb] kt pt] (.Tuple [e1, e2] kt2 pt2) pos) (tAsg (tTup (tCons t1 (tCons t2 tNil))) (gTup p.K 2 (gCons (gSub (tVar i) tk rSetL) (gCons (gSub (tVar j) tl rSetL) gNil)))) (mPut2 i j m1 m2 mk ml) :=
  ⟨hK ▸ ps_asg (pe_tup (pa_cons h1.pe (pa_cons h2.pe pa_nil hS2) hS)) (pg_tup hc (pgs_cons (pg_sub hN hk.pe set_list ha) (pgs_cons (pg_sub hM hl.pe set_list hb) pgs_nil hF) hE) hn hst) hs hw hA, ls_put2 h1.le h2.le hk.le hl.le hi hj hp hpj⟩
end
end RR
end
section
namespace RR
open PySem PySem.Spec L2
open PyProof.Rows hiding St
def lstT : D → Bool
  | .list ds => ds.all tupD
  | _ => false
open Classical in
/-- what is frozen: the tuples, and the lists that are handed in -/
noncomputable def Fl (F : Hp) (args : List D) (vs : List V) : Hp := fun b => if ∃ (i : Nat) (ds : List D), args[i]? = some (.list ds) ∧ vs[i]? = some (.ref b) then F b else Ft F b
section
variable {K : PySem.W.Frag} {F H : Hp} {args : List D} {vs : List V}
theorem Fl_sub {b : Addr} {o : HO} (h : Fl F args vs b = some o) : F b = some o := by
  unfold Fl at h
  split at h
  · exact h
  · exact Ft_sub h
theorem Fl_of_Ft {b : Addr} {o : HO} (h : Ft F b = some o) : Fl F args vs b = some o := by
  unfold Fl
  split
  · exact Ft_sub h
  · exact h
theorem Fl_lst {b : Addr} {xs : List V} (h : Fl F args vs b = some (.lst xs)) : ∃ (i : Nat) (ds : List D), args[i]? = some (.list ds) ∧ vs[i]? = some (.ref b) := by
  unfold Fl at h
  split at h
  · assumption
  · exact absurd h Ft_lst
theorem Fl_at {i : Nat} {ds : List D} {b : Addr} (h : args[i]? = some (.list ds)) (k : vs[i]? = some (.ref b)) : Fl F args vs b = F b := by
  unfold Fl
  exact if_pos ⟨i, ds, h, k⟩
theorem Rps.lists (r : Rps K F args vs) (z : (args.all fun d => tupD d || lstT d) = true) : Rps K (Fl F args vs) args vs := ⟨r.len, fun i x d e1 e2 => by
  have hz := List.all_eq_true.mp z d (List.mem_of_getElem? e2)
  rw [Bool.or_eq_true] at hz
  have sm : Same (Ft F) (Fl F args vs) := fun b o e => Fl_of_Ft e
  have r1 := r.at_ i x d e1 e2
  rcases hz with hz | hz
  · exact (r1.tups hz).mono sm
  · cases d with
    | list ds =>
      obtain ⟨b, xs, rfl, hb, rb⟩ := r1.lst_inv
      have e := (Fl_at (F := F) e2 e1).trans hb
      have r2 := (rb.tups hz).mono sm
      exact .lst e r2.len r2.at_
    | _ => cases hz⟩
end
section
variable {X : Cx} {p : Pm} {O Ob : List Nat} {iD j : Nat} {mf : MP} {ta : TA} {ma : MA}
/-- told lists are none of the lists that are handed in -/
def newsD (args : List D) (xs ys : List D) : Bool := args.all fun g => match g with
  | .list _ => apL g xs && apL g ys
  | _ => true
@[reducible] def mTwo (j : Nat) (mf : MP) (ma : MA) (Γ : DEnv) (n : Nat) (P : List D → List D → Nat → Prop) : Prop := ∃ g, Γ[j]? = some (some g) ∧ ma Γ n fun args n2 => (args.all fun d => tupD d || lstT d) = true ∧ mf args fun d =>
  ∃ xs ys, d = .tuple [.list xs, .list ys] ∧ xs.all flatD = true ∧ ys.all flatD = true ∧ newsD args xs ys = true ∧ apL g xs = true ∧ apL g ys = true ∧ P xs ys n2
theorem not_given {F F3 : Hp} {K : PySem.W.Frag} {args : List D} {vs : List V} {a : Addr} {xs : List D} {xsV : List V} (r : Rps K F args vs) (f : Same (Fl F args vs) F3) (fa : F3 a = some (.lst xsV)) (rx : Rps K F3 xs xsV)
    (hn : ∀ ds, PyData.list ds ∈ args → apL (.list ds) xs = true) : Fl F args vs a ≠ some (.lst xsV) := fun h => by
  obtain ⟨i, ds, h1, h2⟩ := Fl_lst h
  have hF := Fl_sub h
  obtain ⟨b, us, eb, hb, rb⟩ := (r.at_ i _ _ h2 h1).lst_inv
  cases eb
  rw [hF] at hb
  cases hb
  have z := hn ds (List.mem_of_getElem? h1)
  have k1 := head_kd rb
  have k2 := head_kd rx
  unfold apL at z
  simp only [Bool.or_eq_true, Bool.not_eq_true', beq_eq_false_iff_ne] at z
  rcases z with z | z
  · exact z (rx.len.symm.trans rb.len)
  · exact z (k2.trans k1.symm)
theorem two_call {F0 H0 F H : Hp} {σ : St} {Γ : DEnv} {n : Nat} (ha : LA p (O.filter (· ≠ j)) ta ma) (nD : iD ∉ O) (oD : p.off iD) (s : Sep p F0 H0 O F H σ Γ n) {P : List D → List D → Nat → Prop} (q : mTwo j mf ma Γ n P) {Q : V → Hp → Prop}
    (k : ∀ xs ys a b t xsV ysV F3 H3 n2, Sep p F0 H0 O F3 H3 σ Γ n2 → Gp p F H F3 H3 → H a = none → H b = none → H t = none → a ≠ b → H3 a = some (.lst xsV) → H3 b = some (.lst ysV) → H3 t = some (.tup [.ref a, .ref b]) →
      Rps p.K F3 xs xsV → Rps p.K F3 ys ysV → xs.all flatD = true → ys.all flatD = true → Rp p.K F3 (.tuple [.list xs, .list ys]) (.ref t) → P xs ys n2 → Q (.ref t) H3) : tCall (spFd p.K mf) [] E0 ta σ H Q := by
  obtain ⟨g, eg, q⟩ := q
  obtain ⟨F1, e1, s1, hn1⟩ := s.look j
  refine ha F0 H0 F1 H σ Γ n _ s1 q _ fun args vs F2 H2 n2 s2 g2 ra ⟨tu, q2⟩ => ?_
  refine ⟨Fl F2 args vs, args, _, fun b o e => s2.fh _ _ (Fl_sub e), by rw [List.append_nil]; exact ra.lists tu, q2, fun d1 d2 v1 t b F3 H3 g3 r3 ht dist hnew ⟨xs, ys, ed, fx, fy, nw, ax, ay, q3⟩ => ?_⟩
  cases ed
  obtain ⟨v1', r31, e31, ra1, r32⟩ := r3.uncons
  cases e31
  obtain ⟨_, _, e32, rb1, r33⟩ := r32.uncons
  cases e32
  obtain ⟨a, xsV, ea, fa3, rx⟩ := ra1.lst_inv
  cases ea
  obtain ⟨b', ysV, eb, fb3, ry⟩ := rb1.lst_inv
  cases eb
  have hab : a ≠ b := fun z => dist xs rfl (z ▸ rfl)
  have nwx : ∀ ds, PyData.list ds ∈ args → apL (.list ds) xs = true := fun ds h => by
    have z := List.all_eq_true.mp nw _ h
    dsimp only at z
    rw [Bool.and_eq_true] at z
    exact z.1
  have nwy : ∀ ds, PyData.list ds ∈ args → apL (.list ds) ys = true := fun ds h => by
    have z := List.all_eq_true.mp nw _ h
    dsimp only at z
    rw [Bool.and_eq_true] at z
    exact z.2
  have na : H2 a = none := (g3.new a _ fa3).elim (fun z => absurd z (not_given ra g3.f fa3 rx nwx)) id
  have nb : H2 b = none := (g3.new b _ fb3).elim (fun z => absurd z (not_given ra g3.f fb3 ry nwy)) id
  have sj : ∀ {x : Addr} {o : HO}, joinF F2 F3 x = some o → F3 x = some o ∨ (F3 x = none ∧ F2 x = some o) := fun {x o} e => by
    unfold joinF at e
    cases z : F3 x with
    | none => rw [z] at e; exact .inr ⟨rfl, e⟩
    | some u => rw [z] at e; exact .inl e
  have s3j : Same F3 (joinF F2 F3) := fun x o e => by unfold joinF; rw [e]
  have s2j : Same F2 (joinF F2 F3) := fun x o e => by
    unfold joinF
    cases z : F3 x with
    | none => exact e
    | some u =>
      have y1 := g3.fh _ _ z
      have y2 := g3.h _ _ (s2.fh _ _ e)
      rw [y1] at y2
      exact y2
  have gs : Gr F2 H2 (joinF F2 F3) H3 := ⟨s2j, fun x o e => (sj e).elim (fun z => g3.fh _ _ z) fun z => g3.h _ _ (s2.fh _ _ z.2), g3.h, fun x o e => (sj e).elim (fun z => (g3.new x o z).imp Fl_sub id) fun z => .inl z.2⟩
  have s3 := s2.gr gs
  have rt : Rp p.K (joinF F2 F3) (.tuple [.list xs, .list ys]) (.ref t) := .of_tup (.inl (.inl (s3j _ _ ht))) (r3.mono s3j)
  obtain ⟨F4, s4, g4, z4⟩ := s.unlookA e1 hn1 s3 (g2.trans gs.gp)
  have nH : ∀ {x : Addr}, H2 x = none → H x = none := fun {x} z => by
    cases y : H x with
    | none => rfl
    | some o => rw [g2.h x o y (s2.h0 z).2] at z; cases z
  have ap : apD g (.tuple [.list xs, .list ys]) = true := by
    have fa : ∀ zs : List D, zs.all flatD = true → apD.apAll g zs = true := fun zs => by
      induction zs with
      | nil => exact fun _ => rfl
      | cons z zs ih =>
        intro h
        rw [List.all_cons, Bool.and_eq_true] at h
        rw [apD.apAll, ih h.2, Bool.and_true]
        cases z <;> first | rfl | (exfalso; have := h.1; unfold flatD at this; cases this)
    rw [apD, apD.apAll, apD.apAll, apD.apAll, apD, apD, ax, ay, fa xs fx, fa ys fy]; rfl
  have rt4 : Rp p.K F4 (.tuple [.list xs, .list ys]) (.ref t) := by
    rcases z4 with rfl | ⟨a', d', ed, w, ho, rfl⟩
    · exact rt
    · have : d' = g := by rw [eg] at ed; cases ed; rfl
      subst this
      exact rt.cut w ho ap
  exact k xs ys a b t xsV ysV F4 H3 n2 s4 g4 (nH na) (nH nb) (nH hnew) hab (g3.fh _ _ fa3) (g3.fh _ _ fb3) (g3.fh _ _ ht) (rx.flat_any fx) (ry.flat_any fy) fx fy rt4 q3
end
end RR
end
section
namespace RR
open PySem PySem.Spec L2
open PyProof.Rows hiding St
def tKillG (p : Pm) (iD iR : Nat) (cV : V) (mf : MP) (ta : TA) (tT tT5 : TT) : TS :=
  tSeq (tAsg (tCall (spFd p.K mf) [] E0 ta) (gName iD)) (tSeq (tIfS tT (tRet (tC (.bl false))) tNext)
    (tSeq (tFor (iSeq p.K (tVar iD)) (gName iR) (tDrop (tBM p.K "list" rAppend (tVar iR) (tCons (tC cV) tNil)))) (tIfS tT5 (tRet (tC (.bl false))) tNext)))
@[reducible] def mKillG (iD iR j : Nat) (c : D) (mf : MP) (ma : MA) (mT mT5 : MT) : MS := fun E Γ n =>
  iD < Γ.length ∧ iR < Γ.length ∧ mTwo j mf ma Γ n fun xs ys n2 => xs.length < lim ∧ ys.length < lim ∧
    mT (Γ.set iD (some (.tuple [.list xs, .list ys]))) n2 fun b n4 =>
      if b = true then E.rt (.bool false) n4 else mT5 ((Γ.set iR none).set iD (some (.tuple [.list (xs ++ [c]), .list (ys ++ [c])]))) n4 fun b5 n5 =>
        if b5 = true then E.rt (.bool false) n5 else E.nx ((Γ.set iR none).set iD none) n5
section
variable {X : Cx} {p : Pm} {O Ob : List Nat} {iD iR j : Nat} {c : D} {cV : V} {mf : MP} {ta : TA} {ma : MA} {tT tT5 : TT} {mT mT5 : MT}
theorem ls_killG (ha : LA p (O.filter (· ≠ j)) ta ma) (hT : LT p O tT mT) (h5 : LT p O tT5 mT5) (hc : ∀ F, Rp p.K F c cV) (nD : iD ∉ O) (nR : iR ∉ O) (oD : p.off iD) (oR : p.off iR) (dDR : iD ≠ iR) (htb : p.dr.tb = []) :
    LS p Ob O O (tKillG p iD iR cV mf ta tT tT5) (mKillG iD iR j c mf ma mT mT5) := fun F0 H0 F H σ Γ n E s ⟨hlD, hlR, q⟩ E' hn hr _ _ => by
  refine two_call (iD := iD) ha nD oD s q fun xs ys a b t xsV ysV F3 H3 n2 s3 g3 Ha Hb Ht hab h3a h3b h3t rx ry fx fy rt ⟨lx, ly, q3⟩ => ?_
  have s4 := s3.put nD oD rt
  refine hT F0 H0 _ H3 _ _ n2 _ s4 q3 _ fun bb F5 H5 n4 s7 g7 q5 => ?_
  cases bb with
  | true =>
    rw [if_pos rfl] at q5 ⊢
    exact hr (.bool false) (.bl false) F5 H5 n4 s7.fin (.bl false) q5
  | false =>
    rw [if_neg (by decide)] at q5 ⊢
    have a5 := g7.h _ _ h3a (s.h0 Ha).2
    have b5 := g7.h _ _ h3b (s.h0 Hb).2
    have t5 := g7.h _ _ h3t (s.h0 Ht).2
    have G5 : Gp p F H F5 H5 := g3.trans g7
    have htl : ∀ {x : Addr} {xs : List V}, H5 x = some (.lst xs) → t ≠ x := fun e z => by rw [← z, t5] at e; cases e
    have hta := htl a5
    have htb' := htl b5
    let σ2 : St := σ.set iD (some (.ref t))
    let ΓW : DEnv := (Γ.set iR none).set iD none
    have lσ : σ.length = Γ.length := s.len
    have eD2 : σ2[iD]? = some (some (.ref t)) := by
      show (σ.set iD (some (.ref t)))[iD]? = _
      rw [set_at, if_pos rfl, if_pos (by rw [lσ]; exact hlD)]
    have eDx : ∀ x : Option V, (σ2.set iR x)[iD]? = some (some (.ref t)) := fun x => by rw [List.getElem?_set_ne (Ne.symm dDR)]; exact eD2
    have eRx : ∀ x : Option V, ∀ τ : St, τ.length = Γ.length → (τ.set iR x)[iR]? = some x := fun x τ hl => by rw [set_at, if_pos rfl, if_pos (by rw [hl]; exact hlR)]
    have l2 : σ2.length = Γ.length := by show (σ.set iD (some (.ref t))).length = _; rw [List.length_set]; exact lσ
    let σ3 : St := (σ2.set iR (some (.ref a))).set iR (some (.ref b))
    have slA : ∀ {x : Addr}, H x = none → ∀ j ∈ O, ∀ dj, ΓW[j]? = some (some dj) → σ3[j]? ≠ some (some (.ref x)) := fun {x} hx j hj dj e z => by
      have j2 : iD ≠ j := fun y => nD (y ▸ hj)
      have j3 : iR ≠ j := fun y => nR (y ▸ hj)
      have e' : Γ[j]? = some (some dj) := by
        have e0 : ((Γ.set iR none).set iD none)[j]? = some (some dj) := e
        rwa [List.getElem?_set_ne j2, List.getElem?_set_ne j3] at e0
      have z' : σ[j]? = some (some (.ref x)) := by
        have z0 : (((σ.set iD (some (.ref t))).set iR (some (.ref a))).set iR (some (.ref b)))[j]? = some (some (.ref x)) := z
        rwa [List.getElem?_set_ne j3, List.getElem?_set_ne j3, List.getElem?_set_ne j2] at z0
      obtain ⟨c, c1, w, _⟩ := s.ow j hj dj e'
      rw [z'] at c1
      cases c1
      obtain ⟨o, ho⟩ := w.at
      rw [hx] at ho; cases ho
    let H6 : Hp := upd H5 a (.lst (xsV ++ [cV]))
    let H7 : Hp := upd H6 b (.lst (ysV ++ [cV]))
    have hb6 : H6 b = some (.lst ysV) := by show upd H5 a _ b = _; rw [upd_ne (Ne.symm hab)]; exact b5
    have ht6 : H6 t = some (.tup [.ref a, .ref b]) := by show upd H5 a _ t = _; rw [upd_ne hta]; exact t5
    have ht7 : H7 t = some (.tup [.ref a, .ref b]) := by show upd H6 b _ t = _; rw [upd_ne htb']; exact ht6
    have ha7 : H7 a = some (.lst (xsV ++ [cV])) := by show upd H6 b _ a = _; rw [upd_ne hab]; exact upd_same
    have hb7 : H7 b = some (.lst (ysV ++ [cV])) := upd_same
    have fN : ∀ {x : Addr}, H x = none → F x = none := fun z => s.fh.free z
    have pn := fun {x : Addr} (z : H x = none) => s.h0 z
    have base : ∀ {G' H' : Hp} {k : Nat}, (∀ x o, H x = some o → ¬ p.isPen x → H' x = some o) → Same F G' → (∀ a i, p.ap = some (a, i) → PenAt p.dr.ad G' H' a k) → Sep p F0 H0 O F H' σ3 ΓW k := fun {G' H' k} x1 x2 x3 => by
      have y := ((((s.past x1 x2 x3 htb).scr nD oD (some (.ref t))).scr nR oR (some (.ref a))).scr nR oR (some (.ref b)))
      have eΓ : ((Γ.set iD none).set iR none).set iR none = ΓW := by
        show _ = (Γ.set iR none).set iD none
        rw [List.set_set, List.set_comm _ _ dDR]
      rw [eΓ] at y
      exact y
    -- the loop
    refine ⟨.ref t, eD2, t, rfl, .inr ⟨⟨_, .inl (.inl t5)⟩, for_tup (xs := [.ref a, .ref b]) (fun i σ' H' => (i = 0 ∧ σ' = σ2 ∧ H' = H5) ∨ (i = 1 ∧ σ' = σ2.set iR (some (.ref a)) ∧ H' = H6) ∨ (i = 2 ∧ σ' = σ3 ∧ H' = H7)) (.inl ⟨rfl, rfl, rfl⟩) (fun i σ' H' hi hP => ?_) (fun i x σ' H' hx hP => ?_) (fun σ' H' hP => ?_)⟩⟩
    · rcases hP with ⟨_, _, rfl⟩ | ⟨_, _, rfl⟩ | ⟨_, _, rfl⟩
      · exact .inl (.inl t5)
      · exact .inl (.inl ht6)
      · exact .inl (.inl ht7)
    · rcases hP with ⟨rfl, rfl, rfl⟩ | ⟨rfl, rfl, rfl⟩ | ⟨rfl, rfl, rfl⟩
      · cases hx
        exact ⟨.ref a, eRx _ σ2 l2, .inl ⟨rfl, xsV, .of a5⟩, a, xsV, cV, rfl, rfl, a5, by rw [rx.len]; exact lim_lt (Nat.le_of_lt lx), .inr (.inl ⟨rfl, rfl, rfl⟩)⟩
      · cases hx
        exact ⟨.ref b, eRx _ _ (by rw [List.length_set]; exact l2), .inl ⟨rfl, ysV, .of hb6⟩, b, ysV, cV, rfl, rfl, hb6, by rw [ry.len]; exact lim_lt (Nat.le_of_lt ly), .inr (.inr ⟨rfl, rfl, rfl⟩)⟩
      · cases hx
    · rcases hP with ⟨h, _⟩ | ⟨h, _⟩ | ⟨_, rfl, rfl⟩
      · cases h
      · cases h
      have sC : Sep p F0 H0 O F H5 σ3 ΓW n4 := base G5.h G5.f fun a i e => (s7.pen a i e).2.2.1
      have sD := (sC.poke (o := .lst (xsV ++ [cV])) (fN Ha) (pn Ha).1 (pn Ha).2 (slA Ha)).poke (o := .lst (ysV ++ [cV])) (fN Hb) (pn Hb).1 (pn Hb).2 (slA Hb)
      have sD : Sep p F0 H0 O F H7 σ3 ΓW n4 := sD
      have wa : Own p.K F H7 (.list (xs ++ [c])) a := .lst ha7 ((rx.flat_any fx).append (.cons (hc _) .nil))
      obtain ⟨Fa, sE, xa, _, ra', nwa⟩ := sD.freeze0 ⟨wa, fN Ha, (pn Ha).1, (pn Ha).2, slA Ha⟩
      have fab : Fa b = none := by
        cases z : Fa b with
        | none => rfl
        | some o =>
          rcases nwa b o z with y | y
          · rw [fN Hb] at y; cases y
          · exact absurd y.symm hab
      obtain ⟨Fb, sF, xb, _, rb', nwb⟩ := sE.freeze0 (d := .list (ys ++ [c])) (a := b) ⟨.lst hb7 ((ry.flat_any fy).append (.cons (hc _) .nil)), fab, (pn Hb).1, (pn Hb).2, slA Hb⟩
      have fbt : Fb t = none := by
        cases z : Fb t with
        | none => rfl
        | some o =>
          rcases nwb t o z with y | y
          · rcases nwa t o y with y | y
            · rw [fN Ht] at y; cases y
            · exact absurd y hta
          · exact absurd y htb'
      have sG := sF.freezeT ht7 fbt (pn Ht).1 (pn Ht).2 (slA Ht)
      have smt : Same Fb (upd Fb t (.tup [.ref a, .ref b])) := same_up fbt
      have rg : Rp p.K (upd Fb t (.tup [.ref a, .ref b])) (.tuple [.list (xs ++ [c]), .list (ys ++ [c])]) (.ref t) := .of_tup (.inl (.inl upd_same)) (.cons ((ra'.mono xb).mono smt) (.cons (rb'.mono smt) .nil))
      have sH := sG.put nD oD rg
      have eD3 : σ3[iD]? = some (some (.ref t)) := by
        show ((σ2.set iR (some (.ref a))).set iR (some (.ref b)))[iD]? = _
        rw [List.getElem?_set_ne (Ne.symm dDR)]; exact eDx _
      rw [set_same eD3] at sH
      have eΓ : ΓW.set iD (some (.tuple [.list (xs ++ [c]), .list (ys ++ [c])])) = (Γ.set iR none).set iD (some (.tuple [.list (xs ++ [c]), .list (ys ++ [c])])) := by
        show ((Γ.set iR none).set iD none).set iD _ = _
        rw [List.set_set]
      rw [eΓ] at sH
      refine h5 F0 H0 _ _ _ _ n4 _ sH q5 _ fun b5' F9 H9 n5 s8 g8 q6 => ?_
      cases b5' with
      | true =>
        rw [if_pos rfl] at q6 ⊢
        exact hr (.bool false) (.bl false) F9 H9 n5 s8.fin (.bl false) q6
      | false =>
        rw [if_neg (by decide)] at q6 ⊢
        have keep : ∀ x o, H x = some o → ¬ p.isPen x → H7 x = some o := fun x o e np => by
          show upd (upd H5 a _) b _ x = _
          have xb : x ≠ b := fun z => by rw [z, Hb] at e; cases e
          have xa : x ≠ a := fun z => by rw [z, Ha] at e; cases e
          rw [upd_ne xb]
          show upd H5 a _ x = _
          rw [upd_ne xa]
          exact G5.h x o e np
        have sZ : Sep p F0 H0 O F H9 σ3 ΓW n5 := base (G' := F9) (fun x o e np => g8.h x o (keep x o e np) np) (((xa.trans xb).trans smt).trans g8.f) fun a i e => (s8.pen a i e).2.2.1
        exact hn F _ σ3 ΓW n5 sZ (.refl F) q6
end
section
variable {X : Cx} {p : Pm} {O O' O1 Ob : List Nat} {sts rest : List Stmt} {c3 c5 : Expr} {args : List Expr} {iD iR j : Nat} {c : D} {cV : V} {mf : MP} {ta : TA} {ma : MA} {tT tT5 : TT} {mT mT5 : MT} {u : TS} {mu : MS}
theorem ssKillGr (ha : RA X p O' args ta ma) (hO : O' = O.filter (· ≠ j)) (hT : RT X p O c3 tT mT) (h5 : RT X p O c5 tT5 mT5) (hc : ∀ F, Rp p.K F c cV)
    (hr : RSs X p Ob O O1 rest u mu)
    (hps : PA X args ta → PT X c3 tT → PT X c5 tT5 → PSs X rest u → PSs X sts (tSeq (tAsg (tCall (spFd p.K mf) [] E0 ta) (gName iD)) (tSeq (tIfS tT (tRet (tC (.bl false))) tNext)
    (tSeq (tFor (iSeq p.K (tVar iD)) (gName iR) (tDrop (tBM p.K "list" rAppend (tVar iR) (tCons (tC cV) tNil)))) (tSeq (tIfS tT5 (tRet (tC (.bl false))) tNext) u)))))
    (nD : iD ∉ O) (nR : iR ∉ O) (oD : p.off iD) (oR : p.off iR) (dDR : iD ≠ iR) (htb : p.dr.tb = [] := by rfl) :
    RSs X p Ob O O1 sts (tSeq (tAsg (tCall (spFd p.K mf) [] E0 ta) (gName iD)) (tSeq (tIfS tT (tRet (tC (.bl false))) tNext)
    (tSeq (tFor (iSeq p.K (tVar iD)) (gName iR) (tDrop (tBM p.K "list" rAppend (tVar iR) (tCons (tC cV) tNil)))) (tSeq (tIfS tT5 (tRet (tC (.bl false))) tNext) u)))) (mSeq (mKillG iD iR j c mf ma mT mT5) mu) := ⟨hps ha.pa hT.pt h5.pt hr.ps, by
      have := ls_seq (ls_killG (mf := mf) (iD := iD) (iR := iR) (c := c) (cV := cV) (hO ▸ ha.le) hT.le h5.le hc nD nR oD oR dDR htb) hr.le
      exact this⟩
end
end RR
end
section
namespace RC
open PySem PySem.Spec L2 RR
open PyProof.Rows hiding St
def c_MOST_EDITS : D := (.int 6)
def b__law_w_size : MS := (mSeq (mAsg (mVar 1) (mgTup 8 (mgCons (mgName 4) (mgCons (mgName 5) (mgCons (mgName 6) (mgCons (mgName 7) (mgCons (mgName 8) (mgCons (mgName 9) (mgCons (mgName 10) (mgCons (mgName 11) mgNil)))))))))) (mSeq (mIfS (mTest (mOp dIn (mOp dIx (mVar 0) (mC (.int 0))) (mTup (mCons (mC (.str "jump")) (mCons (mC (.str "branch")) mNil))))) (mRet (mIf (mTest (mVar 2)) (mVar 4) (mVar 6))) mNext) (mSeq (mIfS (mTest (mOp dEq (mOp dIx (mVar 0) (mC (.int 0))) (mC (.str "align")))) (mRet (mOp dMod (mCl cInt (mCons (mOp dSub (mOp dIx (mVar 0) (mC (.int 1))) (mOp dMod (mCl cInt (mCons (mVar 3) mNil)) (mOp dIx (mVar 0) (mC (.int 1))))) mNil)) (mOp dIx (mVar 0) (mC (.int 1))))) mNext) (mSeq (mSet 12 (mDisp (mpCons (mC (.str "plain")) (mOp dIx (mVar 0) (mC (.int 1))) (mpCons (mC (.str "stop")) (mOp dIx (mVar 0) (mC (.int 1))) (mpCons (mC (.str "far")) (mVar 7) (mpCons (mC (.str "load")) (mVar 9) (mpCons (mC (.str "word")) (mVar 11) mpNil))))))) (mRet (mOp dIx (mVar 12) (mOp dIx (mVar 0) (mC (.int 0)))))))))
def m__law_w_size : MP := mFun ["row", "machine", "is_short", "at", "short", "reach", "far", "leaping", "leap", "load", "span", "word", "sizes"] 4 b__law_w_size
def vb__law_w_size : VS := (vSeqS (vAsg (vVar 1) (vgTup 8 (vgCons (vgName 4) (vgCons (vgName 5) (vgCons (vgName 6) (vgCons (vgName 7) (vgCons (vgName 8) (vgCons (vgName 9) (vgCons (vgName 10) (vgCons (vgName 11) vgNil)))))))))) (vSeqS (vIfS (vTest (vOp dIn (vOp dIx (vVar 0) (vC (.int 0))) (vTup (vCons (vC (.str "jump")) (vCons (vC (.str "branch")) vNil))))) (vRet (vIf (vTest (vVar 2)) (vVar 4) (vVar 6))) vNext) (vSeqS (vIfS (vTest (vOp dEq (vOp dIx (vVar 0) (vC (.int 0))) (vC (.str "align")))) (vRet (vOp dMod (vCl cInt (vCons (vOp dSub (vOp dIx (vVar 0) (vC (.int 1))) (vOp dMod (vCl cInt (vCons (vVar 3) vNil)) (vOp dIx (vVar 0) (vC (.int 1))))) vNil)) (vOp dIx (vVar 0) (vC (.int 1))))) vNext) (vSeqS (vSet 12 (vDisp (vpCons (vC (.str "plain")) (vOp dIx (vVar 0) (vC (.int 1))) (vpCons (vC (.str "stop")) (vOp dIx (vVar 0) (vC (.int 1))) (vpCons (vC (.str "far")) (vVar 7) (vpCons (vC (.str "load")) (vVar 9) (vpCons (vC (.str "word")) (vVar 11) vpNil))))))) (vRet (vOp dIx (vVar 12) (vOp dIx (vVar 0) (vC (.int 0)))))))))
def v__law_w_size : VP := vFun ["row", "machine", "is_short", "at", "short", "reach", "far", "leaping", "leap", "load", "span", "word", "sizes"] 4 vb__law_w_size
theorem fp__law_w_size : FP m__law_w_size v__law_w_size := by
  unfold m__law_w_size v__law_w_size b__law_w_size vb__law_w_size
  exact f_Fun (f_Seq (f_Asg f_Var (f_gTup (f_gCons f_gName (f_gCons f_gName (f_gCons f_gName (f_gCons f_gName (f_gCons f_gName (f_gCons f_gName (f_gCons f_gName (f_gCons f_gName f_gNil)))))))))) (f_Seq (f_IfS (f_Test (f_Op (f_Op f_Var f_C) (f_Tup (f_Cons f_C (f_Cons f_C f_Nil))))) (f_Ret (f_If (f_Test f_Var) f_Var f_Var)) f_Next) (f_Seq (f_IfS (f_Test (f_Op (f_Op f_Var f_C) f_C)) (f_Ret (f_Op (f_Cl (f_Cons (f_Op (f_Op f_Var f_C) (f_Op (f_Cl (f_Cons f_Var f_Nil)) (f_Op f_Var f_C))) f_Nil)) (f_Op f_Var f_C))) f_Next) (f_Seq (f_Set (f_Disp (f_pCons f_C (f_Op f_Var f_C) (f_pCons f_C (f_Op f_Var f_C) (f_pCons f_C f_Var (f_pCons f_C f_Var (f_pCons f_C f_Var f_pNil))))))) (f_Ret (f_Op f_Var (f_Op f_Var f_C)))))))
def b__law_w_places : MS := (mSeq (mSet 3 (mLst (mCons (mC (.int 0)) mNil))) (mSeq (mFor (mIEn (mCons (mVar 0) mNil)) (mgTup 2 (mgCons (mgName 4) (mgCons (mgName 5) mgNil))) (mAppend 3 (mLook (mOp dAdd (mOp dIx (mVar 3) (mUn dNeg (mC (.int 1)))) (mCall m__law_w_size (mCons (mVar 5) (mCons (mVar 1) (mCons (mOp dIn (mVar 4) (mVar 2)) (mCons (mOp dIx (mVar 3) (mUn dNeg (mC (.int 1)))) mNil))))))))) (mRet (mVar 3))))
def m__law_w_places : MP := mFun ["part", "machine", "forms", "found", "number", "row"] 3 b__law_w_places
def vb__law_w_places : VS := (vSeqS (vSet 3 (vLst (vCons (vC (.int 0)) vNil))) (vSeqS (vFor (vIEn (vCons (vVar 0) vNil)) (vgTup 2 (vgCons (vgName 4) (vgCons (vgName 5) vgNil))) (vAppend 3 (vLook (vOp dAdd (vOp dIx (vVar 3) (vUn dNeg (vC (.int 1)))) (vCall v__law_w_size (vCons (vVar 5) (vCons (vVar 1) (vCons (vOp dIn (vVar 4) (vVar 2)) (vCons (vOp dIx (vVar 3) (vUn dNeg (vC (.int 1)))) vNil))))))))) (vRet (vVar 3))))
def v__law_w_places : VP := vFun ["part", "machine", "forms", "found", "number", "row"] 3 vb__law_w_places
theorem fp__law_w_places : FP m__law_w_places v__law_w_places := by
  unfold m__law_w_places v__law_w_places b__law_w_places vb__law_w_places
  exact f_Fun (f_Seq (f_Set (f_Lst (f_Cons f_C f_Nil))) (f_Seq (f_For (f_IEn (f_Cons f_Var f_Nil)) (f_gTup (f_gCons f_gName (f_gCons f_gName f_gNil))) (f_Append (f_Look (f_Op (f_Op f_Var (f_Un f_C)) (f_Call fp__law_w_size (f_Cons f_Var (f_Cons f_Var (f_Cons (f_Op f_Var f_Var) (f_Cons (f_Op f_Var (f_Un f_C)) f_Nil))))))))) (f_Ret f_Var)))
def b__law_w_all_fit : MS := (mSeq (mSet 3 (mCall m__law_w_places (mCons (mVar 0) (mCons (mVar 1) (mCons (mVar 2) mNil))))) (mRet (mOp dEq (mLc (mISeq (mVar 2)) (mgName 4) (mTest (mOp dGt (mCl cAbs (mCons (mOp dSub (mOp dIx (mVar 3) (mOp dIx (mOp dIx (mVar 0) (mVar 4)) (mC (.int 1)))) (mOp dIx (mVar 3) (mVar 4))) mNil)) (mOp dIx (mVar 1) (mC (.int 1))))) (mVar 4) [4]) (mLst mNil))))
def m__law_w_all_fit : MP := mFun ["part", "machine", "forms", "found", "row"] 3 b__law_w_all_fit
def vb__law_w_all_fit : VS := (vSeqS (vSet 3 (vCall v__law_w_places (vCons (vVar 0) (vCons (vVar 1) (vCons (vVar 2) vNil))))) (vRet (vOp dEq (vLc (vISeq (vVar 2)) (vgName 4) (vTest (vOp dGt (vCl cAbs (vCons (vOp dSub (vOp dIx (vVar 3) (vOp dIx (vOp dIx (vVar 0) (vVar 4)) (vC (.int 1)))) (vOp dIx (vVar 3) (vVar 4))) vNil)) (vOp dIx (vVar 1) (vC (.int 1))))) (vVar 4) [4]) (vLst vNil))))
def v__law_w_all_fit : VP := vFun ["part", "machine", "forms", "found", "row"] 3 vb__law_w_all_fit
theorem fp__law_w_all_fit : FP m__law_w_all_fit v__law_w_all_fit := by
  unfold m__law_w_all_fit v__law_w_all_fit b__law_w_all_fit vb__law_w_all_fit
  exact f_Fun (f_Seq (f_Set (f_Call fp__law_w_places (f_Cons f_Var (f_Cons f_Var (f_Cons f_Var f_Nil))))) (f_Ret (f_Op (f_Lc (f_ISeq f_Var) f_gName (f_Test (f_Op (f_Cl (f_Cons (f_Op (f_Op f_Var (f_Op (f_Op f_Var f_Var) f_C)) (f_Op f_Var f_Var)) f_Nil)) (f_Op f_Var f_C))) f_Var) (f_Lst f_Nil))))
def b__law_w_laid : MS := (mSeq (mPar [2, 3] (mCons (mLc (mIEn (mCons (mVar 0) mNil)) (mgTup 2 (mgCons (mgName 4) (mgCons (mgName 5) mgNil))) (mTest (mOp dIn (mOp dIx (mVar 5) (mC (.int 0))) (mTup (mCons (mC (.str "jump")) (mCons (mC (.str "branch")) mNil))))) (mVar 4) [4, 5]) (mCons (mLst (mCons (mLst mNil) mNil)) mNil))) (mSeq (mIfS (mTest (mOp dNotIn (mC (.str "align")) (mLc (mISeq (mVar 0)) (mgName 5) mYes (mOp dIx (mVar 5) (mC (.int 0))) [5]))) (mSeq (mWhile (mNot (mTest (mCall m__law_w_all_fit (mCons (mVar 0) (mCons (mVar 1) (mCons (mVar 2) mNil)))))) (mSeq (mSet 6 (mCall m__law_w_places (mCons (mVar 0) (mCons (mVar 1) (mCons (mVar 2) mNil))))) (mSet 2 (mLc (mISeq (mVar 2)) (mgName 5) (mTest (mOp dLe (mCl cAbs (mCons (mOp dSub (mOp dIx (mVar 6) (mOp dIx (mOp dIx (mVar 0) (mVar 5)) (mC (.int 1)))) (mOp dIx (mVar 6) (mVar 5))) mNil)) (mOp dIx (mVar 1) (mC (.int 1))))) (mVar 5) [5])))) (mRet (mOp dIx (mCall m__law_w_places (mCons (mVar 0) (mCons (mVar 1) (mCons (mVar 2) mNil)))) (mUn dNeg (mC (.int 1)))))) mNext) (mSeq (mFor (mISeq (mVar 2)) (mgName 5) (mSet 3 (mOp dAdd (mVar 3) (mLc (mISeq (mVar 3)) (mgName 7) mYes (mOp dAdd (mVar 7) (mLst (mCons (mVar 5) mNil))) [7])))) (mRet (mCl cMinD (mCons (mLc (mISeq (mVar 3)) (mgName 7) (mTest (mCall m__law_w_all_fit (mCons (mVar 0) (mCons (mVar 1) (mCons (mVar 7) mNil))))) (mOp dIx (mCall m__law_w_places (mCons (mVar 0) (mCons (mVar 1) (mCons (mVar 7) mNil)))) (mUn dNeg (mC (.int 1)))) [7]) mNil))))))
def m__law_w_laid : MP := mFun ["part", "machine", "rows", "lists", "number", "row", "found", "forms"] 2 b__law_w_laid
def vb__law_w_laid : VS := (vSeqS (vPar [2, 3] (vCons (vLc (vIEn (vCons (vVar 0) vNil)) (vgTup 2 (vgCons (vgName 4) (vgCons (vgName 5) vgNil))) (vTest (vOp dIn (vOp dIx (vVar 5) (vC (.int 0))) (vTup (vCons (vC (.str "jump")) (vCons (vC (.str "branch")) vNil))))) (vVar 4) [4, 5]) (vCons (vLst (vCons (vLst vNil) vNil)) vNil))) (vSeqS (vIfS (vTest (vOp dNotIn (vC (.str "align")) (vLc (vISeq (vVar 0)) (vgName 5) vYes (vOp dIx (vVar 5) (vC (.int 0))) [5]))) (vSeqS (vWhile (vNot (vTest (vCall v__law_w_all_fit (vCons (vVar 0) (vCons (vVar 1) (vCons (vVar 2) vNil)))))) (vSeqS (vSet 6 (vCall v__law_w_places (vCons (vVar 0) (vCons (vVar 1) (vCons (vVar 2) vNil))))) (vSet 2 (vLc (vISeq (vVar 2)) (vgName 5) (vTest (vOp dLe (vCl cAbs (vCons (vOp dSub (vOp dIx (vVar 6) (vOp dIx (vOp dIx (vVar 0) (vVar 5)) (vC (.int 1)))) (vOp dIx (vVar 6) (vVar 5))) vNil)) (vOp dIx (vVar 1) (vC (.int 1))))) (vVar 5) [5])))) (vRet (vOp dIx (vCall v__law_w_places (vCons (vVar 0) (vCons (vVar 1) (vCons (vVar 2) vNil)))) (vUn dNeg (vC (.int 1)))))) vNext) (vSeqS (vFor (vISeq (vVar 2)) (vgName 5) (vSet 3 (vOp dAdd (vVar 3) (vLc (vISeq (vVar 3)) (vgName 7) vYes (vOp dAdd (vVar 7) (vLst (vCons (vVar 5) vNil))) [7])))) (vRet (vCl cMinD (vCons (vLc (vISeq (vVar 3)) (vgName 7) (vTest (vCall v__law_w_all_fit (vCons (vVar 0) (vCons (vVar 1) (vCons (vVar 7) vNil))))) (vOp dIx (vCall v__law_w_places (vCons (vVar 0) (vCons (vVar 1) (vCons (vVar 7) vNil)))) (vUn dNeg (vC (.int 1)))) [7]) vNil))))))
def v__law_w_laid : VP := vFun ["part", "machine", "rows", "lists", "number", "row", "found", "forms"] 2 vb__law_w_laid
theorem fp__law_w_laid : FP m__law_w_laid v__law_w_laid := by
  unfold m__law_w_laid v__law_w_laid b__law_w_laid vb__law_w_laid
  exact f_Fun (f_Seq (f_Par (f_Cons (f_Lc (f_IEn (f_Cons f_Var f_Nil)) (f_gTup (f_gCons f_gName (f_gCons f_gName f_gNil))) (f_Test (f_Op (f_Op f_Var f_C) (f_Tup (f_Cons f_C (f_Cons f_C f_Nil))))) f_Var) (f_Cons (f_Lst (f_Cons (f_Lst f_Nil) f_Nil)) f_Nil))) (f_Seq (f_IfS (f_Test (f_Op f_C (f_Lc (f_ISeq f_Var) f_gName f_Yes (f_Op f_Var f_C)))) (f_Seq (f_While (f_Not (f_Test (f_Call fp__law_w_all_fit (f_Cons f_Var (f_Cons f_Var (f_Cons f_Var f_Nil)))))) (f_Seq (f_Set (f_Call fp__law_w_places (f_Cons f_Var (f_Cons f_Var (f_Cons f_Var f_Nil))))) (f_Set (f_Lc (f_ISeq f_Var) f_gName (f_Test (f_Op (f_Cl (f_Cons (f_Op (f_Op f_Var (f_Op (f_Op f_Var f_Var) f_C)) (f_Op f_Var f_Var)) f_Nil)) (f_Op f_Var f_C))) f_Var)))) (f_Ret (f_Op (f_Call fp__law_w_places (f_Cons f_Var (f_Cons f_Var (f_Cons f_Var f_Nil)))) (f_Un f_C)))) f_Next) (f_Seq (f_For (f_ISeq f_Var) f_gName (f_Set (f_Op f_Var (f_Lc (f_ISeq f_Var) f_gName f_Yes (f_Op f_Var (f_Lst (f_Cons f_Var f_Nil))))))) (f_Ret (f_Cl (f_Cons (f_Lc (f_ISeq f_Var) f_gName (f_Test (f_Call fp__law_w_all_fit (f_Cons f_Var (f_Cons f_Var (f_Cons f_Var f_Nil))))) (f_Op (f_Call fp__law_w_places (f_Cons f_Var (f_Cons f_Var (f_Cons f_Var f_Nil)))) (f_Un f_C))) f_Nil))))))
def b__law_w_due : MS := (mSeq (mPar [3, 4] (mCons (mOp dMulL (mLst (mCons (mC (.int 0)) mNil)) (mCl cLen (mCons (mVar 0) mNil))) (mCons (mOp dMulL (mLst (mCons (mC .none) mNil)) (mCl cLen (mCons (mVar 0) mNil))) mNil))) (mSeq (mFor (mIEn (mCons (mVar 2) mNil)) (mgTup 2 (mgCons (mgName 5) (mgCons (mgTup 2 (mgCons (mgName 6) (mgCons (mgName 7) mgNil))) mgNil))) (mSeq (mSet 8 (mOp dSub (mCall m__law_w_laid (mCons (mVar 7) (mCons (mVar 1) mNil))) (mCall m__law_w_laid (mCons (mOp dIx (mVar 0) (mVar 6)) (mCons (mVar 1) mNil))))) (mIfS (mTest (mOp dGt (mVar 8) (mOp dIx (mVar 3) (mVar 6)))) (mPut2 3 4 (mVar 8) (mVar 5) (mVar 6) (mVar 6)) mNext))) (mRet (mTup (mCons (mVar 3) (mCons (mVar 4) mNil))))))
def m__law_w_due : MP := mFun ["book", "machine", "edits", "room", "reasons", "number", "p", "part", "more"] 3 b__law_w_due
def b_is_edit : MS := (mSeq (mIfS (mOr (mNot (mTest (mIsi "tuple" (mVar 1)))) (mOr (mTest (mOp dNe (mCl cLen (mCons (mVar 1) mNil)) (mC (.int 2)))) (mNot (mTest (mCall m_is_part_number (mCons (mVar 0) (mCons (mOp dIx (mVar 1) (mC (.int 0))) mNil))))))) (mRet (mC (.bool false))) mNext) (mRet (mCall m_is_book (mCons (mCall m_with_part (mCons (mVar 0) (mCons (mOp dIx (mVar 1) (mC (.int 0))) (mCons (mOp dIx (mVar 1) (mC (.int 1))) mNil)))) mNil))))
def m_is_edit : MP := mFun ["book", "thing"] 2 b_is_edit
def vb_is_edit : VS := (vSeqS (vIfS (vOr (vNot (vTest (vIsi "tuple" (vVar 1)))) (vOr (vTest (vOp dNe (vCl cLen (vCons (vVar 1) vNil)) (vC (.int 2)))) (vNot (vTest (vCall v_is_part_number (vCons (vVar 0) (vCons (vOp dIx (vVar 1) (vC (.int 0))) vNil))))))) (vRet (vC (.bool false))) vNext) (vRet (vCall v_is_book (vCons (vCall v_with_part (vCons (vVar 0) (vCons (vOp dIx (vVar 1) (vC (.int 0))) (vCons (vOp dIx (vVar 1) (vC (.int 1))) vNil)))) vNil))))
def v_is_edit : VP := vFun ["book", "thing"] 2 vb_is_edit
theorem fp_is_edit : FP m_is_edit v_is_edit := by
  unfold m_is_edit v_is_edit b_is_edit vb_is_edit
  exact f_Fun (f_Seq (f_IfS (f_Or (f_Not (f_Test (f_Isi f_Var))) (f_Or (f_Test (f_Op (f_Cl (f_Cons f_Var f_Nil)) f_C)) (f_Not (f_Test (f_Call fp_is_part_number (f_Cons f_Var (f_Cons (f_Op f_Var f_C) f_Nil))))))) (f_Ret f_C) f_Next) (f_Ret (f_Call fp_is_book (f_Cons (f_Call fp_with_part (f_Cons f_Var (f_Cons (f_Op f_Var f_C) (f_Cons (f_Op f_Var f_C) f_Nil)))) f_Nil))))
def b_check_edits : MS := (mSeq (mIfS (mOr (mNot (mTest (mIsi "list" (mVar 1)))) (mTest (mOp dGt (mCl cLen (mCons (mVar 1) mNil)) (mC c_MOST_EDITS)))) mNever mNext) (mIfS (mNot (mTest (mCl cAll (mCons (mLc (mISeq (mVar 1)) (mgName 2) mYes (mCall m_is_edit (mCons (mVar 0) (mCons (mVar 2) mNil))) [2]) mNil)))) mNever mNext))
def m_check_edits : MP := mFun ["book", "edits", "edit"] 2 b_check_edits
def vb_check_edits : VS := (vSeqS (vIfS (vOr (vNot (vTest (vIsi "list" (vVar 1)))) (vTest (vOp dGt (vCl cLen (vCons (vVar 1) vNil)) (vC c_MOST_EDITS)))) vNever vNext) (vIfS (vNot (vTest (vCl cAll (vCons (vLc (vISeq (vVar 1)) (vgName 2) vYes (vCall v_is_edit (vCons (vVar 0) (vCons (vVar 2) vNil))) [2]) vNil)))) vNever vNext))
def v_check_edits : VP := vFun ["book", "edits", "edit"] 2 vb_check_edits
theorem fp_check_edits : FP m_check_edits v_check_edits := by
  unfold m_check_edits v_check_edits b_check_edits vb_check_edits
  exact f_Fun (f_Seq (f_IfS (f_Or (f_Not (f_Test (f_Isi f_Var))) (f_Test (f_Op (f_Cl (f_Cons f_Var f_Nil)) f_C))) f_Never f_Next) (f_IfS (f_Not (f_Test (f_Cl (f_Cons (f_Lc (f_ISeq f_Var) f_gName f_Yes (f_Call fp_is_edit (f_Cons f_Var (f_Cons f_Var f_Nil)))) f_Nil)))) f_Never f_Next))
def b_kept_room : MS := (mSeq (mSet 3 (mCall m_sizes_of (mCons (mVar 0) (mCons (mVar 1) mNil)))) (mSeq (mSet 4 (mOp dMulL (mLst (mCons (mC (.int 0)) mNil)) (mCl cLen (mCons (mVar 0) mNil)))) (mSeq (mSet 5 (mOp dMulL (mLst (mCons (mC .none) mNil)) (mCl cLen (mCons (mVar 0) mNil)))) (mSeq (mFor (mIEn (mCons (mVar 2) mNil)) (mgTup 2 (mgCons (mgName 6) (mgCons (mgTup 2 (mgCons (mgName 7) (mgCons (mgName 8) mgNil))) mgNil))) (mSeq (mSet 9 (mOp dSub (mCall m_laid_size (mCons (mVar 8) (mCons (mVar 1) mNil))) (mOp dIx (mVar 3) (mVar 7)))) (mIfS (mTest (mOp dGt (mVar 9) (mOp dIx (mVar 4) (mVar 7)))) (mSeq (mPutI 4 (mVar 7) (mVar 9)) (mPutI 5 (mVar 7) (mVar 6))) mNext))) (mRet (mTup (mCons (mVar 4) (mCons (mVar 5) mNil))))))))
def m_kept_room : MP := mFun ["book", "machine", "edits", "sizes", "room", "reasons", "number", "p", "part", "more"] 3 b_kept_room
def vb_kept_room : VS := (vSeqS (vSet 3 (vCall v_sizes_of (vCons (vVar 0) (vCons (vVar 1) vNil)))) (vSeqS (vSet 4 (vOp dMulL (vLst (vCons (vC (.int 0)) vNil)) (vCl cLen (vCons (vVar 0) vNil)))) (vSeqS (vSet 5 (vOp dMulL (vLst (vCons (vC .none) vNil)) (vCl cLen (vCons (vVar 0) vNil)))) (vSeqS (vFor (vIEn (vCons (vVar 2) vNil)) (vgTup 2 (vgCons (vgName 6) (vgCons (vgTup 2 (vgCons (vgName 7) (vgCons (vgName 8) vgNil))) vgNil))) (vSeqS (vSet 9 (vOp dSub (vCall v_laid_size (vCons (vVar 8) (vCons (vVar 1) vNil))) (vOp dIx (vVar 3) (vVar 7)))) (vIfS (vTest (vOp dGt (vVar 9) (vOp dIx (vVar 4) (vVar 7)))) (vSeqS (vPutI 4 (vVar 7) (vVar 9)) (vPutI 5 (vVar 7) (vVar 6))) vNext))) (vRet (vTup (vCons (vVar 4) (vCons (vVar 5) vNil))))))))
def v_kept_room : VP := vFun ["book", "machine", "edits", "sizes", "room", "reasons", "number", "p", "part", "more"] 3 vb_kept_room
theorem fp_kept_room : FP m_kept_room v_kept_room := by
  unfold m_kept_room v_kept_room b_kept_room vb_kept_room
  exact f_Fun (f_Seq (f_Set (f_Call fp_sizes_of (f_Cons f_Var (f_Cons f_Var f_Nil)))) (f_Seq (f_Set (f_Op (f_Lst (f_Cons f_C f_Nil)) (f_Cl (f_Cons f_Var f_Nil)))) (f_Seq (f_Set (f_Op (f_Lst (f_Cons f_C f_Nil)) (f_Cl (f_Cons f_Var f_Nil)))) (f_Seq (f_For (f_IEn (f_Cons f_Var f_Nil)) (f_gTup (f_gCons f_gName (f_gCons (f_gTup (f_gCons f_gName (f_gCons f_gName f_gNil))) f_gNil))) (f_Seq (f_Set (f_Op (f_Call fp_laid_size (f_Cons f_Var (f_Cons f_Var f_Nil))) (f_Op f_Var f_Var))) (f_IfS (f_Test (f_Op f_Var (f_Op f_Var f_Var))) (f_Seq (f_PutI f_Var f_Var) (f_PutI f_Var f_Var)) f_Next))) (f_Ret (f_Tup (f_Cons f_Var (f_Cons f_Var f_Nil))))))))
def b_reserve : MS := (mSeq (mDrop (mCall m_check_book (mCons (mVar 0) mNil))) (mSeq (mDrop (mCall m_check_machine (mCons (mVar 1) mNil))) (mSeq (mDrop (mCall m_check_edits (mCons (mVar 0) (mCons (mVar 2) mNil)))) (mRet (mCall m_kept_room (mCons (mVar 0) (mCons (mVar 1) (mCons (mVar 2) mNil))))))))
def m_reserve : MP := mFun ["book", "machine", "edits"] 3 b_reserve
def vb_reserve : VS := (vSeqS (vDrop (vCall v_check_book (vCons (vVar 0) vNil))) (vSeqS (vDrop (vCall v_check_machine (vCons (vVar 1) vNil))) (vSeqS (vDrop (vCall v_check_edits (vCons (vVar 0) (vCons (vVar 2) vNil)))) (vRet (vCall v_kept_room (vCons (vVar 0) (vCons (vVar 1) (vCons (vVar 2) vNil))))))))
def v_reserve : VP := vFun ["book", "machine", "edits"] 3 vb_reserve
theorem fp_reserve : FP m_reserve v_reserve := by
  unfold m_reserve v_reserve b_reserve vb_reserve
  exact f_Fun (f_Seq (f_Drop (f_Call fp_check_book (f_Cons f_Var f_Nil))) (f_Seq (f_Drop (f_Call fp_check_machine (f_Cons f_Var f_Nil))) (f_Seq (f_Drop (f_Call fp_check_edits (f_Cons f_Var (f_Cons f_Var f_Nil)))) (f_Ret (f_Call fp_kept_room (f_Cons f_Var (f_Cons f_Var (f_Cons f_Var f_Nil))))))))
def b_c66_law : MS := (mSeq (mFor (mIR1 (mCons (mC (.int 2)) mNil)) (mgName 2) (mSeq (mPar [3, 4, 5] (mCons (mCallP m__law_w_book (mCons (mC (.int 4)) (mCons (mC (.int 3)) mNil))) (mCons (mLst (mCons (mCallP m__law_w_machine mNil) (mCons (mCallP m__law_w_machine mNil) mNil))) (mCons (mLst mNil) mNil)))) (mSeq (mFor (mIR1 (mCons (mCallP m__law_take_v2 (mCons (mC (.int 7)) mNil)) mNil)) (mgName 6) (mSeq (mSet 7 (mCallP m__law_take_v2 (mCons (mCl cLen (mCons (mVar 3) mNil)) mNil))) (mSeq (mSet 8 (mCallP m__law_w_part (mCons (mOp dAdd (mC (.int 3)) (mCallP m__law_take_v2 (mCons (mC (.int 2)) mNil))) (mCons (mCl cLen (mCons (mVar 3) mNil)) mNil)))) (mAppend 5 (mTup (mCons (mVar 7) (mCons (mCallP m__law_w_pick (mCons (mLst (mCons (mVar 8) (mCons (mVar 8) (mCons (mOp dIx (mVar 3) (mVar 7)) mNil)))) mNil)) mNil))))))) (mSeq (mSet 9 (mLook (mCl cReprX (mCons (mTup (mCons (mVar 3) (mCons (mVar 4) (mCons (mVar 5) mNil)))) mNil)))) (mFor (mISeq (mLst (mCons (mC (.int 0)) (mCons (mC (.int 1)) (mCons (mC (.int 0)) mNil))))) (mgName 10) (mSeq (mKillG 11 12 5 (.str "changed") m_reserve (mCons (mVar 3) (mCons (mOp dIx (mVar 4) (mVar 10)) (mCons (mVar 5) mNil))) (mOr (mTest (mOp dNe (mCl cReprX (mCons (mVar 11) mNil)) (mCl cReprX (mCons (mCall m__law_w_due (mCons (mVar 3) (mCons (mOp dIx (mVar 4) (mVar 10)) (mCons (mVar 5) mNil)))) mNil)))) (mTest (mOp dNe (mCl cReprX (mCons (mTup (mCons (mVar 3) (mCons (mVar 4) (mCons (mVar 5) mNil)))) mNil)) (mVar 9)))) (mTest (mOp dNe (mLc (mISeq (mVar 11)) (mgName 12) (mTest (mOp dNe (mCnt (mVar 12) (mC (.str "changed"))) (mC (.int 1)))) (mVar 12) [12]) (mLst mNil)))) (mIfS (mAnd (mTest (mOp dNe (mVar 5) (mLst mNil))) (mTest (mOp dEq (mVar 10) (mC (.int 1))))) (mSeq (mPopI 5 (mLook (mCallP m__law_take_v2 (mCons (mCl cLen (mCons (mVar 5) mNil)) mNil)))) (mSet 9 (mLook (mCl cReprX (mCons (mTup (mCons (mVar 3) (mCons (mVar 4) (mCons (mVar 5) mNil)))) mNil))))) mNext))))))) (mRet (mC (.bool true))))
end RC
end
section
namespace K66
open PySem PySem.Spec L2 RR RC
open PyProof.Rows hiding St
def topS (i : Nat) : Stmt := PySem.Challenge.pw_reachrows_k66_reserved_room.main.body.getD i (.Pass ⟨0, 0, 0, 0⟩)
structure Txt (P : Program) (w : World) (K : PySem.W.Frag) (mg : Str → Option Value) (base : Heap) : Prop where
  sys : ∃ mm, base.Ns sysModules mm
  n_abs : mg "abs" = none
  n_all : mg "all" = none
  n_bool : mg "bool" = none
  n_enumerate : mg "enumerate" = none
  n_int : mg "int" = none
  n_isinstance : mg "isinstance" = none
  n_len : mg "len" = none
  n_list : mg "list" = none
  n_min : mg "min" = none
  n_range : mg "range" = none
  n_repr : mg "repr" = none
  n_str : mg "str" = none
  n_tuple : mg "tuple" = none
  n_zip : mg "zip" = none
  i_combinations : mg "combinations" = some (.type "itertools.combinations")
  c_SHORT : CI K mg "SHORT" c_SHORT (.int 0)
  c_REACH : CI K mg "REACH" c_REACH (.int 1)
  c_LONG : CI K mg "LONG" c_LONG (.int 2)
  c_FAR : CI K mg "FAR" c_FAR (.int 3)
  c_LOAD : CI K mg "LOAD" c_LOAD (.int 5)
  c_WORD : CI K mg "WORD" c_WORD (.int 7)
  c_MACHINE_BOUNDS : ∃ a : Addr, CI K mg "MACHINE_BOUNDS" c_MACHINE_BOUNDS (.ref a)
  k_ROW_BOUNDS : ∃ a, DK K w mg "ROW_BOUNDS" c_ROW_BOUNDS a
  c_MOST_ROWS : CI K mg "MOST_ROWS" c_MOST_ROWS (.int 20)
  c_MOST_PARTS : CI K mg "MOST_PARTS" c_MOST_PARTS (.int 5)
  c_MOST_JUMPS_BESIDE_ALIGN : CI K mg "MOST_JUMPS_BESIDE_ALIGN" c_MOST_JUMPS_BESIDE_ALIGN (.int 6)
  c_MULTIPLES : ∃ a : Addr, CI K mg "MULTIPLES" c_MULTIPLES (.ref a)
  c_JUMPS : ∃ a : Addr, CI K mg "JUMPS" c_JUMPS (.ref a)
  c_GOING_ON : ∃ a : Addr, CI K mg "GOING_ON" c_GOING_ON (.ref a)
  c_MOST_EDITS : CI K mg "MOST_EDITS" c_MOST_EDITS (.int 6)
  d__law_open : FD K mg "_law_open" (topS 60) ["script"]
  d__law_spread : FD K mg "_law_spread" (topS 59) ["cell", "at"]
  d__law_take : FD K mg "_law_take" (topS 61) ["pen", "many"]
  d__law_w_pick : FD K mg "_law_w_pick" (topS 62) ["pen", "some"]
  d__law_w_words : FD K mg "_law_w_words" (topS 63) ["pen", "longest", "evenly"]
  d__law_w_part : FD K mg "_law_w_part" (topS 64) ["pen", "longest", "parts"]
  d__law_w_book : FD K mg "_law_w_book" (topS 65) ["pen", "most", "longest"]
  d__law_w_size : FD K mg "_law_w_size" (topS 68) ["row", "machine", "is_short", "at"]
  d__law_w_places : FD K mg "_law_w_places" (topS 69) ["part", "machine", "forms"]
  d__law_w_all_fit : FD K mg "_law_w_all_fit" (topS 70) ["part", "machine", "forms"]
  d__law_w_laid : FD K mg "_law_w_laid" (topS 71) ["part", "machine"]
  d__law_w_due : FD K mg "_law_w_due" (topS 72) ["book", "machine", "edits"]
  d__law_w_machine : FD K mg "_law_w_machine" (topS 66) ["pen"]
  d_far_goals : FD K mg "far_goals" (topS 30) ["part"]
  d_jump_rows : FD K mg "jump_rows" (topS 25) ["part"]
  d_goals_stand : FD K mg "goals_stand" (topS 27) ["rows"]
  d_is_even : FD K mg "is_even" (topS 26) ["part"]
  d_is_within : FD K mg "is_within" (topS 21) ["thing", "low", "high"]
  d_are_within : FD K mg "are_within" (topS 22) ["things", "bounds"]
  d_is_row : FD K mg "is_row" (topS 24) ["thing"]
  d_words_are_shunned : FD K mg "words_are_shunned" (topS 28) ["rows"]
  d_is_part : FD K mg "is_part" (topS 29) ["thing"]
  d_is_book : FD K mg "is_book" (topS 31) ["thing"]
  d_check_book : FD K mg "check_book" (topS 33) ["book"]
  d_is_part_number : FD K mg "is_part_number" (topS 50) ["book", "thing"]
  d_with_part : FD K mg "with_part" (topS 32) ["book", "p", "part"]
  d_is_edit : FD K mg "is_edit" (topS 54) ["book", "thing"]
  d_check_edits : FD K mg "check_edits" (topS 55) ["book", "edits"]
  d_is_machine : FD K mg "is_machine" (topS 23) ["thing"]
  d_check_machine : FD K mg "check_machine" (topS 34) ["machine"]
  d_row_size : FD K mg "row_size" (topS 36) ["row", "machine", "address", "is_short"]
  d_addresses_of : FD K mg "addresses_of" (topS 37) ["part", "machine", "forms"]
  d_distance : FD K mg "distance" (topS 38) ["addresses", "row", "other"]
  d_unfit_rows : FD K mg "unfit_rows" (topS 39) ["part", "machine", "forms"]
  d_without : FD K mg "without" (topS 41) ["rows", "row"]
  d_growth : FD K mg "growth" (topS 42) ["part", "machine"]
  d_size_of : FD K mg "size_of" (topS 45) ["part", "machine", "forms"]
  d_sublists : FD K mg "sublists" (topS 44) ["members"]
  d_least_forms : FD K mg "least_forms" (topS 46) ["part", "machine"]
  d_laid_forms : FD K mg "laid_forms" (topS 47) ["part", "machine"]
  d_laid_size : FD K mg "laid_size" (topS 48) ["part", "machine"]
  d_sizes_of : FD K mg "sizes_of" (topS 51) ["book", "machine"]
  d_kept_room : FD K mg "kept_room" (topS 56) ["book", "machine", "edits"]
  d_reserve : FD K mg "reserve" (topS 57) ["book", "machine", "edits"]
  d_law : FD K mg "law" (topS 73) ["script"]
variable {P : Program} {w : World} {K : PySem.W.Frag} {mg : Str → Option Value} {base : Heap}
abbrev s__law_open : Stmt := topS 60
theorem sc__law_open : FnScope ["script", "kept", "k", "cell"] ["script"] (defScope s__law_open) := ⟨rfl, rfl, rfl, by decide +kernel, rfl, by decide +kernel, by decide +kernel⟩
theorem ok__law_open (T : Txt P w K mg base) : FI P w K mg base 1 "_law_open" ["script"] (spOpen K) := by
  obtain ⟨f, fd, F, g, b⟩ := T.d__law_open.ex
  refine ⟨f, fd, FnG.mk' F sc__law_open (fun vs H Q E h => ?_) (fun cdv A outer s H vs Q E hr hg h => ?_), g, F.kp, b, Fun.lk F⟩
  · obtain ⟨a, ns, rfl, _⟩ := h; rfl
  · obtain ⟨a, ns, rfl, hs, hl, fin⟩ := h
    refine ⟨_, pss_cons (ps_set (i := 1) sc__law_open.nd rfl (.inl rfl) (pe_callTy (fnList (K := K) rfl) (by rfl) T.n_list (by decide +kernel) (pa_cons (pe_slice sl_list (pv 0) po_none (po_some pe_int)) pa_nil)))
      (pss_cons (ps_for PassesOwn.never rfl (pi_enumA (by rfl) T.n_enumerate (pa_cons (pe_slice sl_list (pv 0) (po_some pe_int) (po_some pe_int)) pa_nil)) (pg_tup rfl (pgs_cons (pg_name (i := 2) sc__law_open.nd rfl (.inl rfl)) (pgs_cons (pg_name (i := 3) sc__law_open.nd rfl (.inl rfl)) pgs_nil)))
        (pss_one (ps_asg (pe_op op_add (pe_ix ix_list (pv 1) (pe_op op_mod (pe_callTy call_int1 (by rfl) T.n_int (by decide +kernel) (pa_cons (pv 2) pa_nil)) pe_int) (fun _ _ => rfl)) (pv 3)) (pg_sub (pv 1) (pe_op op_mod (pe_callTy call_int1 (by rfl) T.n_int (by decide +kernel) (pa_cons (pv 2) pa_nil)) pe_int) set_list))))
      (pss_one (ps_ret (pe_lst (pa_cons (pv 1) (pa_cons pe_int (pa_cons pe_int pa_nil))))))), ?_⟩
    refine ⟨.ref a, rfl, 12, rfl, a, _, rfl, hs, fun q hq => ?_⟩
    refine ⟨q, _, rfl, .inl (.of upd_same), fun l hl1 => ?_⟩
    have s2 : SqL K (upd (upd H q (.lst (cutV (ns.map V.int) none (some 12)))) l (.lst (cutV (ns.map V.int) none (some 12)))) a (ns.map V.int) := sql_new (sql_new hs hq) hl1
    refine ⟨.ref a, rfl, 12, rfl, 63, rfl, a, _, rfl, s2, fun q2 hq2 => ?_⟩
    refine ⟨q2, _, rfl, .inl ⟨.of upd_same, ?_⟩⟩
    obtain ⟨ds, hds⟩ := cut_int ns none (some 12)
    obtain ⟨ms, hms⟩ := cut_int ns (some 12) (some 63)
    have hld : ds.length = min 12 ns.length := by rw [← cut_low ns, hds, List.length_map]
    have hlm : ms.length ≠ 0 → ds.length = 12 := fun h => by
      have := cut_high ns (by rw [hms, List.length_map]; exact h)
      omega
    rw [hds, hms]
    have hne : q2 ≠ l := fun z => by rw [z, upd_same] at hq2; cases hq2
    refine ⟨fun i m σ H => m = ms.length - i ∧ i ≤ ms.length ∧ (∃ y2 y3, σ = [some (.ref a), some (.ref l), y2, y3]) ∧ H q2 = some (.lst (ms.map V.int)) ∧ ∃ zs : List Int, H l = some (.lst (zs.map V.int)) ∧ zs.length = ds.length,
      ⟨ms.length, by simp, Nat.zero_le _, ⟨none, none, rfl⟩, upd_same, ds, by rw [upd_ne (Ne.symm hne), upd_same], rfl⟩, ?_⟩
    rintro i m σ H3 ⟨rfl, hi, ⟨y2, y3, rfl⟩, h2, zs, hz, hzl⟩
    by_cases hlt : i < ms.length
    · refine .inr ⟨⟨_, .int ms[i], .of h2, by simp [hlt]⟩, fun σ H => i < ms.length ∧ (∃ y2 y3, σ = [some (.ref a), some (.ref l), y2, y3]) ∧ H q2 = some (.lst (ms.map V.int)) ∧ ∃ zs : List Int, H l = some (.lst (zs.map V.int)) ∧ zs.length = ds.length,
        fun σ' H' ⟨_, h1, h3, h4⟩ => ⟨ms.length - (i + 1), by omega, rfl, hlt, h1, h3, h4⟩, ?_⟩
      rintro x H4 ⟨t, c, rfl, ht, rfl, hc⟩
      have hc' := hc _ (.of h2)
      have hci : c = .int ms[i] := by simpa [hlt] using hc'.symm
      subst hci
      have tl : t ≠ l := fun z => by rw [z, hz] at ht; cases ht
      have tq : t ≠ q2 := fun z => by rw [z, h2] at ht; cases ht
      refine ⟨t, _, rfl, .of upd_same, rfl, .int i, _, rfl, .int ms[i], _, rfl, rfl, ?_⟩
      have h12 : ds.length = 12 := hlm (by omega)
      have hr12 : (i : Int) % 12 = ((i % 12 : Nat) : Int) := by omega
      have hzm : i % 12 < zs.length := by omega
      have hH4 : (upd H3 t (.tup [.int i, .int ms[i]])) l = some (.lst (zs.map V.int)) := by rw [upd_ne (Ne.symm tl)]; exact hz
      have hat : atI (zs.map V.int) ((i % 12 : Nat) : Int) = some (.int zs[i % 12]) := atI_nat (by rw [List.getElem?_map, List.getElem?_eq_getElem hzm]; rfl)
      refine ⟨.ref l, rfl, .int i, rfl, .inl ⟨i, rfl, i, 12, rfl, rfl, (show (0 : Int) < 12 by decide), l, _, _, _, rfl, congrArg V.int hr12, .of hH4, hat, .int ms[i], rfl, _, _, rfl, rfl, ?_⟩⟩
      refine ⟨.ref l, rfl, .int i, rfl, .inl ⟨i, rfl, i, 12, rfl, rfl, (show (0 : Int) < 12 by decide), l, _, _, i % 12, rfl, congrArg V.int hr12, hH4, ?_, ?_⟩⟩
      · unfold ixN
        rw [if_pos (Int.natCast_nonneg _), if_pos (by rw [List.length_map]; exact_mod_cast hzm), Int.toNat_natCast]
      · refine ⟨hlt, ⟨_, _, rfl⟩, ?_, zs.set (i % 12) (zs[i % 12] + ms[i]), ?_, by simp [hzl]⟩
        · rw [upd_ne hne, upd_ne (Ne.symm tq)]; exact h2
        · rw [upd_same, List.map_set]
    · have e : i = ms.length := by omega
      subst e
      refine .inl ⟨⟨_, .of h2, by simp⟩, ?_⟩
      refine ⟨.ref l, rfl, lim_line (show 3 ≤ lim by decide), fun p hp => ?_⟩
      have hpl : p ≠ l := fun z => by rw [z, hz] at hp; cases hp
      exact fin _ p l zs upd_same (by rw [upd_ne (Ne.symm hpl)]; exact hz) hpl
abbrev s__law_spread : Stmt := topS 59
theorem sc__law_spread : FnScope ["cell", "at", "primes", "one", "two", "three"] ["cell", "at"] (defScope s__law_spread) := ⟨rfl, rfl, rfl, by decide +kernel, rfl, by decide +kernel, by decide +kernel⟩
theorem ok__law_spread (T : Txt P w K mg base) : FI P w K mg base 1 "_law_spread" ["cell", "at"] (spF K m__law_spread_v2) := by
  obtain ⟨f, fd, F, g, b⟩ := T.d__law_spread.ex
  refine ⟨f, fd, FnG.pure F sc__law_spread fun cdv A outer s H E hr hg => ?_, g, F.kp, b, Fun.lk F⟩
  have hu := hr.units
  have hv := hv_of hr
  have hx := hx_of hr
  have hw := hu_of hr
  unfold b__law_spread_v2
  exact ⟨_, [], (ss_cons (sIf (O' := []) (t_cmp op_ge l_cmp (e_var 0 (pv 0) (by decide)) (e_op op_pow l_pow e_int e_int) (nomark _)) (ss_one (s_ret (e_var 0 (pv 0) (by decide)))) ss_nil (fun _ h => h) (by decide)) (ss_cons (sSet 2 sc__law_spread.nd rfl (.inl rfl) (e_lst (a_cons e_int (a_cons e_int (a_cons e_int (a_cons e_int (a_cons e_int (a_cons e_int (a_cons e_int (a_cons e_int a_nil))))))))) (by decide) off0) (ss_cons (sSet 2 sc__law_spread.nd rfl (.inl rfl) (e_op (oAdd rfl) l_add (e_var 2 (pv 2) (by decide)) (e_lst (a_cons e_int (a_cons e_int (a_cons e_int (a_cons e_int (a_cons e_int a_nil))))))) (by decide) off0) (ss_cons (sSet 3 sc__law_spread.nd rfl (.inl rfl) (e_op o_mul l_mul (e_op op_mod l_mod (cT call_int1 l_int (by rfl) T.n_int (by decide +kernel) (a_cons (e_var 0 (pv 0) (by decide)) a_nil)) e_int) (e_op (oAdd rfl) l_add (e_op o_mul l_mul e_int (e_var 1 (pv 1) (by decide))) e_int)) (by decide) off0) (ss_cons (sSet 3 sc__law_spread.nd rfl (.inl rfl) (e_op op_mod l_mod (cT call_int1 l_int (by rfl) T.n_int (by decide +kernel) (a_cons (e_op op_pow l_pow (e_op (oAdd rfl) l_add (e_op (oAdd rfl) l_add (e_var 3 (pv 3) (by decide)) (e_op o_mul l_mul (e_var 1 (pv 1) (by decide)) e_int)) e_int) e_int) a_nil)) (e_ix (oIx rfl hw) l_ix (e_var 2 (pv 2) (by decide)) (e_op op_mod l_mod (cT call_int1 l_int (by rfl) T.n_int (by decide +kernel) (a_cons (e_var 1 (pv 1) (by decide)) a_nil)) e_int) (fun _ _ => rfl))) (by decide) off0) (ss_cons (sSet 4 sc__law_spread.nd rfl (.inl rfl) (e_op op_mod l_mod (cT call_int1 l_int (by rfl) T.n_int (by decide +kernel) (a_cons (e_op op_pow l_pow (e_op (oAdd rfl) l_add (e_op (oAdd rfl) l_add (e_op o_mul l_mul (e_var 3 (pv 3) (by decide)) (e_op (oAdd rfl) l_add (e_var 1 (pv 1) (by decide)) e_int)) (e_op op_mod l_mod (cT call_int1 l_int (by rfl) T.n_int (by decide +kernel) (a_cons (e_var 0 (pv 0) (by decide)) a_nil)) e_int)) e_int) e_int) a_nil)) (e_ix (oIx rfl hw) l_ix (e_var 2 (pv 2) (by decide)) (e_op op_mod l_mod (cT call_int1 l_int (by rfl) T.n_int (by decide +kernel) (a_cons (e_op (oAdd rfl) l_add (e_var 1 (pv 1) (by decide)) e_int) a_nil)) e_int) (fun _ _ => rfl))) (by decide) off0) (ss_cons (sSet 5 sc__law_spread.nd rfl (.inl rfl) (e_op op_mod l_mod (cT call_int1 l_int (by rfl) T.n_int (by decide +kernel) (a_cons (e_op op_pow l_pow (e_op (oAdd rfl) l_add (e_op (oAdd rfl) l_add (e_var 4 (pv 4) (by decide)) (e_op op_mod l_mod (cT call_int1 l_int (by rfl) T.n_int (by decide +kernel) (a_cons (e_var 3 (pv 3) (by decide)) a_nil)) e_int)) (e_var 1 (pv 1) (by decide))) e_int) a_nil)) (e_ix (oIx rfl hw) l_ix (e_var 2 (pv 2) (by decide)) (e_op op_mod l_mod (cT call_int1 l_int (by rfl) T.n_int (by decide +kernel) (a_cons (e_op (oAdd rfl) l_add (e_var 1 (pv 1) (by decide)) e_int) a_nil)) e_int) (fun _ _ => rfl))) (by decide) off0) (ss_one (s_ret (e_op (oAdd rfl) l_add (e_op o_mul l_mul (e_op (oAdd rfl) l_add (e_op o_mul l_mul (e_var 3 (pv 3) (by decide)) e_int) (e_var 4 (pv 4) (by decide))) e_int) (e_var 5 (pv 5) (by decide))))))))))))⟩
abbrev s__law_take : Stmt := topS 61
theorem sc__law_take : FnScope ["pen", "many", "at", "cell", "found"] ["pen", "many"] (defScope s__law_take) := ⟨rfl, rfl, rfl, by decide +kernel, rfl, by decide +kernel, by decide +kernel⟩
theorem ok__law_take (T : Txt P w K mg base) : FI P w K mg base 2 "_law_take" ["pen", "many"] (spP K m__law_take_v2) := by
  obtain ⟨f, fd, F, g, b⟩ := T.d__law_take.ex
  obtain ⟨fS, fdS, GS, gS, kS, bS, _⟩ := (ok__law_spread T).ex
  refine ⟨f, fd, FnG.mk' F sc__law_take (fun vs H Q E h => ?_) (fun cdv A outer s H vs Q E hr hg h => ?_), g, F.kp, b, Fun.lk F⟩
  · obtain ⟨a, dr, ws, Fz, ds, n, R, rfl, sm, fa, pa, r, ⟨m, rfl, _⟩, _⟩ := h
    rw [List.length_cons, r.len]; rfl
  · obtain ⟨a, dr, ws, Fz, ds, n, R, rfl, sm, fa, ⟨w0, l0, xs, ha, hd, hw0, hwn, hl0⟩, r, ⟨m, rfl, hm, hm2, hn, q⟩, fin⟩ := h
    obtain ⟨v, ws', rfl, r1, r2⟩ := r.uncons
    cases r2.unnil
    cases r1.int_inv
    have hdH : H dr = some (.lst (xs.map V.int)) := sm _ _ hd
    have hne : dr ≠ a := fun z => by rw [z, fa] at hd; cases hd
    -- the end: found, what is left
    have last : ∀ (H1 : Hp) (w1 l1 : Int) (y2 y3 : Option V), (∀ b o, H b = some o → b ≠ a → H1 b = some o) → H1 a = some (.lst [.ref dr, .int w1, .int l1]) → 0 ≤ w1 → w1 ≤ (n + 1 : Nat) → 0 ≤ l1 →
        (tSeq (tAsg (tOp (rI (fun _ j => 0 < j) fun i j => .int (i % j)) (tCB (fun xs H Q => (∃ i, xs = [.int i] ∧ Q (.int i) H) ∨ ∃ k, xs = [.bl k] ∧ Q (.int (if k then 1 else 0)) H) (tCons (tOp (rIxL K) (tVar 0) (tC (.int 2))) tNil)) (tVar 1)) (gName 4))
          (tSeq (tAsg (tOp (rI CDiv fun i j => .int (i / j)) (tOp (rIxL K) (tVar 0) (tC (.int 2))) (tVar 1)) (gSub (tVar 0) (tC (.int 2)) rSetL)) (tRet (tVar 4)))) { nx := fun _ H' => Q .non H', rt := Q } [some (.ref a), some (.int m), y2, y3, none] H1 := by
      intro H1 w1 l1 y2 y3 kp h1 hw1 hw1n hl1
      refine ⟨.ref a, rfl, a, _, 2, .int l1, rfl, rfl, .of h1, rfl, .inl ⟨l1, rfl, .int m, rfl, l1, m, rfl, rfl, by omega, ?_⟩⟩
      refine ⟨.ref a, rfl, a, _, 2, .int l1, rfl, rfl, .of h1, rfl, .int m, rfl, l1, m, rfl, rfl, ⟨by omega, hm2⟩, ?_⟩
      refine ⟨.ref a, rfl, a, _, 2, 2, rfl, rfl, h1, rfl, ?_⟩
      refine ⟨_, rfl, ?_⟩
      have hx0 : 0 ≤ l1 % m := Int.emod_nonneg _ (by omega)
      have hx1 : l1 % m < m := Int.emod_lt_of_pos _ (by omega)
      refine fin (.int (l1 % m)) (n + 1) _ Fz _ (.refl _) (fun b o e => ?_) (fun b o e hb => ?_) (fun b o e => .inl e) fa ⟨w1, l1 / m, xs, upd_same, hd, hw1, hw1n, Int.ediv_nonneg hl1 (by omega)⟩ (.int _) (q _ hx0 hx1)
      · have hb : b ≠ a := fun z => by rw [z, fa] at e; cases e
        rw [upd_ne hb]
        exact kp _ _ (sm _ _ e) hb
      · rw [upd_ne hb]
        exact kp _ _ e hb
    refine ⟨_, pss_cons (ps_if (pt_cmpR op_lt (pe_ix ix_list (pv 0) pe_int (fun _ _ => rfl)) (pv 1) (nomark _))
        (pss_cons (ps_set (i := 2) sc__law_take.nd rfl (.inl rfl) (pe_ix ix_list (pv 0) pe_int (fun _ _ => rfl)))
        (pss_cons (ps_set (i := 3) sc__law_take.nd rfl (.inl rfl) pe_int)
        (pss_cons (ps_if (pt_cmpR op_lt (pv 2) (pe_callB call_len_seq (by rfl) T.n_len (by decide +kernel) (pa_cons (pe_ix ix_list (pv 0) pe_int (fun _ _ => rfl)) pa_nil)) (nomark _))
            (pss_one (ps_set (i := 3) sc__law_take.nd rfl (.inl rfl) (pe_ix ix_list (pe_ix ix_list (pv 0) pe_int (fun _ _ => rfl)) (pv 2) (fun _ _ => rfl))))
            (pss_one (ps_if (pt_cmpR op_gt (pe_callB call_len_seq (by rfl) T.n_len (by decide +kernel) (pa_cons (pe_ix ix_list (pv 0) pe_int (fun _ _ => rfl)) pa_nil)) pe_int (nomark _))
              (pss_one (ps_set (i := 3) sc__law_take.nd rfl (.inl rfl) (pe_op op_mod (pe_callTy call_int1 (by rfl) T.n_int (by decide +kernel) (pa_cons (pe_ix ix_list (pe_ix ix_list (pv 0) pe_int (fun _ _ => rfl))
                (pe_op op_mod (pe_callTy call_int1 (by rfl) T.n_int (by decide +kernel) (pa_cons (pe_op op_add (pe_op op_mul (pv 2) pe_int) pe_int) pa_nil)) (pe_callB call_len_seq (by rfl) T.n_len (by decide +kernel) (pa_cons (pe_ix ix_list (pv 0) pe_int (fun _ _ => rfl)) pa_nil))) (fun _ _ => rfl)) pa_nil))
                (pe_op op_add (pe_op op_pow pe_int pe_int) (pv 2))))) pss_nil)))
        (pss_cons (ps_asg (pe_op op_add (pv 2) pe_int) (pg_sub (pv 0) pe_int set_list))
        (pss_one (ps_asg (pe_callG GS (hr.mono (by decide)) (hg.le (by decide)) (by rfl) gS kS bS (pa_cons (pv 3) (pa_cons (pv 2) pa_nil))) (pg_sub (pv 0) pe_int set_list)))))))
        pss_nil)
      (pss_cons (ps_set (i := 4) sc__law_take.nd rfl (.inl rfl) (pe_op op_mod (pe_callTy call_int1 (by rfl) T.n_int (by decide +kernel) (pa_cons (pe_ix ix_list (pv 0) pe_int (fun _ _ => rfl)) pa_nil)) (pv 1)))
      (pss_cons (ps_asg (pe_op op_fdiv (pe_ix ix_list (pv 0) pe_int (fun _ _ => rfl)) (pv 1)) (pg_sub (pv 0) pe_int set_list))
      (pss_one (ps_ret (pv 4))))), ?_⟩
    refine ⟨.ref a, rfl, a, _, 2, .int l0, rfl, rfl, .of ha, rfl, .int m, rfl, l0, m, rfl, rfl, _, rfl, ite2 (fun _ => ?_) (fun _ => ?_)⟩
    · -- where, cell
      refine ⟨.ref a, rfl, a, _, 1, .int w0, rfl, rfl, .of ha, rfl, ?_⟩
      have hlen : ((xs.map V.int).length : Int) = xs.length := by rw [List.length_map]
      have hS : SqL K H dr (xs.map V.int) := .of hdH
      -- behind the cell is found
      have put : ∀ c : Int, (tSeq (tAsg (tOp (rI0 fun i j => .int (i + j)) (tVar 2) (tC (.int 1))) (gSub (tVar 0) (tC (.int 1)) rSetL)) (tAsg (tCall (spF K m__law_spread_v2) [] E0 (tCons (tVar 3) (tCons (tVar 2) tNil))) (gSub (tVar 0) (tC (.int 2)) rSetL)))
          { nx := fun σ H1 => (tSeq (tAsg (tOp (rI (fun _ j => 0 < j) fun i j => .int (i % j)) (tCB (fun xs H Q => (∃ i, xs = [.int i] ∧ Q (.int i) H) ∨ ∃ k, xs = [.bl k] ∧ Q (.int (if k then 1 else 0)) H) (tCons (tOp (rIxL K) (tVar 0) (tC (.int 2))) tNil)) (tVar 1)) (gName 4))
          (tSeq (tAsg (tOp (rI CDiv fun i j => .int (i / j)) (tOp (rIxL K) (tVar 0) (tC (.int 2))) (tVar 1)) (gSub (tVar 0) (tC (.int 2)) rSetL)) (tRet (tVar 4)))) { nx := fun _ H' => Q .non H', rt := Q } σ H1, rt := Q } [some (.ref a), some (.int m), some (.int w0), some (.int c), none] H := by
        intro c
        refine ⟨.int w0, rfl, w0, 1, rfl, rfl, .ref a, rfl, a, _, 1, 1, rfl, rfl, ha, rfl, ?_⟩
        refine ⟨.int c, rfl, .int w0, rfl, fun _ => none, [.int c, .int w0], fun d => ∃ z : Int, d = .int z ∧ 0 ≤ z, (fun _ _ e => nomatch e), .cons (.int _) (.cons (.int _) .nil), spread_ok_law_spread_v2 c w0 _ hw0 (by omega) (fun z hz => ⟨z, rfl, hz⟩), fun d v F' H' gr rr ⟨z, ez, hz⟩ => ?_⟩
        subst ez
        cases rr.int_inv
        have h1 : H' a = some (.lst [.ref dr, .int (w0 + 1), .int l0]) := gr.h _ _ upd_same
        refine ⟨.ref a, rfl, a, _, 2, 2, rfl, rfl, h1, rfl, ?_⟩
        refine last _ (w0 + 1) z _ _ (fun b o e hb => ?_) upd_same (by omega) (by omega) hz
        rw [upd_ne hb]
        exact gr.h _ _ (by rw [upd_ne hb]; exact e)
      refine ⟨.int w0, rfl, .ref a, rfl, a, _, 0, .ref dr, rfl, rfl, .of ha, rfl, dr, _, rfl, .inl hS, w0, _, rfl, rfl, _, rfl, ite2 (fun hlt => ?_) (fun hlt => ?_)⟩
      · have hlt' : w0 < ((xs.map V.int).length : Int) := of_decide_eq_true hlt
        obtain ⟨k, hk⟩ := Int.eq_ofNat_of_zero_le hw0
        subst hk
        have hk2 : k < xs.length := by rw [List.length_map] at hlt'; omega
        refine ⟨.ref a, rfl, a, _, 0, .ref dr, rfl, rfl, .of ha, rfl, .int k, rfl, dr, _, k, .int xs[k], rfl, rfl, hS, atI_nat (by rw [List.getElem?_map, List.getElem?_eq_getElem hk2]; rfl), ?_⟩
        exact put _
      · refine ⟨.ref a, rfl, a, _, 0, .ref dr, rfl, rfl, .of ha, rfl, dr, _, rfl, .inl hS, _, 0, rfl, rfl, _, rfl, ite2 (fun hgt => ?_) (fun hgt => ?_)⟩
        · have hpos : 0 < xs.length := by
            have := of_decide_eq_true hgt
            rw [List.length_map] at this
            omega
          have hmod0 : 0 ≤ (w0 * 5 + 3) % ((xs.map V.int).length : Int) := Int.emod_nonneg _ (by rw [List.length_map]; omega)
          have hmod1 : (w0 * 5 + 3) % ((xs.map V.int).length : Int) < (xs.map V.int).length := Int.emod_lt_of_pos _ (by rw [List.length_map]; omega)
          obtain ⟨k, hk⟩ := Int.eq_ofNat_of_zero_le hmod0
          have hk2 : k < xs.length := by rw [List.length_map] at hmod1 hk; omega
          refine ⟨.ref a, rfl, a, _, 0, .ref dr, rfl, rfl, .of ha, rfl, .int w0, rfl, w0, 5, rfl, rfl, .inr ⟨by decide, by decide⟩, w0 * 5, 3, rfl, rfl, .inl ⟨_, rfl, ?_⟩⟩
          refine ⟨.ref a, rfl, a, _, 0, .ref dr, rfl, rfl, .of ha, rfl, dr, _, rfl, .inl hS, w0 * 5 + 3, _, rfl, rfl, by rw [List.length_map]; omega, ?_⟩
          refine ⟨dr, _, (w0 * 5 + 3) % ((xs.map V.int).length : Int), .int xs[k], rfl, rfl, hS, ?_, .inl ⟨_, rfl, ?_⟩⟩
          · rw [hk]
            exact atI_nat (by rw [List.getElem?_map, List.getElem?_eq_getElem hk2]; rfl)
          · refine ⟨10, 17, rfl, rfl, ⟨by decide, by decide, by decide⟩, .int w0, rfl, _, w0, rfl, rfl, xs[k], _, rfl, rfl, ?_, ?_⟩
            · have : (0 : Int) < 10 ^ (17 : Int).toNat := by decide
              omega
            · exact put _
        · exact put 0
    · exact last H w0 l0 _ _ (fun b o e _ => e) ha hw0 (by omega) hl0
abbrev s__law_w_pick : Stmt := topS 62
theorem sc__law_w_pick : FnScope ["pen", "some"] ["pen", "some"] (defScope s__law_w_pick) := ⟨rfl, rfl, rfl, by decide +kernel, rfl, by decide +kernel, by decide +kernel⟩
theorem ok__law_w_pick (T : Txt P w K mg base) : FI P w K mg base 3 "_law_w_pick" ["pen", "some"] (spP K m__law_w_pick) := by
  obtain ⟨f, fd, F, g, b⟩ := T.d__law_w_pick.ex
  refine ⟨f, fd, FnG.pen F sc__law_w_pick fun a dr cdv A outer s H E hr hg => ?_, g, F.kp, b, Fun.lk F⟩
  have hu := hr.units
  have hv := hv_of hr
  have hx := hx_of hr
  have hw := hu_of hr
  unfold b__law_w_pick
  exact ⟨_, [], (ss_one (s_ret (e_ix (oIx rfl hw) l_ix (e_var 1 (pv 1) (by decide)) (eP (ok__law_take T) (hr.mono (by decide)) hg rfl rfl (by rfl) (pv 0) (a_cons (cB (fnLen rfl) l_len (by rfl) T.n_len (by decide +kernel) (a_cons (e_var 1 (pv 1) (by decide)) a_nil)) a_nil)) (fun _ _ => rfl))))⟩
abbrev s__law_w_words : Stmt := topS 63
theorem sc__law_w_words : FnScope ["pen", "longest", "evenly", "some", "row", "turn", "once"] ["pen", "longest", "evenly"] (defScope s__law_w_words) := ⟨rfl, rfl, rfl, by decide +kernel, rfl, by decide +kernel, by decide +kernel⟩
theorem ok__law_w_words (T : Txt P w K mg base) : FI P w K mg base 4 "_law_w_words" ["pen", "longest", "evenly"] (spP K m__law_w_words) := by
  obtain ⟨f, fd, F, g, b⟩ := T.d__law_w_words.ex
  refine ⟨f, fd, FnG.pen F sc__law_w_words fun a dr cdv A outer s H E hr hg => ?_, g, F.kp, b, Fun.lk F⟩
  have hu := hr.units
  have hv := hv_of hr
  have hx := hx_of hr
  have hw := hu_of hr
  unfold b__law_w_words
  exact ⟨_, [], (ss_cons (sSet 3 sc__law_w_words.nd rfl (.inr rfl) (e_op (oAdd rfl) l_add (e_lst (a_cons e_str (a_cons e_str (a_cons e_str (a_cons e_str a_nil))))) (e_op o_mul l_mul (e_lst (a_cons e_str a_nil)) (cT call_int1 l_int (by rfl) T.n_int (by decide +kernel) (a_cons (e_not (e_var 2 (pv 2) (by decide))) a_nil)))) (by decide) (off1 (by decide))) (ss_cons (sSet 4 sc__law_w_words.nd rfl (.inl rfl) (e_lst a_nil) (by decide) (off1 (by decide))) (ss_cons (sFor PassesOwn.never rfl (iR1 (by rfl) T.n_range (a_cons (e_op (oAdd rfl) l_add e_int (eP (ok__law_take T) (hr.mono (by decide)) hg rfl rfl (by rfl) (pv 0) (a_cons e_int a_nil))) a_nil)) (gN 5 sc__law_w_words.nd rfl (.inl rfl) (by decide) (off1 (by decide))) (ss_cons (sSet 4 sc__law_w_words.nd rfl (.inl rfl) (e_op (oAdd rfl) l_add (e_var 4 (pv 4) (by decide)) (RF.e (fLc (own := [("once", 6)]) rfl sc__law_w_words.nd (iR1 (by rfl) T.n_range (a_cons (eP (ok__law_take T) (hr.mono (by decide)) hg rfl rfl (by rfl) (pv 0) (a_cons (e_op (oAdd rfl) l_add (e_var 1 (pv 1) (by decide)) e_int) a_nil)) a_nil)) (blkOk_by (own := [("once", 6)]) (N := ["pen", "longest", "evenly", "some", "row", "turn", "once"]) (sc := defScope s__law_w_words) (by decide +kernel)) (fun _ _ _ _ _ => (gN 6 sc__law_w_words.nd rfl (.inl rfl) (by decide) (off1 (by decide)))) (fun _ _ _ _ _ => (eP (ok__law_w_pick T) (hr.mono (by decide)) hg rfl rfl (by rfl) (pv 0) (a_cons (e_var 3 (pv 3) (by decide)) a_nil))) (by decide) (offs1 (by decide))))) (by decide) (off1 (by decide))) (ss_one (sSet 4 sc__law_w_words.nd rfl (.inl rfl) (e_op (oAdd rfl) l_add (e_op (oAdd rfl) l_add (e_var 4 (pv 4) (by decide)) (e_lst (a_cons (eP (ok__law_w_pick T) (hr.mono (by decide)) hg rfl rfl (by rfl) (pv 0) (a_cons (e_lst (a_cons e_str (a_cons e_str (a_cons e_str (a_cons e_str a_nil))))) a_nil)) a_nil))) (e_op o_mul l_mul (e_lst (a_cons e_str a_nil)) (eP (ok__law_w_pick T) (hr.mono (by decide)) hg rfl rfl (by rfl) (pv 0) (a_cons (e_lst (a_cons e_int (a_cons e_int (a_cons e_int a_nil)))) a_nil)))) (by decide) (off1 (by decide))))) (by decide)) (ss_one (s_ret (e_var 4 (pv 4) (by decide)))))))⟩
abbrev s__law_w_part : Stmt := topS 64
theorem sc__law_w_part : FnScope ["pen", "longest", "parts", "words", "word", "goals", "rows", "number", "most"] ["pen", "longest", "parts"] (defScope s__law_w_part) := ⟨rfl, rfl, rfl, by decide +kernel, rfl, by decide +kernel, by decide +kernel⟩
theorem ok__law_w_part (T : Txt P w K mg base) : FI P w K mg base 5 "_law_w_part" ["pen", "longest", "parts"] (spP K m__law_w_part) := by
  obtain ⟨f, fd, F, g, b⟩ := T.d__law_w_part.ex
  refine ⟨f, fd, FnG.pen F sc__law_w_part fun a dr cdv A outer s H E hr hg => ?_, g, F.kp, b, Fun.lk F⟩
  have hu := hr.units
  have hv := hv_of hr
  have hx := hx_of hr
  have hw := hu_of hr
  unfold b__law_w_part
  exact ⟨_, [], (ss_cons (sSet 3 sc__law_w_part.nd rfl (.inl rfl) (eP (ok__law_w_words T) (hr.mono (by decide)) hg rfl rfl (by rfl) (pv 0) (a_cons (e_var 1 (pv 1) (by decide)) (a_cons (e_cmp op_gt l_cmp (eP (ok__law_take T) (hr.mono (by decide)) hg rfl rfl (by rfl) (pv 0) (a_cons e_int a_nil)) e_int (nomark _)) a_nil))) (by decide) (off1 (by decide))) (ss_cons (sIf (O' := []) (t_cmp op_gt l_cmp (e_op (oAdd rfl) l_add (eCnt rfl hv (e_var 3 (pv 3) (by decide)) e_str) (eCnt rfl hv (e_var 3 (pv 3) (by decide)) e_str)) e_int (nomark _)) (ss_one (sLcIf (own := [("word", 4)]) 3 rfl sc__law_w_part.nd rfl rfl (sw_true rfl rfl rfl (by decide +kernel)) (i_seq rfl (e_var 3 (pv 3) (by decide))) (blkOk_by (own := [("word", 4)]) (N := ["pen", "longest", "parts", "words", "word", "goals", "rows", "number", "most"]) (sc := defScope s__law_w_part) (by decide +kernel)) (fun _ _ _ _ _ => (gN 4 sc__law_w_part.nd rfl (.inl rfl) (by decide) (off1 (by decide)))) (fun _ _ _ _ _ => (t_cmp (oNe rfl hu) l_ne (e_var 4 (pv 4) (by decide)) e_str (nomark _))) (fun _ _ _ _ _ => (e_var 4 (pv 4) (by decide))) (by decide) (offs1 (by decide)) (by decide) (off1 (by decide)))) ss_nil (by decide) (by decide)) (ss_cons (sPar2 5 6 rfl sc__law_w_part.nd rfl rfl (by decide) rfl rfl (x_sh (RF.e (fLcIf (own := [("number", 7), ("word", 4)]) rfl sc__law_w_part.nd (iEn rfl (by rfl) T.n_enumerate (a_cons (e_var 3 (pv 3) (by decide)) a_nil)) (blkOk_by (own := [("number", 7), ("word", 4)]) (N := ["pen", "longest", "parts", "words", "word", "goals", "rows", "number", "most"]) (sc := defScope s__law_w_part) (by decide +kernel)) (fun _ _ _ _ _ => (gT 2 rfl rfl (gC (gN 7 sc__law_w_part.nd rfl (.inl rfl) (by decide) (off1 (by decide))) (gC (gN 4 sc__law_w_part.nd rfl (.inl rfl) (by decide) (off1 (by decide))) gs_nil)))) (fun _ _ _ _ _ => (t_cmp (oNe rfl hu) l_ne (e_var 4 (pv 4) (by decide)) e_str (nomark _))) (fun _ _ _ _ _ => (e_var 7 (pv 7) (by decide))) (by decide) (offs1 (by decide)))) (x_ow (f_lst a_nil) x_nil)) (offsO1 (by decide)) rfl) (ss_cons (sFor PassesOwn.never rfl (i_seq rfl (e_var 3 (pv 3) (by decide))) (gN 4 sc__law_w_part.nd rfl (.inl rfl) (by decide) (off1 (by decide))) (ss_one (sIf (O' := [6]) (t_cmp (oEq rfl hu) l_eq (e_var 4 (pv 4) (by decide)) e_str (nomark _)) (ss_one (sApp 6 rfl (pv 6) (e_tup (a_cons (e_var 4 (pv 4) (by decide)) (a_cons (eP (ok__law_w_pick T) (hr.mono (by decide)) hg rfl rfl (by rfl) (pv 0) (a_cons (e_lst (a_cons e_int (a_cons e_int (a_cons e_int (a_cons e_int (a_cons (e_op (oAdd rfl) l_add e_int (eP (ok__law_take T) (hr.mono (by decide)) hg rfl rfl (by rfl) (pv 0) (a_cons e_int a_nil))) a_nil)))))) a_nil)) (a_cons (eP (ok__law_take T) (hr.mono (by decide)) hg rfl rfl (by rfl) (pv 0) (a_cons e_int a_nil)) a_nil)))) (by decide))) (ss_one (sIf (O' := [6]) (t_cmp (oIn rfl hv) l_in (e_var 4 (pv 4) (by decide)) (e_tup (a_cons e_str (a_cons e_str a_nil))) (by rfl)) (ss_one (sApp 6 rfl (pv 6) (e_tup (a_cons (e_var 4 (pv 4) (by decide)) (a_cons (eP (ok__law_w_pick T) (hr.mono (by decide)) hg rfl rfl (by rfl) (pv 0) (a_cons (e_var 5 (pv 5) (by decide)) a_nil)) a_nil))) (by decide))) (ss_one (sIf (O' := [6]) (t_cmp (oEq rfl hu) l_eq (e_var 4 (pv 4) (by decide)) e_str (nomark _)) (ss_one (sApp 6 rfl (pv 6) (e_tup (a_cons (e_var 4 (pv 4) (by decide)) (a_cons (eP (ok__law_w_pick T) (hr.mono (by decide)) hg rfl rfl (by rfl) (pv 0) (a_cons (e_lst (a_cons e_int (a_cons e_int (a_cons e_int (a_cons e_int a_nil))))) a_nil)) a_nil))) (by decide))) (ss_cons (sSet 8 sc__law_w_part.nd rfl (.inl rfl) (eGet2 (hu_of hr) (RF.e (f_disp (d_cons e_str e_int (d_cons e_str (e_var 2 (pv 2) (by decide)) d_nil)) (by rfl) (by rfl) (fun z => by cases z) (by decide))) (e_var 4 (pv 4) (by decide)) e_int ⟨by rfl, by rfl, by rfl, by rfl⟩) (by decide) (off1 (by decide))) (ss_one (sApp 6 rfl (pv 6) (e_tup (a_cons (e_var 4 (pv 4) (by decide)) (a_cons (e_op (oAdd rfl) l_add (eP (ok__law_take T) (hr.mono (by decide)) hg rfl rfl (by rfl) (pv 0) (a_cons (e_var 8 (pv 8) (by decide)) a_nil)) (cT call_int1 l_int (by rfl) T.n_int (by decide +kernel) (a_cons (e_cmp (oEq rfl hu) l_eq (e_var 4 (pv 4) (by decide)) e_str (nomark _)) a_nil))) a_nil))) (by decide)))) (by decide) (by decide))) (by decide) (by decide))) (by decide) (by decide))) (by decide)) (RSs.pre (O := []) (ss_one (s_ret (cT (fnTuple rfl) l_tuple (by rfl) T.n_tuple (by decide +kernel) (a_cons (e_var 6 (pv 6) (by decide)) a_nil)))) (by decide))))))⟩
abbrev s__law_w_book : Stmt := topS 65
theorem sc__law_w_book : FnScope ["pen", "most", "longest", "many", "found", "number"] ["pen", "most", "longest"] (defScope s__law_w_book) := ⟨rfl, rfl, rfl, by decide +kernel, rfl, by decide +kernel, by decide +kernel⟩
theorem ok__law_w_book (T : Txt P w K mg base) : FI P w K mg base 6 "_law_w_book" ["pen", "most", "longest"] (spP K m__law_w_book) := by
  obtain ⟨f, fd, F, g, b⟩ := T.d__law_w_book.ex
  refine ⟨f, fd, FnG.pen F sc__law_w_book fun a dr cdv A outer s H E hr hg => ?_, g, F.kp, b, Fun.lk F⟩
  have hu := hr.units
  have hv := hv_of hr
  have hx := hx_of hr
  have hw := hu_of hr
  unfold b__law_w_book
  exact ⟨_, [], (ss_cons (sSet 3 sc__law_w_book.nd rfl (.inr rfl) (e_op (oAdd rfl) l_add e_int (eP (ok__law_take T) (hr.mono (by decide)) hg rfl rfl (by rfl) (pv 0) (a_cons (e_var 1 (pv 1) (by decide)) a_nil))) (by decide) (off1 (by decide))) (ss_cons (sLc (own := [("number", 5)]) 4 rfl sc__law_w_book.nd rfl rfl (sw_true rfl rfl rfl (by decide +kernel)) (iR1 (by rfl) T.n_range (a_cons (e_var 3 (pv 3) (by decide)) a_nil)) (blkOk_by (own := [("number", 5)]) (N := ["pen", "most", "longest", "many", "found", "number"]) (sc := defScope s__law_w_book) (by decide +kernel)) (fun _ _ _ _ _ => (gN 5 sc__law_w_book.nd rfl (.inl rfl) (by decide) (off1 (by decide)))) (fun _ _ _ _ _ => (eP (ok__law_w_part T) (hr.mono (by decide)) hg rfl rfl (by rfl) (pv 0) (a_cons (e_var 2 (pv 2) (by decide)) (a_cons (e_var 3 (pv 3) (by decide)) a_nil)))) (by decide) (offs1 (by decide)) (by decide) (off1 (by decide))) (RSs.pre (O := []) (ss_one (s_ret (cT (fnTuple rfl) l_tuple (by rfl) T.n_tuple (by decide +kernel) (a_cons (e_if (RW.t (w_and (t_cmp op_gt l_cmp (e_var 3 (pv 3) (by decide)) e_int (nomark _)) (w_and1 (t_cmp (oEq rfl hu) l_eq (eP (ok__law_take T) (hr.mono (by decide)) hg rfl rfl (by rfl) (pv 0) (a_cons e_int a_nil)) e_int (nomark _))))) (e_op (oAdd rfl) l_add (e_op o_mul l_mul (e_sl (e_var 4 (pv 4) (by decide)) p_none (p_some e_int) rfl) e_int) (e_sl (e_var 4 (pv 4) (by decide)) (p_some e_int) p_none rfl)) (e_var 4 (pv 4) (by decide))) a_nil)))) (by decide))))⟩
abbrev s__law_w_size : Stmt := topS 68
theorem sc__law_w_size : FnScope ["row", "machine", "is_short", "at", "short", "reach", "far", "leaping", "leap", "load", "span", "word", "sizes"] ["row", "machine", "is_short", "at"] (defScope s__law_w_size) := ⟨rfl, rfl, rfl, by decide +kernel, rfl, by decide +kernel, by decide +kernel⟩
theorem ok__law_w_size (T : Txt P w K mg base) : FI P w K mg base 1 "_law_w_size" ["row", "machine", "is_short", "at"] (spF K m__law_w_size) := by
  obtain ⟨f, fd, F, g, b⟩ := T.d__law_w_size.ex
  refine ⟨f, fd, FnG.pure F sc__law_w_size fun cdv A outer s H E hr hg => ?_, g, F.kp, b, Fun.lk F⟩
  have hu := hr.units
  have hv := hv_of hr
  have hx := hx_of hr
  have hw := hu_of hr
  unfold b__law_w_size
  exact ⟨_, [], (ss_cons (sAsg (e_var 1 (pv 1) (by decide)) (gT 8 rfl rfl (gC (gN 4 sc__law_w_size.nd rfl (.inl rfl) (by decide) off0) (gC (gN 5 sc__law_w_size.nd rfl (.inl rfl) (by decide) off0) (gC (gN 6 sc__law_w_size.nd rfl (.inl rfl) (by decide) off0) (gC (gN 7 sc__law_w_size.nd rfl (.inl rfl) (by decide) off0) (gC (gN 8 sc__law_w_size.nd rfl (.inl rfl) (by decide) off0) (gC (gN 9 sc__law_w_size.nd rfl (.inl rfl) (by decide) off0) (gC (gN 10 sc__law_w_size.nd rfl (.inl rfl) (by decide) off0) (gC (gN 11 sc__law_w_size.nd rfl (.inl rfl) (by decide) off0) gs_nil)))))))))) (ss_cons (sIf (O' := []) (t_cmp (oIn rfl hv) l_in (e_ix (oIx rfl hw) l_ix (e_var 0 (pv 0) (by decide)) e_int (fun _ _ => rfl)) (e_tup (a_cons e_str (a_cons e_str a_nil))) (by rfl)) (ss_one (s_ret (e_if (t_val (e_var 2 (pv 2) (by decide))) (e_var 4 (pv 4) (by decide)) (e_var 6 (pv 6) (by decide))))) ss_nil (fun _ h => h) (by decide)) (ss_cons (sIf (O' := []) (t_cmp (oEq rfl hu) l_eq (e_ix (oIx rfl hw) l_ix (e_var 0 (pv 0) (by decide)) e_int (fun _ _ => rfl)) e_str (nomark _)) (ss_one (s_ret (e_op op_mod l_mod (cT call_int1 l_int (by rfl) T.n_int (by decide +kernel) (a_cons (e_op op_sub l_sub (e_ix (oIx rfl hw) l_ix (e_var 0 (pv 0) (by decide)) e_int (fun _ _ => rfl)) (e_op op_mod l_mod (cT call_int1 l_int (by rfl) T.n_int (by decide +kernel) (a_cons (e_var 3 (pv 3) (by decide)) a_nil)) (e_ix (oIx rfl hw) l_ix (e_var 0 (pv 0) (by decide)) e_int (fun _ _ => rfl)))) a_nil)) (e_ix (oIx rfl hw) l_ix (e_var 0 (pv 0) (by decide)) e_int (fun _ _ => rfl))))) ss_nil (fun _ h => h) (by decide)) (ss_cons (sSet 12 sc__law_w_size.nd rfl (.inl rfl) (RF.e (f_disp (d_cons e_str (e_ix (oIx rfl hw) l_ix (e_var 0 (pv 0) (by decide)) e_int (fun _ _ => rfl)) (d_cons e_str (e_ix (oIx rfl hw) l_ix (e_var 0 (pv 0) (by decide)) e_int (fun _ _ => rfl)) (d_cons e_str (e_var 7 (pv 7) (by decide)) (d_cons e_str (e_var 9 (pv 9) (by decide)) (d_cons e_str (e_var 11 (pv 11) (by decide)) d_nil))))) (by rfl) (by rfl) (fun z => by cases z) (by decide))) (by decide) off0) (ss_one (s_ret (e_ix (oIx rfl hw) l_ix (e_var 12 (pv 12) (by decide)) (e_ix (oIx rfl hw) l_ix (e_var 0 (pv 0) (by decide)) e_int (fun _ _ => rfl)) (fun _ _ => rfl))))))))⟩
abbrev s__law_w_places : Stmt := topS 69
theorem sc__law_w_places : FnScope ["part", "machine", "forms", "found", "number", "row"] ["part", "machine", "forms"] (defScope s__law_w_places) := ⟨rfl, rfl, rfl, by decide +kernel, rfl, by decide +kernel, by decide +kernel⟩
theorem ok__law_w_places (T : Txt P w K mg base) : FI P w K mg base 2 "_law_w_places" ["part", "machine", "forms"] (spF K m__law_w_places) := by
  obtain ⟨f, fd, F, g, b⟩ := T.d__law_w_places.ex
  refine ⟨f, fd, FnG.pure F sc__law_w_places fun cdv A outer s H E hr hg => ?_, g, F.kp, b, Fun.lk F⟩
  have hu := hr.units
  have hv := hv_of hr
  have hx := hx_of hr
  have hw := hu_of hr
  unfold b__law_w_places
  exact ⟨_, [], (ss_cons (sOwn 3 sc__law_w_places.nd rfl (.inl rfl) (f_lst (a_cons e_int a_nil)) (by decide) off0) (ss_cons (sFor PassesOwn.never rfl (iEn rfl (by rfl) T.n_enumerate (a_cons (e_var 0 (pv 0) (by decide)) a_nil)) (gT 2 rfl rfl (gC (gN 4 sc__law_w_places.nd rfl (.inl rfl) (by decide) off0) (gC (gN 5 sc__law_w_places.nd rfl (.inl rfl) (by decide) off0) gs_nil))) (ss_one (sApp 3 rfl (pv 3) (eLook 3 (e_op (oAdd rfl) l_add (e_ix (oIx rfl hw) l_ix (e_var 3 (pv 3) (by decide)) (e_un un_neg l_neg e_int) (fun _ _ => rfl)) (eF (ok__law_w_size T) (hr.mono (by decide)) hg rfl (by rfl) (a_cons (e_var 5 (pv 5) (by decide)) (a_cons (e_var 1 (pv 1) (by decide)) (a_cons (e_cmp (oIn rfl hv) l_in (e_var 4 (pv 4) (by decide)) (e_var 2 (pv 2) (by decide)) (by rfl)) (a_cons (e_ix (oIx rfl hw) l_ix (e_var 3 (pv 3) (by decide)) (e_un un_neg l_neg e_int) (fun _ _ => rfl)) a_nil)))))) rfl) (by decide))) (by decide)) (RSs.pre (O := []) (ss_one (s_ret (e_var 3 (pv 3) (by decide)))) (by decide))))⟩
abbrev s__law_w_all_fit : Stmt := topS 70
theorem sc__law_w_all_fit : FnScope ["part", "machine", "forms", "found", "row"] ["part", "machine", "forms"] (defScope s__law_w_all_fit) := ⟨rfl, rfl, rfl, by decide +kernel, rfl, by decide +kernel, by decide +kernel⟩
theorem ok__law_w_all_fit (T : Txt P w K mg base) : FI P w K mg base 3 "_law_w_all_fit" ["part", "machine", "forms"] (spF K m__law_w_all_fit) := by
  obtain ⟨f, fd, F, g, b⟩ := T.d__law_w_all_fit.ex
  refine ⟨f, fd, FnG.pure F sc__law_w_all_fit fun cdv A outer s H E hr hg => ?_, g, F.kp, b, Fun.lk F⟩
  have hu := hr.units
  have hv := hv_of hr
  have hx := hx_of hr
  have hw := hu_of hr
  unfold b__law_w_all_fit
  exact ⟨_, [], (ss_cons (sSet 3 sc__law_w_all_fit.nd rfl (.inr rfl) (eF (ok__law_w_places T) (hr.mono (by decide)) hg rfl (by rfl) (a_cons (e_var 0 (pv 0) (by decide)) (a_cons (e_var 1 (pv 1) (by decide)) (a_cons (e_var 2 (pv 2) (by decide)) a_nil)))) (by decide) off0) (ss_one (s_ret (e_cmp (oEq rfl hu) l_eq (RF.e (fLcIf (own := [("row", 4)]) rfl sc__law_w_all_fit.nd (i_seq rfl (e_var 2 (pv 2) (by decide))) (blkOk_by (own := [("row", 4)]) (N := ["part", "machine", "forms", "found", "row"]) (sc := defScope s__law_w_all_fit) (by decide +kernel)) (fun _ _ _ _ _ => (gN 4 sc__law_w_all_fit.nd rfl (.inl rfl) (by decide) off0)) (fun _ _ _ _ _ => (t_cmp op_gt l_cmp (cB call_abs l_abs (by rfl) T.n_abs (by decide +kernel) (a_cons (e_op op_sub l_sub (e_ix (oIx rfl hw) l_ix (e_var 3 (pv 3) (by decide)) (e_ix (oIx rfl hw) l_ix (e_ix (oIx rfl hw) l_ix (e_var 0 (pv 0) (by decide)) (e_var 4 (pv 4) (by decide)) (fun _ _ => rfl)) e_int (fun _ _ => rfl)) (fun _ _ => rfl)) (e_ix (oIx rfl hw) l_ix (e_var 3 (pv 3) (by decide)) (e_var 4 (pv 4) (by decide)) (fun _ _ => rfl))) a_nil)) (e_ix (oIx rfl hw) l_ix (e_var 1 (pv 1) (by decide)) e_int (fun _ _ => rfl)) (nomark _))) (fun _ _ _ _ _ => (e_var 4 (pv 4) (by decide))) (by decide) offs0)) (e_lst a_nil) (nomark _)))))⟩
abbrev s__law_w_laid : Stmt := topS 71
theorem sc__law_w_laid : FnScope ["part", "machine", "rows", "lists", "number", "row", "found", "forms"] ["part", "machine"] (defScope s__law_w_laid) := ⟨rfl, rfl, rfl, by decide +kernel, rfl, by decide +kernel, by decide +kernel⟩
theorem ok__law_w_laid (T : Txt P w K mg base) : FI P w K mg base 4 "_law_w_laid" ["part", "machine"] (spF K m__law_w_laid) := by
  obtain ⟨f, fd, F, g, b⟩ := T.d__law_w_laid.ex
  refine ⟨f, fd, FnG.pure F sc__law_w_laid fun cdv A outer s H E hr hg => ?_, g, F.kp, b, Fun.lk F⟩
  have hu := hr.units
  have hv := hv_of hr
  have hx := hx_of hr
  have hw := hu_of hr
  unfold b__law_w_laid
  exact ⟨_, [], (ss_cons (sPar2 2 3 rfl sc__law_w_laid.nd rfl rfl (by decide) rfl rfl (x_sh (RF.e (fLcIf (own := [("number", 4), ("row", 5)]) rfl sc__law_w_laid.nd (iEn rfl (by rfl) T.n_enumerate (a_cons (e_var 0 (pv 0) (by decide)) a_nil)) (blkOk_by (own := [("number", 4), ("row", 5)]) (N := ["part", "machine", "rows", "lists", "number", "row", "found", "forms"]) (sc := defScope s__law_w_laid) (by decide +kernel)) (fun _ _ _ _ _ => (gT 2 rfl rfl (gC (gN 4 sc__law_w_laid.nd rfl (.inl rfl) (by decide) off0) (gC (gN 5 sc__law_w_laid.nd rfl (.inl rfl) (by decide) off0) gs_nil)))) (fun _ _ _ _ _ => (t_cmp (oIn rfl hv) l_in (e_ix (oIx rfl hw) l_ix (e_var 5 (pv 5) (by decide)) e_int (fun _ _ => rfl)) (e_tup (a_cons e_str (a_cons e_str a_nil))) (by rfl))) (fun _ _ _ _ _ => (e_var 4 (pv 4) (by decide))) (by decide) offs0)) (x_sh (e_lst (a_cons (e_lst a_nil) a_nil)) x_nil)) (offsO0 (by decide)) rfl) (ss_cons (sIf (O' := []) (t_cmp (oNotIn rfl hv) l_notIn e_str (RF.e (fLc (own := [("row", 5)]) rfl sc__law_w_laid.nd (i_seq rfl (e_var 0 (pv 0) (by decide))) (blkOk_by (own := [("row", 5)]) (N := ["part", "machine", "rows", "lists", "number", "row", "found", "forms"]) (sc := defScope s__law_w_laid) (by decide +kernel)) (fun _ _ _ _ _ => (gN 5 sc__law_w_laid.nd rfl (.inl rfl) (by decide) off0)) (fun _ _ _ _ _ => (e_ix (oIx rfl hw) l_ix (e_var 5 (pv 5) (by decide)) e_int (fun _ _ => rfl))) (by decide) offs0)) (by rfl)) (ss_cons (sWhile PassesOwn.never (t_not (t_val (eF (ok__law_w_all_fit T) (hr.mono (by decide)) hg rfl (by rfl) (a_cons (e_var 0 (pv 0) (by decide)) (a_cons (e_var 1 (pv 1) (by decide)) (a_cons (e_var 2 (pv 2) (by decide)) a_nil)))))) (ss_cons (sSet 6 sc__law_w_laid.nd rfl (.inr rfl) (eF (ok__law_w_places T) (hr.mono (by decide)) hg rfl (by rfl) (a_cons (e_var 0 (pv 0) (by decide)) (a_cons (e_var 1 (pv 1) (by decide)) (a_cons (e_var 2 (pv 2) (by decide)) a_nil)))) (by decide) off0) (ss_one (sLcIf (own := [("row", 5)]) 2 rfl sc__law_w_laid.nd rfl rfl (sw_true rfl rfl rfl (by decide +kernel)) (i_seq rfl (e_var 2 (pv 2) (by decide))) (blkOk_by (own := [("row", 5)]) (N := ["part", "machine", "rows", "lists", "number", "row", "found", "forms"]) (sc := defScope s__law_w_laid) (by decide +kernel)) (fun _ _ _ _ _ => (gN 5 sc__law_w_laid.nd rfl (.inl rfl) (by decide) off0)) (fun _ _ _ _ _ => (t_cmp op_le l_cmp (cB call_abs l_abs (by rfl) T.n_abs (by decide +kernel) (a_cons (e_op op_sub l_sub (e_ix (oIx rfl hw) l_ix (e_var 6 (pv 6) (by decide)) (e_ix (oIx rfl hw) l_ix (e_ix (oIx rfl hw) l_ix (e_var 0 (pv 0) (by decide)) (e_var 5 (pv 5) (by decide)) (fun _ _ => rfl)) e_int (fun _ _ => rfl)) (fun _ _ => rfl)) (e_ix (oIx rfl hw) l_ix (e_var 6 (pv 6) (by decide)) (e_var 5 (pv 5) (by decide)) (fun _ _ => rfl))) a_nil)) (e_ix (oIx rfl hw) l_ix (e_var 1 (pv 1) (by decide)) e_int (fun _ _ => rfl)) (nomark _))) (fun _ _ _ _ _ => (e_var 5 (pv 5) (by decide))) (by decide) offs0 (by decide) off0))) (by decide)) (ss_one (s_ret (e_ix (oIx rfl hw) l_ix (eF (ok__law_w_places T) (hr.mono (by decide)) hg rfl (by rfl) (a_cons (e_var 0 (pv 0) (by decide)) (a_cons (e_var 1 (pv 1) (by decide)) (a_cons (e_var 2 (pv 2) (by decide)) a_nil)))) (e_un un_neg l_neg e_int) (fun _ _ => rfl))))) ss_nil (fun _ h => h) (by decide)) (ss_cons (sFor PassesOwn.never rfl (i_seq rfl (e_var 2 (pv 2) (by decide))) (gN 5 sc__law_w_laid.nd rfl (.inr rfl) (by decide) off0) (ss_one (sSet 3 sc__law_w_laid.nd rfl (.inl rfl) (e_op (oAdd rfl) l_add (e_var 3 (pv 3) (by decide)) (RF.e (fLc (own := [("forms", 7)]) rfl sc__law_w_laid.nd (i_seq rfl (e_var 3 (pv 3) (by decide))) (blkOk_by (own := [("forms", 7)]) (N := ["part", "machine", "rows", "lists", "number", "row", "found", "forms"]) (sc := defScope s__law_w_laid) (by decide +kernel)) (fun _ _ _ _ _ => (gN 7 sc__law_w_laid.nd rfl (.inl rfl) (by decide) off0)) (fun _ _ _ _ _ => (e_op (oAdd rfl) l_add (e_var 7 (pv 7) (by decide)) (e_lst (a_cons (e_var 5 (pv 5) (by decide)) a_nil)))) (by decide) offs0))) (by decide) off0)) (by decide)) (ss_one (s_ret (cB (fnMinD rfl rfl hx) l_minD (by rfl) T.n_min (by decide +kernel) (a_cons (RF.e (fLcIf (own := [("forms", 7)]) rfl sc__law_w_laid.nd (i_seq rfl (e_var 3 (pv 3) (by decide))) (blkOk_by (own := [("forms", 7)]) (N := ["part", "machine", "rows", "lists", "number", "row", "found", "forms"]) (sc := defScope s__law_w_laid) (by decide +kernel)) (fun _ _ _ _ _ => (gN 7 sc__law_w_laid.nd rfl (.inl rfl) (by decide) off0)) (fun _ _ _ _ _ => (t_val (eF (ok__law_w_all_fit T) (hr.mono (by decide)) hg rfl (by rfl) (a_cons (e_var 0 (pv 0) (by decide)) (a_cons (e_var 1 (pv 1) (by decide)) (a_cons (e_var 7 (pv 7) (by decide)) a_nil)))))) (fun _ _ _ _ _ => (e_ix (oIx rfl hw) l_ix (eF (ok__law_w_places T) (hr.mono (by decide)) hg rfl (by rfl) (a_cons (e_var 0 (pv 0) (by decide)) (a_cons (e_var 1 (pv 1) (by decide)) (a_cons (e_var 7 (pv 7) (by decide)) a_nil)))) (e_un un_neg l_neg e_int) (fun _ _ => rfl))) (by decide) offs0)) a_nil)))))))⟩
abbrev s__law_w_due : Stmt := topS 72
theorem sc__law_w_due : FnScope ["book", "machine", "edits", "room", "reasons", "number", "p", "part", "more"] ["book", "machine", "edits"] (defScope s__law_w_due) := ⟨rfl, rfl, rfl, by decide +kernel, rfl, by decide +kernel, by decide +kernel⟩
theorem ok__law_w_due (T : Txt P w K mg base) : FI P w K mg base 5 "_law_w_due" ["book", "machine", "edits"] (spF K m__law_w_due) := by
  obtain ⟨f, fd, F, g, b⟩ := T.d__law_w_due.ex
  refine ⟨f, fd, FnG.pure F sc__law_w_due fun cdv A outer s H E hr hg => ?_, g, F.kp, b, Fun.lk F⟩
  have hu := hr.units
  have hv := hv_of hr
  have hx := hx_of hr
  have hw := hu_of hr
  unfold b__law_w_due
  exact ⟨_, [], (ss_cons (sPar2 3 4 rfl sc__law_w_due.nd rfl rfl (by decide) rfl rfl (x_ow (f_rep (e_lst (a_cons e_int a_nil)) (cB (fnLen rfl) l_len (by rfl) T.n_len (by decide +kernel) (a_cons (e_var 0 (pv 0) (by decide)) a_nil))) (x_ow (f_rep (e_lst (a_cons e_non a_nil)) (cB (fnLen rfl) l_len (by rfl) T.n_len (by decide +kernel) (a_cons (e_var 0 (pv 0) (by decide)) a_nil))) x_nil)) (offsO0 (by decide)) rfl) (ss_cons (sFor PassesOwn.never rfl (iEn rfl (by rfl) T.n_enumerate (a_cons (e_var 2 (pv 2) (by decide)) a_nil)) (gT 2 rfl rfl (gC (gN 5 sc__law_w_due.nd rfl (.inl rfl) (by decide) off0) (gC (gT 2 rfl rfl (gC (gN 6 sc__law_w_due.nd rfl (.inl rfl) (by decide) off0) (gC (gN 7 sc__law_w_due.nd rfl (.inl rfl) (by decide) off0) gs_nil))) gs_nil))) (ss_cons (sSet 8 sc__law_w_due.nd rfl (.inl rfl) (e_op op_sub l_sub (eF (ok__law_w_laid T) (hr.mono (by decide)) hg rfl (by rfl) (a_cons (e_var 7 (pv 7) (by decide)) (a_cons (e_var 1 (pv 1) (by decide)) a_nil))) (eF (ok__law_w_laid T) (hr.mono (by decide)) hg rfl (by rfl) (a_cons (e_ix (oIx rfl hw) l_ix (e_var 0 (pv 0) (by decide)) (e_var 6 (pv 6) (by decide)) (fun _ _ => rfl)) (a_cons (e_var 1 (pv 1) (by decide)) a_nil)))) (by decide) off0) (ss_one (sIf (O' := [4, 3]) (tLook 3 (t_cmp op_gt l_cmp (e_var 8 (pv 8) (by decide)) (e_ix (oIx rfl hw) l_ix (e_var 3 (pv 3) (by decide)) (e_var 6 (pv 6) (by decide)) (fun _ _ => rfl)) (nomark _)) rfl) (ss_one (sPut2 3 4 rfl rfl (pv 3) (pv 4) (e_var 8 (pv 8) (by decide)) (e_var 5 (pv 5) (by decide)) (e_var 6 (pv 6) (by decide)) (e_var 6 (pv 6) (by decide)) (by decide) (by decide) off0 off0)) ss_nil (by decide) (by decide)))) (by decide)) (RSs.pre (O := []) (ss_one (s_ret (e_tup (a_cons (e_var 3 (pv 3) (by decide)) (a_cons (e_var 4 (pv 4) (by decide)) a_nil))))) (by decide))))⟩
abbrev s__law_w_machine : Stmt := topS 66
theorem sc__law_w_machine : FnScope ["pen", "short", "reach", "leap", "machine"] ["pen"] (defScope s__law_w_machine) := ⟨rfl, rfl, rfl, by decide +kernel, rfl, by decide +kernel, by decide +kernel⟩
theorem ok__law_w_machine (T : Txt P w K mg base) : FI P w K mg base 4 "_law_w_machine" ["pen"] (spP K m__law_w_machine) := by
  obtain ⟨f, fd, F, g, b⟩ := T.d__law_w_machine.ex
  refine ⟨f, fd, FnG.pen F sc__law_w_machine fun a dr cdv A outer s H E hr hg => ?_, g, F.kp, b, Fun.lk F⟩
  have hu := hr.units
  have hv := hv_of hr
  have hx := hx_of hr
  have hw := hu_of hr
  unfold b__law_w_machine
  exact ⟨_, [], (ss_cons (sPar2 1 2 rfl sc__law_w_machine.nd rfl rfl (by decide) rfl rfl (x_sh (e_op (oAdd rfl) l_add e_int (eP (ok__law_take T) (hr.mono (by decide)) hg rfl rfl (by rfl) (pv 0) (a_cons e_int a_nil))) (x_sh (eP (ok__law_w_pick T) (hr.mono (by decide)) hg rfl rfl (by rfl) (pv 0) (a_cons (e_lst (a_cons e_int (a_cons e_int (a_cons e_int (a_cons e_int (a_cons e_int (a_cons (eP (ok__law_take T) (hr.mono (by decide)) hg rfl rfl (by rfl) (pv 0) (a_cons e_int a_nil)) a_nil))))))) a_nil)) x_nil)) (offsO1 (by decide)) rfl) (ss_cons (sSet 3 sc__law_w_machine.nd rfl (.inl rfl) (eP (ok__law_w_pick T) (hr.mono (by decide)) hg rfl rfl (by rfl) (pv 0) (a_cons (e_lst (a_cons e_int (a_cons e_int (a_cons e_int (a_cons e_int (a_cons e_int (a_cons (eP (ok__law_take T) (hr.mono (by decide)) hg rfl rfl (by rfl) (pv 0) (a_cons e_int a_nil)) (a_cons e_int a_nil)))))))) a_nil)) (by decide) (off1 (by decide))) (ss_cons (sSet 4 sc__law_w_machine.nd rfl (.inl rfl) (e_tup (a_cons (e_var 1 (pv 1) (by decide)) (a_cons (e_var 2 (pv 2) (by decide)) (a_cons (e_op (oAdd rfl) l_add (e_op (oAdd rfl) l_add (e_var 1 (pv 1) (by decide)) e_int) (eP (ok__law_take T) (hr.mono (by decide)) hg rfl rfl (by rfl) (pv 0) (a_cons e_int a_nil))) (a_cons (e_op (oAdd rfl) l_add e_int (eP (ok__law_take T) (hr.mono (by decide)) hg rfl rfl (by rfl) (pv 0) (a_cons e_int a_nil))) (a_cons (e_var 3 (pv 3) (by decide)) (a_cons (e_op (oAdd rfl) l_add e_int (eP (ok__law_take T) (hr.mono (by decide)) hg rfl rfl (by rfl) (pv 0) (a_cons e_int a_nil))) a_nil))))))) (by decide) (off1 (by decide))) (ss_one (s_ret (e_op (oAdd rfl) l_add (e_var 4 (pv 4) (by decide)) (e_tup (a_cons (eP (ok__law_w_pick T) (hr.mono (by decide)) hg rfl rfl (by rfl) (pv 0) (a_cons (e_lst (a_cons e_int (a_cons e_int (a_cons e_int (a_cons e_int a_nil))))) a_nil)) (a_cons (e_op (oAdd rfl) l_add e_int (eP (ok__law_take T) (hr.mono (by decide)) hg rfl rfl (by rfl) (pv 0) (a_cons e_int a_nil))) a_nil)))))))))⟩
abbrev s_far_goals : Stmt := topS 30
theorem sc_far_goals : FnScope ["part", "row"] ["part"] (defScope s_far_goals) := ⟨rfl, rfl, rfl, by decide +kernel, rfl, by decide +kernel, by decide +kernel⟩
theorem okr_far_goals (T : Txt P w K mg base) : FI P w K mg base 1 "far_goals" ["part"] (spFr K m_far_goals) := by
  obtain ⟨f, fd, F, g, b⟩ := T.d_far_goals.ex
  refine ⟨f, fd, FnG.fresh F sc_far_goals fun cdv A outer s H E hr hg => ?_, g, F.kp, b, Fun.lk F⟩
  have hu := hr.units
  have hv := hv_of hr
  have hx := hx_of hr
  have hw := hu_of hr
  unfold b_far_goals
  exact ⟨_, (rsf_ret (fLcIf (own := [("row", 1)]) rfl sc_far_goals.nd (i_seq rfl (e_var 0 (pv 0) (by decide))) (blkOk_by (own := [("row", 1)]) (N := ["part", "row"]) (sc := defScope s_far_goals) (by decide +kernel)) (fun _ _ _ _ _ => (gN 1 sc_far_goals.nd rfl (.inl rfl) (by decide) off0)) (fun _ _ _ _ _ => (t_cmp (oEq rfl hu) l_eq (e_ix (oIx rfl hw) l_ix (e_var 1 (pv 1) (by decide)) e_int (fun _ _ => rfl)) e_str (nomark _))) (fun _ _ _ _ _ => (e_ix (oIx rfl hw) l_ix (e_var 1 (pv 1) (by decide)) e_int (fun _ _ => rfl))) (by decide) offs0))⟩
theorem ok_far_goals (T : Txt P w K mg base) : FI P w K mg base 1 "far_goals" ["part"] (spF K m_far_goals) := (okr_far_goals T).plain
abbrev s_jump_rows : Stmt := topS 25
theorem sc_jump_rows : FnScope ["part", "number", "row"] ["part"] (defScope s_jump_rows) := ⟨rfl, rfl, rfl, by decide +kernel, rfl, by decide +kernel, by decide +kernel⟩
theorem okr_jump_rows (T : Txt P w K mg base) : FI P w K mg base 1 "jump_rows" ["part"] (spFr K m_jump_rows) := by
  obtain ⟨f, fd, F, g, b⟩ := T.d_jump_rows.ex
  refine ⟨f, fd, FnG.fresh F sc_jump_rows fun cdv A outer s H E hr hg => ?_, g, F.kp, b, Fun.lk F⟩
  have hu := hr.units
  have hv := hv_of hr
  have hx := hx_of hr
  have hw := hu_of hr
  unfold b_jump_rows
  exact ⟨_, (rsf_ret (fLcIf (own := [("number", 1), ("row", 2)]) rfl sc_jump_rows.nd (iEn rfl (by rfl) T.n_enumerate (a_cons (e_var 0 (pv 0) (by decide)) a_nil)) (blkOk_by (own := [("number", 1), ("row", 2)]) (N := ["part", "number", "row"]) (sc := defScope s_jump_rows) (by decide +kernel)) (fun _ _ _ _ _ => (gT 2 rfl rfl (gC (gN 1 sc_jump_rows.nd rfl (.inl rfl) (by decide) off0) (gC (gN 2 sc_jump_rows.nd rfl (.inl rfl) (by decide) off0) gs_nil)))) (fun _ _ _ _ _ => (t_cmp (oIn rfl hv) l_in (e_ix (oIx rfl hw) l_ix (e_var 2 (pv 2) (by decide)) e_int (fun _ _ => rfl)) (T.c_JUMPS.choose_spec.e (by rfl) rfl) (by rfl))) (fun _ _ _ _ _ => (e_var 1 (pv 1) (by decide))) (by decide) offs0))⟩
theorem ok_jump_rows (T : Txt P w K mg base) : FI P w K mg base 1 "jump_rows" ["part"] (spF K m_jump_rows) := (okr_jump_rows T).plain
abbrev s_goals_stand : Stmt := topS 27
theorem sc_goals_stand : FnScope ["rows", "goals", "number", "goal"] ["rows"] (defScope s_goals_stand) := ⟨rfl, rfl, rfl, by decide +kernel, rfl, by decide +kernel, by decide +kernel⟩
theorem ok_goals_stand (T : Txt P w K mg base) : FI P w K mg base 2 "goals_stand" ["rows"] (spF K m_goals_stand) := by
  obtain ⟨f, fd, F, g, b⟩ := T.d_goals_stand.ex
  refine ⟨f, fd, FnG.pure F sc_goals_stand fun cdv A outer s H E hr hg => ?_, g, F.kp, b, Fun.lk F⟩
  have hu := hr.units
  have hv := hv_of hr
  have hx := hx_of hr
  have hw := hu_of hr
  unfold b_goals_stand
  exact ⟨_, [], (ss_cons (sLc (own := [("number", 2)]) 1 rfl sc_goals_stand.nd rfl rfl (sw_true rfl rfl rfl (by decide +kernel)) (i_seq rfl (eF (ok_jump_rows T) (hr.mono (by decide)) hg rfl (by rfl) (a_cons (e_var 0 (pv 0) (by decide)) a_nil))) (blkOk_by (own := [("number", 2)]) (N := ["rows", "goals", "number", "goal"]) (sc := defScope s_goals_stand) (by decide +kernel)) (fun _ _ _ _ _ => (gN 2 sc_goals_stand.nd rfl (.inl rfl) (by decide) off0)) (fun _ _ _ _ _ => (e_ix (oIx rfl hw) l_ix (e_ix (oIx rfl hw) l_ix (e_var 0 (pv 0) (by decide)) (e_var 2 (pv 2) (by decide)) (fun _ _ => rfl)) e_int (fun _ _ => rfl))) (by decide) offs0 (by decide) off0) (RSs.pre (O := []) (ss_one (s_ret (cB (fnAll rfl rfl) l_all (by rfl) T.n_all (by decide +kernel) (a_cons (RF.e (fLc (own := [("goal", 3)]) rfl sc_goals_stand.nd (i_seq rfl (e_var 1 (pv 1) (by decide))) (blkOk_by (own := [("goal", 3)]) (N := ["rows", "goals", "number", "goal"]) (sc := defScope s_goals_stand) (by decide +kernel)) (fun _ _ _ _ _ => (gN 3 sc_goals_stand.nd rfl (.inl rfl) (by decide) off0)) (fun _ _ _ _ _ => (e_and (e_cmp op_lt l_cmp (e_var 3 (pv 3) (by decide)) (cB (fnLen rfl) l_len (by rfl) T.n_len (by decide +kernel) (a_cons (e_var 0 (pv 0) (by decide)) a_nil)) (nomark _)) (e_one (e_cmp (oNe rfl hu) l_ne (e_ix (oIx rfl hw) l_ix (e_ix (oIx rfl hw) l_ix (e_var 0 (pv 0) (by decide)) (e_var 3 (pv 3) (by decide)) (fun _ _ => rfl)) e_int (fun _ _ => rfl)) e_str (nomark _))))) (by decide) offs0)) a_nil)))) (by decide)))⟩
abbrev s_is_even : Stmt := topS 26
theorem sc_is_even : FnScope ["part", "row"] ["part"] (defScope s_is_even) := ⟨rfl, rfl, rfl, by decide +kernel, rfl, by decide +kernel, by decide +kernel⟩
theorem ok_is_even (T : Txt P w K mg base) : FI P w K mg base 1 "is_even" ["part"] (spF K m_is_even) := by
  obtain ⟨f, fd, F, g, b⟩ := T.d_is_even.ex
  refine ⟨f, fd, FnG.pure F sc_is_even fun cdv A outer s H E hr hg => ?_, g, F.kp, b, Fun.lk F⟩
  have hu := hr.units
  have hv := hv_of hr
  have hx := hx_of hr
  have hw := hu_of hr
  unfold b_is_even
  exact ⟨_, [], (ss_one (s_ret (cB (fnAll rfl rfl) l_all (by rfl) T.n_all (by decide +kernel) (a_cons (RF.e (fLc (own := [("row", 1)]) rfl sc_is_even.nd (i_seq rfl (e_var 0 (pv 0) (by decide))) (blkOk_by (own := [("row", 1)]) (N := ["part", "row"]) (sc := defScope s_is_even) (by decide +kernel)) (fun _ _ _ _ _ => (gN 1 sc_is_even.nd rfl (.inl rfl) (by decide) off0)) (fun _ _ _ _ _ => (e_cmp (oNe rfl hu) l_ne (e_ix (oIx rfl hw) l_ix (e_var 1 (pv 1) (by decide)) e_int (fun _ _ => rfl)) e_str (nomark _))) (by decide) offs0)) a_nil))))⟩
abbrev s_is_within : Stmt := topS 21
theorem sc_is_within : FnScope ["thing", "low", "high"] ["thing", "low", "high"] (defScope s_is_within) := ⟨rfl, rfl, rfl, by decide +kernel, rfl, by decide +kernel, by decide +kernel⟩
theorem ok_is_within (T : Txt P w K mg base) : FI P w K mg base 1 "is_within" ["thing", "low", "high"] (spF K m_is_within) := by
  obtain ⟨f, fd, F, g, b⟩ := T.d_is_within.ex
  refine ⟨f, fd, FnG.pure F sc_is_within fun cdv A outer s H E hr hg => ?_, g, F.kp, b, Fun.lk F⟩
  have hu := hr.units
  have hv := hv_of hr
  have hx := hx_of hr
  have hw := hu_of hr
  unfold b_is_within
  exact ⟨_, [], (ss_one (s_ret (e_and (eIsi (T := "int") (by decide) rfl (e_var 0 (pv 0) (by decide)) (by rfl) T.n_isinstance (by rfl) T.n_int (by decide +kernel)) (e_and (e_not (eIsi (T := "bool") (by decide) rfl (e_var 0 (pv 0) (by decide)) (by rfl) T.n_isinstance (by rfl) T.n_bool (by decide +kernel))) (e_one (eCh op_le l_cmp op_le l_cmp (e_var 1 (pv 1) (by decide)) (e_var 0 (pv 0) (by decide)) (e_var 2 (pv 2) (by decide))))))))⟩
abbrev s_are_within : Stmt := topS 22
theorem sc_are_within : FnScope ["things", "bounds", "thing", "low", "high"] ["things", "bounds"] (defScope s_are_within) := ⟨rfl, rfl, rfl, by decide +kernel, rfl, by decide +kernel, by decide +kernel⟩
theorem ok_are_within (T : Txt P w K mg base) : FI P w K mg base 2 "are_within" ["things", "bounds"] (spF K m_are_within) := by
  obtain ⟨f, fd, F, g, b⟩ := T.d_are_within.ex
  refine ⟨f, fd, FnG.pure F sc_are_within fun cdv A outer s H E hr hg => ?_, g, F.kp, b, Fun.lk F⟩
  have hu := hr.units
  have hv := hv_of hr
  have hx := hx_of hr
  have hw := hu_of hr
  unfold b_are_within
  exact ⟨_, [], (ss_cons (sIf (O' := []) (t_cmp (oNe rfl hu) l_ne (cB (fnLen rfl) l_len (by rfl) T.n_len (by decide +kernel) (a_cons (e_var 0 (pv 0) (by decide)) a_nil)) (cB (fnLen rfl) l_len (by rfl) T.n_len (by decide +kernel) (a_cons (e_var 1 (pv 1) (by decide)) a_nil)) (nomark _)) (ss_one (s_ret e_bl)) ss_nil (fun _ h => h) (by decide)) (ss_one (s_ret (cB (fnAll rfl rfl) l_all (by rfl) T.n_all (by decide +kernel) (a_cons (RF.e (fLc (own := [("thing", 2), ("low", 3), ("high", 4)]) rfl sc_are_within.nd (iZi rfl (by rfl) T.n_zip (a_cons (e_var 0 (pv 0) (by decide)) (a_cons (e_var 1 (pv 1) (by decide)) a_nil))) (blkOk_by (own := [("thing", 2), ("low", 3), ("high", 4)]) (N := ["things", "bounds", "thing", "low", "high"]) (sc := defScope s_are_within) (by decide +kernel)) (fun _ _ _ _ _ => (gT 2 rfl rfl (gC (gN 2 sc_are_within.nd rfl (.inl rfl) (by decide) off0) (gC (gT 2 rfl rfl (gC (gN 3 sc_are_within.nd rfl (.inl rfl) (by decide) off0) (gC (gN 4 sc_are_within.nd rfl (.inl rfl) (by decide) off0) gs_nil))) gs_nil)))) (fun _ _ _ _ _ => (eF (ok_is_within T) (hr.mono (by decide)) hg rfl (by rfl) (a_cons (e_var 2 (pv 2) (by decide)) (a_cons (e_var 3 (pv 3) (by decide)) (a_cons (e_var 4 (pv 4) (by decide)) a_nil))))) (by decide) offs0)) a_nil)))))⟩
abbrev s_is_row : Stmt := topS 24
theorem sc_is_row : FnScope ["thing"] ["thing"] (defScope s_is_row) := ⟨rfl, rfl, rfl, by decide +kernel, rfl, by decide +kernel, by decide +kernel⟩
theorem ok_is_row (T : Txt P w K mg base) : FI P w K mg base 3 "is_row" ["thing"] (spF K m_is_row) := by
  obtain ⟨f, fd, F, g, b⟩ := T.d_is_row.ex
  refine ⟨f, fd, FnG.pure F sc_is_row fun cdv A outer s H E hr hg => ?_, g, F.kp, b, Fun.lk F⟩
  have hu := hr.units
  have hv := hv_of hr
  have hx := hx_of hr
  have hw := hu_of hr
  unfold b_is_row
  exact ⟨_, [], (ss_cons (sIf (O' := []) (RW.t (w_or (t_not (t_val (eIsi (T := "tuple") (by decide) rfl (e_var 0 (pv 0) (by decide)) (by rfl) T.n_isinstance (by rfl) T.n_tuple (by decide +kernel)))) (w_or1 (t_cmp (oEq rfl hu) l_eq (cB (fnLen rfl) l_len (by rfl) T.n_len (by decide +kernel) (a_cons (e_var 0 (pv 0) (by decide)) a_nil)) e_int (nomark _))))) (ss_one (s_ret e_bl)) ss_nil (fun _ h => h) (by decide)) (ss_cons (sIf (O' := []) (RW.t (w_or (t_not (t_val (eIsi (T := "str") (by decide) rfl (e_ix (oIx rfl hw) l_ix (e_var 0 (pv 0) (by decide)) e_int (fun _ _ => rfl)) (by rfl) T.n_isinstance (by rfl) T.n_str (by decide +kernel)))) (w_or1 (t_ninK T.k_ROW_BOUNDS.choose_spec rfl (by rfl) (e_ix (oIx rfl hw) l_ix (e_var 0 (pv 0) (by decide)) e_int (fun _ _ => rfl)))))) (ss_one (s_ret e_bl)) ss_nil (fun _ h => h) (by decide)) (ss_cons (sIf (O' := []) (t_not (t_val (eF (ok_are_within T) (hr.mono (by decide)) hg rfl (by rfl) (a_cons (e_sl (e_var 0 (pv 0) (by decide)) (p_some e_int) p_none rfl) (a_cons (e_ixK T.k_ROW_BOUNDS.choose_spec rfl (by rfl) (e_ix (oIx rfl hw) l_ix (e_var 0 (pv 0) (by decide)) e_int (fun _ _ => rfl)) (fun _ _ => rfl)) a_nil))))) (ss_one (s_ret e_bl)) ss_nil (fun _ h => h) (by decide)) (ss_one (s_ret (e_or (e_cmp (oNe rfl hu) l_ne (e_ix (oIx rfl hw) l_ix (e_var 0 (pv 0) (by decide)) e_int (fun _ _ => rfl)) e_str (nomark _)) (e_one (e_cmp (oIn rfl hv) l_in (e_ix (oIx rfl hw) l_ix (e_var 0 (pv 0) (by decide)) e_int (fun _ _ => rfl)) (T.c_MULTIPLES.choose_spec.e (by rfl) rfl) (by rfl)))))))))⟩
abbrev s_words_are_shunned : Stmt := topS 28
theorem sc_words_are_shunned : FnScope ["rows", "row", "behind"] ["rows"] (defScope s_words_are_shunned) := ⟨rfl, rfl, rfl, by decide +kernel, rfl, by decide +kernel, by decide +kernel⟩
theorem ok_words_are_shunned (T : Txt P w K mg base) : FI P w K mg base 1 "words_are_shunned" ["rows"] (spF K m_words_are_shunned) := by
  obtain ⟨f, fd, F, g, b⟩ := T.d_words_are_shunned.ex
  refine ⟨f, fd, FnG.pure F sc_words_are_shunned fun cdv A outer s H E hr hg => ?_, g, F.kp, b, Fun.lk F⟩
  have hu := hr.units
  have hv := hv_of hr
  have hx := hx_of hr
  have hw := hu_of hr
  unfold b_words_are_shunned
  exact ⟨_, [], (ss_cons (sIf (O' := []) (RW.t (w_or (t_cmp (oEq rfl hu) l_eq (e_ix (oIx rfl hw) l_ix (e_ix (oIx rfl hw) l_ix (e_var 0 (pv 0) (by decide)) e_int (fun _ _ => rfl)) e_int (fun _ _ => rfl)) e_str (nomark _)) (w_or1 (t_cmp (oIn rfl hv) l_in (e_ix (oIx rfl hw) l_ix (e_ix (oIx rfl hw) l_ix (e_var 0 (pv 0) (by decide)) (e_un un_neg l_neg e_int) (fun _ _ => rfl)) e_int (fun _ _ => rfl)) (T.c_GOING_ON.choose_spec.e (by rfl) rfl) (by rfl))))) (ss_one (s_ret e_bl)) ss_nil (fun _ h => h) (by decide)) (ss_one (s_ret (cB (fnAll rfl rfl) l_all (by rfl) T.n_all (by decide +kernel) (a_cons (RF.e (fLc (own := [("row", 1), ("behind", 2)]) rfl sc_words_are_shunned.nd (iZi rfl (by rfl) T.n_zip (a_cons (e_var 0 (pv 0) (by decide)) (a_cons (e_sl (e_var 0 (pv 0) (by decide)) (p_some e_int) p_none rfl) a_nil))) (blkOk_by (own := [("row", 1), ("behind", 2)]) (N := ["rows", "row", "behind"]) (sc := defScope s_words_are_shunned) (by decide +kernel)) (fun _ _ _ _ _ => (gT 2 rfl rfl (gC (gN 1 sc_words_are_shunned.nd rfl (.inl rfl) (by decide) off0) (gC (gN 2 sc_words_are_shunned.nd rfl (.inl rfl) (by decide) off0) gs_nil)))) (fun _ _ _ _ _ => (e_or (e_cmp (oNotIn rfl hv) l_notIn (e_ix (oIx rfl hw) l_ix (e_var 1 (pv 1) (by decide)) e_int (fun _ _ => rfl)) (T.c_GOING_ON.choose_spec.e (by rfl) rfl) (by rfl)) (e_one (e_cmp (oNe rfl hu) l_ne (e_ix (oIx rfl hw) l_ix (e_var 2 (pv 2) (by decide)) e_int (fun _ _ => rfl)) e_str (nomark _))))) (by decide) offs0)) a_nil)))))⟩
abbrev s_is_part : Stmt := topS 29
theorem sc_is_part : FnScope ["thing", "row"] ["thing"] (defScope s_is_part) := ⟨rfl, rfl, rfl, by decide +kernel, rfl, by decide +kernel, by decide +kernel⟩
theorem ok_is_part (T : Txt P w K mg base) : FI P w K mg base 4 "is_part" ["thing"] (spF K m_is_part) := by
  obtain ⟨f, fd, F, g, b⟩ := T.d_is_part.ex
  refine ⟨f, fd, FnG.pure F sc_is_part fun cdv A outer s H E hr hg => ?_, g, F.kp, b, Fun.lk F⟩
  have hu := hr.units
  have hv := hv_of hr
  have hx := hx_of hr
  have hw := hu_of hr
  unfold b_is_part
  exact ⟨_, [], (ss_cons (sIf (O' := []) (RW.t (w_or (t_not (t_val (eIsi (T := "tuple") (by decide) rfl (e_var 0 (pv 0) (by decide)) (by rfl) T.n_isinstance (by rfl) T.n_tuple (by decide +kernel)))) (w_or1 (t_not (tCh op_le l_cmp op_le l_cmp e_int (cB (fnLen rfl) l_len (by rfl) T.n_len (by decide +kernel) (a_cons (e_var 0 (pv 0) (by decide)) a_nil)) (T.c_MOST_ROWS.e (by rfl) rfl)))))) (ss_one (s_ret e_bl)) ss_nil (fun _ h => h) (by decide)) (ss_cons (sIf (O' := []) (t_not (t_val (cB (fnAll rfl rfl) l_all (by rfl) T.n_all (by decide +kernel) (a_cons (RF.e (fLc (own := [("row", 1)]) rfl sc_is_part.nd (i_seq rfl (e_var 0 (pv 0) (by decide))) (blkOk_by (own := [("row", 1)]) (N := ["thing", "row"]) (sc := defScope s_is_part) (by decide +kernel)) (fun _ _ _ _ _ => (gN 1 sc_is_part.nd rfl (.inl rfl) (by decide) off0)) (fun _ _ _ _ _ => (eF (ok_is_row T) (hr.mono (by decide)) hg rfl (by rfl) (a_cons (e_var 1 (pv 1) (by decide)) a_nil))) (by decide) offs0)) a_nil)))) (ss_one (s_ret e_bl)) ss_nil (fun _ h => h) (by decide)) (ss_cons (sIf (O' := []) (RW.t (w_and (t_not (t_val (eF (ok_is_even T) (hr.mono (by decide)) hg rfl (by rfl) (a_cons (e_var 0 (pv 0) (by decide)) a_nil)))) (w_and1 (t_cmp op_gt l_cmp (cB (fnLen rfl) l_len (by rfl) T.n_len (by decide +kernel) (a_cons (eF (ok_jump_rows T) (hr.mono (by decide)) hg rfl (by rfl) (a_cons (e_var 0 (pv 0) (by decide)) a_nil)) a_nil)) (T.c_MOST_JUMPS_BESIDE_ALIGN.e (by rfl) rfl) (nomark _))))) (ss_one (s_ret e_bl)) ss_nil (fun _ h => h) (by decide)) (ss_one (s_ret (e_and (eF (ok_goals_stand T) (hr.mono (by decide)) hg rfl (by rfl) (a_cons (e_var 0 (pv 0) (by decide)) a_nil)) (e_one (eF (ok_words_are_shunned T) (hr.mono (by decide)) hg rfl (by rfl) (a_cons (e_var 0 (pv 0) (by decide)) a_nil)))))))))⟩
abbrev s_is_book : Stmt := topS 31
theorem sc_is_book : FnScope ["thing", "part", "goal"] ["thing"] (defScope s_is_book) := ⟨rfl, rfl, rfl, by decide +kernel, rfl, by decide +kernel, by decide +kernel⟩
theorem ok_is_book (T : Txt P w K mg base) : FI P w K mg base 5 "is_book" ["thing"] (spF K m_is_book) := by
  obtain ⟨f, fd, F, g, b⟩ := T.d_is_book.ex
  refine ⟨f, fd, FnG.pure F sc_is_book fun cdv A outer s H E hr hg => ?_, g, F.kp, b, Fun.lk F⟩
  have hu := hr.units
  have hv := hv_of hr
  have hx := hx_of hr
  have hw := hu_of hr
  unfold b_is_book
  exact ⟨_, [], (ss_cons (sIf (O' := []) (RW.t (w_or (t_not (t_val (eIsi (T := "tuple") (by decide) rfl (e_var 0 (pv 0) (by decide)) (by rfl) T.n_isinstance (by rfl) T.n_tuple (by decide +kernel)))) (w_or1 (t_not (tCh op_le l_cmp op_le l_cmp e_int (cB (fnLen rfl) l_len (by rfl) T.n_len (by decide +kernel) (a_cons (e_var 0 (pv 0) (by decide)) a_nil)) (T.c_MOST_PARTS.e (by rfl) rfl)))))) (ss_one (s_ret e_bl)) ss_nil (fun _ h => h) (by decide)) (ss_cons (sIf (O' := []) (t_not (t_val (cB (fnAll rfl rfl) l_all (by rfl) T.n_all (by decide +kernel) (a_cons (RF.e (fLc (own := [("part", 1)]) rfl sc_is_book.nd (i_seq rfl (e_var 0 (pv 0) (by decide))) (blkOk_by (own := [("part", 1)]) (N := ["thing", "part", "goal"]) (sc := defScope s_is_book) (by decide +kernel)) (fun _ _ _ _ _ => (gN 1 sc_is_book.nd rfl (.inl rfl) (by decide) off0)) (fun _ _ _ _ _ => (eF (ok_is_part T) (hr.mono (by decide)) hg rfl (by rfl) (a_cons (e_var 1 (pv 1) (by decide)) a_nil))) (by decide) offs0)) a_nil)))) (ss_one (s_ret e_bl)) ss_nil (fun _ h => h) (by decide)) (ss_one (s_ret (cB (fnAll rfl rfl) l_all (by rfl) T.n_all (by decide +kernel) (a_cons (RF.e (fLc2 (own := [("part", 1), ("goal", 2)]) [2] rfl sc_is_book.nd (i_seq rfl (e_var 0 (pv 0) (by decide))) (blkOk_by (own := [("part", 1), ("goal", 2)]) (N := ["thing", "part", "goal"]) (sc := defScope s_is_book) (by decide +kernel)) (by decide) kg_name (fun _ _ _ _ _ => (gN 1 sc_is_book.nd rfl (.inl rfl) (by decide) off0)) (fun _ _ _ _ _ => rts_nil) (fun _ _ _ _ _ => (i_seq rfl (eF (ok_far_goals T) (hr.mono (by decide)) hg rfl (by rfl) (a_cons (e_var 1 (pv 1) (by decide)) a_nil)))) (fun _ _ _ _ _ => (gN 2 sc_is_book.nd rfl (.inl rfl) (by decide) off0)) (fun _ _ _ _ _ => rts_nil) (fun _ _ _ _ _ => (e_cmp op_lt l_cmp (e_var 2 (pv 2) (by decide)) (cB (fnLen rfl) l_len (by rfl) T.n_len (by decide +kernel) (a_cons (e_var 0 (pv 0) (by decide)) a_nil)) (nomark _))) (by decide) (by decide) (by decide) offs0)) a_nil))))))⟩
abbrev s_check_book : Stmt := topS 33
theorem sc_check_book : FnScope ["book"] ["book"] (defScope s_check_book) := ⟨rfl, rfl, rfl, by decide +kernel, rfl, by decide +kernel, by decide +kernel⟩
theorem ok_check_book (T : Txt P w K mg base) : FI P w K mg base 6 "check_book" ["book"] (spF K m_check_book) := by
  obtain ⟨f, fd, F, g, b⟩ := T.d_check_book.ex
  refine ⟨f, fd, FnG.pure F sc_check_book fun cdv A outer s H E hr hg => ?_, g, F.kp, b, Fun.lk F⟩
  have hu := hr.units
  have hv := hv_of hr
  have hx := hx_of hr
  have hw := hu_of hr
  unfold b_check_book
  exact ⟨_, _, (ss_one (sIf (O' := []) (t_not (t_val (eF (ok_is_book T) (hr.mono (by decide)) hg rfl (by rfl) (a_cons (e_var 0 (pv 0) (by decide)) a_nil)))) (ss_one s_never) ss_nil (fun _ h => h) (by decide)))⟩
abbrev s_is_part_number : Stmt := topS 50
theorem sc_is_part_number : FnScope ["book", "thing"] ["book", "thing"] (defScope s_is_part_number) := ⟨rfl, rfl, rfl, by decide +kernel, rfl, by decide +kernel, by decide +kernel⟩
theorem ok_is_part_number (T : Txt P w K mg base) : FI P w K mg base 2 "is_part_number" ["book", "thing"] (spF K m_is_part_number) := by
  obtain ⟨f, fd, F, g, b⟩ := T.d_is_part_number.ex
  refine ⟨f, fd, FnG.pure F sc_is_part_number fun cdv A outer s H E hr hg => ?_, g, F.kp, b, Fun.lk F⟩
  have hu := hr.units
  have hv := hv_of hr
  have hx := hx_of hr
  have hw := hu_of hr
  unfold b_is_part_number
  exact ⟨_, [], (ss_one (s_ret (eF (ok_is_within T) (hr.mono (by decide)) hg rfl (by rfl) (a_cons (e_var 1 (pv 1) (by decide)) (a_cons e_int (a_cons (e_op op_sub l_sub (cB (fnLen rfl) l_len (by rfl) T.n_len (by decide +kernel) (a_cons (e_var 0 (pv 0) (by decide)) a_nil)) e_int) a_nil))))))⟩
abbrev s_with_part : Stmt := topS 32
theorem sc_with_part : FnScope ["book", "p", "part"] ["book", "p", "part"] (defScope s_with_part) := ⟨rfl, rfl, rfl, by decide +kernel, rfl, by decide +kernel, by decide +kernel⟩
theorem ok_with_part (T : Txt P w K mg base) : FI P w K mg base 1 "with_part" ["book", "p", "part"] (spF K m_with_part) := by
  obtain ⟨f, fd, F, g, b⟩ := T.d_with_part.ex
  refine ⟨f, fd, FnG.pure F sc_with_part fun cdv A outer s H E hr hg => ?_, g, F.kp, b, Fun.lk F⟩
  have hu := hr.units
  have hv := hv_of hr
  have hx := hx_of hr
  have hw := hu_of hr
  unfold b_with_part
  exact ⟨_, [], (ss_one (s_ret (e_op (oAdd rfl) l_add (e_op (oAdd rfl) l_add (e_sl (e_var 0 (pv 0) (by decide)) p_none (p_some (e_var 1 (pv 1) (by decide))) rfl) (e_tup (a_cons (e_var 2 (pv 2) (by decide)) a_nil))) (e_sl (e_var 0 (pv 0) (by decide)) (p_some (e_op (oAdd rfl) l_add (e_var 1 (pv 1) (by decide)) e_int)) p_none rfl))))⟩
abbrev s_is_edit : Stmt := topS 54
theorem sc_is_edit : FnScope ["book", "thing"] ["book", "thing"] (defScope s_is_edit) := ⟨rfl, rfl, rfl, by decide +kernel, rfl, by decide +kernel, by decide +kernel⟩
theorem ok_is_edit (T : Txt P w K mg base) : FI P w K mg base 6 "is_edit" ["book", "thing"] (spF K m_is_edit) := by
  obtain ⟨f, fd, F, g, b⟩ := T.d_is_edit.ex
  refine ⟨f, fd, FnG.pure F sc_is_edit fun cdv A outer s H E hr hg => ?_, g, F.kp, b, Fun.lk F⟩
  have hu := hr.units
  have hv := hv_of hr
  have hx := hx_of hr
  have hw := hu_of hr
  unfold b_is_edit
  exact ⟨_, [], (ss_cons (sIf (O' := []) (RW.t (w_or (t_not (t_val (eIsi (T := "tuple") (by decide) rfl (e_var 1 (pv 1) (by decide)) (by rfl) T.n_isinstance (by rfl) T.n_tuple (by decide +kernel)))) (w_or (t_cmp (oNe rfl hu) l_ne (cB (fnLen rfl) l_len (by rfl) T.n_len (by decide +kernel) (a_cons (e_var 1 (pv 1) (by decide)) a_nil)) e_int (nomark _)) (w_or1 (t_not (t_val (eF (ok_is_part_number T) (hr.mono (by decide)) hg rfl (by rfl) (a_cons (e_var 0 (pv 0) (by decide)) (a_cons (e_ix (oIx rfl hw) l_ix (e_var 1 (pv 1) (by decide)) e_int (fun _ _ => rfl)) a_nil))))))))) (ss_one (s_ret e_bl)) ss_nil (fun _ h => h) (by decide)) (ss_one (s_ret (eF (ok_is_book T) (hr.mono (by decide)) hg rfl (by rfl) (a_cons (eF (ok_with_part T) (hr.mono (by decide)) hg rfl (by rfl) (a_cons (e_var 0 (pv 0) (by decide)) (a_cons (e_ix (oIx rfl hw) l_ix (e_var 1 (pv 1) (by decide)) e_int (fun _ _ => rfl)) (a_cons (e_ix (oIx rfl hw) l_ix (e_var 1 (pv 1) (by decide)) e_int (fun _ _ => rfl)) a_nil)))) a_nil)))))⟩
abbrev s_check_edits : Stmt := topS 55
theorem sc_check_edits : FnScope ["book", "edits", "edit"] ["book", "edits"] (defScope s_check_edits) := ⟨rfl, rfl, rfl, by decide +kernel, rfl, by decide +kernel, by decide +kernel⟩
theorem ok_check_edits (T : Txt P w K mg base) : FI P w K mg base 7 "check_edits" ["book", "edits"] (spF K m_check_edits) := by
  obtain ⟨f, fd, F, g, b⟩ := T.d_check_edits.ex
  refine ⟨f, fd, FnG.pure F sc_check_edits fun cdv A outer s H E hr hg => ?_, g, F.kp, b, Fun.lk F⟩
  have hu := hr.units
  have hv := hv_of hr
  have hx := hx_of hr
  have hw := hu_of hr
  unfold b_check_edits
  exact ⟨_, _, (ss_cons (sIf (O' := []) (RW.t (w_or (t_not (t_val (eIsi (T := "list") (by decide) rfl (e_var 1 (pv 1) (by decide)) (by rfl) T.n_isinstance (by rfl) T.n_list (by decide +kernel)))) (w_or1 (t_cmp op_gt l_cmp (cB (fnLen rfl) l_len (by rfl) T.n_len (by decide +kernel) (a_cons (e_var 1 (pv 1) (by decide)) a_nil)) (T.c_MOST_EDITS.e (by rfl) rfl) (nomark _))))) (ss_one s_never) ss_nil (fun _ h => h) (by decide)) (ss_one (sIf (O' := []) (t_not (t_val (cB (fnAll rfl rfl) l_all (by rfl) T.n_all (by decide +kernel) (a_cons (RF.e (fLc (own := [("edit", 2)]) rfl sc_check_edits.nd (i_seq rfl (e_var 1 (pv 1) (by decide))) (blkOk_by (own := [("edit", 2)]) (N := ["book", "edits", "edit"]) (sc := defScope s_check_edits) (by decide +kernel)) (fun _ _ _ _ _ => (gN 2 sc_check_edits.nd rfl (.inl rfl) (by decide) off0)) (fun _ _ _ _ _ => (eF (ok_is_edit T) (hr.mono (by decide)) hg rfl (by rfl) (a_cons (e_var 0 (pv 0) (by decide)) (a_cons (e_var 2 (pv 2) (by decide)) a_nil)))) (by decide) offs0)) a_nil)))) (ss_one s_never) ss_nil (fun _ h => h) (by decide))))⟩
abbrev s_is_machine : Stmt := topS 23
theorem sc_is_machine : FnScope ["thing"] ["thing"] (defScope s_is_machine) := ⟨rfl, rfl, rfl, by decide +kernel, rfl, by decide +kernel, by decide +kernel⟩
theorem ok_is_machine (T : Txt P w K mg base) : FI P w K mg base 3 "is_machine" ["thing"] (spF K m_is_machine) := by
  obtain ⟨f, fd, F, g, b⟩ := T.d_is_machine.ex
  refine ⟨f, fd, FnG.pure F sc_is_machine fun cdv A outer s H E hr hg => ?_, g, F.kp, b, Fun.lk F⟩
  have hu := hr.units
  have hv := hv_of hr
  have hx := hx_of hr
  have hw := hu_of hr
  unfold b_is_machine
  exact ⟨_, [], (ss_cons (sIf (O' := []) (RW.t (w_or (t_not (t_val (eIsi (T := "tuple") (by decide) rfl (e_var 0 (pv 0) (by decide)) (by rfl) T.n_isinstance (by rfl) T.n_tuple (by decide +kernel)))) (w_or1 (t_not (t_val (eF (ok_are_within T) (hr.mono (by decide)) hg rfl (by rfl) (a_cons (e_var 0 (pv 0) (by decide)) (a_cons (T.c_MACHINE_BOUNDS.choose_spec.e (by rfl) rfl) a_nil)))))))) (ss_one (s_ret e_bl)) ss_nil (fun _ h => h) (by decide)) (ss_one (s_ret (e_cmp op_lt l_cmp (e_ix (oIx rfl hw) l_ix (e_var 0 (pv 0) (by decide)) (T.c_SHORT.e (by rfl) rfl) (fun _ _ => rfl)) (e_ix (oIx rfl hw) l_ix (e_var 0 (pv 0) (by decide)) (T.c_LONG.e (by rfl) rfl) (fun _ _ => rfl)) (nomark _)))))⟩
abbrev s_check_machine : Stmt := topS 34
theorem sc_check_machine : FnScope ["machine"] ["machine"] (defScope s_check_machine) := ⟨rfl, rfl, rfl, by decide +kernel, rfl, by decide +kernel, by decide +kernel⟩
theorem ok_check_machine (T : Txt P w K mg base) : FI P w K mg base 4 "check_machine" ["machine"] (spF K m_check_machine) := by
  obtain ⟨f, fd, F, g, b⟩ := T.d_check_machine.ex
  refine ⟨f, fd, FnG.pure F sc_check_machine fun cdv A outer s H E hr hg => ?_, g, F.kp, b, Fun.lk F⟩
  have hu := hr.units
  have hv := hv_of hr
  have hx := hx_of hr
  have hw := hu_of hr
  unfold b_check_machine
  exact ⟨_, _, (ss_one (sIf (O' := []) (t_not (t_val (eF (ok_is_machine T) (hr.mono (by decide)) hg rfl (by rfl) (a_cons (e_var 0 (pv 0) (by decide)) a_nil)))) (ss_one s_never) ss_nil (fun _ h => h) (by decide)))⟩
abbrev s_row_size : Stmt := topS 36
theorem sc_row_size : FnScope ["row", "machine", "address", "is_short"] ["row", "machine", "address", "is_short"] (defScope s_row_size) := ⟨rfl, rfl, rfl, by decide +kernel, rfl, by decide +kernel, by decide +kernel⟩
theorem ok_row_size (T : Txt P w K mg base) : FI P w K mg base 1 "row_size" ["row", "machine", "address", "is_short"] (spF K m_row_size) := by
  obtain ⟨f, fd, F, g, b⟩ := T.d_row_size.ex
  refine ⟨f, fd, FnG.pure F sc_row_size fun cdv A outer s H E hr hg => ?_, g, F.kp, b, Fun.lk F⟩
  have hu := hr.units
  have hv := hv_of hr
  have hx := hx_of hr
  have hw := hu_of hr
  unfold b_row_size
  exact ⟨_, [], (ss_cons (sIf (O' := []) (t_cmp (oIn rfl hv) l_in (e_ix (oIx rfl hw) l_ix (e_var 0 (pv 0) (by decide)) e_int (fun _ _ => rfl)) (T.c_JUMPS.choose_spec.e (by rfl) rfl) (by rfl)) (ss_one (s_ret (e_if (t_val (e_var 3 (pv 3) (by decide))) (e_ix (oIx rfl hw) l_ix (e_var 1 (pv 1) (by decide)) (T.c_SHORT.e (by rfl) rfl) (fun _ _ => rfl)) (e_ix (oIx rfl hw) l_ix (e_var 1 (pv 1) (by decide)) (T.c_LONG.e (by rfl) rfl) (fun _ _ => rfl))))) ss_nil (fun _ h => h) (by decide)) (ss_cons (sIf (O' := []) (t_cmp (oEq rfl hu) l_eq (e_ix (oIx rfl hw) l_ix (e_var 0 (pv 0) (by decide)) e_int (fun _ _ => rfl)) e_str (nomark _)) (ss_one (s_ret (e_ix (oIx rfl hw) l_ix (e_var 1 (pv 1) (by decide)) (T.c_FAR.e (by rfl) rfl) (fun _ _ => rfl)))) ss_nil (fun _ h => h) (by decide)) (ss_cons (sIf (O' := []) (t_cmp (oEq rfl hu) l_eq (e_ix (oIx rfl hw) l_ix (e_var 0 (pv 0) (by decide)) e_int (fun _ _ => rfl)) e_str (nomark _)) (ss_one (s_ret (e_ix (oIx rfl hw) l_ix (e_var 1 (pv 1) (by decide)) (T.c_LOAD.e (by rfl) rfl) (fun _ _ => rfl)))) ss_nil (fun _ h => h) (by decide)) (ss_cons (sIf (O' := []) (t_cmp (oEq rfl hu) l_eq (e_ix (oIx rfl hw) l_ix (e_var 0 (pv 0) (by decide)) e_int (fun _ _ => rfl)) e_str (nomark _)) (ss_one (s_ret (e_ix (oIx rfl hw) l_ix (e_var 1 (pv 1) (by decide)) (T.c_WORD.e (by rfl) rfl) (fun _ _ => rfl)))) ss_nil (fun _ h => h) (by decide)) (ss_cons (sIf (O' := []) (t_cmp (oEq rfl hu) l_eq (e_ix (oIx rfl hw) l_ix (e_var 0 (pv 0) (by decide)) e_int (fun _ _ => rfl)) e_str (nomark _)) (ss_one (s_ret (e_op op_mod l_mod (e_un un_neg l_neg (e_var 2 (pv 2) (by decide))) (e_ix (oIx rfl hw) l_ix (e_var 0 (pv 0) (by decide)) e_int (fun _ _ => rfl))))) ss_nil (fun _ h => h) (by decide)) (ss_one (s_ret (e_ix (oIx rfl hw) l_ix (e_var 0 (pv 0) (by decide)) e_int (fun _ _ => rfl)))))))))⟩
abbrev s_addresses_of : Stmt := topS 37
theorem sc_addresses_of : FnScope ["part", "machine", "forms", "addresses", "number", "row", "address"] ["part", "machine", "forms"] (defScope s_addresses_of) := ⟨rfl, rfl, rfl, by decide +kernel, rfl, by decide +kernel, by decide +kernel⟩
theorem okr_addresses_of (T : Txt P w K mg base) : FI P w K mg base 2 "addresses_of" ["part", "machine", "forms"] (spFr K m_addresses_of) := by
  obtain ⟨f, fd, F, g, b⟩ := T.d_addresses_of.ex
  refine ⟨f, fd, FnG.fresh F sc_addresses_of fun cdv A outer s H E hr hg => ?_, g, F.kp, b, Fun.lk F⟩
  have hu := hr.units
  have hv := hv_of hr
  have hx := hx_of hr
  have hw := hu_of hr
  unfold b_addresses_of
  exact ⟨_, (rsf_cons (sOwn 3 sc_addresses_of.nd rfl (.inl rfl) (f_lst (a_cons e_int a_nil)) (by decide) off0) nr_set (rsf_cons (sFor PassesOwn.never rfl (iEn rfl (by rfl) T.n_enumerate (a_cons (e_var 0 (pv 0) (by decide)) a_nil)) (gT 2 rfl rfl (gC (gN 4 sc_addresses_of.nd rfl (.inl rfl) (by decide) off0) (gC (gN 5 sc_addresses_of.nd rfl (.inl rfl) (by decide) off0) gs_nil))) (ss_cons (sSet 6 sc_addresses_of.nd rfl (.inl rfl) (eLook 3 (e_ix (oIx rfl hw) l_ix (e_var 3 (pv 3) (by decide)) (e_un un_neg l_neg e_int) (fun _ _ => rfl)) rfl) (by decide) off0) (ss_one (sApp 3 rfl (pv 3) (e_op (oAdd rfl) l_add (e_var 6 (pv 6) (by decide)) (eF (ok_row_size T) (hr.mono (by decide)) hg rfl (by rfl) (a_cons (e_var 5 (pv 5) (by decide)) (a_cons (e_var 1 (pv 1) (by decide)) (a_cons (e_var 6 (pv 6) (by decide)) (a_cons (e_cmp (oIn rfl hv) l_in (e_var 4 (pv 4) (by decide)) (e_var 2 (pv 2) (by decide)) (by rfl)) a_nil)))))) (by decide)))) (by decide)) (nr_for (nr_seq nr_set nr_append)) (rsf_own 3 (by decide) (pv 3))))⟩
theorem ok_addresses_of (T : Txt P w K mg base) : FI P w K mg base 2 "addresses_of" ["part", "machine", "forms"] (spF K m_addresses_of) := (okr_addresses_of T).plain
abbrev s_distance : Stmt := topS 38
theorem sc_distance : FnScope ["addresses", "row", "other"] ["addresses", "row", "other"] (defScope s_distance) := ⟨rfl, rfl, rfl, by decide +kernel, rfl, by decide +kernel, by decide +kernel⟩
theorem ok_distance (T : Txt P w K mg base) : FI P w K mg base 1 "distance" ["addresses", "row", "other"] (spF K m_distance) := by
  obtain ⟨f, fd, F, g, b⟩ := T.d_distance.ex
  refine ⟨f, fd, FnG.pure F sc_distance fun cdv A outer s H E hr hg => ?_, g, F.kp, b, Fun.lk F⟩
  have hu := hr.units
  have hv := hv_of hr
  have hx := hx_of hr
  have hw := hu_of hr
  unfold b_distance
  exact ⟨_, [], (ss_one (s_ret (cB call_abs l_abs (by rfl) T.n_abs (by decide +kernel) (a_cons (e_op op_sub l_sub (e_ix (oIx rfl hw) l_ix (e_var 0 (pv 0) (by decide)) (e_var 1 (pv 1) (by decide)) (fun _ _ => rfl)) (e_ix (oIx rfl hw) l_ix (e_var 0 (pv 0) (by decide)) (e_var 2 (pv 2) (by decide)) (fun _ _ => rfl))) a_nil))))⟩
abbrev s_unfit_rows : Stmt := topS 39
theorem sc_unfit_rows : FnScope ["part", "machine", "forms", "addresses", "row"] ["part", "machine", "forms"] (defScope s_unfit_rows) := ⟨rfl, rfl, rfl, by decide +kernel, rfl, by decide +kernel, by decide +kernel⟩
theorem okr_unfit_rows (T : Txt P w K mg base) : FI P w K mg base 3 "unfit_rows" ["part", "machine", "forms"] (spFr K m_unfit_rows) := by
  obtain ⟨f, fd, F, g, b⟩ := T.d_unfit_rows.ex
  refine ⟨f, fd, FnG.fresh F sc_unfit_rows fun cdv A outer s H E hr hg => ?_, g, F.kp, b, Fun.lk F⟩
  have hu := hr.units
  have hv := hv_of hr
  have hx := hx_of hr
  have hw := hu_of hr
  unfold b_unfit_rows
  exact ⟨_, (rsf_cons (sSet 3 sc_unfit_rows.nd rfl (.inr rfl) (eF (ok_addresses_of T) (hr.mono (by decide)) hg rfl (by rfl) (a_cons (e_var 0 (pv 0) (by decide)) (a_cons (e_var 1 (pv 1) (by decide)) (a_cons (e_var 2 (pv 2) (by decide)) a_nil)))) (by decide) off0) nr_set (rsf_ret (fLcIf (own := [("row", 4)]) rfl sc_unfit_rows.nd (i_seq rfl (e_var 2 (pv 2) (by decide))) (blkOk_by (own := [("row", 4)]) (N := ["part", "machine", "forms", "addresses", "row"]) (sc := defScope s_unfit_rows) (by decide +kernel)) (fun _ _ _ _ _ => (gN 4 sc_unfit_rows.nd rfl (.inl rfl) (by decide) off0)) (fun _ _ _ _ _ => (t_cmp op_gt l_cmp (eF (ok_distance T) (hr.mono (by decide)) hg rfl (by rfl) (a_cons (e_var 3 (pv 3) (by decide)) (a_cons (e_var 4 (pv 4) (by decide)) (a_cons (e_ix (oIx rfl hw) l_ix (e_ix (oIx rfl hw) l_ix (e_var 0 (pv 0) (by decide)) (e_var 4 (pv 4) (by decide)) (fun _ _ => rfl)) e_int (fun _ _ => rfl)) a_nil)))) (e_ix (oIx rfl hw) l_ix (e_var 1 (pv 1) (by decide)) (T.c_REACH.e (by rfl) rfl) (fun _ _ => rfl)) (nomark _))) (fun _ _ _ _ _ => (e_var 4 (pv 4) (by decide))) (by decide) offs0)))⟩
theorem ok_unfit_rows (T : Txt P w K mg base) : FI P w K mg base 3 "unfit_rows" ["part", "machine", "forms"] (spF K m_unfit_rows) := (okr_unfit_rows T).plain
abbrev s_without : Stmt := topS 41
theorem sc_without : FnScope ["rows", "row", "other"] ["rows", "row"] (defScope s_without) := ⟨rfl, rfl, rfl, by decide +kernel, rfl, by decide +kernel, by decide +kernel⟩
theorem okr_without (T : Txt P w K mg base) : FI P w K mg base 1 "without" ["rows", "row"] (spFr K m_without) := by
  obtain ⟨f, fd, F, g, b⟩ := T.d_without.ex
  refine ⟨f, fd, FnG.fresh F sc_without fun cdv A outer s H E hr hg => ?_, g, F.kp, b, Fun.lk F⟩
  have hu := hr.units
  have hv := hv_of hr
  have hx := hx_of hr
  have hw := hu_of hr
  unfold b_without
  exact ⟨_, (rsf_ret (fLcIf (own := [("other", 2)]) rfl sc_without.nd (i_seq rfl (e_var 0 (pv 0) (by decide))) (blkOk_by (own := [("other", 2)]) (N := ["rows", "row", "other"]) (sc := defScope s_without) (by decide +kernel)) (fun _ _ _ _ _ => (gN 2 sc_without.nd rfl (.inl rfl) (by decide) off0)) (fun _ _ _ _ _ => (t_cmp (oNe rfl hu) l_ne (e_var 2 (pv 2) (by decide)) (e_var 1 (pv 1) (by decide)) (nomark _))) (fun _ _ _ _ _ => (e_var 2 (pv 2) (by decide))) (by decide) offs0))⟩
theorem ok_without (T : Txt P w K mg base) : FI P w K mg base 1 "without" ["rows", "row"] (spF K m_without) := (okr_without T).plain
abbrev s_growth : Stmt := topS 42
theorem sc_growth : FnScope ["part", "machine", "forms", "chain", "unfit"] ["part", "machine"] (defScope s_growth) := ⟨rfl, rfl, rfl, by decide +kernel, rfl, by decide +kernel, by decide +kernel⟩
theorem ok_growth (T : Txt P w K mg base) : FI P w K mg base 4 "growth" ["part", "machine"] (spF K m_growth) := by
  obtain ⟨f, fd, F, g, b⟩ := T.d_growth.ex
  refine ⟨f, fd, FnG.pure F sc_growth fun cdv A outer s H E hr hg => ?_, g, F.kp, b, Fun.lk F⟩
  have hu := hr.units
  have hv := hv_of hr
  have hx := hx_of hr
  have hw := hu_of hr
  unfold b_growth
  exact ⟨_, [], (ss_cons (sSet 2 sc_growth.nd rfl (.inl rfl) (eF (ok_jump_rows T) (hr.mono (by decide)) hg rfl (by rfl) (a_cons (e_var 0 (pv 0) (by decide)) a_nil)) (by decide) off0) (ss_cons (sOwn 3 sc_growth.nd rfl (.inl rfl) (f_lst a_nil) (by decide) off0) (ss_cons (sSet 4 sc_growth.nd rfl (.inl rfl) (eF (ok_unfit_rows T) (hr.mono (by decide)) hg rfl (by rfl) (a_cons (e_var 0 (pv 0) (by decide)) (a_cons (e_var 1 (pv 1) (by decide)) (a_cons (e_var 2 (pv 2) (by decide)) a_nil)))) (by decide) off0) (ss_cons (sWhile PassesOwn.never (tTru rfl (e_var 4 (pv 4) (by decide))) (ss_cons (sApp 3 rfl (pv 3) (e_ix (oIx rfl hw) l_ix (e_var 4 (pv 4) (by decide)) e_int (fun _ _ => rfl)) (by decide)) (ss_cons (sSet 2 sc_growth.nd rfl (.inl rfl) (eF (ok_without T) (hr.mono (by decide)) hg rfl (by rfl) (a_cons (e_var 2 (pv 2) (by decide)) (a_cons (e_ix (oIx rfl hw) l_ix (e_var 4 (pv 4) (by decide)) e_int (fun _ _ => rfl)) a_nil))) (by decide) off0) (ss_one (sSet 4 sc_growth.nd rfl (.inl rfl) (eF (ok_unfit_rows T) (hr.mono (by decide)) hg rfl (by rfl) (a_cons (e_var 0 (pv 0) (by decide)) (a_cons (e_var 1 (pv 1) (by decide)) (a_cons (e_var 2 (pv 2) (by decide)) a_nil)))) (by decide) off0)))) (by decide)) (RSs.pre (O := []) (ss_one (s_ret (e_tup (a_cons (e_var 2 (pv 2) (by decide)) (a_cons (e_var 3 (pv 3) (by decide)) a_nil))))) (by decide))))))⟩
abbrev s_size_of : Stmt := topS 45
theorem sc_size_of : FnScope ["part", "machine", "forms"] ["part", "machine", "forms"] (defScope s_size_of) := ⟨rfl, rfl, rfl, by decide +kernel, rfl, by decide +kernel, by decide +kernel⟩
theorem ok_size_of (T : Txt P w K mg base) : FI P w K mg base 3 "size_of" ["part", "machine", "forms"] (spF K m_size_of) := by
  obtain ⟨f, fd, F, g, b⟩ := T.d_size_of.ex
  refine ⟨f, fd, FnG.pure F sc_size_of fun cdv A outer s H E hr hg => ?_, g, F.kp, b, Fun.lk F⟩
  have hu := hr.units
  have hv := hv_of hr
  have hx := hx_of hr
  have hw := hu_of hr
  unfold b_size_of
  exact ⟨_, [], (ss_one (s_ret (e_ix (oIx rfl hw) l_ix (eF (ok_addresses_of T) (hr.mono (by decide)) hg rfl (by rfl) (a_cons (e_var 0 (pv 0) (by decide)) (a_cons (e_var 1 (pv 1) (by decide)) (a_cons (e_var 2 (pv 2) (by decide)) a_nil)))) (e_un un_neg l_neg e_int) (fun _ _ => rfl))))⟩
abbrev s_sublists : Stmt := topS 44
theorem sc_sublists : FnScope ["members", "many", "some"] ["members"] (defScope s_sublists) := ⟨rfl, rfl, rfl, by decide +kernel, rfl, by decide +kernel, by decide +kernel⟩
theorem okr_sublists (T : Txt P w K mg base) : FI P w K mg base 1 "sublists" ["members"] (spFr K m_sublists) := by
  obtain ⟨f, fd, F, g, b⟩ := T.d_sublists.ex
  refine ⟨f, fd, FnG.fresh F sc_sublists fun cdv A outer s H E hr hg => ?_, g, F.kp, b, Fun.lk F⟩
  have hu := hr.units
  have hv := hv_of hr
  have hx := hx_of hr
  have hw := hu_of hr
  unfold b_sublists
  exact ⟨_, (rsf_ret (fLc2 (own := [("many", 1), ("some", 2)]) [2] rfl sc_sublists.nd (iR1 (by rfl) T.n_range (a_cons (e_op (oAdd rfl) l_add (cB (fnLen rfl) l_len (by rfl) T.n_len (by decide +kernel) (a_cons (e_var 0 (pv 0) (by decide)) a_nil)) e_int) a_nil)) (blkOk_by (own := [("many", 1), ("some", 2)]) (N := ["members", "many", "some"]) (sc := defScope s_sublists) (by decide +kernel)) (by decide) kg_name (fun _ _ _ _ _ => (gN 1 sc_sublists.nd rfl (.inl rfl) (by decide) off0)) (fun _ _ _ _ _ => rts_nil) (fun _ _ _ _ _ => (iCb rfl (by rfl) T.i_combinations (a_cons (e_var 0 (pv 0) (by decide)) (a_cons (e_var 1 (pv 1) (by decide)) a_nil)))) (fun _ _ _ _ _ => (gN 2 sc_sublists.nd rfl (.inl rfl) (by decide) off0)) (fun _ _ _ _ _ => rts_nil) (fun _ _ _ _ _ => (cT (fnList rfl) l_list (by rfl) T.n_list (by decide +kernel) (a_cons (e_var 2 (pv 2) (by decide)) a_nil))) (by decide) (by decide) (by decide) offs0))⟩
theorem ok_sublists (T : Txt P w K mg base) : FI P w K mg base 1 "sublists" ["members"] (spF K m_sublists) := (okr_sublists T).plain
abbrev s_least_forms : Stmt := topS 46
theorem sc_least_forms : FnScope ["part", "machine", "fitting", "forms"] ["part", "machine"] (defScope s_least_forms) := ⟨rfl, rfl, rfl, by decide +kernel, rfl, by decide +kernel, by decide +kernel⟩
theorem ok_least_forms (T : Txt P w K mg base) : FI P w K mg base 4 "least_forms" ["part", "machine"] (spF K m_least_forms) := by
  obtain ⟨f, fd, F, g, b⟩ := T.d_least_forms.ex
  refine ⟨f, fd, FnG.pure F sc_least_forms fun cdv A outer s H E hr hg => ?_, g, F.kp, b, Fun.lk F⟩
  have hu := hr.units
  have hv := hv_of hr
  have hx := hx_of hr
  have hw := hu_of hr
  unfold b_least_forms
  exact ⟨_, [], (ss_cons (sLcIf (own := [("forms", 3)]) 2 rfl sc_least_forms.nd rfl rfl (sw_true rfl rfl rfl (by decide +kernel)) (i_seq rfl (eF (ok_sublists T) (hr.mono (by decide)) hg rfl (by rfl) (a_cons (eF (ok_jump_rows T) (hr.mono (by decide)) hg rfl (by rfl) (a_cons (e_var 0 (pv 0) (by decide)) a_nil)) a_nil))) (blkOk_by (own := [("forms", 3)]) (N := ["part", "machine", "fitting", "forms"]) (sc := defScope s_least_forms) (by decide +kernel)) (fun _ _ _ _ _ => (gN 3 sc_least_forms.nd rfl (.inl rfl) (by decide) off0)) (fun _ _ _ _ _ => (t_not (tTru rfl (eF (ok_unfit_rows T) (hr.mono (by decide)) hg rfl (by rfl) (a_cons (e_var 0 (pv 0) (by decide)) (a_cons (e_var 1 (pv 1) (by decide)) (a_cons (e_var 3 (pv 3) (by decide)) a_nil))))))) (fun _ _ _ _ _ => (e_var 3 (pv 3) (by decide))) (by decide) offs0 (by decide) off0) (RSs.pre (O := []) (ss_one (s_ret (e_ix (oIx rfl hw) l_ix (cB (fnMinD rfl rfl hx) l_minD (by rfl) T.n_min (by decide +kernel) (a_cons (RF.e (fLc (own := [("forms", 3)]) rfl sc_least_forms.nd (i_seq rfl (e_var 2 (pv 2) (by decide))) (blkOk_by (own := [("forms", 3)]) (N := ["part", "machine", "fitting", "forms"]) (sc := defScope s_least_forms) (by decide +kernel)) (fun _ _ _ _ _ => (gN 3 sc_least_forms.nd rfl (.inl rfl) (by decide) off0)) (fun _ _ _ _ _ => (e_tup (a_cons (eF (ok_size_of T) (hr.mono (by decide)) hg rfl (by rfl) (a_cons (e_var 0 (pv 0) (by decide)) (a_cons (e_var 1 (pv 1) (by decide)) (a_cons (e_var 3 (pv 3) (by decide)) a_nil)))) (a_cons (e_un un_neg l_neg (cB (fnLen rfl) l_len (by rfl) T.n_len (by decide +kernel) (a_cons (e_var 3 (pv 3) (by decide)) a_nil))) (a_cons (e_var 3 (pv 3) (by decide)) a_nil))))) (by decide) offs0)) a_nil)) e_int (fun _ _ => rfl)))) (by decide)))⟩
abbrev s_laid_forms : Stmt := topS 47
theorem sc_laid_forms : FnScope ["part", "machine"] ["part", "machine"] (defScope s_laid_forms) := ⟨rfl, rfl, rfl, by decide +kernel, rfl, by decide +kernel, by decide +kernel⟩
theorem ok_laid_forms (T : Txt P w K mg base) : FI P w K mg base 5 "laid_forms" ["part", "machine"] (spF K m_laid_forms) := by
  obtain ⟨f, fd, F, g, b⟩ := T.d_laid_forms.ex
  refine ⟨f, fd, FnG.pure F sc_laid_forms fun cdv A outer s H E hr hg => ?_, g, F.kp, b, Fun.lk F⟩
  have hu := hr.units
  have hv := hv_of hr
  have hx := hx_of hr
  have hw := hu_of hr
  unfold b_laid_forms
  exact ⟨_, [], (ss_cons (sIf (O' := []) (t_val (eF (ok_is_even T) (hr.mono (by decide)) hg rfl (by rfl) (a_cons (e_var 0 (pv 0) (by decide)) a_nil))) (ss_one (s_ret (e_ix (oIx rfl hw) l_ix (eF (ok_growth T) (hr.mono (by decide)) hg rfl (by rfl) (a_cons (e_var 0 (pv 0) (by decide)) (a_cons (e_var 1 (pv 1) (by decide)) a_nil))) e_int (fun _ _ => rfl)))) ss_nil (fun _ h => h) (by decide)) (ss_one (s_ret (eF (ok_least_forms T) (hr.mono (by decide)) hg rfl (by rfl) (a_cons (e_var 0 (pv 0) (by decide)) (a_cons (e_var 1 (pv 1) (by decide)) a_nil))))))⟩
abbrev s_laid_size : Stmt := topS 48
theorem sc_laid_size : FnScope ["part", "machine"] ["part", "machine"] (defScope s_laid_size) := ⟨rfl, rfl, rfl, by decide +kernel, rfl, by decide +kernel, by decide +kernel⟩
theorem ok_laid_size (T : Txt P w K mg base) : FI P w K mg base 6 "laid_size" ["part", "machine"] (spF K m_laid_size) := by
  obtain ⟨f, fd, F, g, b⟩ := T.d_laid_size.ex
  refine ⟨f, fd, FnG.pure F sc_laid_size fun cdv A outer s H E hr hg => ?_, g, F.kp, b, Fun.lk F⟩
  have hu := hr.units
  have hv := hv_of hr
  have hx := hx_of hr
  have hw := hu_of hr
  unfold b_laid_size
  exact ⟨_, [], (ss_one (s_ret (eF (ok_size_of T) (hr.mono (by decide)) hg rfl (by rfl) (a_cons (e_var 0 (pv 0) (by decide)) (a_cons (e_var 1 (pv 1) (by decide)) (a_cons (eF (ok_laid_forms T) (hr.mono (by decide)) hg rfl (by rfl) (a_cons (e_var 0 (pv 0) (by decide)) (a_cons (e_var 1 (pv 1) (by decide)) a_nil))) a_nil))))))⟩
abbrev s_sizes_of : Stmt := topS 51
theorem sc_sizes_of : FnScope ["book", "machine", "part"] ["book", "machine"] (defScope s_sizes_of) := ⟨rfl, rfl, rfl, by decide +kernel, rfl, by decide +kernel, by decide +kernel⟩
theorem ok_sizes_of (T : Txt P w K mg base) : FI P w K mg base 7 "sizes_of" ["book", "machine"] (spF K m_sizes_of) := by
  obtain ⟨f, fd, F, g, b⟩ := T.d_sizes_of.ex
  refine ⟨f, fd, FnG.pure F sc_sizes_of fun cdv A outer s H E hr hg => ?_, g, F.kp, b, Fun.lk F⟩
  have hu := hr.units
  have hv := hv_of hr
  have hx := hx_of hr
  have hw := hu_of hr
  unfold b_sizes_of
  exact ⟨_, [], (ss_one (s_ret (RF.e (fLc (own := [("part", 2)]) rfl sc_sizes_of.nd (i_seq rfl (e_var 0 (pv 0) (by decide))) (blkOk_by (own := [("part", 2)]) (N := ["book", "machine", "part"]) (sc := defScope s_sizes_of) (by decide +kernel)) (fun _ _ _ _ _ => (gN 2 sc_sizes_of.nd rfl (.inl rfl) (by decide) off0)) (fun _ _ _ _ _ => (eF (ok_laid_size T) (hr.mono (by decide)) hg rfl (by rfl) (a_cons (e_var 2 (pv 2) (by decide)) (a_cons (e_var 1 (pv 1) (by decide)) a_nil)))) (by decide) offs0))))⟩
abbrev s_kept_room : Stmt := topS 56
theorem sc_kept_room : FnScope ["book", "machine", "edits", "sizes", "room", "reasons", "number", "p", "part", "more"] ["book", "machine", "edits"] (defScope s_kept_room) := ⟨rfl, rfl, rfl, by decide +kernel, rfl, by decide +kernel, by decide +kernel⟩
theorem okd_kept_room (T : Txt P w K mg base) : FI P w K mg base 8 "kept_room" ["book", "machine", "edits"] (spFd K m_kept_room) := by
  obtain ⟨f, fd, F, g, b⟩ := T.d_kept_room.ex
  refine ⟨f, fd, FnG.two F sc_kept_room fun cdv A outer s H E hr hg => ?_, g, F.kp, b, Fun.lk F⟩
  have hu := hr.units
  have hv := hv_of hr
  have hx := hx_of hr
  have hw := hu_of hr
  unfold b_kept_room
  exact ⟨_, (rsd_cons (sSet 3 sc_kept_room.nd rfl (.inl rfl) (eF (ok_sizes_of T) (hr.mono (by decide)) hg rfl (by rfl) (a_cons (e_var 0 (pv 0) (by decide)) (a_cons (e_var 1 (pv 1) (by decide)) a_nil))) (by decide) off0) nr_set (rsd_cons (sOwn 4 sc_kept_room.nd rfl (.inl rfl) (f_rep (e_lst (a_cons e_int a_nil)) (cB (fnLen rfl) l_len (by rfl) T.n_len (by decide +kernel) (a_cons (e_var 0 (pv 0) (by decide)) a_nil))) (by decide) off0) nr_set (rsd_cons (sOwn 5 sc_kept_room.nd rfl (.inl rfl) (f_rep (e_lst (a_cons e_non a_nil)) (cB (fnLen rfl) l_len (by rfl) T.n_len (by decide +kernel) (a_cons (e_var 0 (pv 0) (by decide)) a_nil))) (by decide) off0) nr_set (rsd_cons (sFor PassesOwn.never rfl (iEn rfl (by rfl) T.n_enumerate (a_cons (e_var 2 (pv 2) (by decide)) a_nil)) (gT 2 rfl rfl (gC (gN 6 sc_kept_room.nd rfl (.inl rfl) (by decide) off0) (gC (gT 2 rfl rfl (gC (gN 7 sc_kept_room.nd rfl (.inl rfl) (by decide) off0) (gC (gN 8 sc_kept_room.nd rfl (.inl rfl) (by decide) off0) gs_nil))) gs_nil))) (ss_cons (sSet 9 sc_kept_room.nd rfl (.inl rfl) (e_op op_sub l_sub (eF (ok_laid_size T) (hr.mono (by decide)) hg rfl (by rfl) (a_cons (e_var 8 (pv 8) (by decide)) (a_cons (e_var 1 (pv 1) (by decide)) a_nil))) (e_ix (oIx rfl hw) l_ix (e_var 3 (pv 3) (by decide)) (e_var 7 (pv 7) (by decide)) (fun _ _ => rfl))) (by decide) off0) (ss_one (sIf (O' := [5, 4]) (tLook 4 (t_cmp op_gt l_cmp (e_var 9 (pv 9) (by decide)) (e_ix (oIx rfl hw) l_ix (e_var 4 (pv 4) (by decide)) (e_var 7 (pv 7) (by decide)) (fun _ _ => rfl)) (nomark _)) rfl) (ss_cons (sPutI 4 (pv 4) (e_var 7 (pv 7) (by decide)) (e_var 9 (pv 9) (by decide)) (by decide) off0) (ss_one (sPutI 5 (pv 5) (e_var 7 (pv 7) (by decide)) (e_var 6 (pv 6) (by decide)) (by decide) off0))) ss_nil (by decide) (by decide)))) (by decide)) (nr_for (nr_seq nr_set (nr_if (nr_seq nr_putI nr_putI) nr_next))) (rsd_pre (O2 := [5]) 4 (rsd_pair 4 5 (by decide) (by decide) (pe_tup (pa_cons (pv 4) (pa_cons (pv 5) pa_nil)))) (by decide))))))⟩
abbrev s_reserve : Stmt := topS 57
theorem sc_reserve : FnScope ["book", "machine", "edits"] ["book", "machine", "edits"] (defScope s_reserve) := ⟨rfl, rfl, rfl, by decide +kernel, rfl, by decide +kernel, by decide +kernel⟩
theorem okd_reserve (T : Txt P w K mg base) : FI P w K mg base 9 "reserve" ["book", "machine", "edits"] (spFd K m_reserve) := by
  obtain ⟨f, fd, F, g, b⟩ := T.d_reserve.ex
  refine ⟨f, fd, FnG.two F sc_reserve fun cdv A outer s H E hr hg => ?_, g, F.kp, b, Fun.lk F⟩
  have hu := hr.units
  have hv := hv_of hr
  have hx := hx_of hr
  have hw := hu_of hr
  unfold b_reserve
  exact ⟨_, (rsd_cons (sExpr (eF (ok_check_book T) (hr.mono (by decide)) hg rfl (by rfl) (a_cons (e_var 0 (pv 0) (by decide)) a_nil))) nr_drop (rsd_cons (sExpr (eF (ok_check_machine T) (hr.mono (by decide)) hg rfl (by rfl) (a_cons (e_var 1 (pv 1) (by decide)) a_nil))) nr_drop (rsd_cons (sExpr (eF (ok_check_edits T) (hr.mono (by decide)) hg rfl (by rfl) (a_cons (e_var 0 (pv 0) (by decide)) (a_cons (e_var 2 (pv 2) (by decide)) a_nil)))) nr_drop (rsd_call (okd_kept_room T) (hr.mono (by decide)) hg rfl (by rfl) (a_cons (e_var 0 (pv 0) (by decide)) (a_cons (e_var 1 (pv 1) (by decide)) (a_cons (e_var 2 (pv 2) (by decide)) a_nil)))))))⟩
abbrev s_law : Stmt := topS 73
theorem sc_law : FnScope ["script", "pen", "turn", "book", "machines", "edits", "once", "p", "part", "seen", "again", "told", "row"] ["script"] (defScope s_law) := ⟨rfl, rfl, rfl, by decide +kernel, rfl, by decide +kernel, by decide +kernel⟩
theorem fn_law (T : Txt P w K mg base) (h : b_c66_law mTrue (List.replicate 13 none) 0) {f : Addr} {fd : FuncData} (F : Fun K "law" "law" (topS 73) f fd) : FnG P w K mg base 100 f fd ["script"] (spLaw K) := by
  obtain ⟨fS, fdS, GS, gS, kS, bS, _⟩ := (ok__law_open T).ex
  refine FnG.law 1 F sc_law (by decide) _ _ rfl (fun cdv A outer s H E hr hg => ⟨?_, fun a dr => ?_⟩) h
  · exact ps_set (i := 1) sc_law.nd rfl (.inl rfl) (pe_callG GS (hr.mono (by decide)) (hg.le (by decide)) (by rfl) gS kS bS (pa_cons (pv 0) pa_nil))
  · have hu := hr.units
    have hv := hv_of hr
    have hx := hx_of hr
    have hw := hu_of hr
    unfold b_c66_law
    exact ⟨_, [], (ss_cons (sFor PassesOwn.never rfl (iR1 (by rfl) T.n_range (a_cons e_int a_nil)) (gN 2 sc_law.nd rfl (.inl rfl) (by decide) (offp (by decide))) (ss_cons (sPar3 3 4 5 rfl sc_law.nd rfl rfl rfl (by decide) (by decide) (by decide) rfl rfl rfl (x_sh (eP (ok__law_w_book T) (hr.mono (by decide)) hg rfl rfl (by rfl) (pv 1) (a_cons e_int (a_cons e_int a_nil))) (x_sh (e_lst (a_cons (eP (ok__law_w_machine T) (hr.mono (by decide)) hg rfl rfl (by rfl) (pv 1) a_nil) (a_cons (eP (ok__law_w_machine T) (hr.mono (by decide)) hg rfl rfl (by rfl) (pv 1) a_nil) a_nil))) (x_ow (f_lst a_nil) x_nil))) (offsOp (by decide)) rfl) (ss_cons (sFor PassesOwn.never rfl (iR1 (by rfl) T.n_range (a_cons (eP (ok__law_take T) (hr.mono (by decide)) hg rfl rfl (by rfl) (pv 1) (a_cons e_int a_nil)) a_nil)) (gN 6 sc_law.nd rfl (.inl rfl) (by decide) (offp (by decide))) (ss_cons (sSet 7 sc_law.nd rfl (.inl rfl) (eP (ok__law_take T) (hr.mono (by decide)) hg rfl rfl (by rfl) (pv 1) (a_cons (cB (fnLen rfl) l_len (by rfl) T.n_len (by decide +kernel) (a_cons (e_var 3 (pv 3) (by decide)) a_nil)) a_nil)) (by decide) (offp (by decide))) (ss_cons (sSet 8 sc_law.nd rfl (.inl rfl) (eP (ok__law_w_part T) (hr.mono (by decide)) hg rfl rfl (by rfl) (pv 1) (a_cons (e_op (oAdd rfl) l_add e_int (eP (ok__law_take T) (hr.mono (by decide)) hg rfl rfl (by rfl) (pv 1) (a_cons e_int a_nil))) (a_cons (cB (fnLen rfl) l_len (by rfl) T.n_len (by decide +kernel) (a_cons (e_var 3 (pv 3) (by decide)) a_nil)) a_nil))) (by decide) (offp (by decide))) (ss_one (sApp 5 rfl (pv 5) (e_tup (a_cons (e_var 7 (pv 7) (by decide)) (a_cons (eP (ok__law_w_pick T) (hr.mono (by decide)) hg rfl rfl (by rfl) (pv 1) (a_cons (e_lst (a_cons (e_var 8 (pv 8) (by decide)) (a_cons (e_var 8 (pv 8) (by decide)) (a_cons (e_ix (oIx rfl hw) l_ix (e_var 3 (pv 3) (by decide)) (e_var 7 (pv 7) (by decide)) (fun _ _ => rfl)) a_nil)))) a_nil)) a_nil))) (by decide))))) (by decide)) (ss_cons (sSet 9 sc_law.nd rfl (.inl rfl) (eLook 5 (cB (fnReprX T.sys rfl (hg (by decide)) hx) l_reprX (by rfl) T.n_repr (by decide +kernel) (a_cons (e_tup (a_cons (e_var 3 (pv 3) (by decide)) (a_cons (e_var 4 (pv 4) (by decide)) (a_cons (e_var 5 (pv 5) (by decide)) a_nil)))) a_nil)) rfl) (by decide) (offp (by decide))) (ss_one (sFor PassesOwn.never rfl (i_seq rfl (e_lst (a_cons e_int (a_cons e_int (a_cons e_int a_nil))))) (gN 10 sc_law.nd rfl (.inl rfl) (by decide) (offp (by decide))) (ssKillGr (iD := 11) (iR := 12) (j := 5) (c := .str "changed") (cV := .str "changed") (a_cons (e_var 3 (pv 3) (by decide)) (a_cons (e_ix (oIx rfl hw) l_ix (e_var 4 (pv 4) (by decide)) (e_var 10 (pv 10) (by decide)) (fun _ _ => rfl)) (a_cons (e_var 5 (pv 5) (by decide)) a_nil))) rfl (tLook 5 (RW.t (w_or (t_cmp (oNe rfl hu) l_ne (cB (fnReprX T.sys rfl (hg (by decide)) hx) l_reprX (by rfl) T.n_repr (by decide +kernel) (a_cons (e_var 11 (pv 11) (by decide)) a_nil)) (cB (fnReprX T.sys rfl (hg (by decide)) hx) l_reprX (by rfl) T.n_repr (by decide +kernel) (a_cons (eF (ok__law_w_due T) (hr.mono (by decide)) hg rfl (by rfl) (a_cons (e_var 3 (pv 3) (by decide)) (a_cons (e_ix (oIx rfl hw) l_ix (e_var 4 (pv 4) (by decide)) (e_var 10 (pv 10) (by decide)) (fun _ _ => rfl)) (a_cons (e_var 5 (pv 5) (by decide)) a_nil)))) a_nil)) (nomark _)) (w_or1 (t_cmp (oNe rfl hu) l_ne (cB (fnReprX T.sys rfl (hg (by decide)) hx) l_reprX (by rfl) T.n_repr (by decide +kernel) (a_cons (e_tup (a_cons (e_var 3 (pv 3) (by decide)) (a_cons (e_var 4 (pv 4) (by decide)) (a_cons (e_var 5 (pv 5) (by decide)) a_nil)))) a_nil)) (e_var 9 (pv 9) (by decide)) (nomark _))))) rfl) (t_cmp (oNe rfl hu) l_ne (RF.e (fLcIf (own := [("row", 12)]) rfl sc_law.nd (i_seq rfl (e_var 11 (pv 11) (by decide))) (blkOk_by (own := [("row", 12)]) (N := ["script", "pen", "turn", "book", "machines", "edits", "once", "p", "part", "seen", "again", "told", "row"]) (sc := defScope s_law) (by decide +kernel)) (fun _ _ _ _ _ => (gN 12 sc_law.nd rfl (.inl rfl) (by decide) (offp (by decide)))) (fun _ _ _ _ _ => (t_cmp (oNe rfl hu) l_ne (eCnt rfl hv (e_var 12 (pv 12) (by decide)) e_str) e_int (nomark _))) (fun _ _ _ _ _ => (e_var 12 (pv 12) (by decide))) (by decide) (offsp (by decide)))) (e_lst a_nil) (nomark _)) (fun _ => .str _) (ss_one (sIf (O' := [5]) (tLook 5 (RW.t (w_and (t_cmp (oNe rfl hu) l_ne (e_var 5 (pv 5) (by decide)) (e_lst a_nil) (nomark _)) (w_and1 (t_cmp (oEq rfl hu) l_eq (e_var 10 (pv 10) (by decide)) e_int (nomark _))))) rfl) (ss_cons (sPopI 5 rfl (pv 5) (eLook 5 (eP (ok__law_take T) (hr.mono (by decide)) hg rfl rfl (by rfl) (pv 1) (a_cons (cB (fnLen rfl) l_len (by rfl) T.n_len (by decide +kernel) (a_cons (e_var 5 (pv 5) (by decide)) a_nil)) a_nil)) rfl) (by decide) (offp (by decide))) (ss_one (sSet 9 sc_law.nd rfl (.inl rfl) (eLook 5 (cB (fnReprX T.sys rfl (hg (by decide)) hx) l_reprX (by rfl) T.n_repr (by decide +kernel) (a_cons (e_tup (a_cons (e_var 3 (pv 3) (by decide)) (a_cons (e_var 4 (pv 4) (by decide)) (a_cons (e_var 5 (pv 5) (by decide)) a_nil)))) a_nil)) rfl) (by decide) (offp (by decide))))) ss_nil (by decide) (by decide))) (fun za zT z5 zr => pss_cons (ps_set (i := 11) sc_law.nd rfl (.inl rfl) (pFd (okd_reserve T) (hr.mono (by decide)) hg rfl (by rfl) za)) (pss_cons (ps_if zT (pss_one (ps_ret pe_bl)) pss_nil) (pss_cons (ps_for PassesOwn.never rfl (pi_seq (pv 11)) (pg_name (i := 12) sc_law.nd rfl (.inl rfl)) (pss_one (ps_expr (pe_bm PySem.F.plainAttrs_list PySem.F.slot_list_append PySem.F.type_list_append mt_append (pv 12) (pa_cons pe_str pa_nil))))) (pss_cons (ps_if z5 (pss_one (ps_ret pe_bl)) pss_nil) zr)))) (by decide) (by decide) (offp (by decide)) (offp (by decide)) (by decide)) (by decide)))))) (by decide)) (ss_one (s_ret e_bl)))⟩
end K66
end
section
namespace RC
open PySem PySem.Spec L2 RR
open PyProof.Rows hiding St
/-- over what is made of a list of anything -/
theorem vcomp_mapOf {α : Type} {g : VG} {t : VT} {e : VE} {Γ : DEnv} {xs : List α} (f : α → D) (h : α → D) (k : ∀ x ∈ xs, ∃ Γ2, g (f x) Γ = some Γ2 ∧ t Γ2 = some true ∧ e Γ2 = some (h x)) : vcomp g t e Γ (xs.map f) = some (xs.map h) := by
  induction xs with
  | nil => rfl
  | cons d ds ih =>
    obtain ⟨Γ2, h1, h2, h3⟩ := k d (List.mem_cons_self ..)
    rw [List.map_cons]
    unfold vcomp
    rw [h1, Option.bind_some, h2, Option.bind_some, if_pos rfl, h3, Option.bind_some, ih fun d hd => k d (List.mem_cons_of_mem _ hd)]
    rfl
theorem vcomp_filterOf {α : Type} {g : VG} {t : VT} {e : VE} {Γ : DEnv} {xs : List α} (f : α → D) (q : α → Bool) (h : α → D) (k : ∀ x ∈ xs, ∃ Γ2, g (f x) Γ = some Γ2 ∧ t Γ2 = some (q x) ∧ (q x = true → e Γ2 = some (h x))) : vcomp g t e Γ (xs.map f) = some ((xs.filter q).map h) := by
  induction xs with
  | nil => rfl
  | cons d ds ih =>
    obtain ⟨Γ2, h1, h2, h3⟩ := k d (List.mem_cons_self ..)
    rw [List.map_cons]
    unfold vcomp
    rw [h1, Option.bind_some, h2, Option.bind_some, ih fun d hd => k d (List.mem_cons_of_mem _ hd)]
    cases hq : q d with
    | true => rw [if_pos rfl, h3 hq, List.filter_cons, if_pos hq]; rfl
    | false => rw [if_neg (by decide), List.filter_cons, if_neg (by rw [hq]; decide)]
theorem cAll_of (bs : List Bool) : cAll [.list (bs.map .bool)] = some (.bool (bs.all id)) := by
  show (boolsD (bs.map .bool)).map _ = _
  rw [boolsD_map]; rfl
theorem cAll_map {α : Type} (q : α → Bool) (xs : List α) : cAll [.list (xs.map fun x => .bool (q x))] = some (.bool (xs.all q)) := by
  have h := cAll_of (xs.map q)
  rw [List.map_map] at h
  refine h.trans ?_
  rw [List.all_map]; rfl
/-- a list of the values of a pure comprehension -/
theorem vLc_of {i : VI} {g : VG} {t : VT} {e : VE} {vs : List Nat} {Γ : DEnv} {ds r : List D} (h1 : i Γ = some ds) (h2 : ds.length ≤ lim) (h3 : vcomp g t e (wipeD Γ vs) ds = some r) : vLc i g t e vs Γ = some (.list r) := by
  unfold vLc
  rw [h1, Option.bind_some, if_pos h2, h3]; rfl
theorem vLc2_of {i : VI} {g : VG} {t : VT} {i1 : VI} {g1 : VG} {t1 : VT} {e : VE} {vs vs1 : List Nat} {Γ : DEnv} {ds r : List D} (h1 : i Γ = some ds) (h3 : vcompO g t i1 g1 t1 e vs1 (wipeD Γ vs) ds [] = some r) : vLc2 i g t i1 g1 t1 e vs vs1 Γ = some (.list r) := by
  unfold vLc2
  rw [h1, Option.bind_some, h3]; rfl
theorem vFun_of {N : List Str} {np : Nat} {b : VS} {ds : List D} {d : D} (h : ds.length = np) (k : b (startD N (ds.map some)) = some (.rt d)) : vFun N np b ds = some d := by
  unfold vFun
  rw [if_pos h, k]; rfl
theorem vFun_nx {N : List Str} {np : Nat} {b : VS} {ds : List D} {Γ : DEnv} (h : ds.length = np) (k : b (startD N (ds.map some)) = some (.nx Γ)) : vFun N np b ds = some .none := by
  unfold vFun
  rw [if_pos h, k]; rfl
theorem vSeq_nx {t u : VS} {Γ Γ1 : DEnv} {r : Option Rs} (h : t Γ = some (.nx Γ1)) (k : u Γ1 = r) : vSeqS t u Γ = r := by
  unfold vSeqS
  rw [h]; exact k
theorem vSeq_rt {t u : VS} {Γ : DEnv} {d : D} (h : t Γ = some (.rt d)) : vSeqS t u Γ = some (.rt d) := by
  unfold vSeqS
  rw [h]; rfl
theorem vIfS_t {t : VT} {x y : VS} {Γ : DEnv} {r : Option Rs} (h : t Γ = some true) (k : x Γ = r) : vIfS t x y Γ = r := by
  unfold vIfS
  rw [h]; exact k
theorem vIfS_f {t : VT} {x y : VS} {Γ : DEnv} {r : Option Rs} (h : t Γ = some false) (k : y Γ = r) : vIfS t x y Γ = r := by
  unfold vIfS
  rw [h]; exact k
theorem vRet_of {a : VE} {Γ : DEnv} {d : D} (h : a Γ = some d) : vRet a Γ = some (.rt d) := by
  unfold vRet
  rw [h]; rfl
theorem vSet_of {i : Nat} {a : VE} {Γ : DEnv} {d : D} (h : a Γ = some d) : vSet i a Γ = some (.nx (Γ.set i (some d))) := by
  unfold vSet
  rw [h]; rfl
theorem vDrop_of {a : VE} {Γ : DEnv} {d : D} (h : a Γ = some d) : vDrop a Γ = some (.nx Γ) := by
  unfold vDrop
  rw [h]; rfl
theorem vOp_of {f : D → D → Option D} {a b : VE} {Γ : DEnv} {x y : D} (h : a Γ = some x) (k : b Γ = some y) : vOp f a b Γ = f x y := by
  unfold vOp
  rw [h, Option.bind_some, k]; rfl
theorem vCl_of {f : List D → Option D} {a : VA} {Γ : DEnv} {x : List D} (h : a Γ = some x) : vCl f a Γ = f x := by
  unfold vCl
  rw [h]; rfl
theorem vCall_of {f : VP} {a : VA} {Γ : DEnv} {x : List D} (h : a Γ = some x) : vCall f a Γ = f x := by
  unfold vCall
  rw [h]; rfl
theorem vCons_of {a : VE} {r : VA} {Γ : DEnv} {x : D} {xs : List D} (h : a Γ = some x) (k : r Γ = some xs) : vCons a r Γ = some (x :: xs) := by
  unfold vCons
  rw [h, Option.bind_some, k]; rfl
theorem vTest_of {a : VE} {Γ : DEnv} {b : Bool} (h : a Γ = some (.bool b)) : vTest a Γ = some b := by
  unfold vTest
  rw [h]; rfl
theorem vAndV_of {a b : VE} {Γ : DEnv} {x y : Bool} (h : a Γ = some (.bool x)) (k : x = true → b Γ = some (.bool y)) : vAndV a b Γ = some (.bool (x && y)) := by
  unfold vAndV
  rw [h]
  cases x with
  | true => exact k rfl
  | false => rfl
theorem vOrV_of {a b : VE} {Γ : DEnv} {x y : Bool} (h : a Γ = some (.bool x)) (k : x = false → b Γ = some (.bool y)) : vOrV a b Γ = some (.bool (x || y)) := by
  unfold vOrV
  rw [h]
  cases x with
  | true => rfl
  | false => exact k rfl
theorem vAnd_of {a b : VT} {Γ : DEnv} {x y : Bool} (h : a Γ = some x) (k : x = true → b Γ = some y) : vAnd a b Γ = some (x && y) := by
  unfold vAnd
  rw [h]
  cases x with
  | true => exact k rfl
  | false => rfl
theorem vOr_of {a b : VT} {Γ : DEnv} {x y : Bool} (h : a Γ = some x) (k : x = false → b Γ = some y) : vOr a b Γ = some (x || y) := by
  unfold vOr
  rw [h]
  cases x with
  | true => rfl
  | false => exact k rfl
theorem vNot_t {a : VT} {Γ : DEnv} (h : a Γ = some false) : vNot a Γ = some true := by
  unfold vNot
  rw [h]; rfl
theorem vNot_f {a : VT} {Γ : DEnv} (h : a Γ = some true) : vNot a Γ = some false := by
  unfold vNot
  rw [h]; rfl
theorem vIsi_of {T : String} {a : VE} {Γ : DEnv} {x : D} (h : a Γ = some x) : vIsi T a Γ = some (.bool (isiB x T)) := by
  unfold vIsi
  rw [h]; rfl
theorem vUn_of {f : D → Option D} {a : VE} {Γ : DEnv} {x : D} (h : a Γ = some x) : vUn f a Γ = f x := by
  unfold vUn
  rw [h]; rfl
theorem vNotV_of {a : VE} {Γ : DEnv} {x : Bool} (h : a Γ = some (.bool x)) : vNotV a Γ = some (.bool (!x)) := by
  unfold vNotV
  rw [h]; rfl
theorem ix0 (x : D) (xs : List D) : dIx (.tuple (x :: xs)) (.int 0) = some x := atI_nat (j := 0) rfl
theorem ix1 (x y : D) (xs : List D) : dIx (.tuple (x :: y :: xs)) (.int 1) = some y := atI_nat (j := 1) rfl
theorem vNot_of {a : VT} {Γ : DEnv} {x : Bool} (h : a Γ = some x) : vNot a Γ = some (!x) := by
  unfold vNot
  rw [h]; rfl
theorem vWhile_go {t : VT} {b : VS} {m : Nat} {Γ : DEnv} (h : t Γ = some false) : vwhile t b (m + 1) Γ = some (.nx Γ) := by
  unfold vwhile
  rw [h]; rfl
theorem vWhile_nx {t : VT} {b : VS} {m : Nat} {Γ Γ2 : DEnv} {r : Option Rs} (h : t Γ = some true) (k : b Γ = some (.nx Γ2)) (l : vwhile t b m Γ2 = r) : vwhile t b (m + 1) Γ = r := by
  conv => lhs; unfold vwhile
  rw [h, Option.bind_some, if_pos rfl, k]; exact l
theorem okR_nat {n : Nat} (h : n ≤ 1000000) : okR (n : Int) := ⟨Int.le_trans (show (-(2 ^ 62) : Int) ≤ 0 by decide) (Int.natCast_nonneg _), Int.lt_of_lt_of_le (show (n : Int) < 1000001 by omega) (show (1000001 : Int) ≤ 2 ^ 62 by decide)⟩
theorem zipD_map {α β : Type} (f : α → D) (g : β → D) : ∀ (xs : List α) (ys : List β), zipD (xs.map f) (ys.map g) = (xs.zip ys).map fun q => .tuple [f q.1, g q.2]
  | [], ys => by cases ys <;> rfl
  | x :: xs, [] => rfl
  | x :: xs, y :: ys => by
    show PyData.tuple [f x, g y] :: zipD (xs.map f) (ys.map g) = _
    rw [zipD_map f g xs ys]; rfl
theorem enumD_map {α : Type} (f : α → D) : ∀ (xs : List α) (k : Nat), enumD (k : Int) (xs.map f) = (xs.zipIdx k).map fun q => .tuple [.int (q.2 : Int), f q.1]
  | [], k => rfl
  | x :: xs, k => by
    show PyData.tuple [.int (k : Int), f x] :: enumD ((k : Int) + 1) (xs.map f) = _
    have := enumD_map f xs (k + 1)
    rw [List.zipIdx_cons, List.map_cons]
    rw [Int.natCast_add, Int.natCast_one] at this
    rw [this]
theorem vcompI_mapOf {β : Type} {g : VG} {t : VT} {e : VE} {Γ : DEnv} (f h : β → D) : ∀ (ys : List β) (acc : List D), (∀ y ∈ ys, ∃ Γ2, g (f y) Γ = some Γ2 ∧ t Γ2 = some true ∧ e Γ2 = some (h y)) → acc.length + ys.length ≤ lim → vcompI g t e Γ (ys.map f) acc = some (acc ++ ys.map h)
  | [], acc, _, _ => by rw [List.map_nil, List.map_nil, List.append_nil]; rfl
  | y :: ys, acc, k, hl => by
    obtain ⟨Γ2, h1, h2, h3⟩ := k y (List.mem_cons_self ..)
    rw [List.map_cons]
    unfold vcompI
    rw [List.length_cons] at hl
    rw [h1, Option.bind_some, h2, Option.bind_some, if_pos rfl, h3, Option.bind_some, if_pos (by omega), vcompI_mapOf f h ys (acc ++ [h y]) (fun z hz => k z (List.mem_cons_of_mem _ hz)) (by rw [List.length_append, List.length_singleton]; omega), List.append_assoc]
    rfl
theorem vcompO_mapOf {α β : Type} {g g1 : VG} {t t1 : VT} {i1 : VI} {e : VE} {vs1 : List Nat} {Γ : DEnv} (fo : α → D) (ys : α → List β) (fi : β → D) (h : α → β → D) : ∀ (xs : List α) (acc : List D),
    (∀ x ∈ xs, ∃ Γ2, g (fo x) Γ = some Γ2 ∧ t Γ2 = some true ∧ i1 Γ2 = some ((ys x).map fi) ∧ ∀ y ∈ ys x, ∃ Γ3, g1 (fi y) (wipeD Γ2 vs1) = some Γ3 ∧ t1 Γ3 = some true ∧ e Γ3 = some (h x y)) →
    acc.length + (xs.flatMap ys).length ≤ lim → vcompO g t i1 g1 t1 e vs1 Γ (xs.map fo) acc = some (acc ++ xs.flatMap fun x => (ys x).map (h x))
  | [], acc, _, _ => by rw [List.map_nil, List.flatMap_nil, List.append_nil]; rfl
  | x :: xs, acc, k, hl => by
    obtain ⟨Γ2, h1, h2, h3, h4⟩ := k x (List.mem_cons_self ..)
    rw [List.map_cons]
    unfold vcompO
    rw [List.flatMap_cons, List.length_append] at hl
    rw [h1, Option.bind_some, h2, Option.bind_some, if_pos rfl, h3, Option.bind_some, vcompI_mapOf fi (h x) (ys x) acc h4 (by omega), Option.bind_some,
      vcompO_mapOf fo ys fi h xs _ (fun z hz => k z (List.mem_cons_of_mem _ hz)) (by rw [List.length_append, List.length_map]; omega), List.append_assoc, List.flatMap_cons]
theorem cAll_flat {α β : Type} (q : α → β → Bool) (ys : α → List β) (xs : List α) : cAll [.list (xs.flatMap fun x => (ys x).map fun y => .bool (q x y))] = some (.bool (xs.all fun x => (ys x).all (q x))) := by
  have e : (xs.flatMap fun x => (ys x).map fun y => PyData.bool (q x y)) = (xs.flatMap fun x => (ys x).map (q x)).map .bool := by
    rw [List.map_flatMap]
    congr 1
    funext x
    rw [List.map_map]; rfl
  rw [e, cAll_of]
  congr 2
  induction xs with
  | nil => rfl
  | cons x xs ih => rw [List.flatMap_cons, List.all_append, List.all_cons]; congr 1; · rw [List.all_map]; rfl
                    · exact ih (by rw [List.map_flatMap]; congr 1; funext x; rw [List.map_map]; rfl)
end RC
end
section
namespace RC
open PySem PySem.Spec L2 RR
open PyProof.Rows hiding St
inductive Row
  | plain (s a : Int)
  | stop (s : Int)
  | jump (k : Int)
  | branch (k : Int)
  | far (p : Int)
  | load (v : Int)
  | word (v : Int)
  | align (n : Int)
def Row.d : Row → D
  | .plain s a => .tuple [.str "plain", .int s, .int a]
  | .stop s => .tuple [.str "stop", .int s]
  | .jump k => .tuple [.str "jump", .int k]
  | .branch k => .tuple [.str "branch", .int k]
  | .far p => .tuple [.str "far", .int p]
  | .load v => .tuple [.str "load", .int v]
  | .word v => .tuple [.str "word", .int v]
  | .align n => .tuple [.str "align", .int n]
abbrev Part := List Row
abbrev Book := List Part
def pd (p : Part) : D := .tuple (p.map Row.d)
def bd (b : Book) : D := .tuple (b.map pd)
def within (x lo hi : Int) : Bool := decide (lo ≤ x) && decide (x ≤ hi)
def Row.ok : Row → Bool
  | .plain s a => within s 1 99 && within a 0 999
  | .stop s => within s 1 99
  | .jump k => within k 0 19
  | .branch k => within k 0 19
  | .far p => within p 0 4
  | .load v => within v 0 65535
  | .word v => within v 0 65535
  | .align n => n == 2 || n == 4 || n == 8 || n == 16
def Row.isJump : Row → Bool
  | .jump _ => true
  | .branch _ => true
  | _ => false
def Row.isAlign : Row → Bool
  | .align _ => true
  | _ => false
def Row.isWord : Row → Bool
  | .word _ => true
  | _ => false
def Row.goesOn : Row → Bool
  | .plain _ _ => true
  | .branch _ => true
  | .load _ => true
  | .align _ => true
  | _ => false
def Row.isFar : Row → Bool
  | .far _ => true
  | _ => false
/-- the first number of a row -/
def Row.num : Row → Int
  | .plain s _ => s
  | .stop s => s
  | .jump k => k
  | .branch k => k
  | .far p => p
  | .load v => v
  | .word v => v
  | .align n => n
def withinD (d : D) (lo hi : Int) : Bool := match d with | .int x => within x lo hi | _ => false
theorem v_is_within_eq (d : D) (lo hi : Int) : v_is_within [d, .int lo, .int hi] = some (.bool (withinD d lo hi)) := by
  cases d with
  | int x =>
    unfold withinD within
    show Option.bind (Option.bind (if decide (lo ≤ x) = true then some (PyData.bool (decide (x ≤ hi))) else some (.bool false)) _) _ = _
    by_cases h : lo ≤ x <;> simp [h, outD]
  | _ => rfl
/-- bounds, as they stand in the table -/
def bndD (q : Int × Int) : D := .tuple [.int q.1, .int q.2]
def withinAll : List D → List (Int × Int) → Bool
  | [], [] => true
  | d :: ds, q :: qs => withinD d q.1 q.2 && withinAll ds qs
  | _, _ => false
theorem withinAll_zip : ∀ (ds : List D) (qs : List (Int × Int)), ds.length = qs.length → withinAll ds qs = (ds.zip qs).all fun z => withinD z.1 z.2.1 z.2.2
  | [], [], _ => rfl
  | d :: ds, q :: qs, h => by
    rw [withinAll, List.zip_cons_cons, List.all_cons, withinAll_zip ds qs (by simpa using h)]
  | [], _ :: _, h => by simp at h
  | _ :: _, [], h => by simp at h
theorem withinAll_len : ∀ (ds : List D) (qs : List (Int × Int)), ds.length ≠ qs.length → withinAll ds qs = false
  | [], [], h => absurd rfl h
  | d :: ds, q :: qs, h => by
    rw [withinAll, withinAll_len ds qs (by simpa using h), Bool.and_false]
  | [], _ :: _, h => rfl
  | _ :: _, [], h => rfl
theorem dNe_int (i j : Int) : dNe (.int i) (.int j) = some (.bool (!decide (i = j))) := by
  show some (PyData.bool (!PyData.eqv (.int i) (.int j))) = _
  rw [PyData.eqv]; rfl
theorem dEq_int (i j : Int) : dEq (.int i) (.int j) = some (.bool (decide (i = j))) := by
  show some (PyData.bool (PyData.eqv (.int i) (.int j))) = _
  rw [PyData.eqv]; rfl
theorem v_are_within_eq (ds : List D) (qs : List (Int × Int)) (h : qs.length ≤ lim) : v_are_within [.tuple ds, .tuple (qs.map bndD)] = some (.bool (withinAll ds qs)) := by
  refine vFun_of rfl ?_
  have e : vTest (vOp dNe (vCl cLen (vCons (vVar 0) vNil)) (vCl cLen (vCons (vVar 1) vNil))) (startD ["things", "bounds", "thing", "low", "high"] ([PyData.tuple ds, PyData.tuple (qs.map bndD)].map some)) = some (!decide (ds.length = qs.length)) := by
    refine vTest_of ?_
    refine (vOp_of (x := .int ds.length) (y := .int (qs.map bndD).length) rfl rfl).trans ?_
    rw [dNe_int, List.length_map]
    congr 3
    exact decide_eq_decide.mpr Int.ofNat_inj
  unfold vb_are_within
  by_cases hl : ds.length = qs.length
  · refine vSeq_nx (vIfS_f (e.trans (by rw [decide_eq_true hl]; rfl)) rfl) ?_
    refine vRet_of ?_
    have z : zipD ds (qs.map bndD) = (ds.zip qs).map fun q => .tuple [q.1, bndD q.2] := by
      have := zipD_map (fun d : D => d) bndD ds qs
      rwa [List.map_id'] at this
    have c : vLc (vIZ (vCons (vVar 0) (vCons (vVar 1) vNil))) (vgTup 2 (vgCons (vgName 2) (vgCons (vgTup 2 (vgCons (vgName 3) (vgCons (vgName 4) vgNil))) vgNil))) vYes (vCall v_is_within (vCons (vVar 2) (vCons (vVar 3) (vCons (vVar 4) vNil)))) [2, 3, 4] (startD ["things", "bounds", "thing", "low", "high"] ([PyData.tuple ds, PyData.tuple (qs.map bndD)].map some)) = some (.list ((ds.zip qs).map fun z => .bool (withinD z.1 z.2.1 z.2.2))) := by
      refine vLc_of (ds := (ds.zip qs).map fun q => .tuple [q.1, bndD q.2]) (congrArg some z) (by rw [List.length_map, List.length_zip]; omega) ?_
      refine vcomp_mapOf _ _ fun q hq => ⟨_, rfl, rfl, ?_⟩
      exact (vCall_of rfl).trans (v_is_within_eq q.1 q.2.1 q.2.2)
    refine (vCl_of (vCons_of c rfl)).trans ?_
    rw [cAll_map, withinAll_zip ds qs hl]
  · refine vSeq_rt (vIfS_t (e.trans (by rw [decide_eq_false hl]; rfl)) ?_)
    rw [withinAll_len ds qs hl]
    rfl
def bnds (w : Str) : Option (List (Int × Int)) :=
  if "plain" = w then some [(1, 99), (0, 999)] else if "stop" = w then some [(1, 99)] else if "jump" = w then some [(0, 19)] else if "branch" = w then some [(0, 19)] else
  if "far" = w then some [(0, 4)] else if "load" = w then some [(0, 65535)] else if "word" = w then some [(0, 65535)] else if "align" = w then some [(2, 16)] else none
theorem eqv_str (a b : Str) : PyData.eqv (.str a) (.str b) = decide (a = b) := by rw [PyData.eqv]; rfl
theorem eqv_int (a b : Int) : PyData.eqv (.int a) (.int b) = decide (a = b) := by rw [PyData.eqv]; rfl
structure NoWord (w : Str) : Prop where
  h1 : ("plain" : Str) ≠ w
  h2 : ("stop" : Str) ≠ w
  h3 : ("jump" : Str) ≠ w
  h4 : ("branch" : Str) ≠ w
  h5 : ("far" : Str) ≠ w
  h6 : ("load" : Str) ≠ w
  h7 : ("word" : Str) ≠ w
  h8 : ("align" : Str) ≠ w
theorem words (w : Str) : ("plain" = w ∨ "stop" = w ∨ "jump" = w ∨ "branch" = w ∨ "far" = w ∨ "load" = w ∨ "word" = w ∨ "align" = w) ∨ NoWord w := by
  by_cases h1 : ("plain" : Str) = w; · exact .inl (.inl h1)
  by_cases h2 : ("stop" : Str) = w; · exact .inl (.inr (.inl h2))
  by_cases h3 : ("jump" : Str) = w; · exact .inl (.inr (.inr (.inl h3)))
  by_cases h4 : ("branch" : Str) = w; · exact .inl (.inr (.inr (.inr (.inl h4))))
  by_cases h5 : ("far" : Str) = w; · exact .inl (.inr (.inr (.inr (.inr (.inl h5)))))
  by_cases h6 : ("load" : Str) = w; · exact .inl (.inr (.inr (.inr (.inr (.inr (.inl h6))))))
  by_cases h7 : ("word" : Str) = w; · exact .inl (.inr (.inr (.inr (.inr (.inr (.inr (.inl h7)))))))
  by_cases h8 : ("align" : Str) = w; · exact .inl (.inr (.inr (.inr (.inr (.inr (.inr (.inr h8)))))))
  exact .inr ⟨h1, h2, h3, h4, h5, h6, h7, h8⟩
theorem NoWord.bnds {w : Str} (h : NoWord w) : bnds w = none := by
  unfold RC.bnds
  rw [if_neg h.h1, if_neg h.h2, if_neg h.h3, if_neg h.h4, if_neg h.h5, if_neg h.h6, if_neg h.h7, if_neg h.h8]
theorem look_bnds (w : Str) : dLook c_ROW_BOUNDS (.str w) = (bnds w).map fun qs => .tuple (qs.map bndD) := by
  rcases words w with (rfl | rfl | rfl | rfl | rfl | rfl | rfl | rfl) | h
  iterate 8 rfl
  rw [h.bnds]
  unfold dLook c_ROW_BOUNDS
  simp only [List.find?_cons, List.find?_nil, eqv_str, decide_eq_false h.h1, decide_eq_false h.h2, decide_eq_false h.h3, decide_eq_false h.h4, decide_eq_false h.h5, decide_eq_false h.h6, decide_eq_false h.h7, decide_eq_false h.h8]
  rfl
def keep (r : Row) : Option Row := if r.ok = true then some r else none
def rowOf : D → Option Row
  | .tuple [.str w, .int x] => if "stop" = w then keep (.stop x) else if "jump" = w then keep (.jump x) else if "branch" = w then keep (.branch x) else if "far" = w then keep (.far x) else
      if "load" = w then keep (.load x) else if "word" = w then keep (.word x) else if "align" = w then keep (.align x) else none
  | .tuple [.str w, .int x, .int y] => if "plain" = w then keep (.plain x y) else none
  | _ => none
theorem keep_some {r q : Row} (h : keep r = some q) : q = r ∧ r.ok = true := by
  unfold keep at h
  obtain ⟨h1, h2⟩ := ifs h
  exact ⟨h2.symm, h1⟩
theorem rowOf_some {d : D} {r : Row} (h : rowOf d = some r) : d = r.d ∧ r.ok = true := by
  unfold rowOf at h
  split at h
  · rename_i w x
    rcases words w with (rfl | rfl | rfl | rfl | rfl | rfl | rfl | rfl) | n
    · cases h
    iterate 7 (obtain ⟨rfl, h2⟩ := keep_some h; exact ⟨rfl, h2⟩)
    · rw [if_neg n.h2, if_neg n.h3, if_neg n.h4, if_neg n.h5, if_neg n.h6, if_neg n.h7, if_neg n.h8] at h
      cases h
  · rename_i w x y
    split at h
    · subst_vars; obtain ⟨rfl, h2⟩ := keep_some h; exact ⟨rfl, h2⟩
    · cases h
  · cases h
theorem rowOf_d {r : Row} (h : r.ok = true) : rowOf r.d = some r := by
  have k : keep r = some r := if_pos h
  cases r <;> exact k
/-- the rest of a row behind its word -/
theorem NoWord.row {w : Str} {xs : List D} (h : NoWord w) : rowOf (.tuple (.str w :: xs)) = none := by
  unfold rowOf
  split
  · rename_i e
    cases e
    rw [if_neg h.h2, if_neg h.h3, if_neg h.h4, if_neg h.h5, if_neg h.h6, if_neg h.h7, if_neg h.h8]
  · rename_i e
    cases e
    rw [if_neg h.h1]
  · rfl
theorem mult_in (x : Int) : dIn (.int x) c_MULTIPLES = some (.bool (x == 2 || x == 4 || x == 8 || x == 16)) := by
  show some (PyData.bool (anyEq _ _)) = _
  unfold anyEq
  simp only [List.any_cons, List.any_nil, eqv_int, Bool.or_false]
  congr 2
  by_cases h1 : x = 2
  · subst h1; rfl
  by_cases h2 : x = 4
  · subst h2; rfl
  by_cases h3 : x = 8
  · subst h3; rfl
  by_cases h4 : x = 16
  · subst h4; rfl
  simp [h1, h2, h3, h4, Ne.symm h1, Ne.symm h2, Ne.symm h3, Ne.symm h4]
theorem cut1 (x : D) (xs : List D) : dSl (some 1) none (.tuple (x :: xs)) = some (.tuple xs) := by
  show some (PyData.tuple (RR.cutD (x :: xs) (some 1) none)) = _
  unfold RR.cutD
  have e1 : HT.sIx (x :: xs).length 0 (some 1) = 1 := by
    refine (HT.sIx_nat _ _ 1).trans ?_
    simp
  have e2 : HT.sIx (x :: xs).length (x :: xs).length none = (x :: xs).length := rfl
  rw [e1, e2]
  simp
theorem isSome_keep (r : Row) : (keep r).isSome = r.ok := by
  unfold keep
  cases r.ok <;> rfl
theorem row_shape (w : Str) (xs : List D) : rowOf (.tuple (.str w :: xs)) = none ∨ (∃ x, xs = [.int x]) ∨ ∃ x y, xs = [.int x, .int y] := by
  unfold rowOf
  split
  · rename_i e; cases e; exact .inr (.inl ⟨_, rfl⟩)
  · rename_i e; cases e; exact .inr (.inr ⟨_, _, rfl⟩)
  · exact .inl rfl
theorem withinD_int {d : D} {lo hi : Int} (h : withinD d lo hi = true) : ∃ x, d = .int x ∧ within x lo hi = true := by
  cases d with
  | int x => exact ⟨x, rfl, h⟩
  | _ => cases h
theorem within1 {xs : List D} {q : Int × Int} (h : withinAll xs [q] = true) : ∃ x, xs = [.int x] ∧ within x q.1 q.2 = true := by
  match xs, h with
  | d :: xs, h =>
    rw [withinAll, Bool.and_eq_true] at h
    obtain ⟨x, rfl, hx⟩ := withinD_int h.1
    cases xs with
    | nil => exact ⟨x, rfl, hx⟩
    | cons _ _ => cases h.2
theorem within2 {xs : List D} {q r : Int × Int} (h : withinAll xs [q, r] = true) : ∃ x y, xs = [.int x, .int y] ∧ within x q.1 q.2 = true ∧ within y r.1 r.2 = true := by
  match xs, h with
  | d :: xs, h =>
    rw [withinAll, Bool.and_eq_true] at h
    obtain ⟨x, rfl, hx⟩ := withinD_int h.1
    obtain ⟨y, rfl, hy⟩ := within1 h.2
    exact ⟨x, y, rfl, hx, hy⟩
theorem one_word {w : Str} {lo hi : Int} {f : Int → Row} (hf : ∀ x, rowOf (.tuple [.str w, .int x]) = keep (f x)) (h2 : ∀ x y, rowOf (.tuple [.str w, .int x, .int y]) = none) (hok : ∀ x, (f x).ok = within x lo hi) (xs : List D) : (rowOf (.tuple (.str w :: xs))).isSome = withinAll xs [(lo, hi)] := by
  cases hw : withinAll xs [(lo, hi)] with
  | true =>
    obtain ⟨x, rfl, h⟩ := within1 hw
    rw [hf, isSome_keep, hok, h]
  | false =>
    rcases row_shape w xs with h | ⟨x, rfl⟩ | ⟨x, y, rfl⟩
    · rw [h]; rfl
    · rw [hf, isSome_keep, hok]
      simpa [withinAll, withinD] using hw
    · rw [h2]; rfl
theorem plain_word (xs : List D) : (rowOf (.tuple (.str "plain" :: xs))).isSome = withinAll xs [(1, 99), (0, 999)] := by
  cases hw : withinAll xs [(1, 99), (0, 999)] with
  | true =>
    obtain ⟨x, y, rfl, h1, h2⟩ := within2 hw
    exact (isSome_keep (.plain x y)).trans (by rw [Row.ok, h1, h2]; rfl)
  | false =>
    rcases row_shape "plain" xs with h | ⟨x, rfl⟩ | ⟨x, y, rfl⟩
    · rw [h]; rfl
    · rfl
    · refine (isSome_keep (.plain x y)).trans ?_
      unfold withinAll withinAll withinAll withinD at hw
      rw [Bool.and_true] at hw
      exact hw
theorem v_is_row_eq (d : D) : v_is_row [d] = some (.bool (rowOf d).isSome) := by
  cases d with
  | tuple xs =>
    match xs with
    | [] => rfl
    | x :: xs =>
      have e0 : ∀ Γ : DEnv, vOp dIx (vVar 0) (vC (.int 0)) (some (.tuple (x :: xs)) :: Γ) = some x := fun Γ => (vOp_of rfl rfl).trans (ix0 _ _)
      -- the tests ahead of the table
      have step : ∀ R : Option Rs, (vSeqS (vIfS (vOr (vNot (vTest (vIsi "str" (vOp dIx (vVar 0) (vC (.int 0)))))) (vTest (vUn (kNin c_ROW_BOUNDS) (vOp dIx (vVar 0) (vC (.int 0)))))) (vRet (vC (.bool false))) vNext) (vSeqS (vIfS (vNot (vTest (vCall v_are_within (vCons (vSl (vVar 0) (vPart (vC (.int 1))) vNoPart) (vCons (vUn (kIx c_ROW_BOUNDS) (vOp dIx (vVar 0) (vC (.int 0)))) vNil))))) (vRet (vC (.bool false))) vNext) (vRet (vOrV (vOp dNe (vOp dIx (vVar 0) (vC (.int 0))) (vC (.str "align"))) (vOp dIn (vOp dIx (vVar 0) (vC (.int 1))) (vC c_MULTIPLES)))))) [some (.tuple (x :: xs))] = R →
          vb_is_row (startD ["thing"] ([PyData.tuple (x :: xs)].map some)) = R := fun R h => by
        unfold vb_is_row
        refine vSeq_nx (vIfS_f ?_ rfl) h
        refine (vOr_of (x := false) (y := false) rfl fun _ => ?_)
        refine vTest_of ?_
        refine (vOp_of (x := .int ((xs.length + 1 : Nat) : Int)) (y := .int 0) rfl rfl).trans ?_
        rw [dEq_int]
        exact congrArg (fun b => some (PyData.bool b)) (decide_eq_false (by omega))
      have es : vTest (vIsi "str" (vOp dIx (vVar 0) (vC (.int 0)))) [some (.tuple (x :: xs))] = some (isiB x "str") := vTest_of (vIsi_of (e0 []))
      cases hs : isiB x "str" with
      | false =>
        refine vFun_of rfl (step _ ?_)
        refine vSeq_rt (vIfS_t (vOr_of (x := true) (y := true) (vNot_t (es.trans (by rw [hs]))) fun h => nomatch h) ?_)
        have : rowOf (.tuple (x :: xs)) = none := by
          unfold rowOf
          split
          · rename_i e; cases e; cases hs
          · rename_i e; cases e; cases hs
          · rfl
        rw [this]; rfl
      | true =>
        obtain ⟨w, rfl⟩ : ∃ w, x = .str w := by cases x <;> first | exact ⟨_, rfl⟩ | cases hs
        have en : vTest (vUn (kNin c_ROW_BOUNDS) (vOp dIx (vVar 0) (vC (.int 0)))) [some (.tuple (.str w :: xs))] = some (!(dLook c_ROW_BOUNDS (.str w)).isSome) := vTest_of ((vUn_of (e0 [])).trans rfl)
        rcases words w with hw | n
        · have hb : ∃ qs, bnds w = some qs ∧ qs.length ≤ lim := by
            rcases hw with rfl | rfl | rfl | rfl | rfl | rfl | rfl | rfl <;> exact ⟨_, rfl, by decide⟩
          obtain ⟨qs, hq, hl⟩ := hb
          have hk : dLook c_ROW_BOUNDS (.str w) = some (.tuple (qs.map bndD)) := by rw [look_bnds, hq]; rfl
          have ew : v_are_within [.tuple xs, .tuple (qs.map bndD)] = some (.bool (withinAll xs qs)) := v_are_within_eq xs qs hl
          have ec : vTest (vCall v_are_within (vCons (vSl (vVar 0) (vPart (vC (.int 1))) vNoPart) (vCons (vUn (kIx c_ROW_BOUNDS) (vOp dIx (vVar 0) (vC (.int 0)))) vNil))) [some (.tuple (.str w :: xs))] = some (withinAll xs qs) := by
            refine vTest_of ((vCall_of (vCons_of ?_ (vCons_of ?_ rfl))).trans ew)
            · exact cut1 _ _
            · exact (vUn_of (e0 [])).trans hk
          refine vFun_of rfl (step _ ?_)
          refine vSeq_nx (vIfS_f (vOr_of (x := false) (y := false) (vNot_f (es.trans rfl)) fun _ => en.trans (by rw [hk]; rfl)) rfl) ?_
          cases hin : withinAll xs qs with
          | false =>
            refine vSeq_rt (vIfS_t (vNot_t (ec.trans (by rw [hin]))) ?_)
            have : (rowOf (.tuple (.str w :: xs))).isSome = false := by
              rcases hw with rfl | rfl | rfl | rfl | rfl | rfl | rfl | rfl <;> cases hq
              · rw [plain_word, hin]
              · rw [one_word (lo := 1) (hi := 99) (f := .stop) (fun _ => rfl) (fun _ _ => rfl) (fun _ => rfl), hin]
              · rw [one_word (lo := 0) (hi := 19) (f := .jump) (fun _ => rfl) (fun _ _ => rfl) (fun _ => rfl), hin]
              · rw [one_word (lo := 0) (hi := 19) (f := .branch) (fun _ => rfl) (fun _ _ => rfl) (fun _ => rfl), hin]
              · rw [one_word (lo := 0) (hi := 4) (f := .far) (fun _ => rfl) (fun _ _ => rfl) (fun _ => rfl), hin]
              · rw [one_word (lo := 0) (hi := 65535) (f := .load) (fun _ => rfl) (fun _ _ => rfl) (fun _ => rfl), hin]
              · rw [one_word (lo := 0) (hi := 65535) (f := .word) (fun _ => rfl) (fun _ _ => rfl) (fun _ => rfl), hin]
              · rcases row_shape "align" xs with h | ⟨x, rfl⟩ | ⟨x, y, rfl⟩
                · rw [h]; rfl
                · refine (isSome_keep (.align x)).trans ?_
                  have h3 : within x 2 16 = false := by simpa [withinAll, withinD] using hin
                  unfold Row.ok
                  unfold within at h3
                  simp only [Bool.or_eq_false_iff, beq_eq_false_iff_ne]
                  simp only [Bool.and_eq_false_iff, decide_eq_false_iff_not] at h3
                  omega
                · rfl
            rw [this]; rfl
          | true =>
            refine vSeq_nx (vIfS_f (vNot_f (ec.trans (by rw [hin]))) rfl) (vRet_of ?_)
            have ea : vOp dNe (vOp dIx (vVar 0) (vC (.int 0))) (vC (.str "align")) [some (.tuple (.str w :: xs))] = dNe (.str w) (.str "align") := vOp_of (e0 []) rfl
            rcases hw with rfl | rfl | rfl | rfl | rfl | rfl | rfl | rfl <;> cases hq
            · rw [plain_word, hin]; exact vOrV_of (x := true) (y := true) ea fun h => nomatch h
            · rw [one_word (lo := 1) (hi := 99) (f := .stop) (fun _ => rfl) (fun _ _ => rfl) (fun _ => rfl), hin]; exact vOrV_of (x := true) (y := true) ea fun h => nomatch h
            · rw [one_word (lo := 0) (hi := 19) (f := .jump) (fun _ => rfl) (fun _ _ => rfl) (fun _ => rfl), hin]; exact vOrV_of (x := true) (y := true) ea fun h => nomatch h
            · rw [one_word (lo := 0) (hi := 19) (f := .branch) (fun _ => rfl) (fun _ _ => rfl) (fun _ => rfl), hin]; exact vOrV_of (x := true) (y := true) ea fun h => nomatch h
            · rw [one_word (lo := 0) (hi := 4) (f := .far) (fun _ => rfl) (fun _ _ => rfl) (fun _ => rfl), hin]; exact vOrV_of (x := true) (y := true) ea fun h => nomatch h
            · rw [one_word (lo := 0) (hi := 65535) (f := .load) (fun _ => rfl) (fun _ _ => rfl) (fun _ => rfl), hin]; exact vOrV_of (x := true) (y := true) ea fun h => nomatch h
            · rw [one_word (lo := 0) (hi := 65535) (f := .word) (fun _ => rfl) (fun _ _ => rfl) (fun _ => rfl), hin]; exact vOrV_of (x := true) (y := true) ea fun h => nomatch h
            · obtain ⟨x, rfl, hx⟩ := within1 hin
              have := isSome_keep (.align x)
              refine (vOrV_of (x := false) (y := (Row.align x).ok) ea fun _ => ?_).trans ?_
              · exact (vOp_of ((vOp_of rfl rfl).trans (ix1 _ _ _)) rfl).trans (mult_in x)
              · exact congrArg (fun b => some (PyData.bool b)) this.symm
        · refine vFun_of rfl (step _ ?_)
          refine vSeq_rt (vIfS_t (vOr_of (x := false) (y := true) (vNot_f (es.trans rfl)) fun _ => en.trans ?_) ?_)
          · rw [look_bnds, n.bnds]; rfl
          · rw [n.row]; rfl
  | _ => rfl
end RC
end
section
namespace RC
open PySem PySem.Spec L2 RR
open PyProof.Rows hiding St
def Row.w : Row → Str
  | .plain _ _ => "plain"
  | .stop _ => "stop"
  | .jump _ => "jump"
  | .branch _ => "branch"
  | .far _ => "far"
  | .load _ => "load"
  | .word _ => "word"
  | .align _ => "align"
theorem row0 (r : Row) : dIx r.d (.int 0) = some (.str r.w) := by cases r <;> exact ix0 _ _
theorem row1 (r : Row) : dIx r.d (.int 1) = some (.int r.num) := by cases r <;> exact ix1 _ _ _
theorem w_jumps (r : Row) : dIn (.str r.w) c_JUMPS = some (.bool r.isJump) := by cases r <;> rfl
theorem w_neAlign (r : Row) : dNe (.str r.w) (.str "align") = some (.bool !r.isAlign) := by cases r <;> rfl
theorem w_neWord (r : Row) : dNe (.str r.w) (.str "word") = some (.bool !r.isWord) := by cases r <;> rfl
theorem w_eqWord (r : Row) : dEq (.str r.w) (.str "word") = some (.bool r.isWord) := by cases r <;> rfl
theorem w_eqFar (r : Row) : dEq (.str r.w) (.str "far") = some (.bool r.isFar) := by cases r <;> rfl
theorem w_goes (r : Row) : dIn (.str r.w) c_GOING_ON = some (.bool r.goesOn) := by cases r <;> rfl
theorem w_goesNot (r : Row) : dNotIn (.str r.w) c_GOING_ON = some (.bool !r.goesOn) := by cases r <;> rfl
/-- row[0], row[1] where a slot holds a row -/
theorem at0 {Γ : DEnv} {i : Nat} {r : Row} (h : vVar i Γ = some r.d) : vOp dIx (vVar i) (vC (.int 0)) Γ = some (.str r.w) := (vOp_of h rfl).trans (row0 r)
theorem at1 {Γ : DEnv} {i : Nat} {r : Row} (h : vVar i Γ = some r.d) : vOp dIx (vVar i) (vC (.int 1)) Γ = some (.int r.num) := (vOp_of h rfl).trans (row1 r)
/-- the numbers of the jumps and branches -/
def jumpIdx (p : Part) : List Nat := (p.zipIdx.filter fun q => q.1.isJump).map (·.2)
def natD (i : Nat) : D := .int (i : Int)
theorem v_jump_rows_eq (p : Part) (h : p.length ≤ lim) : v_jump_rows [pd p] = some (.list ((jumpIdx p).map natD)) := by
  refine vFun_of rfl (vRet_of ?_)
  have e : vIEn (vCons (vVar 0) vNil) (startD ["part", "number", "row"] ([pd p].map some)) = some ((p.zipIdx).map fun q => .tuple [.int (q.2 : Int), q.1.d]) := by
    refine Eq.trans ?_ (congrArg some (enumD_map Row.d p 0))
    rfl
  refine (vLc_of e (by rw [List.length_map, List.length_zipIdx]; exact h) (vcomp_filterOf _ (fun q => q.1.isJump) (fun q => natD q.2) fun q _ => ⟨_, rfl, ?_, fun _ => rfl⟩)).trans ?_
  · exact vTest_of ((vOp_of (at0 (r := q.1) rfl) rfl).trans (w_jumps q.1))
  · unfold jumpIdx
    rw [List.map_map]; rfl
def evenP (p : Part) : Bool := p.all fun r => !r.isAlign
theorem v_is_even_eq (p : Part) (h : p.length ≤ lim) : v_is_even [pd p] = some (.bool (evenP p)) := by
  refine vFun_of rfl (vRet_of ((vCl_of (vCons_of (vLc_of (ds := p.map Row.d) rfl (by rw [List.length_map]; exact h) (vcomp_mapOf _ (fun r => .bool !r.isAlign) fun r _ => ⟨_, rfl, rfl, ?_⟩)) rfl)).trans (cAll_map _ _)))
  exact (vOp_of (at0 (r := r) rfl) rfl).trans (w_neAlign r)
theorem ixP {p : Part} {i : Nat} {r : Row} (h : p[i]? = some r) : dIx (pd p) (.int (i : Int)) = some r.d := atI_nat (by rw [List.getElem?_map, h]; rfl)
def goalsOf (p : Part) : List Int := (p.filter Row.isJump).map Row.num
theorem filter_idx {α β : Type} (q : α → Bool) (f : α → β) (xs : List α) (k : Nat) : ((xs.zipIdx k).filter fun z => q z.1).map (fun z => f z.1) = (xs.filter q).map f := by
  induction xs generalizing k with
  | nil => rfl
  | cons x xs ih =>
    rw [List.zipIdx_cons, List.filter_cons, List.filter_cons]
    cases hq : q x with
    | true => rw [if_pos rfl, if_pos rfl, List.map_cons, List.map_cons, ih]
    | false => rw [if_neg (by decide), if_neg (by decide), ih]
def goalOk (p : Part) (g : Int) : Bool := match p[g.toNat]? with | some r => !r.isWord | none => false
def goalsOk (p : Part) : Bool := (goalsOf p).all (goalOk p)
theorem ok_jump {r : Row} (h : r.ok = true) (j : r.isJump = true) : 0 ≤ r.num := by
  cases r <;> first | (unfold Row.ok within at h; rw [Bool.and_eq_true] at h; exact of_decide_eq_true h.1) | cases j
theorem v_goals_stand_eq (p : Part) (h : p.length ≤ lim) (ok : p.all Row.ok = true) : v_goals_stand [pd p] = some (.bool (goalsOk p)) := by
  refine vFun_of rfl ?_
  have e1 : vLc (vISeq (vCall v_jump_rows (vCons (vVar 0) vNil))) (vgName 2) vYes (vOp dIx (vOp dIx (vVar 0) (vVar 2)) (vC (.int 1))) [2] (startD ["rows", "goals", "number", "goal"] ([pd p].map some)) = some (.list ((goalsOf p).map .int)) := by
    have hj : vISeq (vCall v_jump_rows (vCons (vVar 0) vNil)) (startD ["rows", "goals", "number", "goal"] ([pd p].map some)) = some ((p.zipIdx.filter fun q => q.1.isJump).map fun q => natD q.2) := by
      show (Option.bind (v_jump_rows [pd p]) seqD) = _
      rw [v_jump_rows_eq p h]
      unfold jumpIdx
      rw [List.map_map]; rfl
    refine (vLc_of hj ?_ (vcomp_mapOf _ (fun q => .int q.1.num) fun q hq => ⟨_, rfl, rfl, ?_⟩)).trans ?_
    · rw [List.length_map]
      exact Nat.le_trans (List.length_filter_le _ _) (by rw [List.length_zipIdx]; exact h)
    · have hm := List.mem_zipIdx_iff_getElem?.mp (List.mem_filter.mp hq).1
      exact (vOp_of ((vOp_of rfl rfl).trans (ixP hm)) rfl).trans (row1 q.1)
    · unfold goalsOf
      rw [List.map_map, ← filter_idx Row.isJump _ p 0]; rfl
  refine vSeq_nx (vSet_of e1) (vRet_of ?_)
  refine (vCl_of (vCons_of (vLc_of (ds := (goalsOf p).map .int) rfl ?_ (vcomp_mapOf _ (fun g => .bool (goalOk p g)) fun g hg => ⟨_, rfl, rfl, ?_⟩)) rfl)).trans (cAll_map _ _)
  · unfold goalsOf
    rw [List.length_map, List.length_map]
    exact Nat.le_trans (List.length_filter_le _ _) h
  · obtain ⟨r, hr, rfl⟩ := List.mem_map.mp hg
    have hr' := List.mem_filter.mp hr
    have h0 : 0 ≤ r.num := ok_jump (List.all_eq_true.mp ok r hr'.1) hr'.2
    obtain ⟨k, hk⟩ := Int.eq_ofNat_of_zero_le h0
    rw [hk]
    by_cases hlt : k < p.length
    · have hp : p[k]? = some p[k] := List.getElem?_eq_getElem hlt
      have : goalOk p (k : Int) = (true && !p[k].isWord) := by
        unfold goalOk
        rw [Int.toNat_natCast, hp]; rfl
      rw [this]
      refine vAndV_of ?_ fun _ => ?_
      · refine (vOp_of (x := .int (k : Int)) (y := .int ((p.map Row.d).length : Int)) rfl rfl).trans ?_
        rw [List.length_map]
        show some (PyData.bool (decide _)) = _
        rw [decide_eq_true (by omega)]
      · exact (vOp_of ((vOp_of ((vOp_of rfl rfl).trans (ixP hp)) rfl).trans (row0 _)) rfl).trans (w_neWord _)
    · have : goalOk p (k : Int) = false := by
        unfold goalOk
        rw [Int.toNat_natCast, List.getElem?_eq_none (by omega)]
      rw [this]
      refine vAndV_of (x := false) (y := false) ?_ fun h => nomatch h
      refine (vOp_of (x := .int (k : Int)) (y := .int ((p.map Row.d).length : Int)) rfl rfl).trans ?_
      rw [List.length_map]
      show some (PyData.bool (decide _)) = _
      rw [decide_eq_false (by omega)]
def shunned (p : Part) : Bool := match p with
  | [] => false
  | r :: rs => !r.isWord && !((r :: rs).getLast (by simp)).goesOn && ((r :: rs).zip rs).all fun z => !z.1.goesOn || !z.2.isWord
theorem ixLast {α : Type} (f : α → D) (x : α) (xs : List α) : dIx (.tuple ((x :: xs).map f)) (.int (-1)) = some (f ((x :: xs).getLast (by simp))) := by
  show atI ((x :: xs).map f) (-1) = _
  unfold atI ixN
  rw [if_neg (by decide), List.length_map, if_pos (by simp only [List.length_cons]; omega), Option.bind_some]
  have e : (((x :: xs).length : Int) + -1).toNat = xs.length := by simp only [List.length_cons]; omega
  have e2 : (-1 + ((x :: xs).length : Int)).toNat = xs.length := by simp only [List.length_cons]; omega
  first | rw [e] | rw [e2]
  rw [List.getElem?_map, List.getLast_eq_getElem]
  simp
theorem v_words_are_shunned_eq (p : Part) (h : p.length ≤ lim) (hn : p ≠ []) : v_words_are_shunned [pd p] = some (.bool (shunned p)) := by
  obtain ⟨r, rs, rfl⟩ := List.exists_cons_of_ne_nil hn
  refine vFun_of rfl ?_
  have e1 : vOp dEq (vOp dIx (vOp dIx (vVar 0) (vC (.int 0))) (vC (.int 0))) (vC (.str "word")) (startD ["rows", "row", "behind"] ([pd (r :: rs)].map some)) = some (.bool r.isWord) :=
    (vOp_of ((vOp_of ((vOp_of rfl rfl).trans (ix0 _ _)) rfl).trans (row0 r)) rfl).trans (w_eqWord r)
  have e2 : vOp dIn (vOp dIx (vOp dIx (vVar 0) (vUn dNeg (vC (.int 1)))) (vC (.int 0))) (vC c_GOING_ON) (startD ["rows", "row", "behind"] ([pd (r :: rs)].map some)) = some (.bool ((r :: rs).getLast (by simp)).goesOn) :=
    (vOp_of ((vOp_of ((vOp_of rfl rfl).trans (ixLast Row.d r rs)) rfl).trans (row0 _)) rfl).trans (w_goes _)
  have e := vOr_of (vTest_of e1) fun _ => vTest_of e2
  unfold shunned
  dsimp only
  cases hc : (r.isWord || ((r :: rs).getLast (by simp)).goesOn) with
  | true =>
    refine vSeq_rt (vIfS_t (e.trans (by rw [hc])) ?_)
    rw [← Bool.not_or, hc]; rfl
  | false =>
    refine vSeq_nx (vIfS_f (e.trans (by rw [hc])) rfl) (vRet_of ?_)
    rw [← Bool.not_or, hc]
    have z : vIZ (vCons (vVar 0) (vCons (vSl (vVar 0) (vPart (vC (.int 1))) vNoPart) vNil)) (startD ["rows", "row", "behind"] ([pd (r :: rs)].map some)) = some (((r :: rs).zip rs).map fun q => .tuple [q.1.d, q.2.d]) := by
      have c := cut1 r.d (rs.map Row.d)
      have : vCons (vVar 0) (vCons (vSl (vVar 0) (vPart (vC (.int 1))) vNoPart) vNil) (startD ["rows", "row", "behind"] ([pd (r :: rs)].map some)) = some [pd (r :: rs), .tuple (rs.map Row.d)] := vCons_of rfl (vCons_of c rfl)
      unfold vIZ
      rw [this, ← zipD_map]; rfl
    refine (vCl_of (vCons_of (vLc_of z (by rw [List.length_map, List.length_zip]; omega) (vcomp_mapOf _ (fun q => .bool (!q.1.goesOn || !q.2.isWord)) fun q _ => ⟨_, rfl, rfl, ?_⟩)) rfl)).trans (cAll_map _ _)
    exact vOrV_of ((vOp_of (at0 (r := q.1) rfl) rfl).trans (w_goesNot _)) fun _ => (vOp_of (at0 (r := q.2) rfl) rfl).trans (w_neWord _)
def rowsOf : List D → Option Part
  | [] => some []
  | d :: ds => (rowOf d).bind fun r => (rowsOf ds).bind fun rs => some (r :: rs)
theorem rowsOf_all : ∀ ds : List D, (ds.all fun d => (rowOf d).isSome) = (rowsOf ds).isSome
  | [] => rfl
  | d :: ds => by
    rw [List.all_cons, rowsOf_all ds, show rowsOf (d :: ds) = (rowOf d).bind fun r => (rowsOf ds).bind fun rs => some (r :: rs) from rfl]
    cases rowOf d with
    | none => rfl
    | some r => cases rowsOf ds <;> rfl
theorem rowsOf_some : ∀ {ds : List D} {p : Part}, rowsOf ds = some p → ds = p.map Row.d ∧ p.all Row.ok = true
  | [], p, h => by cases h; exact ⟨rfl, rfl⟩
  | d :: ds, p, h => by
    obtain ⟨r, h1, h⟩ := bnd h
    obtain ⟨rs, h2, h⟩ := bnd h
    cases h
    obtain ⟨rfl, h3⟩ := rowOf_some h1
    obtain ⟨rfl, h4⟩ := rowsOf_some h2
    exact ⟨rfl, by rw [List.all_cons, h3, h4]; rfl⟩
theorem rowsOf_d : ∀ {p : Part}, p.all Row.ok = true → rowsOf (p.map Row.d) = some p
  | [], _ => rfl
  | r :: rs, h => by
    rw [List.all_cons, Bool.and_eq_true] at h
    rw [List.map_cons]
    unfold rowsOf
    rw [rowOf_d h.1, Option.bind_some, rowsOf_d h.2]; rfl
def restOk (p : Part) : Bool := (evenP p || decide ((p.filter Row.isJump).length ≤ 6)) && (goalsOk p && shunned p)
def lenOk (n m : Nat) : Bool := decide (1 ≤ n) && decide (n ≤ m)
def partOf : D → Option Part
  | .tuple ds => if lenOk ds.length 20 = true then (rowsOf ds).bind fun p => if restOk p = true then some p else none else none
  | _ => none
def partOk (p : Part) : Bool := lenOk p.length 20 && p.all Row.ok && restOk p
theorem partOf_some {d : D} {p : Part} (h : partOf d = some p) : d = pd p ∧ partOk p = true := by
  unfold partOf at h
  split at h
  · split at h
    · obtain ⟨q, h1, h⟩ := bnd h
      obtain ⟨h2, rfl⟩ := ifs h
      obtain ⟨rfl, h3⟩ := rowsOf_some h1
      refine ⟨rfl, ?_⟩
      rename_i hl
      rw [List.length_map] at hl
      unfold partOk
      rw [hl, h2, h3]; rfl
    · cases h
  · cases h
theorem partOf_d {p : Part} (h : partOk p = true) : partOf (pd p) = some p := by
  unfold partOk at h
  rw [Bool.and_eq_true, Bool.and_eq_true] at h
  unfold partOf pd
  dsimp only
  rw [List.length_map, if_pos h.1.1, rowsOf_d h.1.2, Option.bind_some, if_pos h.2]
theorem jumpIdx_len (p : Part) : (jumpIdx p).length = (p.filter Row.isJump).length := by
  unfold jumpIdx
  rw [List.length_map]
  have := congrArg List.length (filter_idx Row.isJump (fun r => r) p 0)
  rwa [List.length_map, List.length_map] at this
theorem chain_len {Γ : DEnv} {a : VE} {n m : Nat} {c : D} (h : a Γ = some (.int (n : Int))) (hc : c = .int (m : Int)) : vTest (vChain dLe dLe (vC (.int 1)) a (vC c)) Γ = some (lenOk n m) := by
  refine vTest_of ?_
  unfold vChain
  rw [show vC (.int 1) Γ = some (.int 1) from rfl, Option.bind_some, h, Option.bind_some]
  subst hc
  show Option.bind (some (PyData.bool (decide ((1 : Int) ≤ n)))) _ = _
  rw [Option.bind_some]
  show (if decide ((1 : Int) ≤ n) = true then some (PyData.bool (decide ((n : Int) ≤ m))) else some (.bool false)) = _
  unfold lenOk
  have e1 : decide ((1 : Int) ≤ n) = decide (1 ≤ n) := decide_eq_decide.mpr (by omega)
  have e2 : decide ((n : Int) ≤ m) = decide (n ≤ m) := decide_eq_decide.mpr (by omega)
  rw [e1, e2]
  cases decide (1 ≤ n) <;> rfl
theorem v_is_part_eq (d : D) : v_is_part [d] = some (.bool (partOf d).isSome) := by
  cases d with
  | tuple ds =>
    refine vFun_of rfl ?_
    have ec : vTest (vChain dLe dLe (vC (.int 1)) (vCl cLen (vCons (vVar 0) vNil)) (vC c_MOST_ROWS)) (startD ["thing", "row"] ([PyData.tuple ds].map some)) = some (lenOk ds.length 20) := chain_len rfl rfl
    unfold partOf
    dsimp only
    cases hl : lenOk ds.length 20 with
    | false => exact vSeq_rt (vIfS_t (vOr_of (x := false) (y := true) rfl fun _ => vNot_t (ec.trans (by rw [hl]))) rfl)
    | true =>
      have hlen : ds.length ≤ lim := by
        unfold lenOk at hl
        rw [Bool.and_eq_true, decide_eq_true_eq, decide_eq_true_eq] at hl
        exact Nat.le_trans hl.2 (by decide)
      refine vSeq_nx (vIfS_f (vOr_of (x := false) (y := false) rfl fun _ => vNot_f (ec.trans (by rw [hl]))) rfl) ?_
      have er : vTest (vCl cAll (vCons (vLc (vISeq (vVar 0)) (vgName 1) vYes (vCall v_is_row (vCons (vVar 1) vNil)) [1]) vNil)) (startD ["thing", "row"] ([PyData.tuple ds].map some)) = some (rowsOf ds).isSome := by
        rw [← rowsOf_all]
        refine vTest_of ((vCl_of (vCons_of (vLc_of (ds := ds) rfl hlen ?_) rfl)).trans (cAll_map _ _))
        have := vcomp_mapOf (g := vgName 1) (t := vYes) (e := vCall v_is_row (vCons (vVar 1) vNil)) (Γ := wipeD (startD ["thing", "row"] ([PyData.tuple ds].map some)) [1]) (xs := ds) (fun d => d) (fun d => .bool (rowOf d).isSome) fun d _ => ⟨_, rfl, rfl, (vCall_of rfl).trans (v_is_row_eq d)⟩
        rwa [List.map_id'] at this
      cases hr : rowsOf ds with
      | none => exact vSeq_rt (vIfS_t (vNot_t (er.trans (by rw [hr]; rfl))) rfl)
      | some p =>
        refine vSeq_nx (vIfS_f (vNot_f (er.trans (by rw [hr]; rfl))) rfl) ?_
        obtain ⟨rfl, hok⟩ := rowsOf_some hr
        rw [if_pos rfl, Option.bind_some]
        rw [List.length_map] at hlen hl
        have hne : p ≠ [] := fun z => by subst z; cases hl
        have ee : vNot (vTest (vCall v_is_even (vCons (vVar 0) vNil))) (startD ["thing", "row"] ([pd p].map some)) = some !(evenP p) := vNot_of (vTest_of ((vCall_of rfl).trans (v_is_even_eq p hlen)))
        have ej : vTest (vOp dGt (vCl cLen (vCons (vCall v_jump_rows (vCons (vVar 0) vNil)) vNil)) (vC c_MOST_JUMPS_BESIDE_ALIGN)) (startD ["thing", "row"] ([pd p].map some)) = some (!decide ((p.filter Row.isJump).length ≤ 6)) := by
          refine vTest_of ((vOp_of ((vCl_of (vCons_of ((vCall_of rfl).trans (v_jump_rows_eq p hlen)) rfl)).trans rfl) rfl).trans ?_)
          rw [List.length_map, jumpIdx_len]
          show some (PyData.bool (decide ((6 : Int) < _))) = _
          congr 2
          rw [← decide_not]
          exact decide_eq_decide.mpr (by omega)
        have eb := vAnd_of ee fun _ => ej
        unfold restOk
        cases hb : (evenP p || decide ((p.filter Row.isJump).length ≤ 6)) with
        | false =>
          rw [← Bool.not_or, hb] at eb
          exact vSeq_rt (vIfS_t eb rfl)
        | true =>
          rw [← Bool.not_or, hb] at eb
          refine vSeq_nx (vIfS_f eb rfl) (vRet_of ?_)
          refine (vAndV_of ((vCall_of rfl).trans (v_goals_stand_eq p hlen hok)) fun _ => (vCall_of rfl).trans (v_words_are_shunned_eq p hlen hne)).trans ?_
          rw [Bool.true_and]
          cases goalsOk p && shunned p <;> rfl
  | _ => rfl
def farGoals (p : Part) : List Int := (p.filter Row.isFar).map Row.num
theorem v_far_goals_eq (p : Part) (h : p.length ≤ lim) : v_far_goals [pd p] = some (.list ((farGoals p).map .int)) := by
  refine vFun_of rfl (vRet_of ?_)
  refine (vLc_of (ds := p.map Row.d) rfl (by rw [List.length_map]; exact h) (vcomp_filterOf _ Row.isFar (fun r => .int r.num) fun r _ => ⟨_, rfl, ?_, fun _ => ?_⟩)).trans ?_
  · exact vTest_of ((vOp_of (at0 (r := r) rfl) rfl).trans (w_eqFar r))
  · exact at1 (r := r) rfl
  · unfold farGoals
    rw [List.map_map]; rfl
def partsOf : List D → Option Book
  | [] => some []
  | d :: ds => (partOf d).bind fun r => (partsOf ds).bind fun rs => some (r :: rs)
theorem partsOf_all : ∀ ds : List D, (ds.all fun d => (partOf d).isSome) = (partsOf ds).isSome
  | [] => rfl
  | d :: ds => by
    rw [List.all_cons, partsOf_all ds, show partsOf (d :: ds) = (partOf d).bind fun r => (partsOf ds).bind fun rs => some (r :: rs) from rfl]
    cases partOf d with
    | none => rfl
    | some r => cases partsOf ds <;> rfl
theorem partsOf_some : ∀ {ds : List D} {b : Book}, partsOf ds = some b → ds = b.map pd ∧ b.all partOk = true
  | [], p, h => by cases h; exact ⟨rfl, rfl⟩
  | d :: ds, p, h => by
    obtain ⟨r, h1, h⟩ := bnd h
    obtain ⟨rs, h2, h⟩ := bnd h
    cases h
    obtain ⟨rfl, h3⟩ := partOf_some h1
    obtain ⟨rfl, h4⟩ := partsOf_some h2
    exact ⟨rfl, by rw [List.all_cons, h3, h4]; rfl⟩
theorem partsOf_d : ∀ {b : Book}, b.all partOk = true → partsOf (b.map pd) = some b
  | [], _ => rfl
  | r :: rs, h => by
    rw [List.all_cons, Bool.and_eq_true] at h
    rw [List.map_cons]
    unfold partsOf
    rw [partOf_d h.1, Option.bind_some, partsOf_d h.2]; rfl
def farsOk (b : Book) : Bool := b.all fun p => (farGoals p).all fun g => decide (g < b.length)
def bookOf : D → Option Book
  | .tuple ds => if lenOk ds.length 5 = true then (partsOf ds).bind fun b => if farsOk b = true then some b else none else none
  | _ => none
def bookOk (b : Book) : Bool := lenOk b.length 5 && b.all partOk && farsOk b
theorem bookOf_d {b : Book} (h : bookOk b = true) : bookOf (bd b) = some b := by
  unfold bookOk at h
  rw [Bool.and_eq_true, Bool.and_eq_true] at h
  unfold bookOf bd
  dsimp only
  rw [List.length_map, if_pos h.1.1, partsOf_d h.1.2, Option.bind_some, if_pos h.2]
theorem lenOk_le {n m : Nat} (h : lenOk n m = true) : 1 ≤ n ∧ n ≤ m := by
  unfold lenOk at h
  rw [Bool.and_eq_true, decide_eq_true_eq, decide_eq_true_eq] at h
  exact h
theorem partOk_len {p : Part} (h : partOk p = true) : 1 ≤ p.length ∧ p.length ≤ 20 := by
  unfold partOk at h
  rw [Bool.and_eq_true, Bool.and_eq_true] at h
  exact lenOk_le h.1.1
theorem partOk_rows {p : Part} (h : partOk p = true) : p.all Row.ok = true := by
  unfold partOk at h
  rw [Bool.and_eq_true, Bool.and_eq_true] at h
  exact h.1.2
theorem farGoals_len (p : Part) : (farGoals p).length ≤ p.length := by
  unfold farGoals
  rw [List.length_map]
  exact List.length_filter_le _ _
theorem flat_len {α β : Type} (f : α → List β) (m : Nat) : ∀ xs : List α, (∀ x ∈ xs, (f x).length ≤ m) → (xs.flatMap f).length ≤ xs.length * m
  | [], _ => by simp
  | x :: xs, h => by
    have := flat_len f m xs fun y hy => h y (List.mem_cons_of_mem _ hy)
    have h1 := h x (List.mem_cons_self ..)
    rw [List.flatMap_cons, List.length_append, List.length_cons, Nat.add_mul]
    omega
theorem v_is_book_eq (d : D) : v_is_book [d] = some (.bool (bookOf d).isSome) := by
  cases d with
  | tuple ds =>
    refine vFun_of rfl ?_
    have ec : vTest (vChain dLe dLe (vC (.int 1)) (vCl cLen (vCons (vVar 0) vNil)) (vC c_MOST_PARTS)) (startD ["thing", "part", "goal"] ([PyData.tuple ds].map some)) = some (lenOk ds.length 5) := chain_len rfl rfl
    unfold bookOf
    dsimp only
    cases hl : lenOk ds.length 5 with
    | false => exact vSeq_rt (vIfS_t (vOr_of (x := false) (y := true) rfl fun _ => vNot_t (ec.trans (by rw [hl]))) rfl)
    | true =>
      have hlen := lenOk_le hl
      refine vSeq_nx (vIfS_f (vOr_of (x := false) (y := false) rfl fun _ => vNot_f (ec.trans (by rw [hl]))) rfl) ?_
      have er : vTest (vCl cAll (vCons (vLc (vISeq (vVar 0)) (vgName 1) vYes (vCall v_is_part (vCons (vVar 1) vNil)) [1]) vNil)) (startD ["thing", "part", "goal"] ([PyData.tuple ds].map some)) = some (partsOf ds).isSome := by
        rw [← partsOf_all]
        refine vTest_of ((vCl_of (vCons_of (vLc_of (ds := ds) rfl (Nat.le_trans hlen.2 (by decide)) ?_) rfl)).trans (cAll_map _ _))
        have := vcomp_mapOf (g := vgName 1) (t := vYes) (e := vCall v_is_part (vCons (vVar 1) vNil)) (Γ := wipeD (startD ["thing", "part", "goal"] ([PyData.tuple ds].map some)) [1]) (xs := ds) (fun d => d) (fun d => .bool (partOf d).isSome) fun d _ => ⟨_, rfl, rfl, (vCall_of rfl).trans (v_is_part_eq d)⟩
        rwa [List.map_id'] at this
      cases hr : partsOf ds with
      | none => exact vSeq_rt (vIfS_t (vNot_t (er.trans (by rw [hr]; rfl))) rfl)
      | some b =>
        refine vSeq_nx (vIfS_f (vNot_f (er.trans (by rw [hr]; rfl))) rfl) ?_
        obtain ⟨rfl, hok⟩ := partsOf_some hr
        rw [if_pos rfl, Option.bind_some]
        rw [List.length_map] at hlen
        have hp : ∀ p ∈ b, p.length ≤ 20 := fun p hp => (partOk_len (List.all_eq_true.mp hok p hp)).2
        have hfl : (b.flatMap farGoals).length ≤ 100 := by
          have := flat_len farGoals 20 b fun p h => Nat.le_trans (farGoals_len p) (hp p h)
          have : b.length * 20 ≤ 5 * 20 := Nat.mul_le_mul_right 20 hlen.2
          omega
        have ef : vLc2 (vISeq (vVar 0)) (vgName 1) vYes (vISeq (vCall v_far_goals (vCons (vVar 1) vNil))) (vgName 2) vYes (vOp dLt (vVar 2) (vCl cLen (vCons (vVar 0) vNil))) [1, 2] [2] (startD ["thing", "part", "goal"] ([bd b].map some)) = some (.list (b.flatMap fun p => (farGoals p).map fun g => .bool (decide (g < (b.length : Int))))) := by
          refine vLc2_of (ds := b.map pd) rfl ((vcompO_mapOf pd farGoals .int (fun _ g => .bool (decide (g < (b.length : Int)))) b [] (fun p hpb => ⟨_, rfl, rfl, ?_, fun g _ => ⟨_, rfl, rfl, ?_⟩⟩) (by rw [List.length_nil]; exact Nat.le_trans (by omega) (show 100 ≤ lim by decide))).trans rfl)
          · show Option.bind (v_far_goals [pd p]) seqD = _
            rw [v_far_goals_eq p (Nat.le_trans (hp p hpb) (by decide))]; rfl
          · refine (vOp_of (x := .int g) (y := .int ((b.map pd).length : Int)) rfl rfl).trans ?_
            rw [List.length_map]; rfl
        show vRet _ (startD ["thing", "part", "goal"] ([bd b].map some)) = _
        refine (vRet_of ((vCl_of (vCons_of ef rfl)).trans (cAll_flat _ _ _))).trans ?_
        show some (Rs.rt (.bool (farsOk b))) = _
        cases farsOk b <;> rfl
  | _ => rfl
end RC
end
section
namespace RC
open PySem PySem.Spec L2 RR
open PyProof.Rows hiding St
structure Mach where
  sh : Int
  re : Int
  lo : Int
  fa : Int
  le : Int
  ld : Int
  sp : Int
  wo : Int
def md (m : Mach) : D := .tuple [.int m.sh, .int m.re, .int m.lo, .int m.fa, .int m.le, .int m.ld, .int m.sp, .int m.wo]
def machB : List (Int × Int) := [(1, 9), (0, 999), (2, 20), (1, 20), (0, 9999), (1, 9), (0, 999), (1, 16)]
def machIn (m : Mach) : Bool := within m.sh 1 9 && (within m.re 0 999 && (within m.lo 2 20 && (within m.fa 1 20 && (within m.le 0 9999 && (within m.ld 1 9 && (within m.sp 0 999 && within m.wo 1 16))))))
def machOk (m : Mach) : Bool := machIn m && decide (m.sh < m.lo)
def machOf : D → Option Mach
  | .tuple [.int a, .int b, .int c, .int d, .int e, .int f, .int g, .int h] => if machOk ⟨a, b, c, d, e, f, g, h⟩ = true then some ⟨a, b, c, d, e, f, g, h⟩ else none
  | _ => none
theorem machOf_d {m : Mach} (h : machOk m = true) : machOf (md m) = some m := if_pos h
theorem withinAll_cons {d : D} {ds : List D} {q : Int × Int} {qs : List (Int × Int)} (h : withinAll (d :: ds) (q :: qs) = true) : ∃ x, d = .int x ∧ within x q.1 q.2 = true ∧ withinAll ds qs = true := by
  rw [withinAll, Bool.and_eq_true] at h
  obtain ⟨x, rfl, hx⟩ := withinD_int h.1
  exact ⟨x, rfl, hx, h.2⟩
theorem withinAll_ne {qs : List (Int × Int)} {q : Int × Int} {ds : List D} (h : withinAll ds (q :: qs) = true) : ∃ d es, ds = d :: es := by
  cases ds with
  | nil => cases h
  | cons d es => exact ⟨d, es, rfl⟩
theorem mach_of_in {ds : List D} (h : withinAll ds machB = true) : ∃ m : Mach, ds = [.int m.sh, .int m.re, .int m.lo, .int m.fa, .int m.le, .int m.ld, .int m.sp, .int m.wo] ∧ machIn m = true := by
  unfold machB at h
  obtain ⟨_, _, rfl⟩ := withinAll_ne h
  obtain ⟨a, rfl, ha, h⟩ := withinAll_cons h
  obtain ⟨_, _, rfl⟩ := withinAll_ne h
  obtain ⟨b, rfl, hb, h⟩ := withinAll_cons h
  obtain ⟨_, _, rfl⟩ := withinAll_ne h
  obtain ⟨c, rfl, hc, h⟩ := withinAll_cons h
  obtain ⟨_, _, rfl⟩ := withinAll_ne h
  obtain ⟨d, rfl, hd, h⟩ := withinAll_cons h
  obtain ⟨_, _, rfl⟩ := withinAll_ne h
  obtain ⟨e, rfl, he, h⟩ := withinAll_cons h
  obtain ⟨_, _, rfl⟩ := withinAll_ne h
  obtain ⟨f, rfl, hf, h⟩ := withinAll_cons h
  obtain ⟨_, _, rfl⟩ := withinAll_ne h
  obtain ⟨g, rfl, hg, h⟩ := withinAll_cons h
  obtain ⟨_, es, rfl⟩ := withinAll_ne h
  obtain ⟨i, rfl, hi, h⟩ := withinAll_cons h
  match es, h with
  | [], _ =>
    refine ⟨⟨a, b, c, d, e, f, g, i⟩, rfl, ?_⟩
    unfold machIn
    dsimp only at ha hb hc hd he hf hg hi ⊢
    rw [ha, hb, hc, hd, he, hf, hg, hi]; rfl
theorem withinAll_m (m : Mach) : withinAll [.int m.sh, .int m.re, .int m.lo, .int m.fa, .int m.le, .int m.ld, .int m.sp, .int m.wo] machB = machIn m := by
  unfold machB machIn
  simp only [withinAll, withinD, Bool.and_true]
theorem m_ix0 (m : Mach) : dIx (md m) (.int 0) = some (.int m.sh) := atI_nat (j := 0) rfl
theorem m_ix1 (m : Mach) : dIx (md m) (.int 1) = some (.int m.re) := atI_nat (j := 1) rfl
theorem m_ix2 (m : Mach) : dIx (md m) (.int 2) = some (.int m.lo) := atI_nat (j := 2) rfl
theorem v_is_machine_eq (d : D) : v_is_machine [d] = some (.bool (machOf d).isSome) := by
  cases d with
  | tuple ds =>
    have e : vNot (vTest (vCall v_are_within (vCons (vVar 0) (vCons (vC c_MACHINE_BOUNDS) vNil)))) (startD ["thing"] ([PyData.tuple ds].map some)) = some (!withinAll ds machB) :=
      vNot_of (vTest_of ((vCall_of rfl).trans (v_are_within_eq ds machB (by decide))))
    refine vFun_of rfl ?_
    cases h : withinAll ds machB with
    | false =>
      rw [h] at e
      refine vSeq_rt (vIfS_t (vOr_of (x := false) (y := true) rfl fun _ => e) ?_)
      have : machOf (.tuple ds) = none := by
        unfold machOf
        split
        · rename_i a b c d e9 f g i heq
          cases heq
          rw [if_neg]
          intro hk
          unfold machOk at hk
          rw [Bool.and_eq_true] at hk
          have := withinAll_m ⟨a, b, c, d, e9, f, g, i⟩
          rw [hk.1] at this
          dsimp only at this
          rw [h] at this
          cases this
        · rfl
      rw [this]; rfl
    | true =>
      rw [h] at e
      refine vSeq_nx (vIfS_f (vOr_of (x := false) (y := false) rfl fun _ => e) rfl) ?_
      obtain ⟨m, rfl, hm⟩ := mach_of_in h
      have e2 : vOp dLt (vOp dIx (vVar 0) (vC c_SHORT)) (vOp dIx (vVar 0) (vC c_LONG)) (startD ["thing"] ([md m].map some)) = some (.bool (decide (m.sh < m.lo))) :=
        (vOp_of ((vOp_of rfl rfl).trans (m_ix0 m)) ((vOp_of rfl rfl).trans (m_ix2 m))).trans rfl
      refine (vRet_of e2).trans ?_
      show some (Rs.rt (.bool (decide (m.sh < m.lo)))) = some (Rs.rt (.bool (machOf (md m)).isSome))
      unfold machOf md
      dsimp only
      unfold machOk
      rw [hm]
      cases decide (m.sh < m.lo) <;> rfl
  | _ => rfl
theorem v_check_machine_ok {m : Mach} (h : machOk m = true) : v_check_machine [md m] = some .none := by
  refine vFun_nx (Γ := startD ["machine"] ([md m].map some)) rfl ?_
  have e : v_is_machine [md m] = some (.bool true) := (v_is_machine_eq _).trans (by rw [machOf_d h]; rfl)
  exact vIfS_f (vNot_f (vTest_of ((vCall_of rfl).trans e))) rfl
def rowSize (r : Row) (m : Mach) (a : Int) (sh : Bool) : Int := match r with
  | .jump _ => if sh = true then m.sh else m.lo
  | .branch _ => if sh = true then m.sh else m.lo
  | .far _ => m.fa
  | .load _ => m.ld
  | .word _ => m.wo
  | .align n => -a % n
  | .plain s _ => s
  | .stop s => s
theorem v_row_size_eq (r : Row) (m : Mach) (a : Int) (sh : Bool) (ok : r.ok = true) : v_row_size [r.d, md m, .int a, .bool sh] = some (.int (rowSize r m a sh)) := by
  cases r with
  | align n =>
    have hn : 0 < n := by
      unfold Row.ok at ok
      simp only [Bool.or_eq_true, beq_iff_eq] at ok
      omega
    refine vFun_of rfl ?_
    refine vSeq_nx rfl (vSeq_nx rfl (vSeq_nx rfl (vSeq_nx rfl (vSeq_rt (vIfS_t rfl (vRet_of ?_))))))
    refine (vOp_of (x := .int (-a)) (y := .int n) rfl rfl).trans ?_
    exact if_pos hn
  | jump k => cases sh <;> rfl
  | branch k => cases sh <;> rfl
  | _ => rfl
def addrs (m : Mach) (forms : List Nat) : Part → Nat → Int → List Int
  | [], _, a => [a]
  | r :: rs, k, a => a :: addrs m forms rs (k + 1) (a + rowSize r m a (forms.contains k))
theorem addrs_len (m : Mach) (forms : List Nat) : ∀ (p : Part) (k : Nat) (a : Int), (addrs m forms p k a).length = p.length + 1
  | [], _, _ => rfl
  | r :: rs, k, a => by rw [addrs, List.length_cons, addrs_len m forms rs, List.length_cons]
theorem shaped_int (x : Int) : SeqAt.shaped (.int x) = true := by
  unfold SeqAt.shaped
  simp [PyData.canLay0, PyData.depth]
theorem shaped_ints : ∀ ns : List Int, PyData.canLayAll0 (ns.map .int) = true ∧ PyData.depthAll (ns.map .int) = 0
  | [] => ⟨by simp only [List.map_nil, PyData.canLayAll0], by simp [PyData.depthAll]⟩
  | n :: ns => by
    obtain ⟨h1, h2⟩ := shaped_ints ns
    refine ⟨?_, ?_⟩
    · rw [List.map_cons, PyData.canLayAll0, h1]
      simp [PyData.canLay0]
    · rw [List.map_cons, PyData.depthAll, h2]
      simp [PyData.depth]
theorem shaped_lst (ns : List Int) : SeqAt.shaped (.list (ns.map .int)) = true := by
  obtain ⟨h1, h2⟩ := shaped_ints ns
  unfold SeqAt.shaped
  rw [PyData.canLay0, PyData.depth, h1, h2]; rfl
theorem nat_ints (xs : List Nat) : xs.map natD = (xs.map fun i : Nat => (i : Int)).map .int := by rw [List.map_map]; rfl
theorem anyEq_nat (k : Nat) : ∀ xs : List Nat, anyEq (natD k) (xs.map natD) = xs.contains k
  | [] => rfl
  | x :: xs => by
    have h := anyEq_nat k xs
    unfold anyEq at h ⊢
    rw [List.map_cons, List.any_cons, h, List.contains_cons]
    congr 1
    unfold natD
    rw [eqv_int]
    by_cases e : x = k
    · subst e; simp
    · rw [decide_eq_false (by omega)]
      simp [Ne.symm e]
theorem dIn_nat (k : Nat) (xs : List Nat) : dIn (natD k) (.list (xs.map natD)) = some (.bool (xs.contains k)) := by
  show (if SeqAt.shaped (natD k) = true ∧ SeqAt.shaped (.list (xs.map natD)) = true then some (PyData.bool (anyEq (natD k) (xs.map natD))) else none) = _
  rw [if_pos ⟨shaped_int _, by rw [nat_ints]; exact shaped_lst _⟩, anyEq_nat]
theorem ixEnd {α : Type} (f : α → D) (xs : List α) (a : α) : dIx (.list ((xs ++ [a]).map f)) (.int (-1)) = some (f a) := by
  show atI ((xs ++ [a]).map f) (-1) = _
  unfold atI ixN
  rw [if_neg (by decide), List.length_map, List.length_append, List.length_singleton, if_pos (by omega), Option.bind_some]
  have e : ((xs.length + 1 : Nat) + -1 : Int).toNat = xs.length := by omega
  have e2 : (-1 + ((xs.length + 1 : Nat) : Int)).toNat = xs.length := by omega
  first | rw [e] | rw [e2]
  rw [List.getElem?_map]
  simp
def adE (p : Part) (m : Mach) (forms : List Nat) (acc : List Int) (x4 x5 x6 : Option D) : DEnv := [some (pd p), some (md m), some (.list (forms.map natD)), some (.list (acc.map .int)), x4, x5, x6]
theorem adE_loop (p : Part) (m : Mach) (forms : List Nat) : ∀ (rs : Part) (k : Nat) (acc : List Int) (a : Int) (x4 x5 x6 : Option D), rs.all Row.ok = true → acc.length + rs.length < 1000 →
    ∃ y4 y5 y6, vfor (vgTup 2 (vgCons (vgName 4) (vgCons (vgName 5) vgNil))) (vSeqS (vSet 6 (vLook (vOp dIx (vVar 3) (vUn dNeg (vC (.int 1)))))) (vAppend 3 (vOp dAdd (vVar 6) (vCall v_row_size (vCons (vVar 5) (vCons (vVar 1) (vCons (vVar 6) (vCons (vOp dIn (vVar 4) (vVar 2)) vNil))))))))
      ((rs.zipIdx k).map fun q => .tuple [.int (q.2 : Int), q.1.d]) (adE p m forms (acc ++ [a]) x4 x5 x6) = some (.nx (adE p m forms (acc ++ addrs m forms rs k a) y4 y5 y6))
  | [], k, acc, a, x4, x5, x6, _, _ => ⟨x4, x5, x6, rfl⟩
  | r :: rs, k, acc, a, x4, x5, x6, ok, hl => by
    rw [List.all_cons, Bool.and_eq_true] at ok
    rw [List.length_cons] at hl
    obtain ⟨y4, y5, y6, ih⟩ := adE_loop p m forms rs (k + 1) (acc ++ [a]) (a + rowSize r m a (forms.contains k)) (some (natD k)) (some r.d) (some (.int a)) ok.2 (by rw [List.length_append, List.length_singleton]; omega)
    refine ⟨y4, y5, y6, ?_⟩
    rw [List.zipIdx_cons, List.map_cons]
    unfold vfor
    have e1 : vgTup 2 (vgCons (vgName 4) (vgCons (vgName 5) vgNil)) (.tuple [.int ((r, k).2 : Int), (r, k).1.d]) (adE p m forms (acc ++ [a]) x4 x5 x6) = some (adE p m forms (acc ++ [a]) (some (natD k)) (some r.d) x6) := rfl
    have e2 : vLook (vOp dIx (vVar 3) (vUn dNeg (vC (.int 1)))) (adE p m forms (acc ++ [a]) (some (natD k)) (some r.d) x6) = some (.int a) := by
      have : dIx (.list ((acc ++ [a]).map .int)) (.int (-1)) = some (.int a) := ixEnd PyData.int acc a
      unfold vLook
      rw [show vOp dIx (vVar 3) (vUn dNeg (vC (.int 1))) (adE p m forms (acc ++ [a]) (some (natD k)) (some r.d) x6) = some (.int a) from (vOp_of rfl rfl).trans this]; rfl
    have e3 : vAppend 3 (vOp dAdd (vVar 6) (vCall v_row_size (vCons (vVar 5) (vCons (vVar 1) (vCons (vVar 6) (vCons (vOp dIn (vVar 4) (vVar 2)) vNil)))))) (adE p m forms (acc ++ [a]) (some (natD k)) (some r.d) (some (.int a))) =
        some (.nx (adE p m forms (acc ++ [a] ++ [a + rowSize r m a (forms.contains k)]) (some (natD k)) (some r.d) (some (.int a)))) := by
      have e4 : vOp dAdd (vVar 6) (vCall v_row_size (vCons (vVar 5) (vCons (vVar 1) (vCons (vVar 6) (vCons (vOp dIn (vVar 4) (vVar 2)) vNil))))) (adE p m forms (acc ++ [a]) (some (natD k)) (some r.d) (some (.int a))) = some (.int (a + rowSize r m a (forms.contains k))) :=
        (vOp_of rfl ((vCall_of (vCons_of rfl (vCons_of rfl (vCons_of rfl (vCons_of ((vOp_of rfl rfl).trans (dIn_nat k forms)) rfl))))).trans (v_row_size_eq r m a _ ok.1))).trans rfl
      unfold vAppend
      rw [show vVar 3 (adE p m forms (acc ++ [a]) (some (natD k)) (some r.d) (some (.int a))) = some (.list ((acc ++ [a]).map .int)) from rfl, Option.bind_some]
      show Option.bind (some ((acc ++ [a]).map PyData.int)) _ = _
      rw [Option.bind_some, e4, Option.bind_some, if_pos (by rw [List.length_map, List.length_append, List.length_singleton]; exact Nat.lt_of_lt_of_le (show acc.length + 1 < 1001 by omega) (by decide))]
      unfold adE
      rw [List.map_append (l₁ := acc ++ [a])]; rfl
    rw [e1, Option.bind_some, show vSeqS _ _ (adE p m forms (acc ++ [a]) (some (natD k)) (some r.d) x6) = _ from vSeq_nx (vSet_of e2) e3, Option.bind_some]
    refine ih.trans ?_
    rw [addrs, List.append_assoc]; rfl
theorem v_addresses_of_eq (p : Part) (m : Mach) (forms : List Nat) (ok : p.all Row.ok = true) (hl : p.length ≤ 900) : v_addresses_of [pd p, md m, .list (forms.map natD)] = some (.list ((addrs m forms p 0 0).map .int)) := by
  refine vFun_of rfl ?_
  obtain ⟨y4, y5, y6, h⟩ := adE_loop p m forms p 0 [] 0 none none none ok (by rw [List.length_nil]; omega)
  refine vSeq_nx (Γ1 := adE p m forms ([] ++ [0]) none none none) rfl (vSeq_nx (Γ1 := adE p m forms ([] ++ addrs m forms p 0 0) y4 y5 y6) ?_ rfl)
  refine Eq.trans ?_ h
  unfold vFor
  rw [show vIEn (vCons (vVar 0) vNil) (adE p m forms ([] ++ [0]) none none none) = some ((p.zipIdx).map fun q => .tuple [.int (q.2 : Int), q.1.d]) from (congrArg some (enumD_map Row.d p 0))]
  rfl
end RC
end
section
namespace RC
open PySem PySem.Spec L2 RR
open PyProof.Rows hiding St
def At (b : Book) (i k : Nat) (r : Row) : Prop := ∃ p, b[i]? = some p ∧ p[k]? = some r
/-- numbers of rows are not negative -/
theorem num_nat {r : Row} (h : r.ok = true) : 0 ≤ r.num := by
  cases r <;> unfold Row.ok within at h <;> simp only [Bool.and_eq_true, Bool.or_eq_true, decide_eq_true_eq, beq_iff_eq] at h <;> unfold Row.num <;> dsimp only <;> omega
def rowAt (b : Book) (i k : Nat) : Option Row := (b[i]?).bind fun p => p[k]?
theorem At.row {b : Book} {i k : Nat} {r : Row} (h : At b i k r) : rowAt b i k = some r := by
  obtain ⟨p, h1, h2⟩ := h
  unfold rowAt
  rw [h1, Option.bind_some, h2]
structure PartFacts (p : Part) : Prop where
  rows : ∀ (k : Nat) (r : Row), p[k]? = some r → r.ok = true
  goals : ∀ (k : Nat) (r : Row), p[k]? = some r → r.isJump = true → ∃ q, p[r.num.toNat]? = some q ∧ q.isWord = false
  next : ∀ (k : Nat) (r : Row), p[k]? = some r → r.goesOn = true → ∃ q, p[k + 1]? = some q ∧ q.isWord = false
  first : ∃ r, p[0]? = some r ∧ r.isWord = false
theorem part_facts {p : Part} (h : partOk p = true) : PartFacts p := by
  unfold partOk at h
  rw [Bool.and_eq_true, Bool.and_eq_true] at h
  obtain ⟨⟨h1, h2⟩, h3⟩ := h
  unfold restOk at h3
  rw [Bool.and_eq_true, Bool.and_eq_true] at h3
  obtain ⟨_, h4, h5⟩ := h3
  cases p with
  | nil => cases h1
  | cons r rs =>
    unfold shunned at h5
    dsimp only at h5
    rw [Bool.and_eq_true, Bool.and_eq_true, Bool.not_eq_true', Bool.not_eq_true'] at h5
    obtain ⟨⟨h6, h7⟩, h8⟩ := h5
    refine ⟨fun k q hq => List.all_eq_true.mp h2 q (List.mem_of_getElem? hq), fun k q hq hj => ?_, fun k q hq hg => ?_, ⟨r, rfl, h6⟩⟩
    · have := List.all_eq_true.mp h4 q.num (List.mem_map.mpr ⟨q, List.mem_filter.mpr ⟨List.mem_of_getElem? hq, hj⟩, rfl⟩)
      unfold goalOk at this
      split at this
      · rename_i z hz
        exact ⟨z, hz, by simpa using this⟩
      · cases this
    · by_cases hk : k < rs.length
      · refine ⟨rs[k], by rw [List.getElem?_cons_succ, List.getElem?_eq_getElem hk], ?_⟩
        have hm : (q, rs[k]) ∈ (r :: rs).zip rs := by
          refine List.mem_of_getElem? (i := k) ?_
          rw [List.getElem?_zip_eq_some]
          exact ⟨hq, List.getElem?_eq_getElem hk⟩
        have := List.all_eq_true.mp h8 _ hm
        dsimp only at this
        rw [hg] at this
        simpa using this
      · have hkl : k = rs.length := by
          have := (List.getElem?_eq_some_iff.mp hq).1
          rw [List.length_cons] at this
          omega
        subst hkl
        have : (r :: rs).getLast (by simp) = q := by
          rw [List.getLast_eq_getElem]
          have h9 := (List.getElem?_eq_some_iff.mp hq).2
          simpa using h9
        rw [this, hg] at h7
        cases h7
theorem v_check_book_ok {b : Book} (hb : bookOk b = true) : v_check_book [bd b] = some .none := by
  refine vFun_nx (Γ := startD ["book"] ([bd b].map some)) rfl ?_
  have e : v_is_book [bd b] = some (.bool true) := (v_is_book_eq _).trans (by rw [bookOf_d hb]; rfl)
  exact vIfS_f (vNot_f (vTest_of ((vCall_of rfl).trans e))) rfl
end RC
end
section
namespace RC
open PySem PySem.Spec L2 RR
open PyProof.Rows hiding St
def absI (x : Int) : Int := if x < 0 then -x else x
def atN (as : List Int) (i : Nat) : Int := as.getD i 0
def dist (as : List Int) (i j : Nat) : Int := absI (atN as i - atN as j)
theorem ix_ints {as : List Int} {i : Nat} (h : i < as.length) : dIx (.list (as.map .int)) (natD i) = some (.int (atN as i)) := by
  refine atI_nat (j := i) ?_
  rw [List.getElem?_map, List.getElem?_eq_getElem h]
  unfold atN
  rw [List.getD_eq_getElem?_getD, List.getElem?_eq_getElem h]; rfl
theorem v_distance_eq {as : List Int} {i j : Nat} (hi : i < as.length) (hj : j < as.length) : v_distance [.list (as.map .int), natD i, natD j] = some (.int (dist as i j)) := by
  refine vFun_of rfl (vRet_of ?_)
  exact (vCl_of (vCons_of ((vOp_of ((vOp_of rfl rfl).trans (ix_ints hi)) ((vOp_of rfl rfl).trans (ix_ints hj))).trans rfl) rfl)).trans rfl
/-- the goal of a row -/
def goalN (p : Part) (i : Nat) : Nat := match p[i]? with | some r => r.num.toNat | none => 0
/-- rows that are jumps or branches of the part, their goals among its rows -/
def JumpAt (p : Part) (i : Nat) : Prop := ∃ r, p[i]? = some r ∧ r.isJump = true ∧ r.ok = true ∧ r.num.toNat < p.length
theorem JumpAt.lt {p : Part} {i : Nat} (h : JumpAt p i) : i < p.length := by
  obtain ⟨r, h1, _⟩ := h
  exact (List.getElem?_eq_some_iff.mp h1).1
theorem JumpAt.goal {p : Part} {i : Nat} (h : JumpAt p i) : goalN p i < p.length := by
  obtain ⟨r, h1, _, _, h2⟩ := h
  unfold goalN
  rw [h1]; exact h2
theorem JumpAt.ix {p : Part} {i : Nat} (h : JumpAt p i) : (dIx (pd p) (natD i)).bind (fun x => dIx x (.int 1)) = some (natD (goalN p i)) := by
  obtain ⟨r, h1, h2, h3, _⟩ := h
  rw [show dIx (pd p) (natD i) = some r.d from ixP h1, Option.bind_some, row1]
  unfold goalN
  rw [h1]
  have := num_nat h3
  unfold natD
  congr 2
  dsimp only
  omega
def unfitB (p : Part) (m : Mach) (as : List Int) (f : Nat) : Bool := decide (m.re < dist as f (goalN p f))
def unfit (p : Part) (m : Mach) (forms : List Nat) : List Nat := forms.filter (unfitB p m (addrs m forms p 0 0))
theorem v_unfit_rows_eq {p : Part} {m : Mach} {forms : List Nat} (ok : p.all Row.ok = true) (hl : p.length ≤ 900) (hf : ∀ f ∈ forms, JumpAt p f) (hfl : forms.length ≤ 1000) :
    v_unfit_rows [pd p, md m, .list (forms.map natD)] = some (.list ((unfit p m forms).map natD)) := by
  refine vFun_of rfl ?_
  have e1 : vSet 3 (vCall v_addresses_of (vCons (vVar 0) (vCons (vVar 1) (vCons (vVar 2) vNil)))) (startD ["part", "machine", "forms", "addresses", "row"] ([pd p, md m, .list (forms.map natD)].map some)) =
      some (.nx [some (pd p), some (md m), some (.list (forms.map natD)), some (.list ((addrs m forms p 0 0).map .int)), none]) := vSet_of (Eq.trans rfl (v_addresses_of_eq p m forms ok hl))
  refine vSeq_nx e1 (vRet_of ?_)
  refine vLc_of (ds := forms.map natD) rfl (by rw [List.length_map]; exact Nat.le_trans hfl (by decide)) (vcomp_filterOf natD (unfitB p m (addrs m forms p 0 0)) natD fun f hfm => ⟨_, rfl, ?_, fun _ => rfl⟩)
  have j := hf f hfm
  have hal := addrs_len m forms p 0 0
  refine vTest_of ?_
  refine (vOp_of ((vCall_of (vCons_of rfl (vCons_of rfl (vCons_of (x := natD (goalN p f)) ?_ rfl)))).trans (v_distance_eq (by have := j.lt; omega) (by have := j.goal; omega))) ((vOp_of rfl rfl).trans (m_ix1 m))).trans rfl
  have := j.ix
  cases hq : dIx (pd p) (natD f) with
  | none => rw [hq] at this; cases this
  | some x =>
    rw [hq] at this
    exact (vOp_of ((vOp_of rfl rfl).trans hq) rfl).trans this
theorem v_without_eq (xs : List Nat) (k : Nat) (hl : xs.length ≤ 1000) : v_without [.list (xs.map natD), natD k] = some (.list ((xs.filter fun x => decide (x ≠ k)).map natD)) := by
  refine vFun_of rfl (vRet_of ?_)
  refine vLc_of (ds := xs.map natD) rfl (by rw [List.length_map]; exact Nat.le_trans hl (by decide)) (vcomp_filterOf natD (fun x => decide (x ≠ k)) natD fun x _ => ⟨_, rfl, ?_, fun _ => rfl⟩)
  refine vTest_of ((vOp_of (x := natD x) (y := natD k) rfl rfl).trans ((dNe_int _ _).trans ?_))
  congr 2
  rw [← decide_not]
  exact decide_eq_decide.mpr (by omega)
def jumpNo (p : Part) : D → Option Nat
  | .int x => if 0 ≤ x ∧ x < p.length ∧ (match p[x.toNat]? with | some r => r.isJump | none => false) = true then some x.toNat else none
  | _ => none
theorem jumpNo_nat {p : Part} {k : Nat} {r : Row} (h : p[k]? = some r) (j : r.isJump = true) : jumpNo p (natD k) = some k := by
  unfold jumpNo natD
  dsimp only
  have hk := (List.getElem?_eq_some_iff.mp h).1
  rw [if_pos]
  · rw [Int.toNat_natCast]
  · rw [Int.toNat_natCast, h]
    exact ⟨by omega, by omega, j⟩
end RC
end
section
namespace RC
open PySem PySem.Spec L2 RR
open PyProof.Rows hiding St
theorem part_jump {p : Part} (h : partOk p = true) {k : Nat} (hk : ∃ r, p[k]? = some r ∧ r.isJump = true) : JumpAt p k := by
  obtain ⟨r, h1, h2⟩ := hk
  have F := part_facts h
  obtain ⟨q, h3, _⟩ := F.goals k r h1 h2
  exact ⟨r, h1, h2, F.rows k r h1, (List.getElem?_eq_some_iff.mp h3).1⟩
theorem jumpIdx_mem {p : Part} {k : Nat} (h : k ∈ jumpIdx p) : ∃ r, p[k]? = some r ∧ r.isJump = true := by
  obtain ⟨q, hq, rfl⟩ := List.mem_map.mp h
  obtain ⟨h1, h2⟩ := List.mem_filter.mp hq
  exact ⟨q.1, List.mem_zipIdx_iff_getElem?.mp h1, h2⟩
theorem jumpIdx_len_le (p : Part) : (jumpIdx p).length ≤ p.length := by
  rw [jumpIdx_len]; exact List.length_filter_le _ _
theorem unfit_mem {p : Part} {m : Mach} {forms : List Nat} {f : Nat} (h : f ∈ unfit p m forms) : f ∈ forms := (List.mem_filter.mp h).1
def drop1 (xs : List Nat) (k : Nat) : List Nat := xs.filter fun x => decide (x ≠ k)
theorem drop1_lt {xs : List Nat} {k : Nat} (h : k ∈ xs) : (drop1 xs k).length < xs.length := by
  have : ∀ ys : List Nat, (drop1 ys k).length ≤ ys.length := fun ys => List.length_filter_le _ _
  induction xs with
  | nil => cases h
  | cons x xs ih =>
    unfold drop1 at ih this ⊢
    rw [List.filter_cons]
    by_cases e : x = k
    · rw [if_neg (by simpa using e)]
      exact Nat.lt_succ_of_le (this xs)
    · rw [if_pos (by simpa using e), List.length_cons, List.length_cons]
      rcases List.mem_cons.mp h with rfl | h
      · exact absurd rfl e
      · exact Nat.succ_lt_succ (ih h)
theorem drop1_mem {xs : List Nat} {k x : Nat} (h : x ∈ drop1 xs k) : x ∈ xs := (List.mem_filter.mp h).1
/-- as long as some do not fit the first of them becomes long -/
def growGo (p : Part) (m : Mach) : Nat → List Nat → List Nat → Option (List Nat × List Nat)
  | 0, _, _ => none
  | k + 1, forms, chain => match unfit p m forms with
    | [] => some (forms, chain)
    | u :: _ => growGo p m k (drop1 forms u) (chain ++ [u])
def gwT : VT := vTru (vVar 4)
def gwB : VS := (vSeqS (vAppend 3 (vOp dIx (vVar 4) (vC (.int 0)))) (vSeqS (vSet 2 (vCall v_without (vCons (vVar 2) (vCons (vOp dIx (vVar 4) (vC (.int 0))) vNil)))) (vSet 4 (vCall v_unfit_rows (vCons (vVar 0) (vCons (vVar 1) (vCons (vVar 2) vNil)))))))
def gwE (p : Part) (m : Mach) (forms chain un : List Nat) : DEnv := [some (pd p), some (md m), some (.list (forms.map natD)), some (.list (chain.map natD)), some (.list (un.map natD))]
theorem ixL0 (x : Nat) (xs : List Nat) : dIx (.list ((x :: xs).map natD)) (.int 0) = some (natD x) := atI_nat (j := 0) rfl
theorem grow_loop {p : Part} {m : Mach} (ok : partOk p = true) : ∀ (k : Nat) (forms chain : List Nat), (∀ f ∈ forms, ∃ r, p[f]? = some r ∧ r.isJump = true) → forms.length < k → chain.length + forms.length ≤ 100 →
    ∃ fs ch, growGo p m k forms chain = some (fs, ch) ∧ vwhile gwT gwB k (gwE p m forms chain (unfit p m forms)) = some (.nx (gwE p m fs ch [])) ∧ ch.length ≤ 100 ∧ (∀ f ∈ fs, f ∈ forms) ∧ (∀ c ∈ ch, c ∈ chain ∨ c ∈ forms)
  | 0, _, _, _, h, _ => by omega
  | k + 1, forms, chain, hf, hk, hc => by
    have rows := partOk_rows ok
    have len := (partOk_len ok).2
    cases hu : unfit p m forms with
    | nil =>
      refine ⟨forms, chain, ?_, vWhile_go rfl, by omega, fun f h => h, fun c h => .inl h⟩
      unfold growGo
      rw [hu]
    | cons u us =>
      have hum : u ∈ forms := unfit_mem (by rw [hu]; exact List.mem_cons_self ..)
      have hlt := drop1_lt hum
      have hf2 : ∀ f ∈ drop1 forms u, ∃ r, p[f]? = some r ∧ r.isJump = true := fun f h => hf f (drop1_mem h)
      obtain ⟨fs, ch, e1, e2, e3, e4, e5⟩ := grow_loop ok (m := m) k (drop1 forms u) (chain ++ [u]) hf2 (by omega) (by rw [List.length_append, List.length_singleton]; omega)
      refine ⟨fs, ch, ?_, ?_, e3, fun f h => drop1_mem (e4 f h), fun c h => ?_⟩
      · unfold growGo
        rw [hu]
        exact e1
      · refine vWhile_nx rfl ?_ e2
        unfold gwB
        refine vSeq_nx (Γ1 := gwE p m forms (chain ++ [u]) (u :: us)) ?_ (vSeq_nx (Γ1 := gwE p m (drop1 forms u) (chain ++ [u]) (u :: us)) ?_ ?_)
        · unfold vAppend
          rw [show vVar 3 (gwE p m forms chain (u :: us)) = some (.list (chain.map natD)) from rfl, Option.bind_some]
          show Option.bind (some (chain.map natD)) _ = _
          rw [Option.bind_some, show vOp dIx (vVar 4) (vC (.int 0)) (gwE p m forms chain (u :: us)) = some (natD u) from (vOp_of rfl rfl).trans (ixL0 u us), Option.bind_some, if_pos (by rw [List.length_map]; exact Nat.lt_of_lt_of_le (show chain.length < 1000 by omega) (by decide))]
          unfold gwE
          rw [List.map_append]; rfl
        · exact vSet_of ((vCall_of (vCons_of rfl (vCons_of ((vOp_of rfl rfl).trans (ixL0 u us)) rfl))).trans (v_without_eq forms u (by omega)))
        · exact vSet_of (Eq.trans rfl (v_unfit_rows_eq rows (by omega) (fun f h => part_jump ok (hf2 f h)) (by omega)))
      · rcases e5 c h with h | h
        · rcases List.mem_append.mp h with h | h
          · exact .inl h
          · rw [List.mem_singleton] at h
            subst h
            exact .inr hum
        · exact .inr (drop1_mem h)
/-- what grown returns -/
theorem v_growth_eq {p : Part} (m : Mach) (ok : partOk p = true) : ∃ fs ch, growGo p m fuel (jumpIdx p) [] = some (fs, ch) ∧ v_growth [pd p, md m] = some (.tuple [.list (fs.map natD), .list (ch.map natD)]) ∧ ch.length ≤ 100 ∧ (∀ f ∈ fs, f ∈ jumpIdx p) ∧ (∀ c ∈ ch, c ∈ jumpIdx p) := by
  have rows := partOk_rows ok
  have len := (partOk_len ok).2
  have jl := jumpIdx_len_le p
  obtain ⟨fs, ch, e1, e2, e3, e4, e5⟩ := grow_loop ok (m := m) fuel (jumpIdx p) [] (fun f h => jumpIdx_mem h) (Nat.lt_of_lt_of_le (show (jumpIdx p).length < 21 by omega) (by decide)) (by rw [List.length_nil]; omega)
  refine ⟨fs, ch, e1, vFun_of rfl ?_, e3, e4, fun c h => (e5 c h).elim (fun z => by cases z) id⟩
  refine vSeq_nx (Γ1 := [some (pd p), some (md m), some (.list ((jumpIdx p).map natD)), none, none]) (vSet_of (Eq.trans rfl (v_jump_rows_eq p (Nat.le_trans len (by decide))))) ?_
  refine vSeq_nx (Γ1 := [some (pd p), some (md m), some (.list ((jumpIdx p).map natD)), some (.list []), none]) rfl ?_
  refine vSeq_nx (Γ1 := gwE p m (jumpIdx p) [] (unfit p m (jumpIdx p))) (vSet_of (Eq.trans rfl (v_unfit_rows_eq rows (by omega) (fun f h => part_jump ok (jumpIdx_mem h)) (by omega)))) ?_
  exact vSeq_nx e2 rfl
def chainOf (p : Part) (m : Mach) : List D → List Nat → Bool
  | [], _ => true
  | d :: ds, forms => match jumpNo p d with
    | some k => (unfit p m forms).contains k && chainOf p m ds (drop1 forms k)
    | none => false
end RC
end
section
namespace RC
open PySem PySem.Spec L2 RR
open PyProof.Rows hiding St
theorem w_if {mt : MT} {t : VT} {x y : MS} {E : EndsD} {Γ : DEnv} {n : Nat} (b : Bool) (h : FT mt t) (e : t Γ = some b) (k1 : b = true → x E Γ n) (k2 : b = false → y E Γ n) : mIfS mt x y E Γ n := by
  refine h Γ n b _ e ?_
  cases b with
  | true => rw [if_pos rfl]; exact k1 rfl
  | false => rw [if_neg (by decide)]; exact k2 rfl
theorem w_set {me : ME} {v : VE} {E : EndsD} {Γ : DEnv} {n i : Nat} {d : D} (h : FE me v) (e : v Γ = some d) (k : E.nx (Γ.set i (some d)) n) : mSet i me E Γ n := h Γ n d _ e k
theorem w_ret {me : ME} {v : VE} {E : EndsD} {Γ : DEnv} {n : Nat} {d : D} (h : FE me v) (e : v Γ = some d) (k : E.rt d n) : mRet me E Γ n := h Γ n d _ e k
theorem w_exp {me : ME} {v : VE} {Γ : DEnv} {n : Nat} {d : D} {Q : D → Nat → Prop} (h : FE me v) (e : v Γ = some d) (k : Q d n) : me Γ n Q := h Γ n d _ e k
theorem w_seq {m u : MS} {E : EndsD} {Γ : DEnv} {n : Nat} (h : m { E with nx := u E } Γ n) : mSeq m u E Γ n := h
theorem s_set {m : ME} {i : Nat} {E : EndsD} {Γ : DEnv} {n : Nat} (h : m Γ n fun d n1 => E.nx (Γ.set i (some d)) n1) : mSet i m E Γ n := h
theorem s_cons {a : ME} {u : MA} {Γ : DEnv} {n : Nat} {Q : List D → Nat → Prop} (h : a Γ n fun d n1 => u Γ n1 fun ds n2 => Q (d :: ds) n2) : mCons a u Γ n Q := h
theorem s_nil {Γ : DEnv} {n : Nat} {Q : List D → Nat → Prop} (h : Q [] n) : mNil Γ n Q := h
theorem s_callP {mf : MF} {ma : MA} {Γ : DEnv} {n : Nat} {Q : D → Nat → Prop} (h : ma Γ n fun ds n1 => mf ds n1 Q) : mCallP mf ma Γ n Q := h
theorem s_C {d : D} {Γ : DEnv} {n : Nat} {Q : D → Nat → Prop} (h : Q d n) : mC d Γ n Q := h
theorem s_var {i : Nat} {Γ : DEnv} {n : Nat} {d : D} {Q : D → Nat → Prop} (e : Γ[i]? = some (some d)) (h : Q d n) : mVar i Γ n Q := ⟨d, e, h⟩
theorem q_set {me : ME} {v : VE} {u : MS} {E : EndsD} {Γ : DEnv} {n i : Nat} {d : D} (h : FE me v) (e : v Γ = some d) (k : u E (Γ.set i (some d)) n) : mSeq (mSet i me) u E Γ n := h Γ n d _ e k
theorem q_par {m : MA} {is : List Nat} {u : MS} {E : EndsD} {Γ : DEnv} {n : Nat} (h : m Γ n fun ds n1 => ds.length = is.length ∧ u E (setsD Γ is ds) n1) : mSeq (mPar is m) u E Γ n := h
theorem q_setM {m : ME} {i : Nat} {u : MS} {E : EndsD} {Γ : DEnv} {n : Nat} (h : m Γ n fun d n1 => u E (Γ.set i (some d)) n1) : mSeq (mSet i m) u E Γ n := h
theorem q_no {mt : MT} {t : VT} {x u : MS} {E : EndsD} {Γ : DEnv} {n : Nat} (h : FT mt t) (e : t Γ = some false) (k : u E Γ n) : mSeq (mIfS mt x mNext) u E Γ n := by
  refine h Γ n false _ e ?_
  rw [if_neg (by decide)]; exact k
theorem w_for {g : MG} {tb : MS} {E : EndsD} (I : List D → DEnv → Nat → Prop) (step : ∀ d ds Γ n, I (d :: ds) Γ n → ∀ K : DEnv → Nat → Prop, (∀ Γ' n', I ds Γ' n' → K Γ' n') → g d Γ fun Γ1 => tb { E with nx := K, ct := K, bk := E.nx } Γ1 n) (fin : ∀ Γ n, I [] Γ n → E.nx Γ n) : ∀ ds Γ n, I ds Γ n → forW g tb E ds Γ n
  | [], Γ, n, h => fin Γ n h
  | d :: ds, Γ, n, h => step d ds Γ n h _ fun Γ' n' h' => w_for I step fin ds Γ' n' h'
/-- one by one, behind each a fact of it; at most c draws each -/
theorem w_compY {g : MG} {e : ME} {Γ : DEnv} {N c : Nat} (P : D → D → Prop) (one : ∀ d n (R : D → Nat → Prop), n < N → (∀ y n', P d y → n' ≤ n + c → R y n') → g d Γ fun Γ2 => e Γ2 n R)
  : ∀ (ds : List D) (n : Nat) (Q : List D → Nat → Prop), n + c * ds.length < N → (∀ r n', r.length = ds.length → (∀ (i : Nat) d y, ds[i]? = some d → r[i]? = some y → P d y) → n' ≤ n + c * ds.length → Q r n') → compW g mYes e Γ ds n Q
  | [], n, Q, hN, q => q [] n rfl (fun i d y h => by simp at h) (Nat.le_add_right _ _)
  | d :: ds, n, Q, hN, q => by
    have hl : c * (d :: ds).length = c + c * ds.length := by rw [List.length_cons, Nat.mul_add, Nat.mul_one, Nat.add_comm]
    rw [hl] at hN
    unfold compW
    have := one d n (fun y n2 => compW g mYes e Γ ds n2 fun r n3 => Q (y :: r) n3) (by omega) fun y n2 hy h2 => by
      refine w_compY P one ds n2 _ (by omega) fun r n3 hr hP h4 => q (y :: r) n3 (by rw [List.length_cons, hr, List.length_cons]) (fun i d' y' e1 e2 => ?_) (by rw [hl]; omega)
      cases i with
      | zero => simp at e1 e2; subst e1 e2; exact hy
      | succ i => simp at e1 e2; exact hP i d' y' e1 e2
    exact this
/-- what holds of each, by places -/
theorem each_of {P : D → D → Prop} {Q : D → Prop} {ds r : List D} (hr : r.length = ds.length) (h : ∀ (i : Nat) d y, ds[i]? = some d → r[i]? = some y → P d y) (k : ∀ d y, P d y → Q y) : ∀ y ∈ r, Q y := fun y hy => by
  obtain ⟨i, hi, rfl⟩ := List.getElem_of_mem hy
  exact k _ _ (h i ds[i] r[i] (List.getElem?_eq_getElem (by omega)) (List.getElem?_eq_getElem hi))
end RC
end
section
namespace RC
open PySem PySem.Spec L2 RR
open PyProof.Rows hiding St
local macro_rules | `(tactic| walk_at "st") => `(tactic| first
  | refine ⟨_, rfl, ?_⟩
  | refine ⟨rfl, ?_⟩
  | refine ⟨by decide, ?_⟩
  | refine ⟨by simp only [List.length_cons, List.length_nil]; decide, ?_⟩)
theorem take_ok {k : Int} {n : Nat} {R : D → Nat → Prop} (h1 : 1 ≤ k) (h2 : k < 1073741824) (hn : n < 1048576) (q : ∀ x : Int, 0 ≤ x → x < k → R (.int x) (n + 1)) : m_take [.int k] n R := ⟨k, rfl, h1, h2, hn, q⟩
theorem within_t {x lo hi : Int} (h1 : lo ≤ x) (h2 : x ≤ hi) : within x lo hi = true := by
  unfold within
  rw [decide_eq_true h1, decide_eq_true h2]; rfl
end RC
end
section
namespace RC
open PySem PySem.Spec L2 RR
open PyProof.Rows hiding St
structure Tame (k w : Nat) (d : D) : Prop where
  lay : d.canLay0 = true
  dep : d.depth ≤ k
  wt : d.weight ≤ w
  sh : d.intsShort 13 = true
  sw : d.showable = true
theorem Tame.mono {k w k' w' : Nat} {d : D} (h : Tame k w d) (hk : k ≤ k') (hw : w ≤ w') : Tame k' w' d := ⟨h.lay, Nat.le_trans h.dep hk, Nat.le_trans h.wt hw, h.sh, h.sw⟩
theorem Tame.int {x : Int} (h : x.natAbs < 10 ^ 12) : Tame 0 41 (.int x) := by
  have hl : x.natAbs.log2 < 40 ∨ x.natAbs = 0 := by
    by_cases h0 : x.natAbs = 0
    · exact .inr h0
    · exact .inl ((Nat.log2_lt h0).mpr (Nat.lt_trans h (by decide)))
  refine ⟨by simp only [PyData.canLay0], by simp [PyData.depth], ?_, ?_, ?_⟩
  · unfold PyData.weight
    split
    · omega
    · rcases hl with hl | hl
      · omega
      · rw [hl]; decide
  · unfold PyData.intsShort
    exact decide_eq_true (PyData.shown_int_le h)
  · unfold PyData.showable
    refine decide_eq_true ?_
    rcases hl with hl | hl
    · omega
    · rw [hl]; decide
theorem Tame.none : Tame 0 0 .none := ⟨by simp only [PyData.canLay0], by simp [PyData.depth], by simp [PyData.weight], by simp [PyData.intsShort], by simp [PyData.showable]⟩
theorem Tame.bool (b : Bool) : Tame 0 0 (.bool b) := ⟨by simp only [PyData.canLay0], by simp [PyData.depth], by simp [PyData.weight], by simp [PyData.intsShort], by simp [PyData.showable]⟩
theorem Tame.str {x : Str} {w : Nat} (h : PyData.strOk x = true) (hw : x.cps.size ≤ w) : Tame 0 w (.str x) := ⟨by simpa only [PyData.canLay0] using h, by simp [PyData.depth], by simpa [PyData.weight] using hw, by simp [PyData.intsShort], by simp [PyData.showable]⟩
structure TameAll (k w : Nat) (xs : List D) : Prop where
  lay : PyData.canLayAll0 xs = true
  dep : PyData.depthAll xs ≤ k
  wt : PyData.weightAll xs ≤ (w + 1) * xs.length
  sh : PyData.intsShortAll 13 xs = true
  sw : PyData.showableAll xs = true
theorem TameAll.of {k w : Nat} : ∀ {xs : List D}, (∀ x ∈ xs, Tame k w x) → TameAll k w xs
  | [], _ => ⟨by simp only [PyData.canLayAll0], by simp [PyData.depthAll], by simp [PyData.weightAll], by simp [PyData.intsShortAll], by simp [PyData.showableAll]⟩
  | x :: xs, h => by
    have h1 := h x (List.mem_cons_self ..)
    have h2 := TameAll.of fun y hy => h y (List.mem_cons_of_mem _ hy)
    have := h1.wt
    have := h2.wt
    have := h1.dep
    have := h2.dep
    refine ⟨by rw [PyData.canLayAll0, h1.lay, h2.lay]; rfl, by rw [PyData.depthAll]; omega, ?_, by rw [PyData.intsShortAll, h1.sh, h2.sh]; rfl, by rw [PyData.showableAll, h1.sw, h2.sw]; rfl⟩
    rw [PyData.weightAll, List.length_cons, Nat.mul_add, Nat.mul_one]
    omega
theorem Tame.tup {k w : Nat} {xs : List D} (h : ∀ x ∈ xs, Tame k w x) : Tame (k + 1) ((w + 1) * xs.length) (.tuple xs) := by
  have a := TameAll.of h
  exact ⟨by rw [PyData.canLay0]; exact a.lay, by rw [PyData.depth]; exact Nat.succ_le_succ a.dep, by rw [PyData.weight]; exact a.wt, by rw [PyData.intsShort]; exact a.sh, by rw [PyData.showable]; exact a.sw⟩
theorem Tame.lst {k w : Nat} {xs : List D} (h : ∀ x ∈ xs, Tame k w x) : Tame (k + 1) ((w + 1) * xs.length) (.list xs) := by
  have a := TameAll.of h
  exact ⟨by rw [PyData.canLay0]; exact a.lay, by rw [PyData.depth]; exact Nat.succ_le_succ a.dep, by rw [PyData.weight]; exact a.wt, by rw [PyData.intsShort]; exact a.sh, by rw [PyData.showable]; exact a.sw⟩
theorem Tame.shaped {k w : Nat} {d : D} (h : Tame k w d) (hk : k ≤ 64) : SeqAt.shaped d = true := by
  unfold SeqAt.shaped
  rw [h.lay, decide_eq_true (Nat.le_trans h.dep hk)]; rfl
theorem Tame.rep {k w : Nat} {d : D} (h : Tame k w d) (hk : k ≤ 64) (hw : w ≤ 2 ^ 20) : repOkD d = true := by
  have hd := decide_eq_true (Nat.le_trans h.dep hk)
  have hl : d.layable0 = true := by
    unfold PyData.layable0
    rw [h.lay, hd, decide_eq_true (Nat.le_trans h.wt hw)]; rfl
  unfold repOkD
  rw [h.sw, hd, decide_eq_true (PyData.shown_fits_of_layable0 (by decide) (by decide) hl h.sh)]; rfl
theorem Tame.eqv {k w : Nat} {d : D} (h : Tame k w d) : PyData.eqv d d = true := SeqAt.eqv_refl d h.lay
theorem dNe_str (a b : Str) : dNe (.str a) (.str b) = some (.bool (!decide (a = b))) := by
  show some (PyData.bool (!PyData.eqv (.str a) (.str b))) = _
  rw [PyData.eqv]; rfl
end RC
end
section
namespace RC
open PySem PySem.Spec L2 RR
open PyProof.Rows hiding St
end RC
end
section
namespace RC
open PySem PySem.Spec L2 RR
open PyProof.Rows hiding St
open PySem.W (alike dataLt minD maxD)
theorem vTup_of {r : VA} {Γ : DEnv} {xs : List D} (h : r Γ = some xs) (l : xs.length ≤ lim) : vTup r Γ = some (.tuple xs) := by
  unfold vTup
  rw [h, Option.bind_some, if_pos l]
end RC
end
section
namespace RC
open PySem PySem.Spec L2 RR
open PyProof.Rows hiding St
theorem idx_nodup (f : Row × Nat → Bool) (p : Part) : ((p.zipIdx.filter f).map (·.2)).Nodup := by
  have h : (p.zipIdx.map (·.2)).Nodup := by
    have : p.zipIdx.map (·.2) = List.range' 0 p.length := by
      apply List.ext_getElem
      · simp
      · intro i h1 h2
        simp
    rw [this]
    exact List.nodup_range'
  exact h.sublist ((List.filter_sublist).map _)
end RC
end
section
namespace RC
open PySem PySem.Spec L2 RR
open PyProof.Rows hiding St
theorem all_pd {Q : Part → Prop} : ∀ {r : List D}, (∀ y ∈ r, ∃ p, y = pd p ∧ Q p) → ∃ b : Book, r = b.map pd ∧ ∀ p ∈ b, Q p
  | [], _ => ⟨[], rfl, fun p h => by cases h⟩
  | y :: r, h => by
    obtain ⟨p, rfl, hp⟩ := h y (List.mem_cons_self ..)
    obtain ⟨b, rfl, hb⟩ := all_pd fun z hz => h z (List.mem_cons_of_mem _ hz)
    exact ⟨p :: b, rfl, fun q hq => by
      rcases List.mem_cons.mp hq with rfl | hq
      · exact hp
      · exact hb q hq⟩
theorem book_ok {b : Book} {k : Nat} (h1 : 1 ≤ k) (h5 : k ≤ 5) (hl : b.length = k) (h : ∀ p ∈ b, partOk p = true ∧ ∀ r ∈ p, r.isFar = true → r.num < (k : Int)) : bookOk b = true := by
  have a1 : b.all partOk = true := List.all_eq_true.mpr fun p hp => (h p hp).1
  have a2 : farsOk b = true := by
    refine List.all_eq_true.mpr fun p hp => List.all_eq_true.mpr fun g hg => ?_
    obtain ⟨r, hr, rfl⟩ := List.mem_map.mp hg
    obtain ⟨hr1, hr2⟩ := List.mem_filter.mp hr
    exact decide_eq_true (by rw [hl]; exact (h p hp).2 r hr1 hr2)
  unfold bookOk lenOk
  rw [a1, a2, decide_eq_true (by omega), decide_eq_true (by omega)]; rfl
end RC
end
section
namespace RC
open PySem PySem.Spec L2 RR
open PyProof.Rows hiding St
structure Lay (k : Nat) (d : D) : Prop where
  lay : d.canLay0 = true
  dep : d.depth ≤ k
theorem Lay.int (x : Int) : Lay 0 (.int x) := ⟨by simp only [PyData.canLay0], by simp [PyData.depth]⟩
theorem Lay.bool (x : Bool) : Lay 0 (.bool x) := ⟨by simp only [PyData.canLay0], by simp [PyData.depth]⟩
theorem Lay.none : Lay 0 .none := ⟨by simp only [PyData.canLay0], by simp [PyData.depth]⟩
theorem Lay.str {x : Str} (h : PyData.strOk x = true) : Lay 0 (.str x) := ⟨by simpa only [PyData.canLay0] using h, by simp [PyData.depth]⟩
theorem Lay.all {k : Nat} : ∀ {xs : List D}, (∀ x ∈ xs, Lay k x) → PyData.canLayAll0 xs = true ∧ PyData.depthAll xs ≤ k
  | [], _ => ⟨by simp only [PyData.canLayAll0], by simp [PyData.depthAll]⟩
  | x :: xs, h => by
    have h1 := h x (List.mem_cons_self ..)
    obtain ⟨h2, h3⟩ := Lay.all fun y hy => h y (List.mem_cons_of_mem _ hy)
    have := h1.dep
    exact ⟨by rw [PyData.canLayAll0, h1.lay, h2]; rfl, by rw [PyData.depthAll]; omega⟩
theorem Lay.tup {k : Nat} {xs : List D} (h : ∀ x ∈ xs, Lay k x) : Lay (k + 1) (.tuple xs) := by
  obtain ⟨h1, h2⟩ := Lay.all h
  exact ⟨by rw [PyData.canLay0]; exact h1, by rw [PyData.depth]; omega⟩
theorem Lay.lst {k : Nat} {xs : List D} (h : ∀ x ∈ xs, Lay k x) : Lay (k + 1) (.list xs) := by
  obtain ⟨h1, h2⟩ := Lay.all h
  exact ⟨by rw [PyData.canLay0]; exact h1, by rw [PyData.depth]; omega⟩
theorem Lay.nats (ns : List Nat) : Lay 1 (.list (ns.map natD)) := .lst fun x hx => by
  obtain ⟨n, _, rfl⟩ := List.mem_map.mp hx
  exact .int n
theorem Lay.mono {j k : Nat} {d : D} (h : Lay j d) (hk : j ≤ k) : Lay k d := ⟨h.lay, Nat.le_trans h.dep hk⟩
theorem Lay.shaped {k : Nat} {d : D} (h : Lay k d) (hk : k ≤ 64) : SeqAt.shaped d = true := by
  unfold SeqAt.shaped
  rw [h.lay, decide_eq_true (Nat.le_trans h.dep hk)]; rfl
theorem Lay.ne {k : Nat} {d : D} (h : Lay k d) (hk : k ≤ 64) : dNe d d = some (.bool false) := by
  unfold dNe
  rw [if_pos (.inr ⟨h.shaped hk, h.shaped hk⟩), SeqAt.eqv_refl d h.lay]; rfl
end RC
end
section
namespace RC
open PySem PySem.Spec L2 RR
open PyProof.Rows hiding St cutD
theorem mach_lt {m : Mach} (h : machOk m = true) : m.sh < m.lo := by
  unfold machOk at h
  rw [Bool.and_eq_true, decide_eq_true_eq] at h
  exact h.2
theorem size_mono {r : Row} {m : Mach} {a b : Int} {s t : Bool} (mk : m.sh ≤ m.lo) (ev : r.isAlign = false) (h : s = true → t = true) : rowSize r m a t ≤ rowSize r m b s := by
  cases r with
  | align n => cases ev
  | jump k =>
    unfold rowSize
    cases s <;> cases t <;> simp <;> first | omega | (exact absurd (h rfl) (by decide)) | exact mk
  | branch k =>
    unfold rowSize
    cases s <;> cases t <;> simp <;> first | omega | (exact absurd (h rfl) (by decide)) | exact mk
  | _ => exact Int.le_refl _
theorem atN_zero (x : Int) (xs : List Int) : atN (x :: xs) 0 = x := rfl
theorem atN_succ (x : Int) (xs : List Int) (i : Nat) : atN (x :: xs) (i + 1) = atN xs i := rfl
theorem addrs_zero (m : Mach) (fs : List Nat) (p : Part) (k : Nat) (a : Int) : atN (addrs m fs p k a) 0 = a := by cases p <;> rfl
theorem gap_mono {m : Mach} {F G : List Nat} (mk : m.sh ≤ m.lo) (sub : ∀ k, F.contains k = true → G.contains k = true) : ∀ (p : Part) (k : Nat) (a b : Int) (i j : Nat), evenP p = true → i ≤ j → j ≤ p.length →
    atN (addrs m G p k a) j - atN (addrs m G p k a) i ≤ atN (addrs m F p k b) j - atN (addrs m F p k b) i
  | p, k, a, b, i, 0, ev, hij, hj => by
    have : i = 0 := by omega
    subst this
    omega
  | [], k, a, b, i, j + 1, ev, hij, hj => by simp at hj
  | r :: rs, k, a, b, 0, j + 1, ev, hij, hj => by
    unfold evenP at ev
    rw [List.all_cons, Bool.and_eq_true] at ev
    have h1 := size_mono (r := r) (m := m) (a := a) (b := b) (s := F.contains k) (t := G.contains k) mk (by simpa using ev.1) (sub k)
    rw [addrs, addrs, atN_zero, atN_zero, atN_succ, atN_succ]
    have := gap_mono mk sub rs (k + 1) (a + rowSize r m a (G.contains k)) (b + rowSize r m b (F.contains k)) 0 j ev.2 (Nat.zero_le _) (by simpa using hj)
    rw [addrs_zero, addrs_zero] at this
    omega
  | r :: rs, k, a, b, i + 1, j + 1, ev, hij, hj => by
    unfold evenP at ev
    rw [List.all_cons, Bool.and_eq_true] at ev
    rw [addrs, addrs, atN_succ, atN_succ, atN_succ, atN_succ]
    exact gap_mono mk sub rs (k + 1) _ _ i j ev.2 (by omega) (by simpa using hj)
theorem gap_nonneg {m : Mach} (mk : machOk m = true) {F : List Nat} : ∀ (p : Part) (k : Nat) (a : Int) (i j : Nat), p.all Row.ok = true → i ≤ j → j ≤ p.length → atN (addrs m F p k a) i ≤ atN (addrs m F p k a) j
  | p, k, a, i, 0, ok, hij, hj => by
    have : i = 0 := by omega
    subst this
    omega
  | [], k, a, i, j + 1, ok, hij, hj => by simp at hj
  | r :: rs, k, a, 0, j + 1, ok, hij, hj => by
    rw [List.all_cons, Bool.and_eq_true] at ok
    rw [addrs, atN_zero, atN_succ]
    have := gap_nonneg mk (F := F) rs (k + 1) (a + rowSize r m a (F.contains k)) 0 j ok.2 (Nat.zero_le _) (by simpa using hj)
    rw [addrs_zero] at this
    have : 0 ≤ rowSize r m a (F.contains k) := by
      unfold machOk machIn within at mk
      simp only [Bool.and_eq_true, decide_eq_true_eq] at mk
      cases r with
      | plain s x =>
        have := ok.1
        unfold Row.ok within at this
        simp only [Bool.and_eq_true, decide_eq_true_eq] at this
        unfold rowSize
        dsimp only
        omega
      | stop s =>
        have := ok.1
        unfold Row.ok within at this
        simp only [Bool.and_eq_true, decide_eq_true_eq] at this
        unfold rowSize
        dsimp only
        omega
      | align n =>
        have := ok.1
        unfold Row.ok at this
        simp only [Bool.or_eq_true, beq_iff_eq] at this
        unfold rowSize
        exact Int.emod_nonneg _ (by omega)
      | _ => unfold rowSize; dsimp only; first | (split <;> omega) | omega
    omega
  | r :: rs, k, a, i + 1, j + 1, ok, hij, hj => by
    rw [List.all_cons, Bool.and_eq_true] at ok
    rw [addrs, atN_succ, atN_succ]
    exact gap_nonneg mk rs (k + 1) _ i j ok.2 (by omega) (by simpa using hj)
theorem absI_of {x : Int} (h : 0 ≤ x) : absI x = x := by unfold absI; rw [if_neg (by omega)]
theorem absI_neg (x : Int) : absI (-x) = absI x := by unfold absI; split <;> split <;> omega
theorem dist_mono {p : Part} {m : Mach} {F G : List Nat} (mk : machOk m = true) (ok : p.all Row.ok = true) (ev : evenP p = true) (sub : ∀ k, F.contains k = true → G.contains k = true) {i j : Nat} (hi : i ≤ p.length) (hj : j ≤ p.length) :
    dist (addrs m G p 0 0) i j ≤ dist (addrs m F p 0 0) i j := by
  have lt := mach_lt mk
  have go : ∀ i j, i ≤ j → j ≤ p.length → absI (atN (addrs m G p 0 0) j - atN (addrs m G p 0 0) i) ≤ absI (atN (addrs m F p 0 0) j - atN (addrs m F p 0 0) i) := fun i j h1 h2 => by
    have a1 := gap_nonneg mk (F := G) p 0 0 i j ok h1 h2
    have a2 := gap_nonneg mk (F := F) p 0 0 i j ok h1 h2
    rw [absI_of (by omega), absI_of (by omega)]
    exact gap_mono (by omega) sub p 0 0 0 i j ev h1 h2
  unfold dist
  rcases Nat.le_total i j with h | h
  · have := go i j h hj
    rw [← absI_neg, ← absI_neg (atN (addrs m F p 0 0) i - atN (addrs m F p 0 0) j)]
    rw [Int.neg_sub, Int.neg_sub]
    exact this
  · exact go j i h hi
theorem fits_stay {p : Part} {m : Mach} {F G : List Nat} (mk : machOk m = true) (ok : partOk p = true) (ev : evenP p = true) (jF : ∀ k ∈ F, JumpAt p k) (sub : ∀ k ∈ F, k ∈ G) (fit : unfit p m F = []) {u : Nat} (hu : u ∈ unfit p m G) : u ∉ F := fun hF => by
  have j := jF u hF
  have h1 := (List.mem_filter.mp hu).2
  unfold unfitB at h1
  rw [decide_eq_true_eq] at h1
  have h2 := dist_mono mk (partOk_rows ok) ev (F := F) (G := G) (fun k h => List.contains_iff_mem.mpr (sub k (List.contains_iff_mem.mp h))) (Nat.le_of_lt j.lt) (Nat.le_of_lt j.goal)
  have h3 : u ∈ unfit p m F := List.mem_filter.mpr ⟨hF, by unfold unfitB; rw [decide_eq_true_eq]; omega⟩
  rw [fit] at h3
  cases h3
theorem drop1_perm {xs : List Nat} {k : Nat} (nd : xs.Nodup) (h : k ∈ xs) : (drop1 xs k ++ [k]).Perm xs := by
  induction xs with
  | nil => cases h
  | cons x xs ih =>
    obtain ⟨n1, n2⟩ := List.nodup_cons.mp nd
    unfold drop1
    by_cases e : x = k
    · subst e
      have : List.filter (fun y => decide (y ≠ x)) (x :: xs) = xs := by
        rw [List.filter_cons, if_neg (by simp)]
        exact List.filter_eq_self.mpr fun y hy => by
          rw [decide_eq_true_eq]
          intro z; subst z; exact n1 hy
      rw [this]
      exact (List.perm_append_comm).trans (by exact List.Perm.refl _)
    · rw [List.filter_cons, if_pos (by simpa using e)]
      have hk : k ∈ xs := (List.mem_cons.mp h).elim (fun z => absurd z.symm e) id
      exact (ih n2 hk).cons x
theorem drop1_nodup {xs : List Nat} {k : Nat} (nd : xs.Nodup) : (drop1 xs k).Nodup := nd.sublist List.filter_sublist
/-- the end of growing: nothing misfits; rows of any forms that fit are kept; forms and chain are all rows; the chain is one -/
theorem grow_facts {p : Part} {m : Mach} (mk : machOk m = true) (ok : partOk p = true) (ev : evenP p = true) : ∀ (k : Nat) (forms chain fs ch : List Nat), growGo p m k forms chain = some (fs, ch) → forms.Nodup → (∀ f ∈ forms, ∃ r, p[f]? = some r ∧ r.isJump = true) →
    unfit p m fs = [] ∧ (fs ++ ch).Perm (forms ++ chain) ∧ (∀ f ∈ fs, f ∈ forms) ∧ fs.Sublist forms ∧ (∀ S : List Nat, (∀ s ∈ S, s ∈ forms) → unfit p m S = [] → ∀ s ∈ S, s ∈ fs) ∧ ∃ rest, ch = chain ++ rest ∧ chainOf p m (rest.map natD) forms = true
  | 0, _, _, _, _, h, _, _ => by cases h
  | k + 1, forms, chain, fs, ch, h, nd, hf => by
    unfold growGo at h
    cases hu : unfit p m forms with
    | nil =>
      rw [hu] at h
      cases h
      exact ⟨hu, .refl _, fun f h => h, List.Sublist.refl _, fun S h _ => h, [], by rw [List.append_nil], rfl⟩
    | cons u us =>
      rw [hu] at h
      dsimp only at h
      have hum : u ∈ unfit p m forms := by rw [hu]; exact List.mem_cons_self ..
      have huf := unfit_mem hum
      obtain ⟨a1, a2, a3, a4, a5, rest, a6, a7⟩ := grow_facts mk ok ev k (drop1 forms u) (chain ++ [u]) fs ch h (drop1_nodup nd) fun f h => hf f (drop1_mem h)
      refine ⟨a1, a2.trans ?_, fun f h => drop1_mem (a3 f h), a4.trans List.filter_sublist, fun S hS fit => a5 S (fun s hs => ?_) fit, u :: rest, by rw [a6, List.append_assoc]; rfl, ?_⟩
      · have e1 : (drop1 forms u ++ (chain ++ [u])).Perm (drop1 forms u ++ [u] ++ chain) := by
          rw [List.append_assoc]
          exact List.Perm.append_left _ List.perm_append_comm
        exact e1.trans (List.Perm.append_right _ (drop1_perm nd huf))
      · refine List.mem_filter.mpr ⟨hS s hs, ?_⟩
        rw [decide_eq_true_eq]
        rintro rfl
        exact fits_stay mk ok ev (fun k hk => part_jump ok (hf k (hS k hk))) hS fit hum hs
      · rw [List.map_cons, chainOf]
        obtain ⟨r, r1, r2⟩ := hf u huf
        rw [jumpNo_nat r1 r2]
        dsimp only
        rw [List.contains_iff_mem.mpr hum, a7]; rfl
theorem alike_int (a b : Int) : PySem.W.alike (.int a) (.int b) = true := by simp [PySem.W.alike]
end RC
end
section
namespace RC
open PySem PySem.Spec L2 RR
open PyProof.Rows hiding St
theorem w_lawJumps (r : Row) : dIn (.str r.w) (.tuple [.str "jump", .str "branch"]) = some (.bool r.isJump) := by cases r <;> rfl
theorem dist_comm (as : List Int) (i j : Nat) : dist as i j = dist as j i := by
  unfold dist absI
  split <;> split <;> omega
end RC
end
section
namespace RC
open PySem PySem.Spec L2 RR
open PyProof.Rows hiding St
end RC
end
section
namespace RC
open PySem PySem.Spec L2 RR
open PyProof.Rows hiding St
structure Seen (k w : Nat) (d : D) : Prop where
  dep : d.depth ≤ k
  wt : d.weight ≤ w
  sh : d.leavesShort 40 = true
  sw : d.showable = true
theorem Seen.mono {k w k' w' : Nat} {d : D} (h : Seen k w d) (hk : k ≤ k') (hw : w ≤ w') : Seen k' w' d := ⟨Nat.le_trans h.dep hk, Nat.le_trans h.wt hw, h.sh, h.sw⟩
theorem Seen.int {x : Int} (h : x.natAbs < 10 ^ 24) : Seen 0 80 (.int x) := by
  have hl : x.natAbs.log2 < 80 := by
    by_cases h0 : x.natAbs = 0
    · rw [h0]; decide
    · exact (Nat.log2_lt h0).mpr (Nat.lt_trans h (by decide))
  refine ⟨by simp [PyData.depth], ?_, ?_, ?_⟩
  · unfold PyData.weight
    split <;> omega
  · unfold PyData.leavesShort
    refine decide_eq_true ?_
    have e := int_text_length_le10 (k := 24) (by decide) h
    show (Str.ofString (toString x)).length ≤ 40
    rw [PySem.ofString_length]
    omega
  · unfold PyData.showable
    exact decide_eq_true (by omega)
theorem Seen.none : Seen 0 0 .none := ⟨by simp [PyData.depth], by simp [PyData.weight], by simp [PyData.leavesShort], by simp [PyData.showable]⟩
theorem Seen.bool (b : Bool) : Seen 0 0 (.bool b) := ⟨by simp [PyData.depth], by simp [PyData.weight], by simp [PyData.leavesShort], by simp [PyData.showable]⟩
theorem Seen.str {x : Str} {w : Nat} (h : x.cps.toList.all (fun c => decide (c < 16 ^ 8)) = true) (hw : x.cps.size ≤ w) : Seen 0 w (.str x) := ⟨by simp [PyData.depth], by simpa [PyData.weight] using hw, by unfold PyData.leavesShort; exact h, by simp [PyData.showable]⟩
theorem SeenAll.of {k w : Nat} : ∀ {xs : List D}, (∀ x ∈ xs, Seen k w x) → PyData.depthAll xs ≤ k ∧ PyData.weightAll xs ≤ (w + 1) * xs.length ∧ PyData.leavesShortAll 40 xs = true ∧ PyData.showableAll xs = true
  | [], _ => ⟨by simp [PyData.depthAll], by simp [PyData.weightAll], by simp [PyData.leavesShortAll], by simp [PyData.showableAll]⟩
  | x :: xs, h => by
    have h1 := h x (List.mem_cons_self ..)
    obtain ⟨a, b, c, e⟩ := SeenAll.of fun y hy => h y (List.mem_cons_of_mem _ hy)
    have := h1.wt
    have := h1.dep
    refine ⟨by rw [PyData.depthAll]; omega, ?_, by rw [PyData.leavesShortAll, h1.sh, c]; rfl, by rw [PyData.showableAll, h1.sw, e]; rfl⟩
    rw [PyData.weightAll, List.length_cons, Nat.mul_add, Nat.mul_one]
    omega
theorem Seen.tup {k w : Nat} {xs : List D} (h : ∀ x ∈ xs, Seen k w x) : Seen (k + 1) ((w + 1) * xs.length) (.tuple xs) := by
  obtain ⟨a, b, c, e⟩ := SeenAll.of h
  exact ⟨by rw [PyData.depth]; exact Nat.succ_le_succ a, by rw [PyData.weight]; exact b, by rw [PyData.leavesShort]; exact c, by rw [PyData.showable]; exact e⟩
theorem Seen.lst {k w : Nat} {xs : List D} (h : ∀ x ∈ xs, Seen k w x) : Seen (k + 1) ((w + 1) * xs.length) (.list xs) := by
  obtain ⟨a, b, c, e⟩ := SeenAll.of h
  exact ⟨by rw [PyData.depth]; exact Nat.succ_le_succ a, by rw [PyData.weight]; exact b, by rw [PyData.leavesShort]; exact c, by rw [PyData.showable]; exact e⟩
theorem Seen.tupN {k w n W : Nat} {xs : List D} (h : ∀ x ∈ xs, Seen k w x) (hn : xs.length ≤ n) (hW : (w + 1) * n ≤ W) : Seen (k + 1) W (.tuple xs) :=
  (Seen.tup h).mono (Nat.le_refl _) (Nat.le_trans (Nat.mul_le_mul_left _ hn) hW)
theorem Seen.lstN {k w n W : Nat} {xs : List D} (h : ∀ x ∈ xs, Seen k w x) (hn : xs.length ≤ n) (hW : (w + 1) * n ≤ W) : Seen (k + 1) W (.list xs) :=
  (Seen.lst h).mono (Nat.le_refl _) (Nat.le_trans (Nat.mul_le_mul_left _ hn) hW)
theorem Seen.rep {k w : Nat} {d : D} (h : Seen k w d) (hk : k ≤ 64) (hw : w ≤ 2 ^ 18) : repOkD d = true := by
  have hs := PyData.shown_le 40 (by decide) d h.sh
  have hw2 := h.wt
  have e : (2 : Nat) ^ 18 = 262144 := by decide
  unfold repOkD
  rw [h.sw, decide_eq_true (Nat.le_trans h.dep hk), decide_eq_true (show d.shown.length ≤ sizeLine by rw [sizeLine_eq]; omega)]; rfl
end RC
end
section
namespace RC
open PySem PySem.Spec L2 RR
open PyProof.Rows hiding St
end RC
end
section
namespace RC
open PySem PySem.Spec L2 RR
open PyProof.Rows hiding St
open PySem.W (alike dataLt dataLe)
end RC
end
section
namespace RC
open PySem PySem.Spec L2 RR
open PyProof.Rows hiding St
open PySem.W (minD dataLt keyToks keyToksAll alike alikeAll) in
theorem minD_mem : ∀ (xs : List D) (x : D), minD x xs ∈ x :: xs
  | [], x => List.mem_singleton_self x
  | y :: ys, x => by
    show minD (if dataLt y x = true then y else x) ys ∈ _
    have h := minD_mem ys (if dataLt y x = true then y else x)
    rcases List.mem_cons.mp h with e | e
    · rw [e]
      split
      · exact List.mem_cons_of_mem _ (List.mem_cons_self ..)
      · exact List.mem_cons_self ..
    · exact List.mem_cons_of_mem _ (List.mem_cons_of_mem _ e)
open PySem.W (minD dataLt keyToks keyToksAll alike alikeAll) in
theorem minD_le : ∀ (xs : List D) (x y : D), y ∈ x :: xs → dataLt y (minD x xs) = false
  | [], x, y, h => by
    rw [List.mem_singleton.mp h]
    exact lex_irrefl _
  | z :: zs, x, y, h => by
    show dataLt y (minD (if dataLt z x = true then z else x) zs) = false
    have le1 : ∀ a, dataLt a (if dataLt z x = true then z else x) = true → dataLt a x = true ∨ dataLt a z = true := fun a ha => by
      split at ha
      · exact .inr ha
      · exact .inl ha
    have step : ∀ w, (w = x ∨ w = z) → dataLt w (minD (if dataLt z x = true then z else x) zs) = false := fun w hw => by
      have hm := minD_le zs (if dataLt z x = true then z else x) _ (List.mem_cons_self ..)
      cases q : dataLt w (minD (if dataLt z x = true then z else x) zs) with
      | false => rfl
      | true =>
        -- w below the least: then the first is not above w
        rcases lex_negTrans (O := itemOrd) (keyToks w) (keyToks (if dataLt z x = true then z else x)) _ q with r | r
        · exfalso
          rcases hw with rfl | rfl
          · split at r
            · rename_i c
              have := lex_trans (O := itemOrd) _ _ _ r c
              rw [lex_irrefl] at this
              cases this
            · rw [lex_irrefl] at r; cases r
          · split at r
            · rw [lex_irrefl] at r; cases r
            · rename_i c
              exact c r
        · exact absurd r (by rw [show PyProof.Rows.lexLt itemOrd (keyToks (if dataLt z x = true then z else x)) (keyToks (minD (if dataLt z x = true then z else x) zs)) = false from hm]; decide)
    rcases List.mem_cons.mp h with rfl | h
    · exact step _ (.inl rfl)
    rcases List.mem_cons.mp h with rfl | h
    · exact step _ (.inr rfl)
    · exact minD_le zs _ y (List.mem_cons_of_mem _ h)
def triD (q : Int × Int × List Nat) : D := .tuple [.int q.1, .int q.2.1, .list (q.2.2.map natD)]
open PySem.W (minD dataLt keyToks keyToksAll alike alikeAll) in
theorem toks_nats : ∀ (ks js : List Nat) (l m : List (Int ⊕ List Nat)), keyToksAll (ks.map natD) ++ l = keyToksAll (js.map natD) ++ m → ks = js
  | [], [], l, m, h => rfl
  | [], j :: js, l, m, h => by
    rw [List.map_nil, List.map_cons, keyToksAll, keyToksAll] at h
    injection h with h1 _
    cases h1
  | k :: ks, [], l, m, h => by
    rw [List.map_nil, List.map_cons, keyToksAll, keyToksAll] at h
    injection h with h1 _
    cases h1
  | k :: ks, j :: js, l, m, h => by
    rw [List.map_cons, List.map_cons, keyToksAll, keyToksAll] at h
    injection h with _ h
    have e1 : keyToks (natD k) = [.inl (k : Int)] := by unfold natD; rw [keyToks]
    have e2 : keyToks (natD j) = [.inl (j : Int)] := by unfold natD; rw [keyToks]
    rw [e1, e2] at h
    injection h with h1 h2
    have hk : k = j := by
      injection h1 with h1
      omega
    rw [hk, toks_nats ks js l m h2]
open PySem.W (minD dataLt keyToks keyToksAll alike alikeAll) in
theorem triD_inj {q r : Int × Int × List Nat} (h : keyToks (triD q) = keyToks (triD r)) : q = r := by
  obtain ⟨a, b, ks⟩ := q
  obtain ⟨c, d, js⟩ := r
  have e : ∀ (a b : Int) (ks : List Nat), keyToks (triD (a, b, ks)) = .inl 1 :: .inl a :: .inl 1 :: .inl b :: .inl 1 :: (keyToksAll (ks.map natD) ++ [.inl 0]) := fun a b ks => by
    unfold triD
    rw [keyToks, keyToksAll, keyToksAll, keyToksAll, keyToksAll, keyToks, keyToks, keyToks]
    rfl
  rw [e, e] at h
  injection h with _ h
  injection h with h1 h
  injection h with _ h
  injection h with h2 h
  injection h with _ h
  have := toks_nats _ _ _ _ h
  injection h1 with h1
  injection h2 with h2
  rw [h1, h2, this]
/-- the first triple of a list, which none of them precedes -/
def minT (x : Int × Int × List Nat) (xs : List (Int × Int × List Nat)) : Int × Int × List Nat := ((x :: xs).find? fun q => decide (PySem.W.keyToks (triD q) = PySem.W.keyToks (PySem.W.minD (triD x) (xs.map triD)))).getD x
theorem minT_eq (x : Int × Int × List Nat) (xs : List (Int × Int × List Nat)) : PySem.W.minD (triD x) (xs.map triD) = triD (minT x xs) ∧ minT x xs ∈ x :: xs := by
  have h := minD_mem (xs.map triD) (triD x)
  rw [← List.map_cons] at h
  obtain ⟨q, hq, e⟩ := List.mem_map.mp h
  cases f : (x :: xs).find? fun q => decide (PySem.W.keyToks (triD q) = PySem.W.keyToks (PySem.W.minD (triD x) (xs.map triD))) with
  | none =>
    have := List.find?_eq_none.mp f q hq
    rw [e] at this
    exact absurd (decide_eq_true rfl) this
  | some r =>
    have h1 := List.find?_some f
    replace h1 := of_decide_eq_true h1
    have h2 := List.mem_of_find?_eq_some f
    have e3 : minT x xs = r := by unfold minT; rw [f]; rfl
    rw [← e] at h1
    rw [e3, ← e, triD_inj h1]
    exact ⟨rfl, triD_inj h1 ▸ hq⟩
theorem alikeAll_nats : ∀ xs ys : List Nat, PySem.W.alikeAll (xs.map natD) (ys.map natD) = true
  | [], _ => by rw [List.map_nil, PySem.W.alikeAll]
  | _ :: _, [] => by rw [List.map_nil, List.map_cons, PySem.W.alikeAll]
  | x :: xs, y :: ys => by
    rw [List.map_cons, List.map_cons, PySem.W.alikeAll, alikeAll_nats xs ys]
    unfold natD
    simp [PySem.W.alike]
theorem tri_alike (q r : Int × Int × List Nat) : PySem.W.alike (triD q) (triD r) = true := by
  unfold triD
  simp only [PySem.W.alike, PySem.W.alikeAll, alikeAll_nats, Bool.and_self]
theorem okMin_tri (xs : List (Int × Int × List Nat)) : okMin (xs.map triD) = true := by
  have lay : ∀ x ∈ xs.map triD, Lay 2 x := fun x hx => by
    obtain ⟨q, _, rfl⟩ := List.mem_map.mp hx
    refine Lay.tup fun y hy => ?_
    simp only [List.mem_cons, List.not_mem_nil, or_false] at hy
    rcases hy with rfl | rfl | rfl
    · exact (Lay.int _).mono (by decide)
    · exact (Lay.int _).mono (by decide)
    · exact Lay.nats _
  have l2 := Lay.all lay
  unfold okMin alikeB
  rw [l2.1, decide_eq_true (Nat.le_trans l2.2 (by decide))]
  simp only [Bool.and_true, Bool.and_eq_true, List.all_eq_true]
  refine ⟨fun x hx y hy => ?_, fun x hx => ?_⟩
  · obtain ⟨q, _, rfl⟩ := List.mem_map.mp hx
    obtain ⟨r, _, rfl⟩ := List.mem_map.mp hy
    exact tri_alike q r
  · obtain ⟨q, _, rfl⟩ := List.mem_map.mp hx
    rfl
theorem cMin_tri (x : Int × Int × List Nat) (xs : List (Int × Int × List Nat)) : cMinD [.list ((x :: xs).map triD)] = some (triD (minT x xs)) := by
  rw [← (minT_eq x xs).1, List.map_cons]
  exact if_pos (okMin_tri (x :: xs))
def ixS : Nat → List (List Nat)
  | 0 => [[]]
  | 1 => [[], [0]]
  | 2 => [[], [0], [1], [0,1]]
  | 3 => [[], [0], [1], [2], [0,1], [0,2], [1,2], [0,1,2]]
  | 4 => [[], [0], [1], [2], [3], [0,1], [0,2], [0,3], [1,2], [1,3], [2,3], [0,1,2], [0,1,3], [0,2,3], [1,2,3], [0,1,2,3]]
  | 5 => [[], [0], [1], [2], [3], [4], [0,1], [0,2], [0,3], [0,4], [1,2], [1,3], [1,4], [2,3], [2,4], [3,4], [0,1,2], [0,1,3], [0,1,4], [0,2,3], [0,2,4], [0,3,4], [1,2,3], [1,2,4], [1,3,4], [2,3,4], [0,1,2,3], [0,1,2,4], [0,1,3,4], [0,2,3,4], [1,2,3,4], [0,1,2,3,4]]
  | 6 => [[], [0], [1], [2], [3], [4], [5], [0,1], [0,2], [0,3], [0,4], [0,5], [1,2], [1,3], [1,4], [1,5], [2,3], [2,4], [2,5], [3,4], [3,5], [4,5], [0,1,2], [0,1,3], [0,1,4], [0,1,5], [0,2,3], [0,2,4], [0,2,5], [0,3,4], [0,3,5], [0,4,5], [1,2,3], [1,2,4], [1,2,5], [1,3,4], [1,3,5], [1,4,5], [2,3,4], [2,3,5], [2,4,5], [3,4,5], [0,1,2,3], [0,1,2,4], [0,1,2,5], [0,1,3,4], [0,1,3,5], [0,1,4,5], [0,2,3,4], [0,2,3,5], [0,2,4,5], [0,3,4,5], [1,2,3,4], [1,2,3,5], [1,2,4,5], [1,3,4,5], [2,3,4,5], [0,1,2,3,4], [0,1,2,3,5], [0,1,2,4,5], [0,1,3,4,5], [0,2,3,4,5], [1,2,3,4,5], [0,1,2,3,4,5]]
  | _ => []
def ixL : Nat → List (List Nat)
  | 0 => [[]]
  | 1 => [[], [0]]
  | 2 => [[], [0], [1], [0,1]]
  | 3 => [[], [0], [1], [0,1], [2], [0,2], [1,2], [0,1,2]]
  | 4 => [[], [0], [1], [0,1], [2], [0,2], [1,2], [0,1,2], [3], [0,3], [1,3], [0,1,3], [2,3], [0,2,3], [1,2,3], [0,1,2,3]]
  | 5 => [[], [0], [1], [0,1], [2], [0,2], [1,2], [0,1,2], [3], [0,3], [1,3], [0,1,3], [2,3], [0,2,3], [1,2,3], [0,1,2,3], [4], [0,4], [1,4], [0,1,4], [2,4], [0,2,4], [1,2,4], [0,1,2,4], [3,4], [0,3,4], [1,3,4], [0,1,3,4], [2,3,4], [0,2,3,4], [1,2,3,4], [0,1,2,3,4]]
  | 6 => [[], [0], [1], [0,1], [2], [0,2], [1,2], [0,1,2], [3], [0,3], [1,3], [0,1,3], [2,3], [0,2,3], [1,2,3], [0,1,2,3], [4], [0,4], [1,4], [0,1,4], [2,4], [0,2,4], [1,2,4], [0,1,2,4], [3,4], [0,3,4], [1,3,4], [0,1,3,4], [2,3,4], [0,2,3,4], [1,2,3,4], [0,1,2,3,4], [5], [0,5], [1,5], [0,1,5], [2,5], [0,2,5], [1,2,5], [0,1,2,5], [3,5], [0,3,5], [1,3,5], [0,1,3,5], [2,3,5], [0,2,3,5], [1,2,3,5], [0,1,2,3,5], [4,5], [0,4,5], [1,4,5], [0,1,4,5], [2,4,5], [0,2,4,5], [1,2,4,5], [0,1,2,4,5], [3,4,5], [0,3,4,5], [1,3,4,5], [0,1,3,4,5], [2,3,4,5], [0,2,3,4,5], [1,2,3,4,5], [0,1,2,3,4,5]]
  | _ => []
def pickN (js : List Nat) (is : List Nat) : List Nat := is.map fun i => js.getD i 0
def subsS (js : List Nat) : List (List Nat) := (ixS js.length).map (pickN js)
def subsL (js : List Nat) : List (List Nat) := (ixL js.length).map (pickN js)
theorem ix_perm : ∀ n, n ≤ 6 → (ixL n).Perm (ixS n) ∧ (∀ is ∈ ixS n, ∀ i ∈ is, i < n) ∧ [] ∈ ixS n
  | 0, _ => by decide +kernel
  | 1, _ => by decide +kernel
  | 2, _ => by decide +kernel
  | 3, _ => by decide +kernel
  | 4, _ => by decide +kernel
  | 5, _ => by decide +kernel
  | 6, _ => by decide +kernel
  | n + 7, h => by omega
theorem subs_perm31 {js : List Nat} (h : js.length ≤ 6) : (subsL js).Perm (subsS js) := (ix_perm _ h).1.map _
theorem subs_mem31 {js : List Nat} (h : js.length ≤ 6) {ks : List Nat} (hk : ks ∈ subsS js) : ∀ k ∈ ks, k ∈ js := fun k hkk => by
  obtain ⟨is, hi, rfl⟩ := List.mem_map.mp hk
  obtain ⟨i, hii, rfl⟩ := List.mem_map.mp hkk
  have := (ix_perm _ h).2.1 is hi i hii
  rw [List.getD_eq_getElem?_getD, List.getElem?_eq_getElem this]
  exact List.getElem_mem this
theorem subs_nil31 {js : List Nat} (h : js.length ≤ 6) : [] ∈ subsS js := List.mem_map.mpr ⟨[], (ix_perm _ h).2.2, rfl⟩
theorem subs_len31 {js : List Nat} (h : js.length ≤ 6) : (subsS js).length ≤ 64 ∧ ∀ ks ∈ subsS js, ks.length ≤ 6 := by
  have all : ∀ n, n ≤ 6 → (ixS n).length ≤ 64 ∧ ∀ is ∈ ixS n, is.length ≤ 6 := fun n hn => by
    have : n = 0 ∨ n = 1 ∨ n = 2 ∨ n = 3 ∨ n = 4 ∨ n = 5 ∨ n = 6 := by omega
    rcases this with rfl | rfl | rfl | rfl | rfl | rfl | rfl <;> decide +kernel
  refine ⟨by unfold subsS; rw [List.length_map]; exact (all _ h).1, fun ks hk => ?_⟩
  obtain ⟨is, hi, rfl⟩ := List.mem_map.mp hk
  unfold pickN
  rw [List.length_map]
  exact (all _ h).2 is hi
theorem v_sublists_nats : ∀ {js : List Nat}, js.length ≤ 6 → v_sublists [.list (js.map natD)] = some (.list ((subsS js).map fun ks => .list (ks.map natD)))
  | [], _ => by kernel_rfl
  | [a], _ => by kernel_rfl
  | [a, b], _ => by kernel_rfl
  | [a, b, c], _ => by kernel_rfl
  | [a, b, c, d], _ => by kernel_rfl
  | [a, b, c, d, e], _ => by kernel_rfl
  | [a, b, c, d, e, f], _ => by kernel_rfl
  | a :: b :: c :: d :: e :: f :: g :: t, h => by simp only [List.length_cons] at h; omega
end RC
end
section
namespace RC
open PySem PySem.Spec L2 RR
open PyProof.Rows hiding St cutD
/-- where the runs are -/
inductive Match (p L : Nat) : Nat × Nat → Nat × Nat → Prop
  | door : Match p L (p, 0) (p, 0)
  | inn (k : Nat) : Match p L (p, k + 1) (L, k)
  | out (q k : Nat) : q ≠ p → q < L → Match p L (q, k) (q, k)
theorem Match.start {p L q : Nat} (h : q < L) : Match p L (q, 0) (q, 0) := by
  by_cases e : q = p
  · subst e; exact .door
  · exact .out q 0 e h
end RC
end
section
namespace RC
open PySem PySem.Spec L2 RR
open PyProof.Rows hiding St cutD
def shunR : Bool → Part → Bool
  | g, [] => !g
  | g, r :: rs => !(g && r.isWord) && shunR r.goesOn rs
theorem shun_tail : ∀ (rs : Part) (r : Row), (!((r :: rs).getLast (by simp)).goesOn && ((r :: rs).zip rs).all fun z => !z.1.goesOn || !z.2.isWord) = shunR r.goesOn rs
  | [], r => by simp [shunR]
  | q :: qs, r => by
    have ih := shun_tail qs q
    rw [shunR, ← ih, List.zip_cons_cons, List.all_cons, List.getLast_cons (by simp)]
    cases r.goesOn <;> cases q.isWord <;> simp [Bool.and_comm, Bool.and_assoc, Bool.and_left_comm]
theorem shunned_eq (p : Part) : shunned p = (!p.isEmpty && shunR true p) := by
  cases p with
  | nil => rfl
  | cons r rs =>
    unfold shunned
    dsimp only
    rw [Bool.and_assoc, shun_tail, shunR]
    simp
structure PartParts (p : Part) : Prop where
  l1 : 1 ≤ p.length
  l20 : p.length ≤ 20
  rows : ∀ r ∈ p, r.ok = true
  even : evenP p = true ∨ (p.filter Row.isJump).length ≤ 6
  goals : ∀ r ∈ p, r.isJump = true → ∃ q, p[r.num.toNat]? = some q ∧ q.isWord = false
  shun : shunR true p = true
theorem parts_of {p : Part} (h : partOk p = true) : PartParts p := by
  have f := part_facts h
  have l := partOk_len h
  have hh := h
  unfold partOk restOk at h
  simp only [Bool.and_eq_true, Bool.or_eq_true, decide_eq_true_eq] at h
  have sh := h.2.2.2
  rw [shunned_eq, Bool.and_eq_true] at sh
  refine ⟨l.1, l.2, fun r hr => List.all_eq_true.mp h.1.2 r hr, h.2.1, fun r hr hj => ?_, sh.2⟩
  obtain ⟨i, hi, rfl⟩ := List.getElem_of_mem hr
  exact f.goals i _ (List.getElem?_eq_getElem hi) hj
theorem of_parts {p : Part} (h : PartParts p) : partOk p = true := by
  unfold partOk restOk lenOk
  simp only [Bool.and_eq_true, Bool.or_eq_true, decide_eq_true_eq]
  have hne : p ≠ [] := fun z => by have := h.l1; rw [z] at this; simp at this
  refine ⟨⟨⟨h.l1, h.l20⟩, List.all_eq_true.mpr h.rows⟩, h.even, ?_, ?_⟩
  · refine List.all_eq_true.mpr fun g hg => ?_
    obtain ⟨r, hr, rfl⟩ := List.mem_map.mp hg
    obtain ⟨h1, h2⟩ := List.mem_filter.mp hr
    obtain ⟨q, e1, e2⟩ := h.goals r h1 h2
    unfold goalOk
    rw [e1]
    dsimp only
    rw [e2]; rfl
  · rw [shunned_eq, Bool.and_eq_true]
    exact ⟨by cases p <;> simp_all, h.shun⟩
/-- what the drawn parts of these laws are -/
structure Fine (p : Part) : Prop where
  parts : PartParts p
  len : p.length ≤ 12
  few : evenP p = true ∨ (p.filter Row.isJump).length ≤ 3
theorem Fine.ok {p : Part} (h : Fine p) : partOk p = true := of_parts h.parts
def goW (w : Str) : Bool := w == "plain" || w == "branch" || w == "load" || w == "align"
def shunW : Bool → List Str → Bool
  | g, [] => !g
  | g, w :: ws => !(g && w == "word") && shunW (goW w) ws
theorem row_goW (r : Row) : goW r.w = r.goesOn := by cases r <;> rfl
theorem row_word (r : Row) : (r.w == "word") = r.isWord := by cases r <;> rfl
theorem row_align (r : Row) : (r.w == "align") = r.isAlign := by cases r <;> rfl
theorem row_jump (r : Row) : (r.w == "jump" || r.w == "branch") = r.isJump := by cases r <;> rfl
theorem shun_words : ∀ (rs : Part) (g : Bool), shunW g (rs.map Row.w) = shunR g rs
  | [], _ => rfl
  | r :: rs, g => by rw [List.map_cons, shunW, shunR, row_goW, row_word, shun_words rs]
abbrev Grp := List Str × Str × Bool
def flat1 (g : Grp) : List Str := g.1 ++ (g.2.1 :: (if g.2.2 = true then [("word" : Str)] else []))
def flatG (gs : List Grp) : List Str := gs.flatMap flat1
structure GrpOk (L : Nat) (g : Grp) : Prop where
  len : g.1.length ≤ L
  mid : ∀ w ∈ g.1, w = "plain" ∨ w = "branch" ∨ w = "load" ∨ w = "align"
  term : g.2.1 = "stop" ∨ g.2.1 = "jump" ∨ g.2.1 = "far"
theorem go_mid {w : Str} (h : w = "plain" ∨ w = "branch" ∨ w = "load" ∨ w = "align") : goW w = true ∧ (w == "word") = false := by
  rcases h with rfl | rfl | rfl | rfl <;> exact ⟨by decide +kernel, by decide +kernel⟩
theorem go_term {w : Str} (h : w = "stop" ∨ w = "jump" ∨ w = "far") : goW w = false ∧ (w == "word") = false := by
  rcases h with rfl | rfl | rfl <;> exact ⟨by decide +kernel, by decide +kernel⟩
theorem shun_grp {L : Nat} {g : Grp} (h : GrpOk L g) (rest : List Str) : ∀ (b : Bool), shunW b (flat1 g ++ rest) = shunW false rest := by
  have aux : ∀ (ms : List Str), (∀ w ∈ ms, w = "plain" ∨ w = "branch" ∨ w = "load" ∨ w = "align") → ∀ b, shunW b (ms ++ (g.2.1 :: (if g.2.2 = true then [("word" : Str)] else [])) ++ rest) = shunW false rest := by
    intro ms
    induction ms with
    | nil =>
      intro _ b
      obtain ⟨t1, t2⟩ := go_term h.term
      show shunW b (g.2.1 :: ((if g.2.2 = true then [("word" : Str)] else []) ++ rest)) = _
      rw [shunW, t1, t2, Bool.and_false, Bool.not_false, Bool.true_and]
      split
      · show shunW false ("word" :: rest) = _
        rw [shunW]
        have : goW "word" = false := by decide +kernel
        rw [this, Bool.false_and, Bool.not_false, Bool.true_and]
      · rfl
    | cons m ms ih =>
      intro hm b
      obtain ⟨t1, t2⟩ := go_mid (hm m (List.mem_cons_self ..))
      show shunW b (m :: (ms ++ _ ++ rest)) = _
      rw [shunW, t1, t2, Bool.and_false, Bool.not_false, Bool.true_and]
      exact ih (fun w hw => hm w (List.mem_cons_of_mem _ hw)) true
  exact aux g.1 h.mid
theorem shun_flat {L : Nat} : ∀ (gs : List Grp), (∀ g ∈ gs, GrpOk L g) → ∀ b, (gs ≠ [] ∨ b = false) → shunW b (flatG gs) = true
  | [], _, b, h => by
    rcases h with h | h
    · exact absurd rfl h
    · subst h; rfl
  | g :: gs, hg, b, _ => by
    unfold flatG
    rw [List.flatMap_cons, shun_grp (hg g (List.mem_cons_self ..))]
    exact shun_flat gs (fun x hx => hg x (List.mem_cons_of_mem _ hx)) false (.inr rfl)
theorem flatG_len {L : Nat} : ∀ (gs : List Grp), (∀ g ∈ gs, GrpOk L g) → (flatG gs).length ≤ (L + 2) * gs.length ∧ gs.length ≤ (flatG gs).length
  | [], _ => ⟨by simp [flatG], by simp⟩
  | g :: gs, h => by
    obtain ⟨a, b⟩ := flatG_len gs fun x hx => h x (List.mem_cons_of_mem _ hx)
    have := (h g (List.mem_cons_self ..)).len
    have e : (flatG (g :: gs)).length = g.1.length + 1 + (if g.2.2 = true then 1 else 0) + (flatG gs).length := by
      unfold flatG flat1
      rw [List.flatMap_cons, List.length_append, List.length_append, List.length_cons]
      split <;> simp <;> omega
    rw [e, List.length_cons, Nat.mul_add, Nat.mul_one]
    split <;> omega
def noAl (g : Grp) : Grp := (g.1.filter (fun w : Str => w != "align"), g.2.1, g.2.2)
theorem noAl_ok {L : Nat} {g : Grp} (h : GrpOk L g) : GrpOk L (noAl g) := ⟨Nat.le_trans (List.length_filter_le _ _) h.len, fun w hw => h.mid w (List.mem_filter.mp hw).1, h.term⟩
theorem flat_noAl {L : Nat} : ∀ (gs : List Grp), (∀ g ∈ gs, GrpOk L g) → (flatG gs).filter (fun w : Str => w != "align") = flatG (gs.map noAl)
  | [], _ => rfl
  | g :: gs, h => by
    have ih := flat_noAl gs fun x hx => h x (List.mem_cons_of_mem _ hx)
    unfold flatG at ih ⊢
    rw [List.flatMap_cons, List.filter_append, ih, List.map_cons, List.flatMap_cons]
    congr 1
    unfold flat1 noAl
    rw [List.filter_append]
    congr 1
    have t : (g.2.1 != "align") = true := by
      rcases (h g (List.mem_cons_self ..)).term with e | e | e <;> rw [e] <;> decide +kernel
    rw [List.filter_cons, if_pos t]
    dsimp only
    split <;> rfl
end RC
end
section
namespace RC
open PySem PySem.Spec L2 RR
open PyProof.Rows hiding St cutD
theorem o2 {f : D → D → Option D} {a b : VE} {Γ : DEnv} {x y d : D} (h : a Γ = some x) (k : b Γ = some y) (e : f x y = some d) : vOp f a b Γ = some d := (vOp_of h k).trans e
theorem o1 {f : D → Option D} {a : VE} {Γ : DEnv} {x d : D} (h : a Γ = some x) (e : f x = some d) : vUn f a Γ = some d := (vUn_of h).trans e
theorem o_cl {f : List D → Option D} {a : VA} {Γ : DEnv} {x : List D} {d : D} (h : a Γ = some x) (e : f x = some d) : vCl f a Γ = some d := (vCl_of h).trans e
theorem o_call {f : VP} {a : VA} {Γ : DEnv} {x : List D} {d : D} (h : a Γ = some x) (e : f x = some d) : vCall f a Γ = some d := (vCall_of h).trans e
theorem o_tup {r : VA} {Γ : DEnv} {xs : List D} (h : r Γ = some xs) (l : xs.length ≤ lim) : vTup r Γ = some (.tuple xs) := vTup_of h l
theorem o_lst {r : VA} {Γ : DEnv} {xs : List D} (h : r Γ = some xs) (l : xs.length ≤ lim) : vLst r Γ = some (.list xs) := by
  unfold vLst
  rw [h, Option.bind_some, if_pos l]
theorem o_look {a : VE} {Γ : DEnv} {x : D} (h : a Γ = some x) (f : flatD x = true) : vLook a Γ = some x := by
  unfold vLook
  rw [h, Option.bind_some, if_pos f]
theorem o_sl {a : VE} {lo hi : VO} {Γ : DEnv} {x d : D} {l h : Option Int} (e : a Γ = some x) (e1 : lo Γ = some l) (e2 : hi Γ = some h) (k : dSl l h x = some d) : vSl a lo hi Γ = some d := by
  unfold vSl
  rw [e, Option.bind_some, e1, Option.bind_some, e2, Option.bind_some]; exact k
theorem o_part {a : VE} {Γ : DEnv} {i : Int} (h : a Γ = some (.int i)) : vPart a Γ = some (some i) := by
  unfold vPart
  rw [h]; rfl
theorem s_ret {me : ME} {E : EndsD} {Γ : DEnv} {n : Nat} (h : me Γ n fun d n1 => E.rt d n1) : mRet me E Γ n := h
theorem s_lst {m : MA} {Γ : DEnv} {n : Nat} {Q : D → Nat → Prop} (h : m Γ n fun ds n1 => ds.length ≤ lim ∧ Q (.list ds) n1) : mLst m Γ n Q := h
theorem s_tup {m : MA} {Γ : DEnv} {n : Nat} {Q : D → Nat → Prop} (h : m Γ n fun ds n1 => ds.length ≤ lim ∧ Q (.tuple ds) n1) : mTup m Γ n Q := h
theorem s_op {f : D → D → Option D} {ma mb : ME} {Γ : DEnv} {n : Nat} {Q : D → Nat → Prop} (h : ma Γ n fun x n1 => mb Γ n1 fun y n2 => ∃ d, f x y = some d ∧ Q d n2) : mOp f ma mb Γ n Q := h
theorem s_cl {f : List D → Option D} {ma : MA} {Γ : DEnv} {n : Nat} {Q : D → Nat → Prop} (h : ma Γ n fun ds n1 => ∃ d, f ds = some d ∧ Q d n1) : mCl f ma Γ n Q := h
theorem s_test {me : ME} {Γ : DEnv} {n : Nat} {Q : Bool → Nat → Prop} (h : me Γ n fun d n1 => ∃ b, d = .bool b ∧ Q b n1) : mTest me Γ n Q := h
theorem s_lc {mi : MI} {g : MG} {t : MT} {e : ME} {vs : List Nat} {Γ : DEnv} {n : Nat} {Q : D → Nat → Prop} (h : mi Γ n fun ds n1 => ds.length ≤ lim ∧ compW g t e (wipeD Γ vs) ds n1 fun r n2 => Q (.list r) n2) : mLc mi g t e vs Γ n Q := h
theorem s_iseq {me : ME} {Γ : DEnv} {n : Nat} {Q : List D → Nat → Prop} (h : me Γ n fun d n1 => ∃ xs, seqD d = some xs ∧ Q xs n1) : mISeq me Γ n Q := h
theorem s_ir1 {ma : MA} {Γ : DEnv} {n : Nat} {Q : List D → Nat → Prop} (h : ma Γ n fun ds n1 => ∃ j, ds = [.int j] ∧ okR j ∧ Q (rangeD 0 j.toNat) n1) : mIR1 ma Γ n Q := h
theorem s_if {mt : MT} {x y : MS} {E : EndsD} {Γ : DEnv} {n : Nat} (h : mt Γ n fun c n1 => if c = true then x E Γ n1 else y E Γ n1) : mIfS mt x y E Γ n := h
theorem s_ife {mt : MT} {x y : ME} {Γ : DEnv} {n : Nat} {Q : D → Nat → Prop} (h : mt Γ n fun c n1 => if c = true then x Γ n1 Q else y Γ n1 Q) : mIf mt x y Γ n Q := h
theorem s_and {m u : MT} {v : VT} {Γ : DEnv} {n : Nat} {Q : Bool → Nat → Prop} {b : Bool} (h : FT m v) (e : v Γ = some b) (k1 : b = true → u Γ n Q) (k2 : b = false → Q false n) : mAnd m u Γ n Q := by
  refine h Γ n b _ e ?_
  cases b with
  | true => rw [if_pos rfl]; exact k1 rfl
  | false => rw [if_neg (by decide)]; exact k2 rfl
theorem w_tst {mt : MT} {v : VT} {Γ : DEnv} {n : Nat} {Q : Bool → Nat → Prop} {b : Bool} (h : FT mt v) (e : v Γ = some b) (k : Q b n) : mt Γ n Q := h Γ n b _ e k
theorem w_args {m : MA} {v : VA} {Γ : DEnv} {n : Nat} {ds : List D} {Q : List D → Nat → Prop} (h : FA m v) (e : v Γ = some ds) (k : Q ds n) : m Γ n Q := h Γ n ds _ e k
theorem w_it {m : MI} {v : VI} {Γ : DEnv} {n : Nat} {ds : List D} {Q : List D → Nat → Prop} (h : FI' m v) (e : v Γ = some ds) (k : Q ds n) : m Γ n Q := h Γ n ds _ e k
theorem s_gName {i : Nat} {d : D} {Γ : DEnv} {Q : DEnv → Prop} (h : Q (Γ.set i (some d))) : mgName i d Γ Q := h
theorem s_for {mi : MI} {g : MG} {tb : MS} {E : EndsD} {Γ : DEnv} {n : Nat} (h : mi Γ n fun ds n1 => forW g tb E ds Γ n1) : mFor mi g tb E Γ n := h
theorem q_for {mi : MI} {g : MG} {tb u : MS} {E : EndsD} {Γ : DEnv} {n : Nat} (h : mi Γ n fun ds n1 => forW g tb { E with nx := u E } ds Γ n1) : mSeq (mFor mi g tb) u E Γ n := h
end RC
end
section
namespace RC
open PySem PySem.Spec L2 RR
open PyProof.Rows hiding St cutD
local macro_rules | `(tactic| walk_at "fp") => `(tactic| with_reducible first | exact fp__law_jumps)
local macro_rules | `(tactic| walk_at "fe") => `(tactic| with_reducible first
  | exact f_Var | exact f_C | exact f_Nil | exact f_Dict0 | exact f_NoPart | exact f_Yes | exact f_gName | exact f_gNil | exact f_pNil
  | (apply f_Cl <;> walk_at "fe") | (apply f_Op <;> walk_at "fe") | (apply f_Un <;> walk_at "fe") | (apply f_Cons <;> walk_at "fe")
  | (apply f_Test <;> walk_at "fe") | (apply f_Tru <;> walk_at "fe")
  | (apply f_Call (by walk_at "fp") <;> walk_at "fe") | (apply f_CallK (by walk_at "fp") <;> walk_at "fe")
  | (apply f_Tup <;> walk_at "fe") | (apply f_Lst <;> walk_at "fe") | (apply f_Isi <;> walk_at "fe") | (apply f_Isi2 <;> walk_at "fe")
  | (apply f_Sl <;> walk_at "fe") | (apply f_Part <;> walk_at "fe")
  | (apply f_And <;> walk_at "fe") | (apply f_Or <;> walk_at "fe") | (apply f_Not <;> walk_at "fe")
  | (apply f_AndV <;> walk_at "fe") | (apply f_OrV <;> walk_at "fe") | (apply f_NotV <;> walk_at "fe")
  | (apply f_If <;> walk_at "fe") | (apply f_Chain <;> walk_at "fe") | (apply f_Look <;> walk_at "fe") | (apply f_LookL <;> walk_at "fe") | (apply f_Rev <;> walk_at "fe")
  | (apply f_ISeq <;> walk_at "fe") | (apply f_IEn <;> walk_at "fe") | (apply f_IZ <;> walk_at "fe") | (apply f_IR1 <;> walk_at "fe") | (apply f_IR2 <;> walk_at "fe") | exact f_IKeys | exact f_IVals | exact f_IItems
  | (apply f_gTup <;> walk_at "fe") | (apply f_gCons <;> walk_at "fe") | (apply f_Lc <;> walk_at "fe")
  | (apply f_Disp <;> walk_at "fe") | (apply f_pCons <;> walk_at "fe")
  | (apply f_Seq <;> walk_at "fe") | (apply f_IfS <;> walk_at "fe") | (apply f_Ret <;> walk_at "fe") | exact f_Next | (apply f_Set <;> walk_at "fe") | (apply f_Par <;> walk_at "fe") | (apply f_Asg <;> walk_at "fe") | (apply f_Drop <;> walk_at "fe") | (apply f_Append <;> walk_at "fe") | (apply f_For <;> walk_at "fe"))
local macro_rules | `(tactic| walk_at "len") => `(tactic| first | (simp only [List.length_cons, List.length_nil]; decide) | assumption)
local macro_rules | `(tactic| walk_at "ev") => `(tactic| first
  | with_reducible assumption
  | ((with_reducible apply o2) <;> walk_at "ev") | ((with_reducible apply o1) <;> walk_at "ev") | ((with_reducible apply vCons_of) <;> walk_at "ev") | ((with_reducible apply o_cl) <;> walk_at "ev") | ((with_reducible apply o_call) <;> walk_at "ev")
  | ((with_reducible apply vTest_of) <;> walk_at "ev") | ((with_reducible apply o_tup) <;> first | walk_at "len" | walk_at "ev") | ((with_reducible apply o_lst) <;> first | walk_at "len" | walk_at "ev")
  | ((with_reducible apply vNot_t) <;> walk_at "ev") | ((with_reducible apply vNot_f) <;> walk_at "ev") | ((with_reducible apply vNot_of) <;> walk_at "ev") | ((with_reducible apply vIsi_of) <;> walk_at "ev") | ((with_reducible apply vNotV_of) <;> walk_at "ev") | ((with_reducible apply o_sl) <;> walk_at "ev") | ((with_reducible apply o_part) <;> walk_at "ev")
  | rfl)
local macro_rules | `(tactic| walk_at "we") => `(tactic| (apply w_exp; (case h => walk_at "fe"); (case e => walk_at "ev")))
local macro_rules | `(tactic| walk_at "wa") => `(tactic| (apply w_args; (case h => walk_at "fe"); (case e => walk_at "ev")))
local macro_rules | `(tactic| walk_at "wt") => `(tactic| (apply w_tst; (case h => walk_at "fe"); (case e => walk_at "ev")))
local macro_rules | `(tactic| walk_at "wi") => `(tactic| (apply w_it; (case h => walk_at "fe"); (case e => walk_at "ev")))
local macro_rules | `(tactic| walk_at "qs") => `(tactic| (apply q_set; (case h => walk_at "fe"); (case e => walk_at "ev")))
local macro_rules | `(tactic| walk_at "qn") => `(tactic| (apply q_no; (case h => walk_at "fe"); (case e => walk_at "ev")))
local macro_rules | `(tactic| walk_at "wr") => `(tactic| (apply w_ret; (case h => walk_at "fe"); (case e => walk_at "ev")))
local macro_rules | `(tactic| walk_at "sp") => `(tactic| (apply s_callP; (apply w_args; (case h => walk_at "fe"); (case e => walk_at "ev"))))
local macro_rules | `(tactic| walk_at "st") => `(tactic| first
  | refine ⟨_, rfl, ?_⟩
  | refine ⟨rfl, ?_⟩
  | refine ⟨by decide, ?_⟩
  | refine ⟨by simp only [List.length_cons, List.length_nil]; decide, ?_⟩)
def okPre : Bool → List Str → Bool
  | _, [] => true
  | g, w :: ws => !(g && w == "word") && okPre (goW w) ws
def lastGo : Bool → List Str → Bool
  | g, [] => g
  | _, w :: ws => lastGo (goW w) ws
theorem shun_pre : ∀ (ws : List Str) (g : Bool), shunW g ws = (okPre g ws && !lastGo g ws)
  | [], g => rfl
  | w :: ws, g => by rw [shunW, okPre, lastGo, shun_pre ws, Bool.and_assoc]
end RC
end
section
namespace RC
open PySem PySem.Spec L2 RR
open PyProof.Rows hiding St cutD
local macro_rules | `(tactic| walk_at "fp") => `(tactic| with_reducible first | exact fp__law_w_shifted)
local macro_rules | `(tactic| walk_at "fe") => `(tactic| with_reducible first
  | exact f_Var | exact f_C | exact f_Nil | exact f_Dict0 | exact f_NoPart | exact f_Yes | exact f_gName | exact f_gNil | exact f_pNil
  | (apply f_Cl <;> walk_at "fe") | (apply f_Op <;> walk_at "fe") | (apply f_Un <;> walk_at "fe") | (apply f_Cons <;> walk_at "fe")
  | (apply f_Test <;> walk_at "fe") | (apply f_Tru <;> walk_at "fe")
  | (apply f_Call (by walk_at "fp") <;> walk_at "fe") | (apply f_CallK (by walk_at "fp") <;> walk_at "fe")
  | (apply f_Tup <;> walk_at "fe") | (apply f_Lst <;> walk_at "fe") | (apply f_Isi <;> walk_at "fe") | (apply f_Isi2 <;> walk_at "fe")
  | (apply f_Sl <;> walk_at "fe") | (apply f_Part <;> walk_at "fe")
  | (apply f_And <;> walk_at "fe") | (apply f_Or <;> walk_at "fe") | (apply f_Not <;> walk_at "fe")
  | (apply f_AndV <;> walk_at "fe") | (apply f_OrV <;> walk_at "fe") | (apply f_NotV <;> walk_at "fe")
  | (apply f_If <;> walk_at "fe") | (apply f_Chain <;> walk_at "fe") | (apply f_Look <;> walk_at "fe") | (apply f_LookL <;> walk_at "fe") | (apply f_Rev <;> walk_at "fe")
  | (apply f_ISeq <;> walk_at "fe") | (apply f_IEn <;> walk_at "fe") | (apply f_IZ <;> walk_at "fe") | (apply f_IR1 <;> walk_at "fe") | (apply f_IR2 <;> walk_at "fe") | exact f_IKeys | exact f_IVals | exact f_IItems
  | (apply f_gTup <;> walk_at "fe") | (apply f_gCons <;> walk_at "fe") | (apply f_Lc <;> walk_at "fe")
  | (apply f_Disp <;> walk_at "fe") | (apply f_pCons <;> walk_at "fe")
  | (apply f_Seq <;> walk_at "fe") | (apply f_IfS <;> walk_at "fe") | (apply f_Ret <;> walk_at "fe") | exact f_Next | (apply f_Set <;> walk_at "fe") | (apply f_Par <;> walk_at "fe") | (apply f_Asg <;> walk_at "fe") | (apply f_Drop <;> walk_at "fe") | (apply f_Append <;> walk_at "fe") | (apply f_For <;> walk_at "fe"))
local macro_rules | `(tactic| walk_at "len") => `(tactic| first | (simp only [List.length_cons, List.length_nil]; decide) | assumption)
local macro_rules | `(tactic| walk_at "ev") => `(tactic| first
  | with_reducible assumption
  | ((with_reducible apply o2) <;> walk_at "ev") | ((with_reducible apply o1) <;> walk_at "ev") | ((with_reducible apply vCons_of) <;> walk_at "ev") | ((with_reducible apply o_cl) <;> walk_at "ev") | ((with_reducible apply o_call) <;> walk_at "ev")
  | ((with_reducible apply vTest_of) <;> walk_at "ev") | ((with_reducible apply o_tup) <;> first | walk_at "len" | walk_at "ev") | ((with_reducible apply o_lst) <;> first | walk_at "len" | walk_at "ev")
  | ((with_reducible apply vNot_of) <;> walk_at "ev") | ((with_reducible apply vIsi_of) <;> walk_at "ev") | ((with_reducible apply vNotV_of) <;> walk_at "ev") | ((with_reducible apply o_sl) <;> walk_at "ev") | ((with_reducible apply o_part) <;> walk_at "ev")
  | rfl)
local macro_rules | `(tactic| walk_at "we") => `(tactic| (apply w_exp; (case h => walk_at "fe"); (case e => walk_at "ev")))
local macro_rules | `(tactic| walk_at "wa") => `(tactic| (apply w_args; (case h => walk_at "fe"); (case e => walk_at "ev")))
local macro_rules | `(tactic| walk_at "wt") => `(tactic| (apply w_tst; (case h => walk_at "fe"); (case e => walk_at "ev")))
local macro_rules | `(tactic| walk_at "wi") => `(tactic| (apply w_it; (case h => walk_at "fe"); (case e => walk_at "ev")))
local macro_rules | `(tactic| walk_at "qs") => `(tactic| (apply q_set; (case h => walk_at "fe"); (case e => walk_at "ev")))
local macro_rules | `(tactic| walk_at "qn") => `(tactic| (apply q_no; (case h => walk_at "fe"); (case e => walk_at "ev")))
local macro_rules | `(tactic| walk_at "wr") => `(tactic| (apply w_ret; (case h => walk_at "fe"); (case e => walk_at "ev")))
local macro_rules | `(tactic| walk_at "sp") => `(tactic| (apply s_callP; (apply w_args; (case h => walk_at "fe"); (case e => walk_at "ev"))))
local macro_rules | `(tactic| walk_at "st") => `(tactic| first
  | refine ⟨_, rfl, ?_⟩
  | refine ⟨rfl, ?_⟩
  | refine ⟨by decide, ?_⟩
  | refine ⟨by simp only [List.length_cons, List.length_nil]; decide, ?_⟩)
theorem w_pick_ok {xs : List D} {n : Nat} {R : D → Nat → Prop} (h : 1 ≤ xs.length) (h2 : xs.length < 1073741824) (hn : n < 1048576) (q : ∀ d ∈ xs, R d (n + 1)) : m__law_w_pick [.list xs] n R := by
  unfold m__law_w_pick b__law_w_pick
  repeat walk_at "st"
  refine ⟨by omega, by omega, hn, fun x h0 h1 => ?_⟩
  have hx : x.toNat < xs.length := by omega
  have ex : x = (x.toNat : Int) := by omega
  refine ⟨xs[x.toNat], ?_, q _ (List.getElem_mem hx)⟩
  have e := atI_nat (xs := xs) (j := x.toNat) (List.getElem?_eq_getElem hx)
  rw [← ex] at e
  exact e
theorem w_pick_of {α : Type} (f : α → D) {xs : List α} {n : Nat} {R : D → Nat → Prop} (h : 1 ≤ xs.length) (h2 : xs.length < 1073741824) (hn : n < 1048576) (q : ∀ x ∈ xs, R (f x) (n + 1)) : m__law_w_pick [.list (xs.map f)] n R :=
  w_pick_ok (by rw [List.length_map]; exact h) (by rw [List.length_map]; exact h2) hn fun d hd => by
    obtain ⟨x, hx, rfl⟩ := List.mem_map.mp hd
    exact q x hx
theorem s_pick {α : Type} (f : α → D) {ma : MA} {Γ : DEnv} {n n1 : Nat} {Q : D → Nat → Prop} {xs : List α} (a : ∀ Q', Q' [.list (xs.map f)] n1 → ma Γ n Q') (h : 1 ≤ xs.length) (h2 : xs.length < 1073741824) (hn : n1 < 1048576) (q : ∀ x ∈ xs, Q (f x) (n1 + 1)) : mCallP m__law_w_pick ma Γ n Q :=
  a _ (w_pick_of f h h2 hn q)
theorem all_str {P : Str → Prop} : ∀ {r : List D}, (∀ y ∈ r, ∃ w, y = .str w ∧ P w) → ∃ ws : List Str, r = ws.map .str ∧ ∀ w ∈ ws, P w
  | [], _ => ⟨[], rfl, fun p h => by cases h⟩
  | y :: r, h => by
    obtain ⟨p, rfl, hp⟩ := h y (List.mem_cons_self ..)
    obtain ⟨b, rfl, hb⟩ := all_str fun z hz => h z (List.mem_cons_of_mem _ hz)
    exact ⟨p :: b, rfl, fun q hq => by
      rcases List.mem_cons.mp hq with rfl | hq
      · exact hp
      · exact hb q hq⟩
theorem lst_add {xs ys : List D} (h : xs.length + ys.length ≤ lim) : dAdd (.list xs) (.list ys) = some (.list (xs ++ ys)) := if_pos h
theorem tup_add {xs ys : List D} (h : xs.length + ys.length ≤ lim) : dAdd (.tuple xs) (.tuple ys) = some (.tuple (xs ++ ys)) := if_pos h
def wwE (L : Nat) (ev : Bool) (sm : List Str) (gs : List Grp) (x5 x6 : Option D) : DEnv := [none, some (.int (L : Int)), some (.bool ev), some (.list (sm.map .str)), some (.list ((flatG gs).map .str)), x5, x6]
abbrev wwB : MS := (mSeq (mSet 4 (mOp dAdd (mVar 4) (mLc (mIR1 (mCons (mCallP m__law_take_v2 (mCons (mOp dAdd (mVar 1) (mC (.int 1))) mNil)) mNil)) (mgName 6) mYes (mCallP m__law_w_pick (mCons (mVar 3) mNil)) [6]))) (mSet 4 (mOp dAdd (mOp dAdd (mVar 4) (mLst (mCons (mCallP m__law_w_pick (mCons (mLst (mCons (mC (.str "stop")) (mCons (mC (.str "jump")) (mCons (mC (.str "far")) (mCons (mC (.str "far")) mNil))))) mNil)) mNil))) (mOp dMul (mLst (mCons (mC (.str "word")) mNil)) (mCallP m__law_w_pick (mCons (mLst (mCons (mC (.int 0)) (mCons (mC (.int 0)) (mCons (mC (.int 1)) mNil)))) mNil))))))
theorem ww_turn {L : Nat} {ev : Bool} {sm : List Str} {gs : List Grp} {x5 x6 : Option D} {n : Nat} {E : EndsD} (hL : L ≤ 10) (hs1 : 1 ≤ sm.length) (hs2 : sm.length ≤ 5) (hs : ∀ w ∈ sm, w = "plain" ∨ w = "branch" ∨ w = "load" ∨ w = "align") (hg : ∀ g ∈ gs, GrpOk L g) (hl : gs.length ≤ 2) (hn : n < 990000)
    (k : ∀ g n', GrpOk L g → n' ≤ n + (L + 3) → E.nx (wwE L ev sm (gs ++ [g]) x5 x6) n') : wwB E (wwE L ev sm gs x5 x6) n := by
  have fl := (flatG_len gs hg).1
  have fl2 : (flatG gs).length ≤ 24 := Nat.le_trans fl (Nat.le_trans (Nat.mul_le_mul (show L + 2 ≤ 12 by omega) hl) (by decide))
  refine q_setM (s_op ?_)
  refine s_var (d := .list ((flatG gs).map .str)) rfl ?_
  refine s_lc (s_ir1 (s_cons (s_callP (s_cons ?_))))
  refine s_op (s_var (d := .int (L : Int)) rfl (s_C ⟨.int ((L : Int) + 1), rfl, s_nil ?_⟩))
  with_reducible refine take_ok (by omega) (by omega) (by omega) fun x x0 x1 => ?_
  refine s_nil ⟨x, rfl, ?_⟩
  obtain ⟨z, rfl⟩ := Int.eq_ofNat_of_zero_le x0
  refine ⟨okR_nat (by omega), ?_⟩
  rw [Int.toNat_natCast]
  refine ⟨by rw [rangeD_len]; exact Nat.le_trans (show z ≤ 11 by omega) (by decide), ?_⟩
  refine w_compY (N := 1000000) (c := 1) (fun _ y => ∃ w, y = .str w ∧ w ∈ sm) (fun d n2 R2 hn2 q2 => ?_) _ _ _ (by rw [rangeD_len]; omega) fun r n3 hr hP h4 => ?_
  · refine s_gName ?_
    refine s_pick PyData.str (xs := sm) (fun Q' q => s_cons (s_var rfl (s_nil q))) hs1 (by omega) (by omega) fun w hw => ?_
    exact q2 _ _ ⟨w, rfl, hw⟩ (Nat.le_refl _)
  · obtain ⟨ms, rfl, hms⟩ := all_str (each_of hr hP fun _ _ h => h)
    rw [List.length_map, rangeD_len] at hr
    rw [rangeD_len] at h4
    refine ⟨_, lst_add (by rw [List.length_map, List.length_map]; exact Nat.le_trans (show _ ≤ 40 by omega) (by decide)), ?_⟩
    rw [← List.map_append]
    refine s_set (s_op (s_op (s_var (d := .list ((flatG gs ++ ms).map .str)) rfl (s_lst (s_cons ?_)))))
    refine s_pick PyData.str (xs := ["stop", "jump", "far", "far"]) (fun Q' q => s_cons (s_lst (s_cons (s_C (s_cons (s_C (s_cons (s_C (s_cons (s_C (s_nil ⟨by decide, s_nil q⟩)))))))))) ) (by decide) (by decide) (by omega) fun t ht => ?_
    refine s_nil ⟨by show 1 ≤ lim; decide, ?_⟩
    refine ⟨_, lst_add (by rw [List.length_map, List.length_append]; exact Nat.le_trans (show _ ≤ 41 by simp; omega) (by decide)), ?_⟩
    refine s_op (s_lst (s_cons (s_C (s_nil ⟨by decide, ?_⟩))))
    refine s_pick (fun b : Bool => PyData.int (if b = true then 1 else 0)) (xs := [false, false, true]) (fun Q' q => s_cons (s_lst (s_cons (s_C (s_cons (s_C (s_cons (s_C (s_nil ⟨by decide, s_nil q⟩)))))))) ) (by decide) (by decide) (by omega) fun b hb => ?_
    have em : dMul (.list [.str "word"]) (.int (if b = true then 1 else 0)) = some (.list ((if b = true then [("word" : Str)] else []).map .str)) := by
      cases b <;> rfl
    refine ⟨_, em, _, lst_add ?_, ?_⟩
    · cases b <;> (simp; exact Nat.le_trans (show _ ≤ 50 by omega) (by decide))
    have hgk : GrpOk L (ms, t, b) := ⟨by show ms.length ≤ L; omega, fun w hw => hs w (hms w hw), by
      simp only [List.mem_cons, List.not_mem_nil, or_false] at ht
      rcases ht with rfl | rfl | rfl | rfl <;> simp⟩
    have := k (ms, t, b) (n3 + 1 + 1) hgk (by omega)
    have ef : List.map PyData.str (flatG gs ++ ms) ++ [PyData.str t] ++ List.map PyData.str (if b = true then [("word" : Str)] else []) = (flatG (gs ++ [(ms, t, b)])).map .str := by
      unfold flatG flat1
      rw [List.flatMap_append, List.map_append, List.map_append]
      simp
    rw [ef]
    exact this
theorem w_words_ok {L : Nat} {ev : Bool} {n : Nat} {R : D → Nat → Prop} (hL : L ≤ 10) (hn : n < 900000) (q : ∀ (gs : List Grp) n', 1 ≤ gs.length → gs.length ≤ 2 → (∀ g ∈ gs, GrpOk L g) → n' ≤ n + 30 → R (.list ((flatG gs).map .str)) n') : m__law_w_words [.int (L : Int), .bool ev] n R := by
  unfold m__law_w_words b__law_w_words
  refine ⟨rfl, ?_⟩
  obtain ⟨sm, hs1, hs2, hs, es⟩ : ∃ sm : List Str, 1 ≤ sm.length ∧ sm.length ≤ 5 ∧ (∀ w ∈ sm, w = "plain" ∨ w = "branch" ∨ w = "load" ∨ w = "align") ∧ vOp dAdd (vLst (vCons (vC (.str "plain")) (vCons (vC (.str "plain")) (vCons (vC (.str "branch")) (vCons (vC (.str "load")) vNil))))) (vOp dMul (vLst (vCons (vC (.str "align")) vNil)) (vCl cInt (vCons (vNotV (vVar 2)) vNil))) [none, some (.int (L : Int)), some (.bool ev), none, none, none, none] = some (.list (sm.map .str)) := by
    cases ev with
    | true => exact ⟨["plain", "plain", "branch", "load"], by decide, by decide, by decide, rfl⟩
    | false => exact ⟨["plain", "plain", "branch", "load", "align"], by decide, by decide, by decide, rfl⟩
  refine q_set (f_Op (f_Lst (f_Cons f_C (f_Cons f_C (f_Cons f_C (f_Cons f_C f_Nil))))) (f_Op (f_Lst (f_Cons f_C f_Nil)) (f_Cl (f_Cons (f_NotV f_Var) f_Nil)))) es ?_
  refine q_set (f_Lst f_Nil) rfl ?_
  refine q_for (s_ir1 (s_cons (s_op (s_C (s_callP (s_cons (s_C (s_nil ?_))))))))
  with_reducible refine take_ok (by decide) (by decide) (by omega) fun x x0 x1 => ?_
  obtain ⟨z, rfl⟩ := Int.eq_ofNat_of_zero_le x0
  refine ⟨.int (1 + (z : Int)), rfl, s_nil ⟨_, rfl, ?_⟩⟩
  rw [show (1 + (z : Int)) = ((z + 1 : Nat) : Int) by omega]
  refine ⟨okR_nat (by omega), ?_⟩
  rw [Int.toNat_natCast]
  refine w_for (fun ds Γ n' => ∃ gs x5, Γ = wwE L ev sm gs x5 none ∧ gs.length + ds.length = z + 1 ∧ (∀ g ∈ gs, GrpOk L g) ∧ n' ≤ n + 1 + (L + 3) * gs.length) (fun d ds Γ n2 hI K hK => ?_) (fun Γ n2 hI => ?_) _ _ _ ⟨[], none, rfl, by rw [rangeD_len]; simp, (fun g h => nomatch h), Nat.le_add_right _ _⟩
  · obtain ⟨gs, x5, rfl, hl, hg, h2⟩ := hI
    rw [List.length_cons] at hl
    have hm : (L + 3) * gs.length ≤ 13 * 2 := Nat.mul_le_mul (by omega) (by omega)
    refine s_gName ?_
    refine ww_turn (x5 := some d) hL hs1 hs2 hs hg (by omega) (by omega) fun g n3 hgk h3 => ?_
    exact hK _ _ ⟨gs ++ [g], some d, rfl, by rw [List.length_append, List.length_singleton]; omega, fun y hy => by
      rcases List.mem_append.mp hy with hy | hy
      · exact hg y hy
      · rw [List.mem_singleton.mp hy]; exact hgk, by rw [List.length_append, List.length_singleton, Nat.mul_add, Nat.mul_one]; omega⟩
  · obtain ⟨gs, x5, rfl, hl, hg, h2⟩ := hI
    rw [List.length_nil, Nat.add_zero] at hl
    have hm : (L + 3) * gs.length ≤ 13 * 2 := Nat.mul_le_mul (by omega) (by omega)
    exact w_ret f_Var rfl (q gs n2 (by omega) (by omega) hg (by omega))
end RC
end
section
namespace RC
open PySem PySem.Spec L2 RR
open PyProof.Rows hiding St cutD
structure WRow (parts : Nat) (goals : List Nat) (w : Str) (r : Row) : Prop where
  w : r.w = w
  ok : r.ok = true
  far : r.isFar = true → r.num < (parts : Int)
  jump : r.isJump = true → ∃ g ∈ goals, r.num = (g : Int)
def wpE (L parts : Nat) (ws : List Str) (goals : List Nat) (rs : Part) (x4 x7 x8 : Option D) : DEnv := [none, some (.int (L : Int)), some (.int (parts : Int)), some (.list (ws.map .str)), x4, some (.list (goals.map natD)), some (.list (rs.map Row.d)), x7, x8]
abbrev wpB : MS := (mIfS (mTest (mOp dEq (mVar 4) (mC (.str "plain")))) (mAppend 6 (mTup (mCons (mVar 4) (mCons (mCallP m__law_w_pick (mCons (mLst (mCons (mC (.int 1)) (mCons (mC (.int 2)) (mCons (mC (.int 7)) (mCons (mC (.int 20)) (mCons (mOp dAdd (mC (.int 1)) (mCallP m__law_take_v2 (mCons (mC (.int 60)) mNil))) mNil)))))) mNil)) (mCons (mCallP m__law_take_v2 (mCons (mC (.int 4)) mNil)) mNil))))) (mIfS (mTest (mOp dIn (mVar 4) (mTup (mCons (mC (.str "jump")) (mCons (mC (.str "branch")) mNil))))) (mAppend 6 (mTup (mCons (mVar 4) (mCons (mCallP m__law_w_pick (mCons (mVar 5) mNil)) mNil)))) (mIfS (mTest (mOp dEq (mVar 4) (mC (.str "align")))) (mAppend 6 (mTup (mCons (mVar 4) (mCons (mCallP m__law_w_pick (mCons (mLst (mCons (mC (.int 2)) (mCons (mC (.int 4)) (mCons (mC (.int 8)) (mCons (mC (.int 16)) mNil))))) mNil)) mNil)))) (mSeq (mSet 8 (mGet2 (mDisp (mpCons (mC (.str "stop")) (mC (.int 9)) (mpCons (mC (.str "far")) (mVar 2) mpNil))) (mVar 4) (mC (.int 3)))) (mAppend 6 (mTup (mCons (mVar 4) (mCons (mOp dAdd (mCallP m__law_take_v2 (mCons (mVar 8) mNil)) (mCl cInt (mCons (mOp dEq (mVar 4) (mC (.str "stop"))) mNil))) mNil))))))))
abbrev tPl : VT := vTest (vOp dEq (vVar 4) (vC (.str "plain")))
abbrev tJu : VT := vTest (vOp dIn (vVar 4) (vTup (vCons (vC (.str "jump")) (vCons (vC (.str "branch")) vNil))))
abbrev tAl : VT := vTest (vOp dEq (vVar 4) (vC (.str "align")))
theorem ft_Pl : FT (mTest (mOp dEq (mVar 4) (mC (.str "plain")))) tPl := f_Test (f_Op f_Var f_C)
theorem ft_Ju : FT (mTest (mOp dIn (mVar 4) (mTup (mCons (mC (.str "jump")) (mCons (mC (.str "branch")) mNil))))) tJu := f_Test (f_Op f_Var (f_Tup (f_Cons f_C (f_Cons f_C f_Nil))))
theorem ft_Al : FT (mTest (mOp dEq (mVar 4) (mC (.str "align")))) tAl := f_Test (f_Op f_Var f_C)
section
variable {L parts : Nat} {ws : List Str} {goals : List Nat} {rs : Part} {x7 x8 : Option D} {n : Nat} {E : EndsD}
theorem wp_jump {w : Str} {f : Int → Row} (hf : ∀ g, (f g).d = .tuple [.str w, .int g]) (hrs : rs.length ≤ 30) (hg1 : 1 ≤ goals.length) (hg2 : goals.length ≤ 30) (hn : n < 990000) (k : ∀ g ∈ goals, E.nx (wpE L parts ws goals (rs ++ [f (g : Int)]) (some (.str w)) x7 x8) (n + 1)) :
    mAppend 6 (mTup (mCons (mVar 4) (mCons (mCallP m__law_w_pick (mCons (mVar 5) mNil)) mNil))) E (wpE L parts ws goals rs (some (.str w)) x7 x8) n := by
  refine ⟨rs.map Row.d, rfl, ?_⟩
  refine s_tup (s_cons (s_var (d := .str w) rfl (s_cons ?_)))
  refine s_pick natD (xs := goals) (fun Q' q => s_cons (s_var rfl (s_nil q))) hg1 (by omega) (by omega) fun g hg => ?_
  refine s_nil ⟨by show 2 ≤ lim; decide, by rw [List.length_map]; exact Nat.lt_of_le_of_lt hrs (by decide), ?_⟩
  have : (wpE L parts ws goals rs (some (.str w)) x7 x8).set 6 (some (.list (rs.map Row.d ++ [.tuple [.str w, natD g]]))) = wpE L parts ws goals (rs ++ [f (g : Int)]) (some (.str w)) x7 x8 := by
    unfold wpE
    rw [List.map_append, List.map_singleton, hf]; rfl
  rw [this]
  exact k g hg
theorem wp_else {w : Str} {f : Int → Row} {most add : Nat} (hf : ∀ g, (f g).d = .tuple [.str w, .int g]) (hrs : rs.length ≤ 30) (hm : 1 ≤ most) (hm2 : most ≤ 100) (hn : n < 990000)
    (e1 : vGet2 (vDisp (vpCons (vC (.str "stop")) (vC (.int 9)) (vpCons (vC (.str "far")) (vVar 2) vpNil))) (vVar 4) (vC (.int 3)) (wpE L parts ws goals rs (some (.str w)) x7 x8) = some (.int (most : Int)))
    (e2 : dEq (.str w) (.str "stop") = some (.bool (add == 1))) (e3 : cInt [.bool (add == 1)] = some (.int (add : Int)))
    (k : ∀ g : Nat, g < most → E.nx (wpE L parts ws goals (rs ++ [f ((g + add : Nat) : Int)]) (some (.str w)) x7 (some (.int (most : Int)))) (n + 1)) :
    mSeq (mSet 8 (mGet2 (mDisp (mpCons (mC (.str "stop")) (mC (.int 9)) (mpCons (mC (.str "far")) (mVar 2) mpNil))) (mVar 4) (mC (.int 3)))) (mAppend 6 (mTup (mCons (mVar 4) (mCons (mOp dAdd (mCallP m__law_take_v2 (mCons (mVar 8) mNil)) (mCl cInt (mCons (mOp dEq (mVar 4) (mC (.str "stop"))) mNil))) mNil)))) E (wpE L parts ws goals rs (some (.str w)) x7 x8) n := by
  refine q_set (f_Get2 (f_Disp (f_pCons f_C f_C (f_pCons f_C f_Var f_pNil))) f_Var f_C) e1 ?_
  refine ⟨rs.map Row.d, rfl, ?_⟩
  refine s_tup (s_cons (s_var (d := .str w) rfl (s_cons (s_op (s_callP (s_cons (s_var (d := .int (most : Int)) rfl (s_nil ?_))))))))
  with_reducible refine take_ok (by omega) (by omega) (by omega) fun x x0 x1 => ?_
  obtain ⟨z, rfl⟩ := Int.eq_ofNat_of_zero_le x0
  refine s_cl (s_cons (s_op (s_var (d := .str w) rfl (s_C ⟨_, e2, s_nil ⟨_, e3, ?_⟩⟩))))
  refine ⟨.int ((z : Int) + (add : Int)), rfl, s_nil ⟨by show 2 ≤ lim; decide, by rw [List.length_map]; exact Nat.lt_of_le_of_lt hrs (by decide), ?_⟩⟩
  have : ((wpE L parts ws goals rs (some (.str w)) x7 x8).set 8 (some (.int (most : Int)))).set 6 (some (.list (rs.map Row.d ++ [.tuple [.str w, .int ((z : Int) + (add : Int))]]))) = wpE L parts ws goals (rs ++ [f ((z + add : Nat) : Int)]) (some (.str w)) x7 (some (.int (most : Int))) := by
    unfold wpE
    rw [List.map_append, List.map_singleton, hf, Int.natCast_add]; rfl
  rw [this]
  exact k z (by omega)
theorem wp_turn {w : Str} (hw : w = "plain" ∨ w = "branch" ∨ w = "load" ∨ w = "align" ∨ w = "stop" ∨ w = "jump" ∨ w = "far" ∨ w = "word") (hp1 : 1 ≤ parts) (hp5 : parts ≤ 5) (hg1 : 1 ≤ goals.length) (hg2 : goals.length ≤ 20) (hg : ∀ g ∈ goals, g < 20) (hrs : rs.length ≤ 30) (hn : n < 990000)
    (k : ∀ r x8' n', WRow parts goals w r → n' ≤ n + 3 → E.nx (wpE L parts ws goals (rs ++ [r]) (some (.str w)) x7 x8') n') : wpB E (wpE L parts ws goals rs (some (.str w)) x7 x8) n := by
  have nat_in : ∀ {g hi : Nat} {lo : Nat}, lo ≤ g → g ≤ hi → within ((g : Nat) : Int) (lo : Int) (hi : Int) = true := fun h1 h2 => within_t (by omega) (by omega)
  rcases hw with rfl | rfl | rfl | rfl | rfl | rfl | rfl | rfl
  · refine w_if true ft_Pl rfl (fun _ => ?_) fun h => nomatch h
    refine ⟨rs.map Row.d, rfl, ?_⟩
    refine s_tup (s_cons (s_var (d := .str "plain") rfl (s_cons (s_callP (s_cons (s_lst (s_cons (s_C (s_cons (s_C (s_cons (s_C (s_cons (s_C (s_cons (s_op (s_C (s_callP (s_cons (s_C (s_nil ?_)))))))))))))))))))))
    with_reducible refine take_ok (by decide) (by decide) (by omega) fun x x0 x1 => ?_
    refine ⟨.int (1 + x), rfl, s_nil ⟨by show 5 ≤ lim; decide, s_nil ?_⟩⟩
    refine w_pick_of PyData.int (xs := [1, 2, 7, 20, 1 + x]) (by simp) (by simp) (by omega) fun s hs => ?_
    refine s_cons (s_callP (s_cons (s_C (s_nil ?_))))
    with_reducible refine take_ok (by decide) (by decide) (by omega) fun a a0 a1 => ?_
    refine s_nil ⟨by show 3 ≤ lim; decide, by rw [List.length_map]; exact Nat.lt_of_le_of_lt hrs (by decide), ?_⟩
    have : (wpE L parts ws goals rs (some (.str "plain")) x7 x8).set 6 (some (.list (rs.map Row.d ++ [.tuple [.str "plain", .int s, .int a]]))) = wpE L parts ws goals (rs ++ [.plain s a]) (some (.str "plain")) x7 x8 := by
      unfold wpE
      rw [List.map_append]; rfl
    rw [this]
    have hs2 : 1 ≤ s ∧ s ≤ 99 := by
      simp only [List.mem_cons, List.not_mem_nil, or_false] at hs
      omega
    exact k _ _ _ ⟨rfl, by unfold Row.ok; dsimp only; rw [within_t hs2.1 hs2.2, within_t a0 (by omega)]; rfl, (fun h => nomatch h), (fun h => nomatch h)⟩ (by omega)
  · refine w_if false ft_Pl rfl (fun h => nomatch h) fun _ => ?_
    refine w_if true ft_Ju rfl (fun _ => ?_) fun h => nomatch h
    exact wp_jump (f := Row.branch) (fun _ => rfl) hrs hg1 (by omega) hn fun g h => k _ _ _ ⟨rfl, nat_in (lo := 0) (hi := 19) (Nat.zero_le _) (by have := hg g h; omega), (fun h => nomatch h), fun _ => ⟨g, h, rfl⟩⟩ (by omega)
  · refine w_if false ft_Pl rfl (fun h => nomatch h) fun _ => ?_
    refine w_if false ft_Ju rfl (fun h => nomatch h) fun _ => ?_
    refine w_if false ft_Al rfl (fun h => nomatch h) fun _ => ?_
    exact wp_else (f := Row.load) (most := 3) (add := 0) (fun _ => rfl) hrs (by decide) (by decide) hn rfl rfl rfl fun g h => k _ _ _ ⟨rfl, nat_in (lo := 0) (hi := 65535) (Nat.zero_le _) (by omega), (fun h => nomatch h), (fun h => nomatch h)⟩ (by omega)
  · refine w_if false ft_Pl rfl (fun h => nomatch h) fun _ => ?_
    refine w_if false ft_Ju rfl (fun h => nomatch h) fun _ => ?_
    refine w_if true ft_Al rfl (fun _ => ?_) fun h => nomatch h
    refine ⟨rs.map Row.d, rfl, ?_⟩
    refine s_tup (s_cons (s_var (d := .str "align") rfl (s_cons ?_)))
    refine s_pick PyData.int (xs := [2, 4, 8, 16]) (fun Q' q => s_cons (s_lst (s_cons (s_C (s_cons (s_C (s_cons (s_C (s_cons (s_C (s_nil ⟨by decide, s_nil q⟩)))))))))) ) (by decide) (by decide) (by omega) fun a ha => ?_
    refine s_nil ⟨by show 2 ≤ lim; decide, by rw [List.length_map]; exact Nat.lt_of_le_of_lt hrs (by decide), ?_⟩
    have : (wpE L parts ws goals rs (some (.str "align")) x7 x8).set 6 (some (.list (rs.map Row.d ++ [.tuple [.str "align", .int a]]))) = wpE L parts ws goals (rs ++ [.align a]) (some (.str "align")) x7 x8 := by
      unfold wpE
      rw [List.map_append]; rfl
    rw [this]
    have hk : (Row.align a).ok = true := (by decide : ∀ a ∈ ([2, 4, 8, 16] : List Int), (Row.align a).ok = true) a ha
    exact k _ _ _ ⟨rfl, hk, (fun h => nomatch h), (fun h => nomatch h)⟩ (by omega)
  · refine w_if false ft_Pl rfl (fun h => nomatch h) fun _ => ?_
    refine w_if false ft_Ju rfl (fun h => nomatch h) fun _ => ?_
    refine w_if false ft_Al rfl (fun h => nomatch h) fun _ => ?_
    exact wp_else (f := Row.stop) (most := 9) (add := 1) (fun _ => rfl) hrs (by decide) (by decide) hn rfl rfl rfl fun g h => k _ _ _ ⟨rfl, nat_in (lo := 1) (hi := 99) (by omega) (by omega), (fun h => nomatch h), (fun h => nomatch h)⟩ (by omega)
  · refine w_if false ft_Pl rfl (fun h => nomatch h) fun _ => ?_
    refine w_if true ft_Ju rfl (fun _ => ?_) fun h => nomatch h
    exact wp_jump (f := Row.jump) (fun _ => rfl) hrs hg1 (by omega) hn fun g h => k _ _ _ ⟨rfl, nat_in (lo := 0) (hi := 19) (Nat.zero_le _) (by have := hg g h; omega), (fun h => nomatch h), fun _ => ⟨g, h, rfl⟩⟩ (by omega)
  · refine w_if false ft_Pl rfl (fun h => nomatch h) fun _ => ?_
    refine w_if false ft_Ju rfl (fun h => nomatch h) fun _ => ?_
    refine w_if false ft_Al rfl (fun h => nomatch h) fun _ => ?_
    exact wp_else (f := Row.far) (most := parts) (add := 0) (fun _ => rfl) hrs hp1 (by omega) hn rfl rfl rfl fun g h => k _ _ _ ⟨rfl, nat_in (lo := 0) (hi := 4) (Nat.zero_le _) (by omega), (fun _ => by show ((g + 0 : Nat) : Int) < _; omega), (fun h => nomatch h)⟩ (by omega)
  · refine w_if false ft_Pl rfl (fun h => nomatch h) fun _ => ?_
    refine w_if false ft_Ju rfl (fun h => nomatch h) fun _ => ?_
    refine w_if false ft_Al rfl (fun h => nomatch h) fun _ => ?_
    exact wp_else (f := Row.word) (most := 3) (add := 0) (fun _ => rfl) hrs (by decide) (by decide) hn rfl rfl rfl fun g h => k _ _ _ ⟨rfl, nat_in (lo := 0) (hi := 65535) (Nat.zero_le _) (by omega), (fun h => nomatch h), (fun h => nomatch h)⟩ (by omega)
end
end RC
end
section
namespace RC
open PySem PySem.Spec L2 RR
open PyProof.Rows hiding St cutD
def Word8 (w : Str) : Prop := w = "plain" ∨ w = "branch" ∨ w = "load" ∨ w = "align" ∨ w = "stop" ∨ w = "jump" ∨ w = "far" ∨ w = "word"
theorem word8_ok {w : Str} (h : Word8 w) : PyData.strOk w = true := by
  rcases h with rfl | rfl | rfl | rfl | rfl | rfl | rfl | rfl <;> decide +kernel
theorem grp_words {L : Nat} {g : Grp} (h : GrpOk L g) : ∀ w ∈ flat1 g, Word8 w := fun w hw => by
  unfold flat1 at hw
  unfold Word8
  rcases List.mem_append.mp hw with hw | hw
  · rcases h.mid w hw with rfl | rfl | rfl | rfl <;> simp
  · rcases List.mem_cons.mp hw with rfl | hw
    · rcases h.term with e | e | e <;> rw [e] <;> simp
    · split at hw
      · rw [List.mem_singleton.mp hw]; simp
      · cases hw
theorem flat_words {L : Nat} {gs : List Grp} (h : ∀ g ∈ gs, GrpOk L g) : ∀ w ∈ flatG gs, Word8 w := fun w hw => by
  obtain ⟨g, hg, hw⟩ := List.mem_flatMap.mp hw
  exact grp_words (h g hg) w hw
theorem lay_words : ∀ {ws : List Str}, (∀ w ∈ ws, Word8 w) → PyData.plainAll (ws.map .str) = true ∧ PyData.canLayAll0 (ws.map .str) = true
  | [], _ => ⟨by simp only [List.map_nil, PyData.plainAll], by simp only [List.map_nil, PyData.canLayAll0]⟩
  | w :: ws, h => by
    obtain ⟨a, b⟩ := lay_words fun x hx => h x (List.mem_cons_of_mem _ hx)
    have := word8_ok (h w (List.mem_cons_self ..))
    exact ⟨by rw [List.map_cons, PyData.plainAll, a]; simp [PyData.plain], by rw [List.map_cons, PyData.canLayAll0, b]; simp [PyData.canLay0, this]⟩
theorem cnt_words {ws : List Str} (h : ∀ w ∈ ws, Word8 w) {x : Str} (hx : Word8 x) : dCnt (.list (ws.map .str)) (.str x) = some (.int ((ws.countP fun w => decide (w = x) : Nat) : Int)) := by
  obtain ⟨a, b⟩ := lay_words h
  have ls : Lay 0 (.str x) := Lay.str (word8_ok hx)
  show (if _ then _ else _) = _
  rw [if_pos ⟨a, b, by simp [PyData.plain], ls.shaped (by decide), by have := ls.dep; omega⟩]
  rw [List.countP_map]
  congr 3
def goalsW (ws : List Str) : List Nat := (ws.zipIdx.filter fun q : Str × Nat => !decide (q.1 = ("word" : Str))).map (·.2)
theorem goalsW_mem {ws : List Str} {g : Nat} (h : g ∈ goalsW ws) : ∃ w, ws[g]? = some w ∧ w ≠ ("word" : Str) := by
  obtain ⟨⟨w, i⟩, h1, rfl⟩ := List.mem_map.mp h
  obtain ⟨h2, h3⟩ := List.mem_filter.mp h1
  exact ⟨w, List.mem_zipIdx_iff_getElem?.mp h2, by simpa using h3⟩
theorem goalsW_len (ws : List Str) : (goalsW ws).length ≤ ws.length := by
  unfold goalsW
  rw [List.length_map]
  refine Nat.le_trans (List.length_filter_le _ _) ?_
  rw [List.length_zipIdx]; exact Nat.le_refl _
theorem goalsW_pos {ws : List Str} (h1 : ws ≠ []) (h : shunW true ws = true) : 1 ≤ (goalsW ws).length := by
  cases ws with
  | nil => exact absurd rfl h1
  | cons w ws =>
    rw [shunW, Bool.true_and, Bool.and_eq_true] at h
    have hw : ¬ w = ("word" : Str) := by
      rintro rfl
      exact absurd h.1 (by decide +kernel)
    have : 0 ∈ goalsW (w :: ws) := List.mem_map.mpr ⟨(w, 0), List.mem_filter.mpr ⟨List.mem_zipIdx_iff_getElem?.mpr rfl, by simpa using hw⟩, rfl⟩
    exact List.length_pos_of_mem this
structure WOk (ws : List Str) : Prop where
  ne : ws ≠ []
  len : ws.length ≤ 10
  shun : shunW true ws = true
  mem : ∀ w ∈ ws, Word8 w
  few : (∀ w ∈ ws, ¬ w = ("align" : Str)) ∨ (ws.countP fun w : Str => w == ("jump" : Str) || w == ("branch" : Str)) ≤ 3
theorem wok_of {gs : List Grp} {L : Nat} (hL : L ≤ 3) (h1 : 1 ≤ gs.length) (h2 : gs.length ≤ 2) (hg : ∀ g ∈ gs, GrpOk L g) (few : (∀ w ∈ flatG gs, ¬ w = ("align" : Str)) ∨ ((flatG gs).countP fun w : Str => w == ("jump" : Str) || w == ("branch" : Str)) ≤ 3) : WOk (flatG gs) := by
  obtain ⟨a, b⟩ := flatG_len gs hg
  have hm : (L + 2) * gs.length ≤ 5 * 2 := Nat.mul_le_mul (by omega) h2
  exact ⟨fun z => by rw [z, List.length_nil] at b; omega, by omega, shun_flat gs hg true (.inl fun z => by rw [z] at h1; simp at h1), flat_words hg, few⟩
theorem fine_of {ws : List Str} {rs : Part} {parts : Nat} (h : WOk ws) (hr : rs.map Row.w = ws) (hw : ∀ r ∈ rs, ∃ w, WRow parts (goalsW ws) w r) : Fine rs ∧ ∀ r ∈ rs, r.isFar = true → r.num < (parts : Int) := by
  have hl : rs.length = ws.length := by rw [← hr, List.length_map]
  have hl10 := h.len
  have hne : 1 ≤ ws.length := List.length_pos_iff.mpr h.ne
  have few : evenP rs = true ∨ (rs.filter Row.isJump).length ≤ 3 := by
    rcases h.few with e | e
    · left
      refine List.all_eq_true.mpr fun r hrm => ?_
      rw [← row_align, Bool.not_eq_true']
      have := e r.w (by rw [← hr]; exact List.mem_map_of_mem hrm)
      simpa using this
    · right
      rw [← hr, List.countP_map] at e
      rw [← List.countP_eq_length_filter]
      refine Nat.le_trans (Nat.le_of_eq (List.countP_congr fun r _ => ?_)) e
      show _ ↔ (r.w == "jump" || r.w == "branch") = true
      rw [row_jump]
  refine ⟨⟨⟨by omega, by omega, fun r hrm => (hw r hrm).elim fun w x => x.ok, few.imp id (by omega), fun r hrm hj => ?_, ?_⟩, by omega, few⟩, fun r hrm hf => (hw r hrm).elim fun w x => x.far hf⟩
  · obtain ⟨w, x⟩ := hw r hrm
    obtain ⟨g, hg, e⟩ := x.jump hj
    obtain ⟨z, hz, hzw⟩ := goalsW_mem hg
    rw [e, Int.toNat_natCast]
    rw [← hr, List.getElem?_map] at hz
    cases hq : rs[g]? with
    | none => rw [hq] at hz; cases hz
    | some q =>
      rw [hq] at hz
      cases hz
      refine ⟨q, rfl, ?_⟩
      rw [← row_word]
      simpa using hzw
  · rw [← shun_words, hr]; exact h.shun
theorem count_or {ws : List Str} (p q : Str → Bool) : (ws.countP fun w => p w || q w) ≤ ws.countP p + ws.countP q := by
  induction ws with
  | nil => exact Nat.le_refl _
  | cons w ws ih =>
    rw [List.countP_cons, List.countP_cons, List.countP_cons]
    cases p w <;> cases q w <;> simp <;> omega
theorem w_part_ok {L parts : Nat} {n : Nat} {R : D → Nat → Prop} (hL : L ≤ 3) (hp1 : 1 ≤ parts) (hp5 : parts ≤ 5) (hn : n < 800000) (q : ∀ p n', Fine p → (∀ r ∈ p, r.isFar = true → r.num < (parts : Int)) → n' ≤ n + 70 → R (pd p) n') : m__law_w_part [.int (L : Int), .int (parts : Int)] n R := by
  unfold m__law_w_part b__law_w_part
  refine ⟨rfl, ?_⟩
  refine q_setM (s_callP (s_cons (s_var (d := .int (L : Int)) rfl (s_cons (s_op (s_callP (s_cons (s_C (s_nil ?_)))))))))
  with_reducible refine take_ok (by decide) (by decide) (by omega) fun x x0 x1 => ?_
  refine s_C ⟨.bool (decide (0 < x)), rfl, s_nil ?_⟩
  with_reducible refine w_words_ok (by omega) (by omega) fun gs n1 h1 h2 hg hn1 => ?_
  have mw := flat_words hg
  have rest : ∀ ws : List Str, WOk ws → mSeq (mPar [5, 6] (mCons (mLc (mIEn (mCons (mVar 3) mNil)) (mgTup 2 (mgCons (mgName 7) (mgCons (mgName 4) mgNil))) (mTest (mOp dNe (mVar 4) (mC (.str "word")))) (mVar 7) [7, 4]) (mCons (mLst mNil) mNil))) (mSeq (mFor (mISeq (mVar 3)) (mgName 4) wpB) (mRet (mCl cTuple (mCons (mVar 6) mNil)))) { nx := fun _ n => R .none n, rt := R, bk := fun _ _ => False, ct := fun _ _ => False } [none, some (.int (L : Int)), some (.int (parts : Int)), some (.list (ws.map .str)), none, none, none, none, none] n1 := by
    intro ws W
    have len := W.len
    have gl := goalsW_len ws
    have eg : vLc (vIEn (vCons (vVar 3) vNil)) (vgTup 2 (vgCons (vgName 7) (vgCons (vgName 4) vgNil))) (vTest (vOp dNe (vVar 4) (vC (.str "word")))) (vVar 7) [7, 4] [none, some (.int (L : Int)), some (.int (parts : Int)), some (.list (ws.map .str)), none, none, none, none, none] = some (.list ((goalsW ws).map natD)) := by
      have e : vIEn (vCons (vVar 3) vNil) [none, some (.int (L : Int)), some (.int (parts : Int)), some (.list (ws.map .str)), none, none, none, none, none] = some ((ws.zipIdx).map fun q => .tuple [.int (q.2 : Int), .str q.1]) := by
        refine Eq.trans ?_ (congrArg some (enumD_map PyData.str ws 0))
        rfl
      refine (vLc_of e (by rw [List.length_map, List.length_zipIdx]; exact Nat.le_trans len (by decide)) (vcomp_filterOf _ (fun q : Str × Nat => !decide (q.1 = ("word" : Str))) (fun q => natD q.2) fun q _ => ⟨_, rfl, ?_, fun _ => rfl⟩)).trans ?_
      · exact vTest_of ((vOp_of rfl rfl).trans (dNe_str q.1 "word"))
      · unfold goalsW
        rw [List.map_map]; rfl
    refine q_par ((f_Cons (f_Lc (f_IEn (f_Cons f_Var f_Nil)) (f_gTup (f_gCons f_gName (f_gCons f_gName f_gNil))) (f_Test (f_Op f_Var f_C)) f_Var) (f_Cons (f_Lst f_Nil) f_Nil)) _ _ [.list ((goalsW ws).map natD), .list []] _ (vCons_of eg rfl) ⟨rfl, ?_⟩)
    refine q_for (s_iseq (s_var (d := .list (ws.map .str)) rfl ⟨_, rfl, ?_⟩))
    refine w_for (fun ds Γ n' => ∃ rs pre suf x4 x8, Γ = wpE L parts ws (goalsW ws) rs x4 none x8 ∧ ds = suf.map .str ∧ ws = pre ++ suf ∧ rs.map Row.w = pre ∧ (∀ r ∈ rs, ∃ w, WRow parts (goalsW ws) w r) ∧ n' ≤ n1 + 3 * pre.length) (fun d ds Γ n2 hI K hK => ?_) (fun Γ n2 hI => ?_) _ _ _ ⟨[], [], ws, none, none, rfl, rfl, rfl, rfl, (fun r h => nomatch h), Nat.le_add_right _ _⟩
    · obtain ⟨rs, pre, suf, x4, x8, rfl, hd, hs, hr, hw, h2⟩ := hI
      cases suf with
      | nil => cases hd
      | cons w suf =>
        rw [List.map_cons] at hd
        obtain ⟨rfl, rfl⟩ := List.cons.inj hd
        have wm : w ∈ ws := by rw [hs]; simp
        have pl : pre.length ≤ 10 := by
          have : ws.length = pre.length + (w :: suf).length := by rw [hs, List.length_append]
          omega
        have rl : rs.length = pre.length := by rw [← hr, List.length_map]
        refine s_gName ?_
        refine wp_turn (x7 := none) (W.mem w wm) hp1 hp5 (goalsW_pos W.ne W.shun) (by omega) (fun g hg => ?_) (by omega) (by omega) fun r x8' n3 hwr hn3 => ?_
        · obtain ⟨z, hz, _⟩ := goalsW_mem hg
          have := (List.getElem?_eq_some_iff.mp hz).1
          omega
        · refine hK _ _ ⟨rs ++ [r], pre ++ [w], suf, some (.str w), x8', rfl, rfl, by rw [hs, List.append_assoc]; rfl, by rw [List.map_append, hr, List.map_singleton, hwr.w], fun z hz => ?_, by rw [List.length_append, List.length_singleton]; omega⟩
          rcases List.mem_append.mp hz with hz | hz
          · exact hw z hz
          · rw [List.mem_singleton.mp hz]; exact ⟨w, hwr⟩
    · obtain ⟨rs, pre, suf, x4, x8, rfl, hd, hs, hr, hw, h2⟩ := hI
      cases suf with
      | cons _ _ => cases hd
      | nil =>
        rw [List.append_nil] at hs
        subst hs
        obtain ⟨f1, f2⟩ := fine_of W hr hw
        exact w_ret (f_Cl (f_Cons f_Var f_Nil)) rfl (q rs n2 f1 f2 (by omega))
  have ec : vTest (vOp dGt (vOp dAdd (vCnt (vVar 3) (vC (.str "jump"))) (vCnt (vVar 3) (vC (.str "branch")))) (vC (.int 3))) [none, some (.int (L : Int)), some (.int (parts : Int)), some (.list ((flatG gs).map .str)), none, none, none, none, none] = some (decide ((3 : Int) < (((flatG gs).countP fun w : Str => decide (w = ("jump" : Str)) : Nat) : Int) + (((flatG gs).countP fun w : Str => decide (w = ("branch" : Str)) : Nat) : Int))) := by
    refine vTest_of (o2 (o2 (x := .int _) (y := .int _) (Eq.trans rfl (cnt_words mw (x := "jump") (by unfold Word8; simp))) (Eq.trans rfl (cnt_words mw (x := "branch") (by unfold Word8; simp))) rfl) rfl rfl)
  refine w_seq (w_if _ (f_Test (f_Op (f_Op (f_Cnt f_Var f_C) (f_Cnt f_Var f_C)) f_C)) ec (fun hc => ?_) fun hc => ?_)
  · have ef : vLc (vISeq (vVar 3)) (vgName 4) (vTest (vOp dNe (vVar 4) (vC (.str "align")))) (vVar 4) [4] [none, some (.int (L : Int)), some (.int (parts : Int)), some (.list ((flatG gs).map .str)), none, none, none, none, none] = some (.list ((flatG (gs.map noAl)).map .str)) := by
      refine (vLc_of (ds := (flatG gs).map .str) rfl (by rw [List.length_map]; have := (flatG_len gs hg).1; have hm : (L + 2) * gs.length ≤ 5 * 2 := Nat.mul_le_mul (by omega) h2; exact Nat.le_trans (Nat.le_trans this hm) (by decide)) (vcomp_filterOf PyData.str (fun w : Str => !decide (w = ("align" : Str))) PyData.str fun w _ => ⟨_, rfl, vTest_of ((vOp_of rfl rfl).trans (dNe_str w "align")), fun _ => rfl⟩)).trans ?_
      rw [← flat_noAl gs hg]
      congr 3
      
    refine w_set (f_Lc (f_ISeq f_Var) f_gName (f_Test (f_Op f_Var f_C)) f_Var) ef ?_
    have hg' : ∀ g ∈ gs.map noAl, GrpOk L g := fun g hgm => by
      obtain ⟨y, hy, rfl⟩ := List.mem_map.mp hgm
      exact noAl_ok (hg y hy)
    refine rest _ (wok_of hL (by rw [List.length_map]; exact h1) (by rw [List.length_map]; exact h2) hg' (.inl fun w hw => ?_))
    rw [← flat_noAl gs hg] at hw
    simpa using (List.mem_filter.mp hw).2
  · refine rest _ (wok_of hL h1 h2 hg (.inr ?_))
    have := of_decide_eq_false hc
    have c := count_or (ws := flatG gs) (fun w : Str => w == ("jump" : Str)) (fun w : Str => w == ("branch" : Str))
    have c1 : ((flatG gs).countP fun w : Str => w == ("jump" : Str)) = (flatG gs).countP fun w : Str => decide (w = ("jump" : Str)) := List.countP_congr fun w _ => by simp
    have c2 : ((flatG gs).countP fun w : Str => w == ("branch" : Str)) = (flatG gs).countP fun w : Str => decide (w = ("branch" : Str)) := List.countP_congr fun w _ => by simp
    omega
end RC
end
section
namespace RC
open PySem PySem.Spec L2 RR
open PyProof.Rows hiding St cutD
end RC
end
section
namespace RC
open PySem PySem.Spec L2 RR
open PyProof.Rows hiding St cutD
structure AwI (many : Nat) (ws : List Str) : Prop where
  mem : ∀ w ∈ ws, Word8 w
  even : ∀ w ∈ ws, ¬ w = ("align" : Str)
  pre : okPre true ws = true
  last : ws.length = many → lastGo true ws = false
theorem AwI.ok {many : Nat} {ws : List Str} (I : AwI many ws) (h1 : 1 ≤ many) (h2 : many ≤ 10) (e : ws.length = many) : WOk ws :=
  ⟨fun z => by rw [z, List.length_nil] at e; omega, by omega, by rw [shun_pre, I.pre, I.last e]; rfl, I.mem, .inl I.even⟩
end RC
end
section
namespace RC
open PySem PySem.Spec L2 RR
open PyProof.Rows hiding St cutD
end RC
end
section
namespace RC
open PySem PySem.Spec L2 RR
open PyProof.Rows hiding St cutD
theorem apnd_of {i : Nat} {a : VE} {Γ : DEnv} {ds : List D} {d : D} (h : vVar i Γ = some (.list ds)) (k : a Γ = some d) (l : ds.length < lim) : vAppend i a Γ = some (.nx (Γ.set i (some (.list (ds ++ [d]))))) := by
  unfold vAppend
  rw [h, Option.bind_some]
  show Option.bind (some ds) _ = _
  rw [Option.bind_some, k, Option.bind_some, if_pos l]
end RC
end
section
namespace RC
open PySem PySem.Spec L2 RR
open PyProof.Rows hiding St cutD
end RC
end
section
namespace RC
open PySem PySem.Spec L2 RR
open PyProof.Rows hiding St cutD
end RC
end
section
namespace RC
open PySem PySem.Spec L2 RR
open PyProof.Rows hiding St cutD
end RC
end
section
namespace RC
open PySem PySem.Spec L2 RR
open PyProof.Rows hiding St cutD
end RC
end
section
namespace RC
open PySem PySem.Spec L2 RR
open PyProof.Rows hiding St
open PySem.W (alike dataLt dataLe)
end RC
end
section
namespace RC
open PySem PySem.Spec L2 RR
open PyProof.Rows hiding St
end RC
end
section
namespace RC
open PySem PySem.Spec L2 RR
open PyProof.Rows hiding St
end RC
end
section
namespace RC
open PySem PySem.Spec L2 RR
open PyProof.Rows hiding St cutD
def subsF (acc : List (List Nat)) (r : Nat) : List (List Nat) := acc ++ acc.map (· ++ [r])
end RC
namespace RC
open PySem PySem.Spec L2 RR
open PyProof.Rows hiding St cutD
theorem eq_empty (us : List Nat) : dEq (.list (us.map natD)) (.list []) = some (.bool us.isEmpty) := by
  have t0 : SeqAt.shaped (PyData.list []) = true := by decide +kernel
  unfold dEq
  rw [if_pos (.inr ⟨(Lay.nats us).shaped (by decide), t0⟩)]
  cases us <;> rfl
end RC
end
section
namespace RC
open PySem PySem.Spec L2 RR
open PyProof.Rows hiding St cutD
theorem align_no {n : Int} (ok : (Row.align n).ok = true) : n = 2 ∨ n = 4 ∨ n = 8 ∨ n = 16 := by
  unfold Row.ok at ok
  simp only [Bool.or_eq_true, beq_iff_eq] at ok
  omega
theorem align_back {n a : Int} (h : n = 2 ∨ n = 4 ∨ n = 8 ∨ n = 16) : (n - a % n) % n = -a % n := by
  rcases h with rfl | rfl | rfl | rfl <;> omega
theorem sub_filter : ∀ {xs L : List Nat}, L.Nodup → xs.Sublist L → xs = L.filter fun k => xs.contains k := fun {xs L} nd h => by
  induction h with
  | slnil => rfl
  | @cons l1 l2 a h ih =>
    have na := (List.nodup_cons.mp nd).1
    have hn : l1.contains a = false := by
      cases q : l1.contains a with
      | false => rfl
      | true => exact absurd (h.subset (List.contains_iff_mem.mp q)) na
    rw [List.filter_cons, hn, if_neg (by decide)]
    exact ih (List.nodup_cons.mp nd).2
  | @cons_cons l1 l2 a h ih =>
    have na := (List.nodup_cons.mp nd).1
    rw [List.filter_cons, if_pos (by rw [List.contains_cons]; simp)]
    refine congrArg (a :: ·) ((ih (List.nodup_cons.mp nd).2).trans ?_)
    refine List.filter_congr fun x hx => ?_
    rw [List.contains_cons]
    have : (x == a) = false := by
      rw [beq_eq_false_iff_ne]
      rintro rfl
      exact na hx
    rw [this]; rfl
theorem sub_same {xs ys L : List Nat} (nd : L.Nodup) (h : xs.Sublist L) (k : ys.Sublist L) (e : ∀ x, x ∈ xs ↔ x ∈ ys) : xs = ys := by
  rw [sub_filter nd h, sub_filter nd k]
  refine List.filter_congr fun x _ => ?_
  rw [Bool.eq_iff_iff, List.contains_iff_mem, List.contains_iff_mem]
  exact e x
end RC
end
section
namespace RC
open PySem PySem.Spec L2 RR
open PyProof.Rows hiding St cutD
open PySem.W (alike dataLt dataLe minD)
end RC
end
section
namespace RC
open PySem PySem.Spec L2 RR
open PyProof.Rows hiding St cutD
def sizeN (p : Part) (m : Mach) (ks : List Nat) : Int := (addrs m ks p 0 0).getLast?.getD 0
theorem addrs_end (p : Part) (m : Mach) (ks : List Nat) : ∃ ys, addrs m ks p 0 0 = ys ++ [sizeN p m ks] := by
  have h := addrs_len m ks p 0 0
  unfold sizeN
  rcases List.eq_nil_or_concat (addrs m ks p 0 0) with e | ⟨ys, b, e⟩
  · rw [e, List.length_nil] at h; omega
  · rw [List.concat_eq_append] at e
    exact ⟨ys, by rw [e]; simp⟩
theorem ix_size (p : Part) (m : Mach) (ks : List Nat) : dIx (.list ((addrs m ks p 0 0).map .int)) (.int (-1)) = some (.int (sizeN p m ks)) := by
  obtain ⟨ys, e⟩ := addrs_end p m ks
  rw [e]
  exact ixEnd PyData.int ys _
theorem v_size_of_eq {p : Part} {m : Mach} {ks : List Nat} (ok : p.all Row.ok = true) (hp : p.length ≤ 900) : v_size_of [pd p, md m, .list (ks.map natD)] = some (.int (sizeN p m ks)) := by
  refine vFun_of rfl (vRet_of ?_)
  exact (vOp_of (Eq.trans rfl (v_addresses_of_eq p m ks ok hp)) rfl).trans (ix_size p m ks)
end RC
end
section
namespace RC
open PySem PySem.Spec L2 RR
open PyProof.Rows hiding St cutD
theorem vISeq_of31 {a : VE} {Γ : DEnv} {L : List D} (h : a Γ = some (.list L)) : vISeq a Γ = some L := by
  unfold vISeq
  rw [h]; rfl
theorem vFor_of31 {i : VI} {g : VG} {b : VS} {Γ : DEnv} {ds : List D} (h : i Γ = some ds) : vFor i g b Γ = vfor g b ds Γ := by
  unfold vFor
  rw [h, Option.bind_some]
theorem vTru_nats31 {a : VE} {Γ : DEnv} {us : List Nat} (h : a Γ = some (.list (us.map natD))) : vTru a Γ = some (!us.isEmpty) := by
  unfold vTru
  rw [h]
  cases us <;> rfl
def natsD (ks : List Nat) : D := .list (ks.map natD)
def fitB (p : Part) (m : Mach) (ks : List Nat) : Bool := (unfit p m ks).isEmpty
def triOf (p : Part) (m : Mach) (ks : List Nat) : Int × Int × List Nat := (sizeN p m ks, -(ks.length : Int), ks)
def minL : List (Int × Int × List Nat) → List Nat
  | [] => []
  | x :: xs => (minT x xs).2.2
def triS (p : Part) (m : Mach) (ls : List (List Nat)) : List (Int × Int × List Nat) := (ls.filter (fitB p m)).map (triOf p m)
def leastN (p : Part) (m : Mach) : List Nat := minL (triS p m (subsS (jumpIdx p)))
theorem fit_nil (p : Part) (m : Mach) : fitB p m [] = true := rfl
theorem minL_mem {xs : List (Int × Int × List Nat)} (h : xs ≠ []) : ∃ q ∈ xs, minL xs = q.2.2 := by
  cases xs with
  | nil => exact absurd rfl h
  | cons x xs => exact ⟨_, (minT_eq x xs).2, rfl⟩
theorem minL_v {xs : List (Int × Int × List Nat)} (h : xs ≠ []) : (cMinD [.list (xs.map triD)]).bind (fun d => dIx d (.int 2)) = some (natsD (minL xs)) := by
  cases xs with
  | nil => exact absurd rfl h
  | cons x xs => rw [cMin_tri]; rfl
theorem triS_ne {p : Part} {m : Mach} {ls : List (List Nat)} (h : [] ∈ ls) : triS p m ls ≠ [] := by
  have : triOf p m [] ∈ triS p m ls := List.mem_map.mpr ⟨[], List.mem_filter.mpr ⟨h, fit_nil p m⟩, rfl⟩
  intro e
  rw [e] at this
  cases this
theorem least_mem {p : Part} {m : Mach} (h : (jumpIdx p).length ≤ 6) : leastN p m ∈ subsS (jumpIdx p) ∧ fitB p m (leastN p m) = true := by
  obtain ⟨q, hq, e⟩ := minL_mem (triS_ne (p := p) (m := m) (subs_nil31 h))
  obtain ⟨ks, hk, rfl⟩ := List.mem_map.mp hq
  have := List.mem_filter.mp hk
  unfold leastN
  rw [e]
  exact this
theorem v_least_forms_eq {p : Part} {m : Mach} (ok : partOk p = true) (h6 : (jumpIdx p).length ≤ 6) : v_least_forms [pd p, md m] = some (natsD (leastN p m)) := by
  have rows := partOk_rows ok
  have len := (partOk_len ok).2
  have hm : ∀ ks ∈ subsS (jumpIdx p), (∀ k ∈ ks, JumpAt p k) ∧ ks.length ≤ 1000 := fun ks hk => ⟨fun k h => part_jump ok (jumpIdx_mem (subs_mem31 h6 hk k h)), by have := (subs_len31 h6).2 ks hk; omega⟩
  refine vFun_of rfl ?_
  refine vSeq_nx (Γ1 := [some (pd p), some (md m), some (.list (((subsS (jumpIdx p)).filter (fitB p m)).map natsD)), none]) (vSet_of ?_) (vRet_of ?_)
  · refine vLc_of (ds := (subsS (jumpIdx p)).map natsD) (vISeq_of31 ((vCall_of (vCons_of (Eq.trans rfl (v_jump_rows_eq p (Nat.le_trans len (by decide)))) rfl)).trans (v_sublists_nats h6))) (by rw [List.length_map]; exact Nat.le_trans (subs_len31 h6).1 (by decide)) (vcomp_filterOf natsD (fitB p m) natsD fun ks hk => ⟨_, rfl, ?_, fun _ => rfl⟩)
    refine (vNot_of (vTru_nats31 (Eq.trans rfl (v_unfit_rows_eq rows (by omega) (hm ks hk).1 (hm ks hk).2)))).trans ?_
    rw [Bool.not_not]; rfl
  · have e : vLc (vISeq (vVar 2)) (vgName 3) vYes (vTup (vCons (vCall v_size_of (vCons (vVar 0) (vCons (vVar 1) (vCons (vVar 3) vNil)))) (vCons (vUn dNeg (vCl cLen (vCons (vVar 3) vNil))) (vCons (vVar 3) vNil)))) [3] [some (pd p), some (md m), some (.list (((subsS (jumpIdx p)).filter (fitB p m)).map natsD)), none] = some (.list ((triS p m (subsS (jumpIdx p))).map triD)) := by
      unfold triS
      rw [List.map_map]
      refine vLc_of (ds := ((subsS (jumpIdx p)).filter (fitB p m)).map natsD) (vISeq_of31 rfl) (by rw [List.length_map]; exact Nat.le_trans (List.length_filter_le _ _) (Nat.le_trans (subs_len31 h6).1 (by decide))) (vcomp_mapOf natsD (triD ∘ triOf p m) fun ks hk => ⟨_, rfl, rfl, ?_⟩)
      refine vTup_of (vCons_of (Eq.trans rfl (v_size_of_eq rows (by omega))) (vCons_of (x := .int (-(ks.length : Int))) ?_ (vCons_of rfl rfl))) (by show 3 ≤ lim; decide)
      show (some (PyData.int ((ks.map natD).length : Int))).bind dNeg = _
      rw [List.length_map]; rfl
    have := minL_v (triS_ne (p := p) (m := m) (subs_nil31 h6))
    refine Eq.trans ?_ this
    show ((vCl cMinD (vCons _ vNil) _).bind fun x => _) = _
    rw [show vCl cMinD (vCons (vLc (vISeq (vVar 2)) (vgName 3) vYes (vTup (vCons (vCall v_size_of (vCons (vVar 0) (vCons (vVar 1) (vCons (vVar 3) vNil)))) (vCons (vUn dNeg (vCl cLen (vCons (vVar 3) vNil))) (vCons (vVar 3) vNil)))) [3]) vNil) [some (pd p), some (md m), some (.list (((subsS (jumpIdx p)).filter (fitB p m)).map natsD)), none] = cMinD [.list ((triS p m (subsS (jumpIdx p))).map triD)] from vCl_of (vCons_of e rfl)]
    rfl
end RC
end
section
namespace RC
open PySem PySem.Spec L2 RR
open PyProof.Rows hiding St cutD
end RC
end
section
namespace RC
open PySem PySem.Spec L2 RR
open PyProof.Rows hiding St cutD
local macro_rules | `(tactic| walk_at "fp") => `(tactic| with_reducible first | exact fp__law_greatest | exact fp__law_chain | exact fp__law_jumps)
local macro_rules | `(tactic| walk_at "fe") => `(tactic| with_reducible first
  | exact f_Var | exact f_C | exact f_Nil | exact f_Dict0 | exact f_NoPart | exact f_Yes | exact f_gName | exact f_gNil | exact f_pNil
  | (apply f_Cl <;> walk_at "fe") | (apply f_Op <;> walk_at "fe") | (apply f_Un <;> walk_at "fe") | (apply f_Cons <;> walk_at "fe")
  | (apply f_Test <;> walk_at "fe") | (apply f_Tru <;> walk_at "fe")
  | (apply f_Call (by walk_at "fp") <;> walk_at "fe") | (apply f_CallK (by walk_at "fp") <;> walk_at "fe")
  | (apply f_Tup <;> walk_at "fe") | (apply f_Lst <;> walk_at "fe") | (apply f_Isi <;> walk_at "fe") | (apply f_Isi2 <;> walk_at "fe")
  | (apply f_Sl <;> walk_at "fe") | (apply f_Part <;> walk_at "fe")
  | (apply f_And <;> walk_at "fe") | (apply f_Or <;> walk_at "fe") | (apply f_Not <;> walk_at "fe")
  | (apply f_AndV <;> walk_at "fe") | (apply f_OrV <;> walk_at "fe") | (apply f_NotV <;> walk_at "fe")
  | (apply f_If <;> walk_at "fe") | (apply f_Chain <;> walk_at "fe") | (apply f_Look <;> walk_at "fe") | (apply f_LookL <;> walk_at "fe") | (apply f_Rev <;> walk_at "fe")
  | (apply f_ISeq <;> walk_at "fe") | (apply f_IEn <;> walk_at "fe") | (apply f_IZ <;> walk_at "fe") | (apply f_IR1 <;> walk_at "fe") | (apply f_IR2 <;> walk_at "fe") | exact f_IKeys | exact f_IVals | exact f_IItems
  | (apply f_gTup <;> walk_at "fe") | (apply f_gCons <;> walk_at "fe") | (apply f_Lc <;> walk_at "fe")
  | (apply f_Disp <;> walk_at "fe") | (apply f_pCons <;> walk_at "fe")
  | (apply f_Seq <;> walk_at "fe") | (apply f_IfS <;> walk_at "fe") | (apply f_Ret <;> walk_at "fe") | exact f_Next | (apply f_Set <;> walk_at "fe") | (apply f_Par <;> walk_at "fe") | (apply f_Asg <;> walk_at "fe") | (apply f_Drop <;> walk_at "fe") | (apply f_Append <;> walk_at "fe") | (apply f_For <;> walk_at "fe"))
local macro_rules | `(tactic| walk_at "len") => `(tactic| first | (simp only [List.length_cons, List.length_nil]; decide) | assumption)
local macro_rules | `(tactic| walk_at "ev") => `(tactic| first
  | with_reducible assumption
  | ((with_reducible apply o2) <;> walk_at "ev") | ((with_reducible apply o1) <;> walk_at "ev") | ((with_reducible apply vCons_of) <;> walk_at "ev") | ((with_reducible apply o_cl) <;> walk_at "ev") | ((with_reducible apply o_call) <;> walk_at "ev")
  | ((with_reducible apply vTest_of) <;> walk_at "ev") | ((with_reducible apply o_tup) <;> first | walk_at "len" | walk_at "ev") | ((with_reducible apply o_lst) <;> first | walk_at "len" | walk_at "ev")
  | ((with_reducible apply vNot_t) <;> walk_at "ev") | ((with_reducible apply vNot_f) <;> walk_at "ev") | ((with_reducible apply vNot_of) <;> walk_at "ev") | ((with_reducible apply vIsi_of) <;> walk_at "ev") | ((with_reducible apply vNotV_of) <;> walk_at "ev") | ((with_reducible apply o_sl) <;> walk_at "ev") | ((with_reducible apply o_part) <;> walk_at "ev")
  | rfl)
local macro_rules | `(tactic| walk_at "we") => `(tactic| (apply w_exp; (case h => walk_at "fe"); (case e => walk_at "ev")))
local macro_rules | `(tactic| walk_at "wa") => `(tactic| (apply w_args; (case h => walk_at "fe"); (case e => walk_at "ev")))
local macro_rules | `(tactic| walk_at "wt") => `(tactic| (apply w_tst; (case h => walk_at "fe"); (case e => walk_at "ev")))
local macro_rules | `(tactic| walk_at "wi") => `(tactic| (apply w_it; (case h => walk_at "fe"); (case e => walk_at "ev")))
local macro_rules | `(tactic| walk_at "qs") => `(tactic| (apply q_set; (case h => walk_at "fe"); (case e => walk_at "ev")))
local macro_rules | `(tactic| walk_at "qn") => `(tactic| (apply q_no; (case h => walk_at "fe"); (case e => walk_at "ev")))
local macro_rules | `(tactic| walk_at "wr") => `(tactic| (apply w_ret; (case h => walk_at "fe"); (case e => walk_at "ev")))
local macro_rules | `(tactic| walk_at "sp") => `(tactic| (apply s_callP; (apply w_args; (case h => walk_at "fe"); (case e => walk_at "ev"))))
theorem tup_row (r : Row) : tupD r.d = true := by cases r <;> rfl
theorem tup_rows : ∀ rs : Part, tupD.tupAll (rs.map Row.d) = true
  | [] => rfl
  | r :: rs => by rw [List.map_cons, tupD.tupAll, tup_row, tup_rows rs]; rfl
theorem tup_part (p : Part) : tupD (pd p) = true := by
  unfold pd
  rw [tupD, tup_rows]
end RC
end
section
namespace RC
open PySem PySem.Spec L2 RR
open PyProof.Rows hiding St cutD
theorem seen_reprX {k w : Nat} {d : D} (h : Seen k w d) (hk : k ≤ 64) (hw : w ≤ 2 ^ 18) : cReprX [d] = some (.str d.shown) := by
  unfold cReprX
  dsimp only
  rw [if_pos (h.rep hk hw)]
end RC
end
section
namespace RC
open PySem PySem.Spec L2 RR
open PyProof.Rows hiding St
end RC
end
section
namespace RC
open PySem PySem.Spec L2 RR
open PyProof.Rows hiding St
end RC
end
section
namespace RC
open PySem PySem.Spec L2 RR
open PyProof.Rows hiding St cutD
structure WOk31 (ws : List Str) : Prop where
  ne : ws ≠ []
  len : ws.length ≤ 14
  shun : shunW true ws = true
  mem : ∀ w ∈ ws, Word8 w
  few : (∀ w ∈ ws, ¬ w = ("align" : Str)) ∨ (ws.countP fun w : Str => w == ("jump" : Str) || w == ("branch" : Str)) ≤ 6
def jc31 (ws : List Str) : Int := ((ws.countP fun w : Str => decide (w = ("jump" : Str)) : Nat) : Int) + ((ws.countP fun w : Str => decide (w = ("branch" : Str)) : Nat) : Int)
structure AwI31 (bends : Int) (many : Nat) (ws : List Str) : Prop where
  mem : ∀ w ∈ ws, Word8 w
  even : bends = 0 → ∀ w ∈ ws, ¬ w = ("align" : Str)
  pre : okPre true ws = true
  last : ws.length = many → lastGo true ws = false
  few : 0 < bends → jc31 ws ≤ bends
theorem AwI31.ok {bends : Int} (hb : bends = 0 ∨ bends = 3 ∨ bends = 6) {many : Nat} {ws : List Str} (I : AwI31 bends many ws) (h1 : 1 ≤ many) (h2 : many ≤ 14) (e : ws.length = many) : WOk31 ws := by
  refine ⟨fun z => by rw [z, List.length_nil] at e; omega, by omega, by rw [shun_pre, I.pre, I.last e]; rfl, I.mem, ?_⟩
  by_cases z : bends = 0
  · exact .inl (I.even z)
  · right
    have h := I.few (by omega)
    have hc := count_or (ws := ws) (fun w => w == ("jump" : Str)) (fun w => w == ("branch" : Str))
    have ej : ∀ x : Str, (fun w : Str => w == x) = fun w : Str => decide (w = x) := fun x => by
      funext w
      rw [Bool.eq_iff_iff]
      simp
    unfold jc31 at h
    rw [ej, ej] at hc
    refine Nat.le_trans (Nat.le_of_eq ?_) (Nat.le_trans hc (by omega))
    refine List.countP_congr fun w _ => ?_
    simp
end RC
end
section
namespace RC
open PySem PySem.Spec L2 RR
open PyProof.Rows hiding St
end RC
end
section
namespace RC
open PySem PySem.Spec L2 RR
open PyProof.Rows hiding St cutD
/-- the word that a part asks for, and one with a machine -/
def pw (d : D) : Str := match partOf d with
  | none => "part"
  | some p => if evenP p = true then "fine" else "even"
end RC
end
section
namespace RC
open PySem PySem.Spec L2 RR
open PyProof.Rows hiding St cutD
theorem seen_mach13 {m : Mach} (h : machOk m = true) : Seen 1 800 (md m) := by
  unfold machOk machIn within at h
  simp only [Bool.and_eq_true, decide_eq_true_eq] at h
  refine Seen.tupN (k := 0) (w := 80) (n := 8) (fun x hx => ?_) (by simp) (by decide)
  simp only [List.mem_cons, List.not_mem_nil, or_false] at hx
  rcases hx with rfl | rfl | rfl | rfl | rfl | rfl | rfl | rfl <;> exact Seen.int (by omega)
end RC
end
section
namespace RC
open PySem PySem.Spec L2 RR
open PyProof.Rows hiding St
end RC
end
section
namespace RC
open PySem PySem.Spec L2 RR
open PyProof.Rows hiding St
end RC
end
section
namespace RC
open PySem PySem.Spec L2 RR
open PyProof.Rows hiding St cutD
local macro_rules | `(tactic| walk_at "fp") => `(tactic| with_reducible first | exact fp__law_w_shifted)
local macro_rules | `(tactic| walk_at "fe") => `(tactic| with_reducible first
  | exact f_Var | exact f_C | exact f_Nil | exact f_Dict0 | exact f_NoPart | exact f_Yes | exact f_gName | exact f_gNil | exact f_pNil
  | (apply f_Cl <;> walk_at "fe") | (apply f_Op <;> walk_at "fe") | (apply f_Un <;> walk_at "fe") | (apply f_Cons <;> walk_at "fe")
  | (apply f_Test <;> walk_at "fe") | (apply f_Tru <;> walk_at "fe")
  | (apply f_Call (by walk_at "fp") <;> walk_at "fe") | (apply f_CallK (by walk_at "fp") <;> walk_at "fe")
  | (apply f_Tup <;> walk_at "fe") | (apply f_Lst <;> walk_at "fe") | (apply f_Isi <;> walk_at "fe") | (apply f_Isi2 <;> walk_at "fe")
  | (apply f_Sl <;> walk_at "fe") | (apply f_Part <;> walk_at "fe")
  | (apply f_And <;> walk_at "fe") | (apply f_Or <;> walk_at "fe") | (apply f_Not <;> walk_at "fe")
  | (apply f_AndV <;> walk_at "fe") | (apply f_OrV <;> walk_at "fe") | (apply f_NotV <;> walk_at "fe")
  | (apply f_If <;> walk_at "fe") | (apply f_Chain <;> walk_at "fe") | (apply f_Look <;> walk_at "fe") | (apply f_LookL <;> walk_at "fe") | (apply f_Rev <;> walk_at "fe")
  | (apply f_ISeq <;> walk_at "fe") | (apply f_IEn <;> walk_at "fe") | (apply f_IZ <;> walk_at "fe") | (apply f_IR1 <;> walk_at "fe") | (apply f_IR2 <;> walk_at "fe") | exact f_IKeys | exact f_IVals | exact f_IItems
  | (apply f_gTup <;> walk_at "fe") | (apply f_gCons <;> walk_at "fe") | (apply f_Lc <;> walk_at "fe")
  | (apply f_Disp <;> walk_at "fe") | (apply f_pCons <;> walk_at "fe")
  | (apply f_Seq <;> walk_at "fe") | (apply f_IfS <;> walk_at "fe") | (apply f_Ret <;> walk_at "fe") | exact f_Next | (apply f_Set <;> walk_at "fe") | (apply f_Par <;> walk_at "fe") | (apply f_Asg <;> walk_at "fe") | (apply f_Drop <;> walk_at "fe") | (apply f_Append <;> walk_at "fe") | (apply f_For <;> walk_at "fe"))
local macro_rules | `(tactic| walk_at "len") => `(tactic| first | (simp only [List.length_cons, List.length_nil]; decide) | assumption)
local macro_rules | `(tactic| walk_at "ev") => `(tactic| first
  | with_reducible assumption
  | ((with_reducible apply o2) <;> walk_at "ev") | ((with_reducible apply o1) <;> walk_at "ev") | ((with_reducible apply vCons_of) <;> walk_at "ev") | ((with_reducible apply o_cl) <;> walk_at "ev") | ((with_reducible apply o_call) <;> walk_at "ev")
  | ((with_reducible apply vTest_of) <;> walk_at "ev") | ((with_reducible apply o_tup) <;> first | walk_at "len" | walk_at "ev") | ((with_reducible apply o_lst) <;> first | walk_at "len" | walk_at "ev")
  | ((with_reducible apply vNot_of) <;> walk_at "ev") | ((with_reducible apply vIsi_of) <;> walk_at "ev") | ((with_reducible apply vNotV_of) <;> walk_at "ev") | ((with_reducible apply o_sl) <;> walk_at "ev") | ((with_reducible apply o_part) <;> walk_at "ev")
  | rfl)
local macro_rules | `(tactic| walk_at "we") => `(tactic| (apply w_exp; (case h => walk_at "fe"); (case e => walk_at "ev")))
local macro_rules | `(tactic| walk_at "wa") => `(tactic| (apply w_args; (case h => walk_at "fe"); (case e => walk_at "ev")))
local macro_rules | `(tactic| walk_at "wt") => `(tactic| (apply w_tst; (case h => walk_at "fe"); (case e => walk_at "ev")))
local macro_rules | `(tactic| walk_at "wi") => `(tactic| (apply w_it; (case h => walk_at "fe"); (case e => walk_at "ev")))
local macro_rules | `(tactic| walk_at "qs") => `(tactic| (apply q_set; (case h => walk_at "fe"); (case e => walk_at "ev")))
local macro_rules | `(tactic| walk_at "qn") => `(tactic| (apply q_no; (case h => walk_at "fe"); (case e => walk_at "ev")))
local macro_rules | `(tactic| walk_at "wr") => `(tactic| (apply w_ret; (case h => walk_at "fe"); (case e => walk_at "ev")))
local macro_rules | `(tactic| walk_at "sp") => `(tactic| (apply s_callP; (apply w_args; (case h => walk_at "fe"); (case e => walk_at "ev"))))
theorem cut_take (xs : List D) (k : Nat) : RR.cutD xs none (some (k : Int)) = xs.take k := by
  have e1 : HT.sIx xs.length 0 none = 0 := rfl
  have e2 : HT.sIx xs.length xs.length (some (k : Int)) = min k xs.length := HT.sIx_nat _ _ k
  show (xs.drop (HT.sIx xs.length 0 none)).take (HT.sIx xs.length xs.length (some (k : Int)) - HT.sIx xs.length 0 none) = _
  rw [e1, e2, List.drop_zero, Nat.sub_zero, ← List.take_eq_take_min]
theorem cut_drop (xs : List D) (k : Nat) : RR.cutD xs (some (k : Int)) none = xs.drop k := by
  have e1 : HT.sIx xs.length 0 (some (k : Int)) = min k xs.length := HT.sIx_nat _ _ k
  have e2 : HT.sIx xs.length xs.length none = xs.length := rfl
  show (xs.drop (HT.sIx xs.length 0 (some (k : Int)))).take (HT.sIx xs.length xs.length none - HT.sIx xs.length 0 (some (k : Int))) = _
  rw [e1, e2]
  by_cases h : k ≤ xs.length
  · rw [Nat.min_eq_left h]
    exact List.take_of_length_le (by rw [List.length_drop]; exact Nat.le_refl _)
  · rw [Nat.min_eq_right (by omega), List.drop_length, List.take_nil, List.drop_eq_nil_of_le (by omega)]
theorem sl_take (xs : List D) (k : Nat) : dSl none (some (k : Int)) (.tuple xs) = some (.tuple (xs.take k)) := by
  show some (PyData.tuple (RR.cutD xs none (some (k : Int)))) = _
  rw [cut_take]
theorem sl_drop (xs : List D) (k : Nat) : dSl (some (k : Int)) none (.tuple xs) = some (.tuple (xs.drop k)) := by
  show some (PyData.tuple (RR.cutD xs (some (k : Int)) none)) = _
  rw [cut_drop]
theorem ixB' {b : Book} {p : Nat} {q : Part} (h : b[p]? = some q) : dIx (bd b) (.int (p : Int)) = some (pd q) := atI_nat (by rw [List.getElem?_map, h]; rfl)
theorem put_part {b : Book} {p : Nat} {q : Part} (hp : p < b.length) : (b.map pd).take p ++ [pd q] ++ (b.map pd).drop (p + 1) = (b.set p q).map pd := by
  rw [List.set_eq_take_append_cons_drop, if_pos hp, List.map_append, List.map_cons, List.map_take, List.map_drop, List.append_assoc]; rfl
structure FineBook (b : Book) (most : Nat) : Prop where
  l1 : 1 ≤ b.length
  lm : b.length ≤ most
  fine : ∀ p ∈ b, Fine p ∧ ∀ r ∈ p, r.isFar = true → r.num < (b.length : Int)
theorem w_book_ok {most L : Nat} {n : Nat} {R : D → Nat → Prop} (hm1 : 1 ≤ most) (hm4 : most ≤ 5) (hL : L ≤ 3) (hn : n < 700000) (q : ∀ b n', FineBook b most → n' ≤ n + 400 → R (bd b) n') : m__law_w_book [.int (most : Int), .int (L : Int)] n R := by
  unfold m__law_w_book b__law_w_book
  refine ⟨rfl, ?_⟩
  refine q_setM (s_op (s_C (s_callP (s_cons (s_var (d := .int (most : Int)) rfl (s_nil ?_))))))
  with_reducible refine take_ok (by omega) (by omega) (by omega) fun x x0 x1 => ?_
  obtain ⟨z, rfl⟩ := Int.eq_ofNat_of_zero_le x0
  refine ⟨.int ((z + 1 : Nat) : Int), by rw [show ((z + 1 : Nat) : Int) = 1 + (z : Int) by omega]; rfl, ?_⟩
  refine q_setM (s_lc (s_ir1 (s_cons (s_var (d := .int ((z + 1 : Nat) : Int)) rfl (s_nil ⟨_, rfl, okR_nat (by omega), ?_⟩)))))
  rw [Int.toNat_natCast]
  refine ⟨by rw [rangeD_len]; exact Nat.le_trans (show z + 1 ≤ 5 by omega) (by decide), ?_⟩
  refine w_compY (N := 710000) (c := 71) (fun _ y => ∃ p, y = pd p ∧ (Fine p ∧ ∀ r ∈ p, r.isFar = true → r.num < ((z + 1 : Nat) : Int))) (fun d n2 R2 hn2 q2 => ?_) _ _ _ (by rw [rangeD_len]; omega) fun r n3 hr hP h4 => ?_
  · refine s_gName (s_callP (s_cons (s_var (d := .int (L : Int)) rfl (s_cons (s_var (d := .int ((z + 1 : Nat) : Int)) rfl (s_nil ?_))))))
    exact w_part_ok hL (by omega) (by omega) (by omega) fun p n' h1 h2 h3 => q2 _ n' ⟨p, rfl, h1, h2⟩ (by omega)
  · obtain ⟨b, rfl, hb⟩ := all_pd (each_of hr hP fun _ _ h => h)
    rw [List.length_map, rangeD_len] at hr
    rw [rangeD_len] at h4
    have keep : FineBook b most := ⟨by omega, by omega, fun p hp => by rw [hr]; exact hb p hp⟩
    refine s_ret (s_cl (s_cons (s_ife ?_)))
    have e1 : vTest (vOp dGt (vVar 3) (vC (.int 1))) [none, some (.int (most : Int)), some (.int (L : Int)), some (.int ((z + 1 : Nat) : Int)), some (.list (b.map pd)), none] = some (decide ((1 : Int) < ((z + 1 : Nat) : Int))) := rfl
    refine s_and (f_Test (f_Op f_Var f_C)) e1 (fun hz => ?_) fun _ => ?_
    · have hz2 := of_decide_eq_true hz
      refine s_test (s_op (s_callP (s_cons (s_C (s_nil ?_)))))
      with_reducible refine take_ok (by decide) (by decide) (by omega) fun y y0 y1 => ?_
      refine s_C ⟨_, dEq_int _ _, _, rfl, ?_⟩
      cases hy : decide (y = 0) with
      | false =>
        rw [if_neg (by decide)]
        exact s_var (d := .list (b.map pd)) rfl (s_nil ⟨_, rfl, q b _ keep (by omega)⟩)
      | true =>
        rw [if_pos rfl]
        have es : vOp dAdd (vOp dMul (vSl (vVar 4) vNoPart (vPart (vC (.int 1)))) (vC (.int 2))) (vSl (vVar 4) (vPart (vC (.int 2))) vNoPart) [none, some (.int (most : Int)), some (.int (L : Int)), some (.int ((z + 1 : Nat) : Int)), some (.list (b.map pd)), none] = some (.list ((b.take 1 ++ b.take 1 ++ b.drop 2).map pd)) := by
          have c1 : dSl none (some (1 : Int)) (.list (b.map pd)) = some (.list ((b.take 1).map pd)) := by
            show some (PyData.list (RR.cutD (b.map pd) none (some ((1 : Nat) : Int)))) = _
            rw [cut_take, List.map_take]
          have c2 : dSl (some (2 : Int)) none (.list (b.map pd)) = some (.list ((b.drop 2).map pd)) := by
            show some (PyData.list (RR.cutD (b.map pd) (some ((2 : Nat) : Int)) none)) = _
            rw [cut_drop, List.map_drop]
          have c3 : dMul (.list ((b.take 1).map pd)) (.int 2) = some (.list ((b.take 1 ++ b.take 1).map pd)) := by
            have hl : ((b.take 1).map pd).length * (2 : Int).toNat ≤ lim := by
              rw [List.length_map, List.length_take]
              exact Nat.le_trans (Nat.mul_le_mul_right _ (Nat.min_le_left 1 _)) (by decide)
            refine (if_pos ⟨hl, by decide, by decide⟩).trans ?_
            rw [List.map_append]
            show some (PyData.list (List.replicate 2 ((b.take 1).map pd)).flatten) = _
            simp [List.replicate]
          refine o2 (o2 (o_sl rfl rfl rfl c1) rfl c3) (o_sl rfl rfl rfl c2) ((lst_add ?_).trans ?_)
          · simp only [List.length_map, List.length_append, List.length_take, List.length_drop]
            exact Nat.le_trans (show _ ≤ 10 by omega) (by decide)
          · rw [← List.map_append]
        refine w_exp (f_Op (f_Op (f_Sl f_Var f_NoPart (f_Part f_C)) f_C) (f_Sl f_Var (f_Part f_C) f_NoPart)) es (s_nil ⟨_, rfl, q _ _ ?_ (by omega)⟩)
        have hlen : (b.take 1 ++ b.take 1 ++ b.drop 2).length = b.length := by
          simp only [List.length_append, List.length_take, List.length_drop]
          omega
        refine ⟨by omega, by omega, fun p hp => ?_⟩
        rw [hlen, hr]
        refine hb p ?_
        rcases List.mem_append.mp hp with hp | hp
        · rcases List.mem_append.mp hp with hp | hp <;> exact List.mem_of_mem_take hp
        · exact List.mem_of_mem_drop hp
    · rw [if_neg (by decide)]
      exact s_var (d := .list (b.map pd)) rfl (s_nil ⟨_, rfl, q b _ keep (by omega)⟩)
theorem w_machine_ok {n : Nat} {R : D → Nat → Prop} (hn : n < 900000) (q : ∀ m n', machOk m = true → 1 ≤ m.fa → m.fa ≤ 6 → n' ≤ n + 20 → R (md m) n') : m__law_w_machine [] n R := by
  unfold m__law_w_machine b__law_w_machine
  refine ⟨rfl, ?_⟩
  refine q_par (s_cons (s_op (s_C (s_callP (s_cons (s_C (s_nil ?_)))))))
  with_reducible refine take_ok (by decide) (by decide) (by omega) fun s s0 s1 => ?_
  refine ⟨.int (1 + s), rfl, s_cons (s_callP (s_cons (s_lst (s_cons (s_C (s_cons (s_C (s_cons (s_C (s_cons (s_C (s_cons (s_C (s_cons (s_callP (s_cons (s_C (s_nil ?_))))))))))))))))))⟩
  with_reducible refine take_ok (by decide) (by decide) (by omega) fun y y0 y1 => ?_
  refine s_nil ⟨by show 6 ≤ lim; decide, s_nil ?_⟩
  refine w_pick_of PyData.int (xs := [0, 3, 10, 25, 50, y]) (by simp) (by simp) (by omega) fun re hre => ?_
  refine s_nil ⟨rfl, ?_⟩
  refine q_setM (s_callP (s_cons (s_lst (s_cons (s_C (s_cons (s_C (s_cons (s_C (s_cons (s_C (s_cons (s_C (s_cons (s_callP (s_cons (s_C (s_nil ?_))))))))))))))))))
  with_reducible refine take_ok (by decide) (by decide) (by omega) fun u u0 u1 => ?_
  refine s_cons (s_C (s_nil ⟨by show 7 ≤ lim; decide, s_nil ?_⟩))
  refine w_pick_of PyData.int (xs := [20, 50, 80, 120, 200, u, 9999]) (by simp) (by simp) (by omega) fun le hle => ?_
  refine q_setM (s_tup (s_cons (s_var (d := .int (1 + s)) rfl (s_cons (s_var (d := .int re) rfl (s_cons (s_op (s_op (s_var (d := .int (1 + s)) rfl (s_C ⟨.int (1 + s + 1), rfl, s_callP (s_cons (s_C (s_nil ?_)))⟩))))))))))
  with_reducible refine take_ok (by decide) (by decide) (by omega) fun lo lo0 lo1 => ?_
  refine ⟨.int (1 + s + 1 + lo), rfl, s_cons (s_op (s_C (s_callP (s_cons (s_C (s_nil ?_))))))⟩
  with_reducible refine take_ok (by decide) (by decide) (by omega) fun fa fa0 fa1 => ?_
  refine ⟨.int (1 + fa), rfl, s_cons (s_var (d := .int le) rfl (s_cons (s_op (s_C (s_callP (s_cons (s_C (s_nil ?_))))))))⟩
  with_reducible refine take_ok (by decide) (by decide) (by omega) fun ld ld0 ld1 => ?_
  refine ⟨.int (1 + ld), rfl, s_nil ⟨by show 6 ≤ lim; decide, ?_⟩⟩
  refine s_ret (s_op (s_var (d := .tuple [.int (1 + s), .int re, .int (1 + s + 1 + lo), .int (1 + fa), .int le, .int (1 + ld)]) rfl (s_tup (s_cons ?_))))
  refine s_pick PyData.int (xs := [0, 20, 60, 999]) (fun Q' q => s_cons (s_lst (s_cons (s_C (s_cons (s_C (s_cons (s_C (s_cons (s_C (s_nil ⟨by decide, s_nil q⟩)))))))))) ) (by decide) (by decide) (by omega) fun sp hsp => ?_
  refine s_cons (s_op (s_C (s_callP (s_cons (s_C (s_nil ?_))))))
  with_reducible refine take_ok (by decide) (by decide) (by omega) fun wo wo0 wo1 => ?_
  refine ⟨.int (1 + wo), rfl, s_nil ⟨by show 2 ≤ lim; decide, _, rfl, ?_⟩⟩
  refine q ⟨1 + s, re, 1 + s + 1 + lo, 1 + fa, le, 1 + ld, sp, 1 + wo⟩ _ ?_ (by show 1 ≤ 1 + fa; omega) (by show 1 + fa ≤ 6; omega) (by omega)
  have b2 : 0 ≤ re ∧ re ≤ 60 := by
    clear hle hsp
    simp only [List.mem_cons, List.not_mem_nil, or_false] at hre
    omega
  have b3 : 0 ≤ le ∧ le ≤ 9999 := by
    clear hre hsp
    simp only [List.mem_cons, List.not_mem_nil, or_false] at hle
    omega
  have b4 := (by decide : ∀ x ∈ ([0, 20, 60, 999] : List Int), 0 ≤ x ∧ x ≤ 999) sp hsp
  clear hre hle hsp
  unfold machOk machIn
  dsimp only
  rw [within_t (show (1 : Int) ≤ 1 + s by omega) (by omega), within_t (show (0 : Int) ≤ re by omega) (by omega), within_t (show (2 : Int) ≤ 1 + s + 1 + lo by omega) (by omega), within_t (show (1 : Int) ≤ 1 + fa by omega) (by omega), within_t (show (0 : Int) ≤ le by omega) (by omega),
    within_t (show (1 : Int) ≤ 1 + ld by omega) (by omega), within_t (show (0 : Int) ≤ sp by omega) (by omega), within_t (show (1 : Int) ≤ 1 + wo by omega) (by omega), decide_eq_true (show 1 + s < 1 + s + 1 + lo by omega)]
  rfl
end RC
end
section
namespace RC
open PySem PySem.Spec L2 RR
open PyProof.Rows hiding St cutD
abbrev cl (s : Str) : List Nat := s.cps.toList
/-- the words that stand in such data -/
abbrev wL : List Str := ["plain", "stop", "jump", "branch", "far", "load", "word", "align", "rest", "part", "0", "1"]
/-- what may stand on the one side -/
inductive G : D → Prop
  | non : G .none
  | bl (b : Bool) : G (.bool b)
  | int (i : Int) : G (.int i)
  | str {w : Str} (h : w ∈ wL) : G (.str w)
  | tup {xs : List D} (h : ∀ x ∈ xs, G x) : G (.tuple xs)
  | lst {xs : List D} (h : ∀ x ∈ xs, G x) : G (.list xs)
def mT : List D → List Nat
  | [] => [41]
  | [x] => cl (PyData.shown x) ++ [41]
  | x :: y :: r => cl (PyData.shown x) ++ ([44, 32] ++ mT (y :: r))
end RC
end
section
namespace RC
open PySem PySem.Spec L2 RR
open PyProof.Rows hiding St cutD
local macro_rules | `(tactic| walk_at "fp") => `(tactic| with_reducible first | exact fp__law_w_shifted | exact fp_is_book | exact fp_run_book | exact fp_opens | exact fp_with_part | exact fp_twin_of | exact fp_check_twin | exact fp_check_book | exact fp_check_machine | exact fp_check_part | exact fp_is_part_number | exact fp_is_within | exact fp_twin | exact fp_has_door)
local macro_rules | `(tactic| walk_at "fe") => `(tactic| with_reducible first
  | exact f_Var | exact f_C | exact f_Nil | exact f_Dict0 | exact f_NoPart | exact f_Yes | exact f_gName | exact f_gNil | exact f_pNil
  | (apply f_Cl <;> walk_at "fe") | (apply f_Op <;> walk_at "fe") | (apply f_Un <;> walk_at "fe") | (apply f_Cons <;> walk_at "fe")
  | (apply f_Test <;> walk_at "fe") | (apply f_Tru <;> walk_at "fe")
  | (apply f_Call (by walk_at "fp") <;> walk_at "fe") | (apply f_CallK (by walk_at "fp") <;> walk_at "fe")
  | (apply f_Tup <;> walk_at "fe") | (apply f_Lst <;> walk_at "fe") | (apply f_Isi <;> walk_at "fe") | (apply f_Isi2 <;> walk_at "fe")
  | (apply f_Sl <;> walk_at "fe") | (apply f_Part <;> walk_at "fe")
  | (apply f_And <;> walk_at "fe") | (apply f_Or <;> walk_at "fe") | (apply f_Not <;> walk_at "fe")
  | (apply f_AndV <;> walk_at "fe") | (apply f_OrV <;> walk_at "fe") | (apply f_NotV <;> walk_at "fe")
  | (apply f_If <;> walk_at "fe") | (apply f_Chain <;> walk_at "fe") | (apply f_Look <;> walk_at "fe") | (apply f_LookL <;> walk_at "fe") | (apply f_Rev <;> walk_at "fe")
  | (apply f_ISeq <;> walk_at "fe") | (apply f_IEn <;> walk_at "fe") | (apply f_IZ <;> walk_at "fe") | (apply f_IR1 <;> walk_at "fe") | (apply f_IR2 <;> walk_at "fe") | exact f_IKeys | exact f_IVals | exact f_IItems
  | (apply f_gTup <;> walk_at "fe") | (apply f_gCons <;> walk_at "fe") | (apply f_Lc <;> walk_at "fe")
  | (apply f_Disp <;> walk_at "fe") | (apply f_pCons <;> walk_at "fe")
  | (apply f_Seq <;> walk_at "fe") | (apply f_IfS <;> walk_at "fe") | (apply f_Ret <;> walk_at "fe") | exact f_Next | (apply f_Set <;> walk_at "fe") | (apply f_Par <;> walk_at "fe") | (apply f_Asg <;> walk_at "fe") | (apply f_Drop <;> walk_at "fe") | (apply f_Append <;> walk_at "fe") | (apply f_For <;> walk_at "fe"))
local macro_rules | `(tactic| walk_at "len") => `(tactic| first | (simp only [List.length_cons, List.length_nil]; decide) | assumption)
local macro_rules | `(tactic| walk_at "ev") => `(tactic| first
  | with_reducible assumption
  | ((with_reducible apply o2) <;> walk_at "ev") | ((with_reducible apply o1) <;> walk_at "ev") | ((with_reducible apply vCons_of) <;> walk_at "ev") | ((with_reducible apply o_cl) <;> walk_at "ev") | ((with_reducible apply o_call) <;> walk_at "ev")
  | ((with_reducible apply vTest_of) <;> walk_at "ev") | ((with_reducible apply o_tup) <;> first | walk_at "len" | walk_at "ev") | ((with_reducible apply o_lst) <;> first | walk_at "len" | walk_at "ev")
  | ((with_reducible apply vNot_of) <;> walk_at "ev") | ((with_reducible apply vIsi_of) <;> walk_at "ev") | ((with_reducible apply vNotV_of) <;> walk_at "ev") | ((with_reducible apply o_sl) <;> walk_at "ev") | ((with_reducible apply o_part) <;> walk_at "ev")
  | rfl)
local macro_rules | `(tactic| walk_at "we") => `(tactic| (apply w_exp; (case h => walk_at "fe"); (case e => walk_at "ev")))
local macro_rules | `(tactic| walk_at "wa") => `(tactic| (apply w_args; (case h => walk_at "fe"); (case e => walk_at "ev")))
local macro_rules | `(tactic| walk_at "wt") => `(tactic| (apply w_tst; (case h => walk_at "fe"); (case e => walk_at "ev")))
local macro_rules | `(tactic| walk_at "wi") => `(tactic| (apply w_it; (case h => walk_at "fe"); (case e => walk_at "ev")))
local macro_rules | `(tactic| walk_at "qs") => `(tactic| (apply q_set; (case h => walk_at "fe"); (case e => walk_at "ev")))
local macro_rules | `(tactic| walk_at "qn") => `(tactic| (apply q_no; (case h => walk_at "fe"); (case e => walk_at "ev")))
local macro_rules | `(tactic| walk_at "wr") => `(tactic| (apply w_ret; (case h => walk_at "fe"); (case e => walk_at "ev")))
local macro_rules | `(tactic| walk_at "sp") => `(tactic| (apply s_callP; (apply w_args; (case h => walk_at "fe"); (case e => walk_at "ev"))))
theorem with_part_eq {b : Book} {p : Nat} {q : Part} (hp : p < b.length) (hl : b.length ≤ 10) : v_with_part [bd b, natD p, pd q] = some (bd (b.set p q)) := by
  have j1 : dSl none (some (p : Int)) (bd b) = some (.tuple ((b.map pd).take p)) := sl_take _ _
  have j2 : dSl (some ((p : Int) + 1)) none (bd b) = some (.tuple ((b.map pd).drop (p + 1))) := sl_drop _ (p + 1)
  have j3 : dAdd (.tuple ((b.map pd).take p)) (.tuple [pd q]) = some (.tuple ((b.map pd).take p ++ [pd q])) := tup_add (by rw [List.length_take, List.length_map]; exact Nat.le_trans (show _ ≤ 20 by simp; omega) (by decide))
  have j4 : dAdd (.tuple ((b.map pd).take p ++ [pd q])) (.tuple ((b.map pd).drop (p + 1))) = some (bd (b.set p q)) := by
    refine (tup_add ?_).trans ?_
    · simp only [List.length_append, List.length_take, List.length_drop, List.length_map, List.length_singleton]
      exact Nat.le_trans (show _ ≤ 40 by omega) (by decide)
    · unfold bd; rw [put_part hp]
  refine vFun_of rfl (vRet_of ?_)
  walk_at "ev"
end RC
end
section
namespace RC
open PySem PySem.Spec L2 RR
open PyProof.Rows hiding St cutD
end RC
end
section
namespace RC
open PySem PySem.Spec L2 RR
open PyProof.Rows hiding St cutD
local macro_rules | `(tactic| walk_at "fp") => `(tactic| with_reducible first | exact fp_growth | exact fp_is_part)
local macro_rules | `(tactic| walk_at "fe") => `(tactic| with_reducible first
  | exact f_Var | exact f_C | exact f_Nil | exact f_Dict0 | exact f_NoPart | exact f_Yes | exact f_gName | exact f_gNil | exact f_pNil
  | (apply f_Cl <;> walk_at "fe") | (apply f_Op <;> walk_at "fe") | (apply f_Un <;> walk_at "fe") | (apply f_Cons <;> walk_at "fe")
  | (apply f_Test <;> walk_at "fe") | (apply f_Tru <;> walk_at "fe")
  | (apply f_Call (by walk_at "fp") <;> walk_at "fe") | (apply f_CallK (by walk_at "fp") <;> walk_at "fe")
  | (apply f_Tup <;> walk_at "fe") | (apply f_Lst <;> walk_at "fe") | (apply f_Isi <;> walk_at "fe") | (apply f_Isi2 <;> walk_at "fe")
  | (apply f_Sl <;> walk_at "fe") | (apply f_Part <;> walk_at "fe")
  | (apply f_And <;> walk_at "fe") | (apply f_Or <;> walk_at "fe") | (apply f_Not <;> walk_at "fe")
  | (apply f_AndV <;> walk_at "fe") | (apply f_OrV <;> walk_at "fe") | (apply f_NotV <;> walk_at "fe")
  | (apply f_If <;> walk_at "fe") | (apply f_Chain <;> walk_at "fe") | (apply f_Look <;> walk_at "fe") | (apply f_LookL <;> walk_at "fe") | (apply f_Rev <;> walk_at "fe")
  | (apply f_ISeq <;> walk_at "fe") | (apply f_IEn <;> walk_at "fe") | (apply f_IZ <;> walk_at "fe") | (apply f_IR1 <;> walk_at "fe") | (apply f_IR2 <;> walk_at "fe") | exact f_IKeys | exact f_IVals | exact f_IItems
  | (apply f_gTup <;> walk_at "fe") | (apply f_gCons <;> walk_at "fe") | (apply f_Lc <;> walk_at "fe")
  | (apply f_Disp <;> walk_at "fe") | (apply f_pCons <;> walk_at "fe")
  | (apply f_Seq <;> walk_at "fe") | (apply f_IfS <;> walk_at "fe") | (apply f_Ret <;> walk_at "fe") | exact f_Next | (apply f_Set <;> walk_at "fe") | (apply f_Par <;> walk_at "fe") | (apply f_Asg <;> walk_at "fe") | (apply f_Drop <;> walk_at "fe") | (apply f_Append <;> walk_at "fe") | (apply f_For <;> walk_at "fe"))
local macro_rules | `(tactic| walk_at "len") => `(tactic| first | (simp only [List.length_cons, List.length_nil]; decide) | assumption)
local macro_rules | `(tactic| walk_at "ev") => `(tactic| first
  | with_reducible assumption
  | ((with_reducible apply o2) <;> walk_at "ev") | ((with_reducible apply o1) <;> walk_at "ev") | ((with_reducible apply vCons_of) <;> walk_at "ev") | ((with_reducible apply o_cl) <;> walk_at "ev") | ((with_reducible apply o_call) <;> walk_at "ev")
  | ((with_reducible apply vTest_of) <;> walk_at "ev") | ((with_reducible apply o_tup) <;> first | walk_at "len" | walk_at "ev") | ((with_reducible apply o_lst) <;> first | walk_at "len" | walk_at "ev")
  | ((with_reducible apply vNot_t) <;> walk_at "ev") | ((with_reducible apply vNot_f) <;> walk_at "ev") | ((with_reducible apply vNot_of) <;> walk_at "ev") | ((with_reducible apply vIsi_of) <;> walk_at "ev") | ((with_reducible apply vNotV_of) <;> walk_at "ev") | ((with_reducible apply o_sl) <;> walk_at "ev") | ((with_reducible apply o_part) <;> walk_at "ev")
  | rfl)
local macro_rules | `(tactic| walk_at "we") => `(tactic| (apply w_exp; (case h => walk_at "fe"); (case e => walk_at "ev")))
local macro_rules | `(tactic| walk_at "wa") => `(tactic| (apply w_args; (case h => walk_at "fe"); (case e => walk_at "ev")))
local macro_rules | `(tactic| walk_at "wt") => `(tactic| (apply w_tst; (case h => walk_at "fe"); (case e => walk_at "ev")))
local macro_rules | `(tactic| walk_at "wi") => `(tactic| (apply w_it; (case h => walk_at "fe"); (case e => walk_at "ev")))
local macro_rules | `(tactic| walk_at "qs") => `(tactic| (apply q_set; (case h => walk_at "fe"); (case e => walk_at "ev")))
local macro_rules | `(tactic| walk_at "qn") => `(tactic| (apply q_no; (case h => walk_at "fe"); (case e => walk_at "ev")))
local macro_rules | `(tactic| walk_at "wr") => `(tactic| (apply w_ret; (case h => walk_at "fe"); (case e => walk_at "ev")))
local macro_rules | `(tactic| walk_at "sp") => `(tactic| (apply s_callP; (apply w_args; (case h => walk_at "fe"); (case e => walk_at "ev"))))
end RC
end
section
namespace RC
open PySem PySem.Spec L2 RR
open PyProof.Rows hiding St cutD
end RC
end
section
namespace RC
open PySem PySem.Spec L2 RR
open PyProof.Rows hiding St cutD
local macro_rules | `(tactic| walk_at "fp") => `(tactic| with_reducible first | exact fp_places | exact fp_misfits | exact fp_served | exact fp_grown | exact fp_shows_chain | exact fp__law_jumps | exact fp__law_size)
local macro_rules | `(tactic| walk_at "fe") => `(tactic| with_reducible first
  | exact f_Var | exact f_C | exact f_Nil | exact f_Dict0 | exact f_NoPart | exact f_Yes | exact f_gName | exact f_gNil | exact f_pNil
  | (apply f_Cl <;> walk_at "fe") | (apply f_Op <;> walk_at "fe") | (apply f_Un <;> walk_at "fe") | (apply f_Cons <;> walk_at "fe")
  | (apply f_Test <;> walk_at "fe") | (apply f_Tru <;> walk_at "fe")
  | (apply f_Call (by walk_at "fp") <;> walk_at "fe") | (apply f_CallK (by walk_at "fp") <;> walk_at "fe")
  | (apply f_Tup <;> walk_at "fe") | (apply f_Lst <;> walk_at "fe") | (apply f_Isi <;> walk_at "fe") | (apply f_Isi2 <;> walk_at "fe")
  | (apply f_Sl <;> walk_at "fe") | (apply f_Part <;> walk_at "fe")
  | (apply f_And <;> walk_at "fe") | (apply f_Or <;> walk_at "fe") | (apply f_Not <;> walk_at "fe")
  | (apply f_AndV <;> walk_at "fe") | (apply f_OrV <;> walk_at "fe") | (apply f_NotV <;> walk_at "fe")
  | (apply f_If <;> walk_at "fe") | (apply f_Chain <;> walk_at "fe") | (apply f_Look <;> walk_at "fe") | (apply f_LookL <;> walk_at "fe") | (apply f_Rev <;> walk_at "fe")
  | (apply f_ISeq <;> walk_at "fe") | (apply f_IEn <;> walk_at "fe") | (apply f_IZ <;> walk_at "fe") | (apply f_IR1 <;> walk_at "fe") | (apply f_IR2 <;> walk_at "fe") | exact f_IKeys | exact f_IVals | exact f_IItems
  | (apply f_gTup <;> walk_at "fe") | (apply f_gCons <;> walk_at "fe") | (apply f_Lc <;> walk_at "fe")
  | (apply f_Disp <;> walk_at "fe") | (apply f_pCons <;> walk_at "fe")
  | (apply f_Seq <;> walk_at "fe") | (apply f_IfS <;> walk_at "fe") | (apply f_Ret <;> walk_at "fe") | exact f_Next | (apply f_Set <;> walk_at "fe") | (apply f_Par <;> walk_at "fe") | (apply f_Asg <;> walk_at "fe") | (apply f_Drop <;> walk_at "fe") | (apply f_Append <;> walk_at "fe") | (apply f_For <;> walk_at "fe"))
local macro_rules | `(tactic| walk_at "len") => `(tactic| first | (simp only [List.length_cons, List.length_nil]; decide) | assumption)
local macro_rules | `(tactic| walk_at "ev") => `(tactic| first
  | with_reducible assumption
  | ((with_reducible apply o2) <;> walk_at "ev") | ((with_reducible apply o1) <;> walk_at "ev") | ((with_reducible apply vCons_of) <;> walk_at "ev") | ((with_reducible apply o_cl) <;> walk_at "ev") | ((with_reducible apply o_call) <;> walk_at "ev")
  | ((with_reducible apply vTest_of) <;> walk_at "ev") | ((with_reducible apply o_tup) <;> first | walk_at "len" | walk_at "ev") | ((with_reducible apply o_lst) <;> first | walk_at "len" | walk_at "ev")
  | ((with_reducible apply vNot_of) <;> walk_at "ev") | ((with_reducible apply vIsi_of) <;> walk_at "ev") | ((with_reducible apply vNotV_of) <;> walk_at "ev") | ((with_reducible apply o_sl) <;> walk_at "ev") | ((with_reducible apply o_part) <;> walk_at "ev")
  | rfl)
local macro_rules | `(tactic| walk_at "we") => `(tactic| (apply w_exp; (case h => walk_at "fe"); (case e => walk_at "ev")))
local macro_rules | `(tactic| walk_at "wa") => `(tactic| (apply w_args; (case h => walk_at "fe"); (case e => walk_at "ev")))
local macro_rules | `(tactic| walk_at "wt") => `(tactic| (apply w_tst; (case h => walk_at "fe"); (case e => walk_at "ev")))
local macro_rules | `(tactic| walk_at "wi") => `(tactic| (apply w_it; (case h => walk_at "fe"); (case e => walk_at "ev")))
local macro_rules | `(tactic| walk_at "qs") => `(tactic| (apply q_set; (case h => walk_at "fe"); (case e => walk_at "ev")))
local macro_rules | `(tactic| walk_at "qn") => `(tactic| (apply q_no; (case h => walk_at "fe"); (case e => walk_at "ev")))
local macro_rules | `(tactic| walk_at "wr") => `(tactic| (apply w_ret; (case h => walk_at "fe"); (case e => walk_at "ev")))
local macro_rules | `(tactic| walk_at "sp") => `(tactic| (apply s_callP; (apply w_args; (case h => walk_at "fe"); (case e => walk_at "ev"))))
end RC
end
section
namespace RC
open PySem PySem.Spec L2 RR
open PyProof.Rows hiding St cutD
theorem Seen.int16 {x : Int} (h : x.natAbs < 2 ^ 17) : Seen 0 17 (.int x) := by
  have s := Seen.int (x := x) (Nat.lt_trans h (by decide))
  refine ⟨s.dep, ?_, s.sh, s.sw⟩
  unfold PyData.weight
  split
  · exact Nat.zero_le _
  · rename_i h0
    have h0' : x.natAbs ≠ 0 := by
      intro z
      apply h0
      rw [beq_iff_eq]; omega
    have := (Nat.log2_lt h0').mpr h
    omega
theorem seen_row16 {r : Row} (h : r.ok = true) : Seen 1 60 r.d := by
  have i5 : ∀ x lo hi : Int, within x lo hi = true → 0 ≤ lo → hi ≤ 65535 → Seen 0 17 (.int x) := fun x lo hi hx h1 h2 => by
    unfold within at hx
    rw [Bool.and_eq_true, decide_eq_true_eq, decide_eq_true_eq] at hx
    exact .int16 (by omega)
  have two : ∀ (w : Str) (x : Int), w.cps.toList.all (fun c => decide (c < 16 ^ 8)) = true → w.cps.size ≤ 17 → Seen 0 17 (.int x) → Seen 1 60 (.tuple [.str w, .int x]) := fun w x h1 h2 h3 =>
    Seen.tupN (k := 0) (w := 17) (n := 2) (fun d hd => by
      rcases List.mem_cons.mp hd with rfl | hd
      · exact .str h1 h2
      rcases List.mem_cons.mp hd with rfl | hd
      · exact h3
      · cases hd) (by show 2 ≤ 2; decide) (by decide)
  cases r with
  | plain s a =>
    unfold Row.ok at h
    rw [Bool.and_eq_true] at h
    exact Seen.tupN (k := 0) (w := 17) (n := 3) (fun d hd => by
      rcases List.mem_cons.mp hd with rfl | hd
      · exact .str (by decide +kernel) (by decide +kernel)
      rcases List.mem_cons.mp hd with rfl | hd
      · exact i5 _ _ _ h.1 (by decide) (by decide)
      rcases List.mem_cons.mp hd with rfl | hd
      · exact i5 _ _ _ h.2 (by decide) (by decide)
      · cases hd) (by show 3 ≤ 3; decide) (by decide)
  | stop s => exact two _ _ (by decide +kernel) (by decide +kernel) (i5 _ _ _ h (by decide) (by decide))
  | jump s => exact two _ _ (by decide +kernel) (by decide +kernel) (i5 _ _ _ h (by decide) (by decide))
  | branch s => exact two _ _ (by decide +kernel) (by decide +kernel) (i5 _ _ _ h (by decide) (by decide))
  | far s => exact two _ _ (by decide +kernel) (by decide +kernel) (i5 _ _ _ h (by decide) (by decide))
  | load s => exact two _ _ (by decide +kernel) (by decide +kernel) (i5 _ _ _ h (by decide) (by decide))
  | word s => exact two _ _ (by decide +kernel) (by decide +kernel) (i5 _ _ _ h (by decide) (by decide))
  | align s =>
    refine two _ _ (by decide +kernel) (by decide +kernel) (.int16 ?_)
    unfold Row.ok at h
    simp only [Bool.or_eq_true, beq_iff_eq] at h
    omega
theorem seen_rows16 {r : Row} {p : Part} (h : p.all Row.ok = true) : ∀ x ∈ p.map Row.d, Seen 1 60 x := fun x hx => by
  obtain ⟨r, hr, rfl⟩ := List.mem_map.mp hx
  exact seen_row16 (List.all_eq_true.mp h r hr)
theorem seen_part16 {p : Part} (h : partOk p = true) : Seen 2 1300 (pd p) :=
  Seen.tupN (n := 20) (fun d hd => seen_rows16 (r := .stop 0) (partOk_rows h) d hd) (by rw [List.length_map]; exact (partOk_len h).2) (by decide)
end RC
end
section
namespace RC
open PySem PySem.Spec L2 RR
open PyProof.Rows hiding St cutD
theorem w_head31 (r : Row) : dIx r.d (.int 0) = some (.str r.w) := by cases r <;> exact atI_nat (j := 0) rfl
theorem w_even31 (r : Row) : decide (r.w = ("align" : Str)) = r.isAlign := by
  rw [← row_align, Bool.eq_iff_iff]
  simp
theorem row_word8 (r : Row) : Word8 r.w := by cases r <;> (unfold Word8; simp [Row.w])
theorem anyEq31 : ∀ ws : List Str, anyEq (.str "align") (ws.map .str) = ws.any fun w => decide (w = ("align" : Str))
  | [] => rfl
  | w :: ws => by
    have h := anyEq31 ws
    unfold anyEq at h ⊢
    rw [List.map_cons, List.any_cons, h, List.any_cons, eqv_str]
theorem even_words31 (p : Part) : ((p.map Row.w).any fun w => decide (w = ("align" : Str))) = !evenP p := by
  unfold evenP
  induction p with
  | nil => rfl
  | cons r p ih =>
    rw [List.map_cons, List.any_cons, ih, List.all_cons, w_even31]
    cases r.isAlign <;> simp
theorem dNotIn_align31 (p : Part) (hl : p.length ≤ 900) : dNotIn (.str "align") (.list (p.map fun r => .str r.w)) = some (.bool (evenP p)) := by
  have hs : ∀ w ∈ p.map Row.w, Word8 w := fun w hw => by
    obtain ⟨r, _, rfl⟩ := List.mem_map.mp hw
    exact row_word8 r
  have ls : Lay 0 (.str "align") := Lay.str (by decide +kernel)
  have le : Lay 1 (.list ((p.map Row.w).map .str)) := Lay.lst fun x hx => by
    obtain ⟨w, hw, rfl⟩ := List.mem_map.mp hx
    exact Lay.str (word8_ok (hs w hw))
  rw [show (p.map fun r => PyData.str r.w) = (p.map Row.w).map .str from by rw [List.map_map]; rfl]
  show (if _ then _ else _) = _
  rw [if_pos ⟨ls.shaped (by decide), le.shaped (by decide)⟩, anyEq31, even_words31, Bool.not_not]
end RC
end
section
namespace RC
open PySem PySem.Spec L2 RR
open PyProof.Rows hiding St cutD
theorem v__law_w_size_eq (r : Row) (m : Mach) (a : Int) (sh : Bool) (ok : r.ok = true) : v__law_w_size [r.d, md m, .bool sh, .int a] = some (.int (rowSize r m a sh)) := by
  cases r with
  | align n =>
    have h := align_no ok
    have hn : 0 < n := by omega
    refine vFun_of rfl (vSeq_nx rfl (vSeq_nx rfl (vSeq_rt (vIfS_t rfl (vRet_of ?_)))))
    refine (vOp_of (x := .int (n - a % n)) (y := .int n) ?_ rfl).trans ?_
    · exact (vCl_of (vCons_of ((vOp_of (x := .int n) (y := .int (a % n)) rfl ((vOp_of (x := .int a) (y := .int n) rfl rfl).trans (if_pos hn))).trans rfl) rfl)).trans rfl
    · show (if 0 < n then _ else _) = _
      rw [if_pos hn, align_back h]; rfl
  | jump k => cases sh <;> rfl
  | branch k => cases sh <;> rfl
  | plain s a => rfl
  | stop s => rfl
  | far p => rfl
  | load v => rfl
  | word v => rfl
def pwE66 (p : Part) (m : Mach) (forms : List Nat) (acc : List Int) (x4 x5 : Option D) : DEnv := [some (pd p), some (md m), some (.list (forms.map natD)), some (.list (acc.map .int)), x4, x5]
abbrev pwB66 : VS := (vAppend 3 (vLook (vOp dAdd (vOp dIx (vVar 3) (vUn dNeg (vC (.int 1)))) (vCall v__law_w_size (vCons (vVar 5) (vCons (vVar 1) (vCons (vOp dIn (vVar 4) (vVar 2)) (vCons (vOp dIx (vVar 3) (vUn dNeg (vC (.int 1)))) vNil))))))))
theorem pw_loop66 (p : Part) (m : Mach) (forms : List Nat) : ∀ (rs : Part) (k : Nat) (acc : List Int) (a : Int) (x4 x5 : Option D), rs.all Row.ok = true → acc.length + rs.length < 900 →
    ∃ y4 y5, vfor (vgTup 2 (vgCons (vgName 4) (vgCons (vgName 5) vgNil))) pwB66 ((rs.zipIdx k).map fun q => .tuple [.int (q.2 : Int), q.1.d]) (pwE66 p m forms (acc ++ [a]) x4 x5) = some (.nx (pwE66 p m forms (acc ++ addrs m forms rs k a) y4 y5))
  | [], k, acc, a, x4, x5, _, _ => ⟨x4, x5, rfl⟩
  | r :: rs, k, acc, a, x4, x5, ok, hl => by
    rw [List.all_cons, Bool.and_eq_true] at ok
    rw [List.length_cons] at hl
    obtain ⟨y4, y5, ih⟩ := pw_loop66 p m forms rs (k + 1) (acc ++ [a]) (a + rowSize r m a (forms.contains k)) (some (natD k)) (some r.d) ok.2 (by rw [List.length_append, List.length_singleton]; omega)
    refine ⟨y4, y5, ?_⟩
    rw [List.zipIdx_cons, List.map_cons]
    unfold vfor
    have e1 : vgTup 2 (vgCons (vgName 4) (vgCons (vgName 5) vgNil)) (.tuple [.int ((r, k).2 : Int), (r, k).1.d]) (pwE66 p m forms (acc ++ [a]) x4 x5) = some (pwE66 p m forms (acc ++ [a]) (some (natD k)) (some r.d)) := rfl
    have el : vOp dIx (vVar 3) (vUn dNeg (vC (.int 1))) (pwE66 p m forms (acc ++ [a]) (some (natD k)) (some r.d)) = some (.int a) := (vOp_of rfl rfl).trans (ixEnd PyData.int acc a)
    have e3 : pwB66 (pwE66 p m forms (acc ++ [a]) (some (natD k)) (some r.d)) = some (.nx (pwE66 p m forms (acc ++ [a] ++ [a + rowSize r m a (forms.contains k)]) (some (natD k)) (some r.d))) := by
      refine (apnd_of (ds := (acc ++ [a]).map .int) (d := .int (a + rowSize r m a (forms.contains k))) rfl ?_ (by rw [List.length_map, List.length_append, List.length_singleton]; exact Nat.lt_of_le_of_lt (show _ ≤ 901 by omega) (by decide))).trans ?_
      · refine o_look ((vOp_of (x := .int a) (y := .int (rowSize r m a (forms.contains k))) el ?_).trans rfl) rfl
        exact (vCall_of (vCons_of rfl (vCons_of rfl (vCons_of ((vOp_of rfl rfl).trans (dIn_nat k forms)) (vCons_of el rfl))))).trans (v__law_w_size_eq r m a _ ok.1)
      · unfold pwE66
        rw [show (acc ++ [a] ++ [a + rowSize r m a (forms.contains k)]).map PyData.int = (acc ++ [a]).map PyData.int ++ [.int (a + rowSize r m a (forms.contains k))] from List.map_append]
        rfl
    rw [e1, Option.bind_some, e3, Option.bind_some]
    refine ih.trans ?_
    rw [addrs, List.append_assoc]; rfl
theorem v__law_w_places_eq (p : Part) (m : Mach) (forms : List Nat) (ok : p.all Row.ok = true) (hl : p.length ≤ 800) : v__law_w_places [pd p, md m, .list (forms.map natD)] = some (.list ((addrs m forms p 0 0).map .int)) := by
  refine vFun_of rfl ?_
  obtain ⟨y4, y5, h⟩ := pw_loop66 p m forms p 0 [] 0 none none ok (by rw [List.length_nil]; omega)
  refine vSeq_nx (Γ1 := pwE66 p m forms ([] ++ [0]) none none) rfl (vSeq_nx (Γ1 := pwE66 p m forms ([] ++ addrs m forms p 0 0) y4 y5) ?_ (vRet_of rfl))
  refine Eq.trans ?_ h
  unfold vFor
  rw [show vIEn (vCons (vVar 0) vNil) (pwE66 p m forms ([] ++ [0]) none none) = some ((p.zipIdx).map fun q => .tuple [.int (q.2 : Int), q.1.d]) from (congrArg some (enumD_map Row.d p 0))]
  rfl
/-- how far it is from a jump to its goal, by a list of places in a slot -/
theorem far66 {p : Part} {as : List Int} {f : Nat} (j : JumpAt p f) (hal : as.length = p.length + 1) {a b : Nat} {Γ : DEnv} (h0 : vVar 0 Γ = some (pd p)) (hf : vVar b Γ = some (natD f)) (ha : vVar a Γ = some (.list (as.map .int))) :
    vCl cAbs (vCons (vOp dSub (vOp dIx (vVar a) (vOp dIx (vOp dIx (vVar 0) (vVar b)) (vC (.int 1)))) (vOp dIx (vVar a) (vVar b))) vNil) Γ = some (.int (dist as f (goalN p f))) := by
  have eg : vOp dIx (vOp dIx (vVar 0) (vVar b)) (vC (.int 1)) Γ = some (natD (goalN p f)) := by
    have := j.ix
    cases hq : dIx (pd p) (natD f) with
    | none => rw [hq] at this; cases this
    | some x =>
      rw [hq] at this
      exact (vOp_of ((vOp_of h0 hf).trans hq) rfl).trans this
  rw [dist_comm]
  exact (vCl_of (vCons_of ((vOp_of ((vOp_of ha eg).trans (ix_ints (by have := j.goal; omega))) ((vOp_of ha hf).trans (ix_ints (by have := j.lt; omega)))).trans rfl) rfl)).trans rfl
theorem v__law_w_all_fit_eq {p : Part} {m : Mach} {forms : List Nat} (ok : p.all Row.ok = true) (hl : p.length ≤ 800) (hf : ∀ f ∈ forms, JumpAt p f) (hfl : forms.length ≤ 1000) :
    v__law_w_all_fit [pd p, md m, .list (forms.map natD)] = some (.bool (fitB p m forms)) := by
  have hal := addrs_len m forms p 0 0
  refine vFun_of rfl ?_
  refine vSeq_nx (Γ1 := [some (pd p), some (md m), some (.list (forms.map natD)), some (.list ((addrs m forms p 0 0).map .int)), none]) (vSet_of (Eq.trans rfl (v__law_w_places_eq p m forms ok hl))) (vRet_of ?_)
  refine (vOp_of (x := .list ((unfit p m forms).map natD)) (y := .list []) ?_ rfl).trans (eq_empty (unfit p m forms))
  refine vLc_of (ds := forms.map natD) rfl (by rw [List.length_map]; exact Nat.le_trans hfl (by decide)) (vcomp_filterOf natD (unfitB p m (addrs m forms p 0 0)) natD fun f hfm => ⟨_, rfl, vTest_of ?_, fun _ => rfl⟩)
  exact (vOp_of (far66 (hf f hfm) hal rfl rfl rfl) ((vOp_of rfl rfl).trans (m_ix1 m))).trans rfl
def lwE (p : Part) (m : Mach) (fs : List Nat) (ls : List (List Nat)) (x4 x5 x6 x7 : Option D) : DEnv := [some (pd p), some (md m), some (.list (fs.map natD)), some (.list (ls.map natsD)), x4, x5, x6, x7]
def lwT : VT := vNot (vTest (vCall v__law_w_all_fit (vCons (vVar 0) (vCons (vVar 1) (vCons (vVar 2) vNil)))))
def lwB : VS := (vSeqS (vSet 6 (vCall v__law_w_places (vCons (vVar 0) (vCons (vVar 1) (vCons (vVar 2) vNil))))) (vSet 2 (vLc (vISeq (vVar 2)) (vgName 5) (vTest (vOp dLe (vCl cAbs (vCons (vOp dSub (vOp dIx (vVar 6) (vOp dIx (vOp dIx (vVar 0) (vVar 5)) (vC (.int 1)))) (vOp dIx (vVar 6) (vVar 5))) vNil)) (vOp dIx (vVar 1) (vC (.int 1))))) (vVar 5) [5])))
theorem lw_loop {p : Part} {m : Mach} {ls : List (List Nat)} (ok : partOk p = true) (mk : machOk m = true) (ev : evenP p = true) : ∀ (k : Nat) (forms : List Nat) (x4 x5 x6 x7 : Option D), (∀ f ∈ forms, f ∈ jumpIdx p) → (∀ S : List Nat, (∀ s ∈ S, s ∈ jumpIdx p) → unfit p m S = [] → ∀ s ∈ S, s ∈ forms) → forms.length < k → forms.length ≤ 100 →
    ∃ fs y4 y5 y6 y7, vwhile lwT lwB k (lwE p m forms ls x4 x5 x6 x7) = some (.nx (lwE p m fs ls y4 y5 y6 y7)) ∧ fs.Sublist forms ∧ unfit p m fs = [] ∧ ∀ S : List Nat, (∀ s ∈ S, s ∈ jumpIdx p) → unfit p m S = [] → ∀ s ∈ S, s ∈ fs
  | 0, _, _, _, _, _, _, _, h, _ => by omega
  | k + 1, forms, x4, x5, x6, x7, hf, hS, hk, hl => by
    have rows := partOk_rows ok
    have len := (partOk_len ok).2
    have jf : ∀ f ∈ forms, JumpAt p f := fun f h => part_jump ok (jumpIdx_mem (hf f h))
    have et : lwT (lwE p m forms ls x4 x5 x6 x7) = some (!fitB p m forms) := vNot_of (vTest_of ((vCall_of rfl).trans (v__law_w_all_fit_eq rows (by omega) jf (by omega))))
    cases hu : unfit p m forms with
    | nil =>
      refine ⟨forms, x4, x5, x6, x7, vWhile_go ?_, .refl _, hu, hS⟩
      rw [et]; unfold fitB; rw [hu]; rfl
    | cons u us =>
      have hum : u ∈ unfit p m forms := by rw [hu]; exact List.mem_cons_self ..
      obtain ⟨huf, hub⟩ := List.mem_filter.mp hum
      have sub : (forms.filter fun x => !unfitB p m (addrs m forms p 0 0) x).Sublist forms := List.filter_sublist
      have hlt : (forms.filter fun x => !unfitB p m (addrs m forms p 0 0) x).length < forms.length := by
        refine Nat.lt_of_le_of_ne sub.length_le fun e => ?_
        have := sub.eq_of_length e
        rw [← this] at huf
        have := (List.mem_filter.mp huf).2
        rw [hub] at this
        cases this
      have hal := addrs_len m forms p 0 0
      obtain ⟨fs, y4, y5, y6, y7, e1, e2, e3, e4⟩ := lw_loop (ls := ls) ok mk ev k (forms.filter fun x => !unfitB p m (addrs m forms p 0 0) x) x4 x5 (some (.list ((addrs m forms p 0 0).map .int))) x7 (fun f h => hf f (sub.subset h)) (fun S a b s hs => by
        refine List.mem_filter.mpr ⟨hS S a b s hs, ?_⟩
        cases q : unfitB p m (addrs m forms p 0 0) s with
        | false => rfl
        | true =>
          exfalso
          exact fits_stay mk ok ev (fun k hk => part_jump ok (jumpIdx_mem (a k hk))) (fun k hk => hS S a b k hk) b (List.mem_filter.mpr ⟨hS S a b s hs, q⟩) hs) (by omega) (by omega)
      refine ⟨fs, y4, y5, y6, y7, vWhile_nx ?_ ?_ e1, e2.trans sub, e3, e4⟩
      · rw [et]; unfold fitB; rw [hu]; rfl
      · refine vSeq_nx (Γ1 := lwE p m forms ls x4 x5 (some (.list ((addrs m forms p 0 0).map .int))) x7) (vSet_of (Eq.trans rfl (v__law_w_places_eq p m forms rows (by omega)))) (vSet_of ?_)
        refine vLc_of (ds := forms.map natD) rfl (by rw [List.length_map]; exact Nat.le_trans hl (by decide)) (vcomp_filterOf natD (fun x => !unfitB p m (addrs m forms p 0 0) x) natD fun f hfm => ⟨_, rfl, vTest_of ?_, fun _ => rfl⟩)
        refine (vOp_of (far66 (jf f hfm) hal rfl rfl rfl) ((vOp_of rfl rfl).trans (m_ix1 m))).trans ?_
        show some (PyData.bool (decide (dist (addrs m forms p 0 0) f (goalN p f) ≤ m.re))) = _
        unfold unfitB
        congr 2
        rw [← decide_not]
        exact decide_eq_decide.mpr (by omega)
end RC
end
section
namespace RC
open PySem PySem.Spec L2 RR
open PyProof.Rows hiding St cutD
local macro_rules | `(tactic| walk_at "fp") => `(tactic| with_reducible first | exact fp__law_laid | exact fp__law_places_v2 | exact fp__law_misfits_v2 | exact fp__law_jumps_v2 | exact fp__law_least | exact fp_laid | exact fp_least | exact fp_bar)
local macro_rules | `(tactic| walk_at "fe") => `(tactic| with_reducible first
  | exact f_Var | exact f_C | exact f_Nil | exact f_Dict0 | exact f_NoPart | exact f_Yes | exact f_gName | exact f_gNil | exact f_pNil
  | (apply f_Cl <;> walk_at "fe") | (apply f_Op <;> walk_at "fe") | (apply f_Un <;> walk_at "fe") | (apply f_Cons <;> walk_at "fe")
  | (apply f_Test <;> walk_at "fe") | (apply f_Tru <;> walk_at "fe")
  | (apply f_Call (by walk_at "fp") <;> walk_at "fe") | (apply f_CallK (by walk_at "fp") <;> walk_at "fe")
  | (apply f_Tup <;> walk_at "fe") | (apply f_Lst <;> walk_at "fe") | (apply f_Isi <;> walk_at "fe") | (apply f_Isi2 <;> walk_at "fe")
  | (apply f_Sl <;> walk_at "fe") | (apply f_Part <;> walk_at "fe")
  | (apply f_And <;> walk_at "fe") | (apply f_Or <;> walk_at "fe") | (apply f_Not <;> walk_at "fe")
  | (apply f_AndV <;> walk_at "fe") | (apply f_OrV <;> walk_at "fe") | (apply f_NotV <;> walk_at "fe")
  | (apply f_If <;> walk_at "fe") | (apply f_Chain <;> walk_at "fe") | (apply f_Look <;> walk_at "fe") | (apply f_LookL <;> walk_at "fe") | (apply f_Rev <;> walk_at "fe")
  | (apply f_ISeq <;> walk_at "fe") | (apply f_IEn <;> walk_at "fe") | (apply f_IZ <;> walk_at "fe") | (apply f_IR1 <;> walk_at "fe") | (apply f_IR2 <;> walk_at "fe") | exact f_IKeys | exact f_IVals | exact f_IItems
  | (apply f_gTup <;> walk_at "fe") | (apply f_gCons <;> walk_at "fe") | (apply f_Lc <;> walk_at "fe")
  | (apply f_Disp <;> walk_at "fe") | (apply f_pCons <;> walk_at "fe")
  | (apply f_Seq <;> walk_at "fe") | (apply f_IfS <;> walk_at "fe") | (apply f_Ret <;> walk_at "fe") | exact f_Next | (apply f_Set <;> walk_at "fe") | (apply f_Par <;> walk_at "fe") | (apply f_Asg <;> walk_at "fe") | (apply f_Drop <;> walk_at "fe") | (apply f_Append <;> walk_at "fe") | (apply f_For <;> walk_at "fe"))
local macro_rules | `(tactic| walk_at "len") => `(tactic| first | (simp only [List.length_cons, List.length_nil]; decide) | assumption)
local macro_rules | `(tactic| walk_at "ev") => `(tactic| first
  | with_reducible assumption
  | ((with_reducible apply o2) <;> walk_at "ev") | ((with_reducible apply o1) <;> walk_at "ev") | ((with_reducible apply vCons_of) <;> walk_at "ev") | ((with_reducible apply o_cl) <;> walk_at "ev") | ((with_reducible apply o_call) <;> walk_at "ev")
  | ((with_reducible apply vTest_of) <;> walk_at "ev") | ((with_reducible apply o_tup) <;> first | walk_at "len" | walk_at "ev") | ((with_reducible apply o_lst) <;> first | walk_at "len" | walk_at "ev")
  | ((with_reducible apply vNot_t) <;> walk_at "ev") | ((with_reducible apply vNot_f) <;> walk_at "ev") | ((with_reducible apply vNot_of) <;> walk_at "ev") | ((with_reducible apply vIsi_of) <;> walk_at "ev") | ((with_reducible apply vNotV_of) <;> walk_at "ev") | ((with_reducible apply o_sl) <;> walk_at "ev") | ((with_reducible apply o_part) <;> walk_at "ev")
  | rfl)
local macro_rules | `(tactic| walk_at "we") => `(tactic| (apply w_exp; (case h => walk_at "fe"); (case e => walk_at "ev")))
local macro_rules | `(tactic| walk_at "wa") => `(tactic| (apply w_args; (case h => walk_at "fe"); (case e => walk_at "ev")))
local macro_rules | `(tactic| walk_at "wt") => `(tactic| (apply w_tst; (case h => walk_at "fe"); (case e => walk_at "ev")))
local macro_rules | `(tactic| walk_at "wi") => `(tactic| (apply w_it; (case h => walk_at "fe"); (case e => walk_at "ev")))
local macro_rules | `(tactic| walk_at "qs") => `(tactic| (apply q_set; (case h => walk_at "fe"); (case e => walk_at "ev")))
local macro_rules | `(tactic| walk_at "qn") => `(tactic| (apply q_no; (case h => walk_at "fe"); (case e => walk_at "ev")))
local macro_rules | `(tactic| walk_at "wr") => `(tactic| (apply w_ret; (case h => walk_at "fe"); (case e => walk_at "ev")))
local macro_rules | `(tactic| walk_at "sp") => `(tactic| (apply s_callP; (apply w_args; (case h => walk_at "fe"); (case e => walk_at "ev"))))
theorem ix0_31 (x : D) (xs : List D) : dIx (.tuple (x :: xs)) (.int 0) = some x := atI_nat (j := 0) rfl
theorem few31 {p : Part} (ok : partOk p = true) (h : evenP p = false) : (jumpIdx p).length ≤ 6 := by
  rcases (parts_of ok).even with e | e
  · rw [h] at e; cases e
  · rw [jumpIdx_len]; exact e
theorem rowSize_le31 {r : Row} {m : Mach} {a : Int} {s : Bool} (ok : r.ok = true) (mk : machOk m = true) (ev : r.isAlign = false) : rowSize r m a s ≤ 99 := by
  unfold machOk machIn within at mk
  simp only [Bool.and_eq_true, decide_eq_true_eq] at mk
  have he : (Row.ok r = true) := ok
  cases r with
  | align n => cases ev
  | plain x y =>
    unfold Row.ok within at ok
    simp only [Bool.and_eq_true, decide_eq_true_eq] at ok
    exact ok.1.2
  | stop x =>
    unfold Row.ok within at ok
    simp only [Bool.and_eq_true, decide_eq_true_eq] at ok
    exact ok.2
  | jump g => show (if s = true then m.sh else m.lo) ≤ 99; split <;> omega
  | branch g => show (if s = true then m.sh else m.lo) ≤ 99; split <;> omega
  | far g => show m.fa ≤ 99; omega
  | load g => show m.ld ≤ 99; omega
  | word g => show m.wo ≤ 99; omega
theorem row_bd31 {r : Row} {m : Mach} {a : Int} {s : Bool} (ok : r.ok = true) (mk : machOk m = true) : 0 ≤ rowSize r m a s ∧ rowSize r m a s ≤ 99 := by
  cases r with
  | align n =>
    have h := align_no ok
    show 0 ≤ -a % n ∧ -a % n ≤ 99
    rcases h with rfl | rfl | rfl | rfl <;> omega
  | _ =>
    refine ⟨?_, rowSize_le31 ok mk rfl⟩
    unfold machOk machIn within at mk
    simp only [Bool.and_eq_true, decide_eq_true_eq] at mk
    unfold Row.ok within at ok
    simp only [Bool.and_eq_true, decide_eq_true_eq] at ok
    simp only [rowSize]
    first | omega | (split <;> omega)
theorem addrs_bd31 {m : Mach} (mk : machOk m = true) (F : List Nat) : ∀ (p : Part) (k : Nat) (a : Int), p.all Row.ok = true → 0 ≤ a → ∀ x ∈ addrs m F p k a, 0 ≤ x ∧ x ≤ a + 99 * (p.length : Int)
  | [], k, a, ok, ha, x, hx => by
    rw [addrs, List.mem_singleton] at hx
    subst hx
    exact ⟨ha, by simp⟩
  | r :: rs, k, a, ok, ha, x, hx => by
    rw [List.all_cons, Bool.and_eq_true] at ok
    have b := row_bd31 (m := m) (a := a) (s := F.contains k) ok.1 mk
    rw [addrs, List.mem_cons] at hx
    rw [List.length_cons]
    rcases hx with rfl | hx
    · omega
    · have := addrs_bd31 mk F rs (k + 1) (a + rowSize r m a (F.contains k)) ok.2 (by omega) x hx
      omega
end RC
end
section
namespace RC
open PySem PySem.Spec L2 RR
open PyProof.Rows hiding St cutD
theorem tri_toks66 (a b : Int) (ks : List Nat) : PySem.W.keyToks (triD (a, b, ks)) = .inl 1 :: .inl a :: .inl 1 :: .inl b :: .inl 1 :: (PySem.W.keyToksAll (ks.map natD) ++ [.inl 0]) := by
  unfold triD
  rw [PySem.W.keyToks, PySem.W.keyToksAll, PySem.W.keyToksAll, PySem.W.keyToksAll, PySem.W.keyToksAll, PySem.W.keyToks, PySem.W.keyToks, PySem.W.keyToks]
  rfl
theorem tri_lt66 {q r : Int × Int × List Nat} (h : q.1 < r.1) : PySem.W.dataLt (triD q) (triD r) = true := by
  obtain ⟨a, b, ks⟩ := q
  obtain ⟨c, d, js⟩ := r
  unfold PySem.W.dataLt
  rw [tri_toks66, tri_toks66, lex_self, lex_diff (fun z => by injection z with z; exact absurd z (Int.ne_of_lt h))]
  exact decide_eq_true h
theorem minT_le66 {x : Int × Int × List Nat} {xs : List (Int × Int × List Nat)} {q : Int × Int × List Nat} (h : q ∈ x :: xs) : (minT x xs).1 ≤ q.1 := by
  have := minD_le (xs.map triD) (triD x) (triD q) (by rw [← List.map_cons]; exact List.mem_map_of_mem h)
  rw [(minT_eq x xs).1] at this
  by_cases z : q.1 < (minT x xs).1
  · rw [tri_lt66 z] at this; cases this
  · omega
theorem okMin_ints66 (zs : List Int) : okMin (zs.map .int) = true := by
  have lay : ∀ x ∈ zs.map PyData.int, Lay 0 x := fun x hx => by
    obtain ⟨q, _, rfl⟩ := List.mem_map.mp hx
    exact Lay.int _
  have l2 := Lay.all lay
  unfold okMin alikeB
  rw [l2.1, decide_eq_true (Nat.le_trans l2.2 (by decide))]
  simp only [Bool.and_true, Bool.and_eq_true, List.all_eq_true]
  refine ⟨fun x hx y hy => ?_, fun x hx => ?_⟩
  · obtain ⟨q, _, rfl⟩ := List.mem_map.mp hx
    obtain ⟨r, _, rfl⟩ := List.mem_map.mp hy
    exact alike_int q r
  · obtain ⟨q, _, rfl⟩ := List.mem_map.mp hx
    rfl
theorem cMin_ints66 {zs : List Int} {z : Int} (hz : z ∈ zs) (hl : ∀ y ∈ zs, z ≤ y) : cMinD [.list (zs.map .int)] = some (.int z) := by
  cases zs with
  | nil => cases hz
  | cons x xs =>
    have e : cMinD [.list ((x :: xs).map .int)] = some (PySem.W.minD (.int x) (xs.map .int)) := by
      rw [List.map_cons]
      exact if_pos (by rw [← List.map_cons]; exact okMin_ints66 (x :: xs))
    rw [e]
    have hm := minD_mem (xs.map PyData.int) (.int x)
    rw [← List.map_cons] at hm
    obtain ⟨w, hw, ew⟩ := List.mem_map.mp hm
    have h1 := hl w hw
    have h2 := minD_le (xs.map PyData.int) (.int x) (.int z) (by rw [← List.map_cons]; exact List.mem_map_of_mem hz)
    rw [← ew, PySem.W.dataLt_int] at h2
    have h3 := of_decide_eq_false h2
    rw [← ew, show w = z by omega]
theorem least_size66 {p : Part} {m : Mach} {ls : List (List Nat)} (h : ls.Perm (subsS (jumpIdx p))) (h6 : (jumpIdx p).length ≤ 6) : cMinD [.list (((ls.filter (fitB p m)).map (sizeN p m)).map .int)] = some (.int (sizeN p m (leastN p m))) := by
  have hne := triS_ne (p := p) (m := m) (subs_nil31 h6)
  obtain ⟨lm, lf⟩ := least_mem (p := p) (m := m) h6
  refine cMin_ints66 (List.mem_map.mpr ⟨leastN p m, List.mem_filter.mpr ⟨h.mem_iff.mpr lm, lf⟩, rfl⟩) fun y hy => ?_
  obtain ⟨ks, hk, rfl⟩ := List.mem_map.mp hy
  obtain ⟨k1, k2⟩ := List.mem_filter.mp hk
  have hq : triOf p m ks ∈ triS p m (subsS (jumpIdx p)) := List.mem_map.mpr ⟨ks, List.mem_filter.mpr ⟨h.mem_iff.mp k1, k2⟩, rfl⟩
  unfold leastN
  cases e : triS p m (subsS (jumpIdx p)) with
  | nil => exact absurd e hne
  | cons x xs =>
    rw [e] at hq
    have h1 := minT_le66 hq
    have h2 := (minT_eq x xs).2
    rw [← e] at h2
    obtain ⟨js, hj, ej⟩ := List.mem_map.mp h2
    show sizeN p m (minT x xs).2.2 ≤ sizeN p m ks
    rw [← ej] at h1 ⊢
    exact h1
theorem subsL_fold66 : ∀ {js : List Nat}, js.length ≤ 6 → subsL js = js.foldl subsF [[]]
  | [], _ => by kernel_rfl
  | [a], _ => by kernel_rfl
  | [a, b], _ => by kernel_rfl
  | [a, b, c], _ => by kernel_rfl
  | [a, b, c, d], _ => by kernel_rfl
  | [a, b, c, d, e], _ => by kernel_rfl
  | [a, b, c, d, e, f], _ => by kernel_rfl
  | a :: b :: c :: d :: e :: f :: g :: t, h => by simp only [List.length_cons] at h; omega
abbrev lwL : VS := (vSet 3 (vOp dAdd (vVar 3) (vLc (vISeq (vVar 3)) (vgName 7) vYes (vOp dAdd (vVar 7) (vLst (vCons (vVar 5) vNil))) [7])))
theorem lw_lists {p : Part} {m : Mach} {fs : List Nat} {x4 x6 x7 : Option D} : ∀ (rows : List Nat) (acc : List (List Nat)) (x5 : Option D), acc.length * 2 ^ rows.length ≤ 1000 → (∀ l ∈ acc, l.length + rows.length ≤ 1000) →
    ∃ y5, vfor (vgName 5) lwL (rows.map natD) (lwE p m fs acc x4 x5 x6 x7) = some (.nx (lwE p m fs (rows.foldl subsF acc) x4 y5 x6 x7))
  | [], acc, x5, _, _ => ⟨x5, rfl⟩
  | r :: rs, acc, x5, h, hl => by
    rw [List.length_cons, Nat.pow_succ] at h
    have h2 : acc.length * 2 ≤ 1000 := by
      have : acc.length * 2 ≤ acc.length * (2 ^ rs.length * 2) := Nat.mul_le_mul_left _ (by have := Nat.one_le_two_pow (n := rs.length); omega)
      omega
    obtain ⟨y5, ih⟩ := lw_lists (p := p) (m := m) (fs := fs) (x4 := x4) (x6 := x6) (x7 := x7) rs (subsF acc r) (some (natD r)) (by
      unfold subsF
      rw [List.length_append, List.length_map, ← Nat.two_mul, Nat.mul_comm 2, Nat.mul_assoc, Nat.mul_comm 2]
      exact h) (fun l hm => by
      rcases List.mem_append.mp hm with hm | hm
      · have := hl l hm; rw [List.length_cons] at this; omega
      · obtain ⟨l2, h2, rfl⟩ := List.mem_map.mp hm
        have := hl l2 h2
        rw [List.length_cons] at this
        rw [List.length_append, List.length_singleton]; omega)
    refine ⟨y5, ?_⟩
    rw [List.map_cons]
    unfold vfor
    rw [show vgName 5 (natD r) (lwE p m fs acc x4 x5 x6 x7) = some (lwE p m fs acc x4 (some (natD r)) x6 x7) from rfl, Option.bind_some]
    have e1 : vLc (vISeq (vVar 3)) (vgName 7) vYes (vOp dAdd (vVar 7) (vLst (vCons (vVar 5) vNil))) [7] (lwE p m fs acc x4 (some (natD r)) x6 x7) = some (.list ((acc.map (· ++ [r])).map natsD)) := by
      refine (vLc_of (ds := acc.map natsD) rfl (by rw [List.length_map]; exact Nat.le_trans (show acc.length ≤ 1000 by omega) (by decide)) (vcomp_mapOf natsD (fun l => natsD (l ++ [r])) fun l hm => ⟨_, rfl, rfl, ?_⟩)).trans (by rw [List.map_map]; rfl)
      refine (vOp_of (x := natsD l) (y := .list [natD r]) rfl rfl).trans ?_
      have hll := hl l hm
      rw [List.length_cons] at hll
      show (if _ then _ else _) = _
      rw [if_pos (by rw [List.length_map, List.length_singleton]; exact Nat.le_trans (show l.length + 1 ≤ 1000 by omega) (by decide))]
      unfold natsD
      rw [List.map_append]; rfl
    have e2 : vOp dAdd (vVar 3) (vLc (vISeq (vVar 3)) (vgName 7) vYes (vOp dAdd (vVar 7) (vLst (vCons (vVar 5) vNil))) [7]) (lwE p m fs acc x4 (some (natD r)) x6 x7) = some (.list ((subsF acc r).map natsD)) := by
      refine (vOp_of (x := .list (acc.map natsD)) rfl e1).trans ?_
      show (if _ then _ else _) = _
      rw [if_pos (by rw [List.length_map, List.length_map, List.length_map]; exact Nat.le_trans (show acc.length + acc.length ≤ 1000 by omega) (by decide))]
      unfold subsF
      rw [List.map_append]
    rw [show lwL (lwE p m fs acc x4 (some (natD r)) x6 x7) = some (.nx (lwE p m fs (subsF acc r) x4 (some (natD r)) x6 x7)) from vSet_of e2, Option.bind_some, List.foldl_cons]
    exact ih
theorem w_flat66 {p : Part} {m : Mach} {fs : List Nat} {ls : List (List Nat)} {x4 x5 x6 x7 : Option D} (hp : p.length ≤ 900) : vTest (vOp dNotIn (vC (.str "align")) (vLc (vISeq (vVar 0)) (vgName 5) vYes (vOp dIx (vVar 5) (vC (.int 0))) [5])) (lwE p m fs ls x4 x5 x6 x7) = some (evenP p) := by
  refine vTest_of ((vOp_of (x := .str "align") (y := .list (p.map fun r => .str r.w)) rfl ?_).trans (dNotIn_align31 p hp))
  exact vLc_of (ds := p.map Row.d) rfl (by rw [List.length_map]; exact Nat.le_trans hp (by decide)) (vcomp_mapOf Row.d (fun r => .str r.w) fun r _ => ⟨_, rfl, rfl, (vOp_of rfl rfl).trans (w_head31 r)⟩)
theorem w_jumps66 {p : Part} {m : Mach} (hp : p.length ≤ lim) : vLc (vIEn (vCons (vVar 0) vNil)) (vgTup 2 (vgCons (vgName 4) (vgCons (vgName 5) vgNil))) (vTest (vOp dIn (vOp dIx (vVar 5) (vC (.int 0))) (vTup (vCons (vC (.str "jump")) (vCons (vC (.str "branch")) vNil))))) (vVar 4) [4, 5] [some (pd p), some (md m), none, none, none, none, none, none] = some (.list ((jumpIdx p).map natD)) := by
  have e : vIEn (vCons (vVar 0) vNil) [some (pd p), some (md m), none, none, none, none, none, none] = some ((p.zipIdx).map fun q => .tuple [.int (q.2 : Int), q.1.d]) := congrArg some (enumD_map Row.d p 0)
  refine (vLc_of e (by rw [List.length_map, List.length_zipIdx]; exact hp) (vcomp_filterOf _ (fun q : Row × Nat => q.1.isJump) (fun q => natD q.2) fun q _ => ⟨_, rfl, vTest_of ?_, fun _ => rfl⟩)).trans ?_
  · exact (vOp_of ((vOp_of rfl rfl).trans (w_head31 q.1)) (vTup_of (vCons_of rfl (vCons_of rfl rfl)) (by show 2 ≤ lim; decide))).trans (w_lawJumps q.1)
  · unfold jumpIdx
    rw [List.map_map]; rfl
def laidSize (p : Part) (m : Mach) (z : Int) : Prop := v_laid_size [pd p, md m] = some (.int z) ∧ v__law_w_laid [pd p, md m] = some (.int z) ∧ 0 ≤ z ∧ z ≤ 1980
theorem size_bd66 {p : Part} {m : Mach} (ok : partOk p = true) (mk : machOk m = true) (fs : List Nat) : 0 ≤ sizeN p m fs ∧ sizeN p m fs ≤ 1980 := by
  obtain ⟨ys, e⟩ := addrs_end p m fs
  have := addrs_bd31 mk fs p 0 0 (partOk_rows ok) (Int.le_refl _) (sizeN p m fs) (by rw [e]; simp)
  have := (partOk_len ok).2
  omega
theorem laidSize66 {p : Part} {m : Mach} (ok : partOk p = true) (mk : machOk m = true) : ∃ z, laidSize p m z := by
  have rows := partOk_rows ok
  have len := (partOk_len ok).2
  have jl := jumpIdx_len_le p
  have e0 : vPar [2, 3] (vCons (vLc (vIEn (vCons (vVar 0) vNil)) (vgTup 2 (vgCons (vgName 4) (vgCons (vgName 5) vgNil))) (vTest (vOp dIn (vOp dIx (vVar 5) (vC (.int 0))) (vTup (vCons (vC (.str "jump")) (vCons (vC (.str "branch")) vNil))))) (vVar 4) [4, 5]) (vCons (vLst (vCons (vLst vNil) vNil)) vNil)) [some (pd p), some (md m), none, none, none, none, none, none] = some (.nx (lwE p m (jumpIdx p) [[]] none none none none)) := by
    unfold vPar
    rw [vCons_of (w_jumps66 (m := m) (Nat.le_trans len (by decide))) (vCons_of (x := .list [.list []]) rfl rfl)]
    rfl
  cases ev : evenP p with
  | true =>
    obtain ⟨fs, ch, g, e, hl, hm, _⟩ := v_growth_eq m ok
    have nd : (jumpIdx p).Nodup := idx_nodup _ p
    obtain ⟨a1, a2, a3, a4, a5, _⟩ := grow_facts mk ok ev fuel (jumpIdx p) [] fs ch g nd (fun f h => jumpIdx_mem h)
    obtain ⟨gs, y4, y5, y6, y7, e1, e2, e3, e4⟩ := lw_loop (ls := [[]]) ok mk ev fuel (jumpIdx p) none none none none (fun f h => h) (fun S a _ => a) (Nat.lt_of_lt_of_le (show (jumpIdx p).length < 21 by omega) (by decide)) (by omega)
    have eq : gs = fs := sub_same nd e2 a4 fun x => ⟨fun h => a5 gs (fun s hs => e2.subset hs) e3 x h, fun h => e4 fs a3 a1 x h⟩
    subst eq
    have elf : v_laid_forms [pd p, md m] = some (natsD gs) := by
      refine vFun_of rfl (vSeq_rt (vIfS_t (vTest_of ((vCall_of rfl).trans ((v_is_even_eq p (Nat.le_trans len (by decide))).trans (by rw [ev])))) (vRet_of ?_)))
      exact (vOp_of (Eq.trans rfl e) rfl).trans (ix0_31 _ _)
    refine ⟨sizeN p m gs, ?_, ?_, size_bd66 ok mk gs⟩
    · exact vFun_of rfl (vRet_of ((vCall_of (vCons_of rfl (vCons_of rfl (vCons_of (Eq.trans rfl elf) rfl)))).trans (v_size_of_eq rows (by omega))))
    · refine vFun_of rfl (vSeq_nx e0 (vSeq_rt (vIfS_t ((w_flat66 (by omega)).trans (by rw [ev])) (vSeq_nx e1 (vRet_of ?_)))))
      exact (vOp_of (Eq.trans rfl (v__law_w_places_eq p m gs rows (by omega))) rfl).trans (ix_size p m gs)
  | false =>
    have h6 := few31 ok ev
    have elf : v_laid_forms [pd p, md m] = some (natsD (leastN p m)) := by
      refine vFun_of rfl (vSeq_nx (vIfS_f (vTest_of ((vCall_of rfl).trans ((v_is_even_eq p (Nat.le_trans len (by decide))).trans (by rw [ev])))) rfl) (vRet_of ?_))
      exact Eq.trans rfl (v_least_forms_eq ok h6)
    refine ⟨sizeN p m (leastN p m), ?_, ?_, size_bd66 ok mk _⟩
    · exact vFun_of rfl (vRet_of ((vCall_of (vCons_of rfl (vCons_of rfl (vCons_of (Eq.trans rfl elf) rfl)))).trans (v_size_of_eq rows (by omega))))
    · obtain ⟨y5, el⟩ := lw_lists (p := p) (m := m) (fs := jumpIdx p) (x4 := none) (x6 := none) (x7 := none) (jumpIdx p) [[]] none (by
        rw [List.length_singleton, Nat.one_mul]
        exact Nat.le_trans (Nat.pow_le_pow_right (by decide) h6) (by decide)) (fun l hl => by rw [List.mem_singleton.mp hl, List.length_nil]; omega)
      rw [← subsL_fold66 h6] at el
      have pm := subs_perm31 h6
      have hmem : ∀ ks ∈ subsL (jumpIdx p), (∀ k ∈ ks, JumpAt p k) ∧ ks.length ≤ 1000 := fun ks hk => ⟨fun k h => part_jump ok (jumpIdx_mem (subs_mem31 h6 (pm.mem_iff.mp hk) k h)), by have := (subs_len31 h6).2 ks (pm.mem_iff.mp hk); omega⟩
      refine vFun_of rfl (vSeq_nx e0 (vSeq_nx (vIfS_f ((w_flat66 (by omega)).trans (by rw [ev])) rfl) (vSeq_nx ((vFor_of31 (vISeq_of31 rfl)).trans el) (vRet_of ?_))))
      refine (vCl_of (vCons_of (vLc_of (ds := (subsL (jumpIdx p)).map natsD) rfl (by rw [List.length_map, pm.length_eq]; exact Nat.le_trans (subs_len31 h6).1 (by decide)) (vcomp_filterOf natsD (fitB p m) (fun ks => .int (sizeN p m ks)) fun ks hk => ⟨_, rfl, vTest_of ((vCall_of rfl).trans (v__law_w_all_fit_eq rows (by omega) (hmem ks hk).1 (hmem ks hk).2)), fun _ => ?_⟩)) rfl)).trans ?_
      · exact (vOp_of (Eq.trans rfl (v__law_w_places_eq p m ks rows (by omega))) rfl).trans (ix_size p m ks)
      · have := least_size66 (m := m) pm h6
        rw [List.map_map] at this
        exact this
end RC
end
section
namespace RC
open PySem PySem.Spec L2 RR
open PyProof.Rows hiding St cutD
structure WOk66 (ws : List Str) : Prop where
  ne : ws ≠ []
  len : ws.length ≤ 12
  shun : shunW true ws = true
  mem : ∀ w ∈ ws, Word8 w
  few : (∀ w ∈ ws, ¬ w = ("align" : Str)) ∨ (ws.countP fun w : Str => w == ("jump" : Str) || w == ("branch" : Str)) ≤ 3
theorem wok_of66 {gs : List Grp} {L : Nat} (hL : L ≤ 4) (h1 : 1 ≤ gs.length) (h2 : gs.length ≤ 2) (hg : ∀ g ∈ gs, GrpOk L g) (few : (∀ w ∈ flatG gs, ¬ w = ("align" : Str)) ∨ ((flatG gs).countP fun w : Str => w == ("jump" : Str) || w == ("branch" : Str)) ≤ 3) : WOk66 (flatG gs) := by
  obtain ⟨a, b⟩ := flatG_len gs hg
  have hm : (L + 2) * gs.length ≤ 6 * 2 := Nat.mul_le_mul (by omega) h2
  exact ⟨fun z => by rw [z, List.length_nil] at b; omega, by omega, shun_flat gs hg true (.inl fun z => by rw [z] at h1; simp at h1), flat_words hg, few⟩
theorem fine_of66 {ws : List Str} {rs : Part} {parts : Nat} (h : WOk66 ws) (hr : rs.map Row.w = ws) (hw : ∀ r ∈ rs, ∃ w, WRow parts (goalsW ws) w r) : Fine rs ∧ ∀ r ∈ rs, r.isFar = true → r.num < (parts : Int) := by
  have hl : rs.length = ws.length := by rw [← hr, List.length_map]
  have hl10 := h.len
  have hne : 1 ≤ ws.length := List.length_pos_iff.mpr h.ne
  have few : evenP rs = true ∨ (rs.filter Row.isJump).length ≤ 3 := by
    rcases h.few with e | e
    · left
      refine List.all_eq_true.mpr fun r hrm => ?_
      rw [← row_align, Bool.not_eq_true']
      have := e r.w (by rw [← hr]; exact List.mem_map_of_mem hrm)
      simpa using this
    · right
      rw [← hr, List.countP_map] at e
      rw [← List.countP_eq_length_filter]
      refine Nat.le_trans (Nat.le_of_eq (List.countP_congr fun r _ => ?_)) e
      show _ ↔ (r.w == "jump" || r.w == "branch") = true
      rw [row_jump]
  refine ⟨⟨⟨by omega, by omega, fun r hrm => (hw r hrm).elim fun w x => x.ok, few.imp id (by omega), fun r hrm hj => ?_, ?_⟩, by omega, few⟩, fun r hrm hf => (hw r hrm).elim fun w x => x.far hf⟩
  · obtain ⟨w, x⟩ := hw r hrm
    obtain ⟨g, hg, e⟩ := x.jump hj
    obtain ⟨z, hz, hzw⟩ := goalsW_mem hg
    rw [e, Int.toNat_natCast]
    rw [← hr, List.getElem?_map] at hz
    cases hq : rs[g]? with
    | none => rw [hq] at hz; cases hz
    | some q =>
      rw [hq] at hz
      cases hz
      refine ⟨q, rfl, ?_⟩
      rw [← row_word]
      simpa using hzw
  · rw [← shun_words, hr]; exact h.shun
theorem w_part_ok66 {L parts : Nat} {n : Nat} {R : D → Nat → Prop} (hL : L ≤ 4) (hp1 : 1 ≤ parts) (hp5 : parts ≤ 5) (hn : n < 800000) (q : ∀ p n', Fine p → (∀ r ∈ p, r.isFar = true → r.num < (parts : Int)) → n' ≤ n + 90 → R (pd p) n') : m__law_w_part [.int (L : Int), .int (parts : Int)] n R := by
  unfold m__law_w_part b__law_w_part
  refine ⟨rfl, ?_⟩
  refine q_setM (s_callP (s_cons (s_var (d := .int (L : Int)) rfl (s_cons (s_op (s_callP (s_cons (s_C (s_nil ?_)))))))))
  with_reducible refine take_ok (by decide) (by decide) (by omega) fun x x0 x1 => ?_
  refine s_C ⟨.bool (decide (0 < x)), rfl, s_nil ?_⟩
  with_reducible refine w_words_ok (by omega) (by omega) fun gs n1 h1 h2 hg hn1 => ?_
  have mw := flat_words hg
  have rest : ∀ ws : List Str, WOk66 ws → mSeq (mPar [5, 6] (mCons (mLc (mIEn (mCons (mVar 3) mNil)) (mgTup 2 (mgCons (mgName 7) (mgCons (mgName 4) mgNil))) (mTest (mOp dNe (mVar 4) (mC (.str "word")))) (mVar 7) [7, 4]) (mCons (mLst mNil) mNil))) (mSeq (mFor (mISeq (mVar 3)) (mgName 4) wpB) (mRet (mCl cTuple (mCons (mVar 6) mNil)))) { nx := fun _ n => R .none n, rt := R, bk := fun _ _ => False, ct := fun _ _ => False } [none, some (.int (L : Int)), some (.int (parts : Int)), some (.list (ws.map .str)), none, none, none, none, none] n1 := by
    intro ws W
    have len := W.len
    have gl := goalsW_len ws
    have eg : vLc (vIEn (vCons (vVar 3) vNil)) (vgTup 2 (vgCons (vgName 7) (vgCons (vgName 4) vgNil))) (vTest (vOp dNe (vVar 4) (vC (.str "word")))) (vVar 7) [7, 4] [none, some (.int (L : Int)), some (.int (parts : Int)), some (.list (ws.map .str)), none, none, none, none, none] = some (.list ((goalsW ws).map natD)) := by
      have e : vIEn (vCons (vVar 3) vNil) [none, some (.int (L : Int)), some (.int (parts : Int)), some (.list (ws.map .str)), none, none, none, none, none] = some ((ws.zipIdx).map fun q => .tuple [.int (q.2 : Int), .str q.1]) := by
        refine Eq.trans ?_ (congrArg some (enumD_map PyData.str ws 0))
        rfl
      refine (vLc_of e (by rw [List.length_map, List.length_zipIdx]; exact Nat.le_trans len (by decide)) (vcomp_filterOf _ (fun q : Str × Nat => !decide (q.1 = ("word" : Str))) (fun q => natD q.2) fun q _ => ⟨_, rfl, ?_, fun _ => rfl⟩)).trans ?_
      · exact vTest_of ((vOp_of rfl rfl).trans (dNe_str q.1 "word"))
      · unfold goalsW
        rw [List.map_map]; rfl
    refine q_par ((f_Cons (f_Lc (f_IEn (f_Cons f_Var f_Nil)) (f_gTup (f_gCons f_gName (f_gCons f_gName f_gNil))) (f_Test (f_Op f_Var f_C)) f_Var) (f_Cons (f_Lst f_Nil) f_Nil)) _ _ [.list ((goalsW ws).map natD), .list []] _ (vCons_of eg rfl) ⟨rfl, ?_⟩)
    refine q_for (s_iseq (s_var (d := .list (ws.map .str)) rfl ⟨_, rfl, ?_⟩))
    refine w_for (fun ds Γ n' => ∃ rs pre suf x4 x8, Γ = wpE L parts ws (goalsW ws) rs x4 none x8 ∧ ds = suf.map .str ∧ ws = pre ++ suf ∧ rs.map Row.w = pre ∧ (∀ r ∈ rs, ∃ w, WRow parts (goalsW ws) w r) ∧ n' ≤ n1 + 3 * pre.length) (fun d ds Γ n2 hI K hK => ?_) (fun Γ n2 hI => ?_) _ _ _ ⟨[], [], ws, none, none, rfl, rfl, rfl, rfl, (fun r h => nomatch h), Nat.le_add_right _ _⟩
    · obtain ⟨rs, pre, suf, x4, x8, rfl, hd, hs, hr, hw, h2⟩ := hI
      cases suf with
      | nil => cases hd
      | cons w suf =>
        rw [List.map_cons] at hd
        obtain ⟨rfl, rfl⟩ := List.cons.inj hd
        have wm : w ∈ ws := by rw [hs]; simp
        have pl : pre.length ≤ 12 := by
          have : ws.length = pre.length + (w :: suf).length := by rw [hs, List.length_append]
          omega
        have rl : rs.length = pre.length := by rw [← hr, List.length_map]
        refine s_gName ?_
        refine wp_turn (x7 := none) (W.mem w wm) hp1 hp5 (goalsW_pos W.ne W.shun) (by omega) (fun g hg => ?_) (by omega) (by omega) fun r x8' n3 hwr hn3 => ?_
        · obtain ⟨z, hz, _⟩ := goalsW_mem hg
          have := (List.getElem?_eq_some_iff.mp hz).1
          omega
        · refine hK _ _ ⟨rs ++ [r], pre ++ [w], suf, some (.str w), x8', rfl, rfl, by rw [hs, List.append_assoc]; rfl, by rw [List.map_append, hr, List.map_singleton, hwr.w], fun z hz => ?_, by rw [List.length_append, List.length_singleton]; omega⟩
          rcases List.mem_append.mp hz with hz | hz
          · exact hw z hz
          · rw [List.mem_singleton.mp hz]; exact ⟨w, hwr⟩
    · obtain ⟨rs, pre, suf, x4, x8, rfl, hd, hs, hr, hw, h2⟩ := hI
      cases suf with
      | cons _ _ => cases hd
      | nil =>
        rw [List.append_nil] at hs
        subst hs
        obtain ⟨f1, f2⟩ := fine_of66 W hr hw
        exact w_ret (f_Cl (f_Cons f_Var f_Nil)) rfl (q rs n2 f1 f2 (by omega))
  have ec : vTest (vOp dGt (vOp dAdd (vCnt (vVar 3) (vC (.str "jump"))) (vCnt (vVar 3) (vC (.str "branch")))) (vC (.int 3))) [none, some (.int (L : Int)), some (.int (parts : Int)), some (.list ((flatG gs).map .str)), none, none, none, none, none] = some (decide ((3 : Int) < (((flatG gs).countP fun w : Str => decide (w = ("jump" : Str)) : Nat) : Int) + (((flatG gs).countP fun w : Str => decide (w = ("branch" : Str)) : Nat) : Int))) := by
    refine vTest_of (o2 (o2 (x := .int _) (y := .int _) (Eq.trans rfl (cnt_words mw (x := "jump") (by unfold Word8; simp))) (Eq.trans rfl (cnt_words mw (x := "branch") (by unfold Word8; simp))) rfl) rfl rfl)
  refine w_seq (w_if _ (f_Test (f_Op (f_Op (f_Cnt f_Var f_C) (f_Cnt f_Var f_C)) f_C)) ec (fun hc => ?_) fun hc => ?_)
  · have ef : vLc (vISeq (vVar 3)) (vgName 4) (vTest (vOp dNe (vVar 4) (vC (.str "align")))) (vVar 4) [4] [none, some (.int (L : Int)), some (.int (parts : Int)), some (.list ((flatG gs).map .str)), none, none, none, none, none] = some (.list ((flatG (gs.map noAl)).map .str)) := by
      refine (vLc_of (ds := (flatG gs).map .str) rfl (by rw [List.length_map]; have := (flatG_len gs hg).1; have hm : (L + 2) * gs.length ≤ 6 * 2 := Nat.mul_le_mul (by omega) h2; exact Nat.le_trans (Nat.le_trans this hm) (by decide)) (vcomp_filterOf PyData.str (fun w : Str => !decide (w = ("align" : Str))) PyData.str fun w _ => ⟨_, rfl, vTest_of ((vOp_of rfl rfl).trans (dNe_str w "align")), fun _ => rfl⟩)).trans ?_
      rw [← flat_noAl gs hg]
      congr 3
      
    refine w_set (f_Lc (f_ISeq f_Var) f_gName (f_Test (f_Op f_Var f_C)) f_Var) ef ?_
    have hg' : ∀ g ∈ gs.map noAl, GrpOk L g := fun g hgm => by
      obtain ⟨y, hy, rfl⟩ := List.mem_map.mp hgm
      exact noAl_ok (hg y hy)
    refine rest _ (wok_of66 hL (by rw [List.length_map]; exact h1) (by rw [List.length_map]; exact h2) hg' (.inl fun w hw => ?_))
    rw [← flat_noAl gs hg] at hw
    simpa using (List.mem_filter.mp hw).2
  · refine rest _ (wok_of66 hL h1 h2 hg (.inr ?_))
    have := of_decide_eq_false hc
    have c := count_or (ws := flatG gs) (fun w : Str => w == ("jump" : Str)) (fun w : Str => w == ("branch" : Str))
    have c1 : ((flatG gs).countP fun w : Str => w == ("jump" : Str)) = (flatG gs).countP fun w : Str => decide (w = ("jump" : Str)) := List.countP_congr fun w _ => by simp
    have c2 : ((flatG gs).countP fun w : Str => w == ("branch" : Str)) = (flatG gs).countP fun w : Str => decide (w = ("branch" : Str)) := List.countP_congr fun w _ => by simp
    omega
end RC
end
section
namespace RC
open PySem PySem.Spec L2 RR
open PyProof.Rows hiding St cutD
local macro_rules | `(tactic| walk_at "fp") => `(tactic| with_reducible first | exact fp_growth | exact fp_is_part)
local macro_rules | `(tactic| walk_at "fe") => `(tactic| with_reducible first
  | exact f_Var | exact f_C | exact f_Nil | exact f_Dict0 | exact f_NoPart | exact f_Yes | exact f_gName | exact f_gNil | exact f_pNil
  | (apply f_Cl <;> walk_at "fe") | (apply f_Op <;> walk_at "fe") | (apply f_Un <;> walk_at "fe") | (apply f_Cons <;> walk_at "fe")
  | (apply f_Test <;> walk_at "fe") | (apply f_Tru <;> walk_at "fe")
  | (apply f_Call (by walk_at "fp") <;> walk_at "fe") | (apply f_CallK (by walk_at "fp") <;> walk_at "fe")
  | (apply f_Tup <;> walk_at "fe") | (apply f_Lst <;> walk_at "fe") | (apply f_Isi <;> walk_at "fe") | (apply f_Isi2 <;> walk_at "fe")
  | (apply f_Sl <;> walk_at "fe") | (apply f_Part <;> walk_at "fe")
  | (apply f_And <;> walk_at "fe") | (apply f_Or <;> walk_at "fe") | (apply f_Not <;> walk_at "fe")
  | (apply f_AndV <;> walk_at "fe") | (apply f_OrV <;> walk_at "fe") | (apply f_NotV <;> walk_at "fe")
  | (apply f_If <;> walk_at "fe") | (apply f_Chain <;> walk_at "fe") | (apply f_Look <;> walk_at "fe") | (apply f_LookL <;> walk_at "fe") | (apply f_Rev <;> walk_at "fe")
  | (apply f_ISeq <;> walk_at "fe") | (apply f_IEn <;> walk_at "fe") | (apply f_IZ <;> walk_at "fe") | (apply f_IR1 <;> walk_at "fe") | (apply f_IR2 <;> walk_at "fe") | exact f_IKeys | exact f_IVals | exact f_IItems
  | (apply f_gTup <;> walk_at "fe") | (apply f_gCons <;> walk_at "fe") | (apply f_Lc <;> walk_at "fe")
  | (apply f_Disp <;> walk_at "fe") | (apply f_pCons <;> walk_at "fe")
  | (apply f_Seq <;> walk_at "fe") | (apply f_IfS <;> walk_at "fe") | (apply f_Ret <;> walk_at "fe") | exact f_Next | (apply f_Set <;> walk_at "fe") | (apply f_Par <;> walk_at "fe") | (apply f_Asg <;> walk_at "fe") | (apply f_Drop <;> walk_at "fe") | (apply f_Append <;> walk_at "fe") | (apply f_For <;> walk_at "fe"))
local macro_rules | `(tactic| walk_at "len") => `(tactic| first | (simp only [List.length_cons, List.length_nil]; decide) | assumption)
local macro_rules | `(tactic| walk_at "ev") => `(tactic| first
  | with_reducible assumption
  | ((with_reducible apply o2) <;> walk_at "ev") | ((with_reducible apply o1) <;> walk_at "ev") | ((with_reducible apply vCons_of) <;> walk_at "ev") | ((with_reducible apply o_cl) <;> walk_at "ev") | ((with_reducible apply o_call) <;> walk_at "ev")
  | ((with_reducible apply vTest_of) <;> walk_at "ev") | ((with_reducible apply o_tup) <;> first | walk_at "len" | walk_at "ev") | ((with_reducible apply o_lst) <;> first | walk_at "len" | walk_at "ev")
  | ((with_reducible apply vNot_t) <;> walk_at "ev") | ((with_reducible apply vNot_f) <;> walk_at "ev") | ((with_reducible apply vNot_of) <;> walk_at "ev") | ((with_reducible apply vIsi_of) <;> walk_at "ev") | ((with_reducible apply vNotV_of) <;> walk_at "ev") | ((with_reducible apply o_sl) <;> walk_at "ev") | ((with_reducible apply o_part) <;> walk_at "ev")
  | rfl)
local macro_rules | `(tactic| walk_at "we") => `(tactic| (apply w_exp; (case h => walk_at "fe"); (case e => walk_at "ev")))
local macro_rules | `(tactic| walk_at "wa") => `(tactic| (apply w_args; (case h => walk_at "fe"); (case e => walk_at "ev")))
local macro_rules | `(tactic| walk_at "wt") => `(tactic| (apply w_tst; (case h => walk_at "fe"); (case e => walk_at "ev")))
local macro_rules | `(tactic| walk_at "wi") => `(tactic| (apply w_it; (case h => walk_at "fe"); (case e => walk_at "ev")))
local macro_rules | `(tactic| walk_at "qs") => `(tactic| (apply q_set; (case h => walk_at "fe"); (case e => walk_at "ev")))
local macro_rules | `(tactic| walk_at "qn") => `(tactic| (apply q_no; (case h => walk_at "fe"); (case e => walk_at "ev")))
local macro_rules | `(tactic| walk_at "wr") => `(tactic| (apply w_ret; (case h => walk_at "fe"); (case e => walk_at "ev")))
local macro_rules | `(tactic| walk_at "sp") => `(tactic| (apply s_callP; (apply w_args; (case h => walk_at "fe"); (case e => walk_at "ev"))))
end RC
end
section
namespace RC
open PySem PySem.Spec L2 RR
open PyProof.Rows hiding St cutD
local macro_rules | `(tactic| walk_at "fp") => `(tactic| with_reducible first | exact fp_growth | exact fp_is_part)
local macro_rules | `(tactic| walk_at "fe") => `(tactic| with_reducible first
  | exact f_Var | exact f_C | exact f_Nil | exact f_Dict0 | exact f_NoPart | exact f_Yes | exact f_gName | exact f_gNil | exact f_pNil
  | (apply f_Cl <;> walk_at "fe") | (apply f_Op <;> walk_at "fe") | (apply f_Un <;> walk_at "fe") | (apply f_Cons <;> walk_at "fe")
  | (apply f_Test <;> walk_at "fe") | (apply f_Tru <;> walk_at "fe")
  | (apply f_Call (by walk_at "fp") <;> walk_at "fe") | (apply f_CallK (by walk_at "fp") <;> walk_at "fe")
  | (apply f_Tup <;> walk_at "fe") | (apply f_Lst <;> walk_at "fe") | (apply f_Isi <;> walk_at "fe") | (apply f_Isi2 <;> walk_at "fe")
  | (apply f_Sl <;> walk_at "fe") | (apply f_Part <;> walk_at "fe")
  | (apply f_And <;> walk_at "fe") | (apply f_Or <;> walk_at "fe") | (apply f_Not <;> walk_at "fe")
  | (apply f_AndV <;> walk_at "fe") | (apply f_OrV <;> walk_at "fe") | (apply f_NotV <;> walk_at "fe")
  | (apply f_If <;> walk_at "fe") | (apply f_Chain <;> walk_at "fe") | (apply f_Look <;> walk_at "fe") | (apply f_LookL <;> walk_at "fe") | (apply f_Rev <;> walk_at "fe")
  | (apply f_ISeq <;> walk_at "fe") | (apply f_IEn <;> walk_at "fe") | (apply f_IZ <;> walk_at "fe") | (apply f_IR1 <;> walk_at "fe") | (apply f_IR2 <;> walk_at "fe") | exact f_IKeys | exact f_IVals | exact f_IItems
  | (apply f_gTup <;> walk_at "fe") | (apply f_gCons <;> walk_at "fe") | (apply f_Lc <;> walk_at "fe")
  | (apply f_Disp <;> walk_at "fe") | (apply f_pCons <;> walk_at "fe")
  | (apply f_Seq <;> walk_at "fe") | (apply f_IfS <;> walk_at "fe") | (apply f_Ret <;> walk_at "fe") | exact f_Next | (apply f_Set <;> walk_at "fe") | (apply f_Par <;> walk_at "fe") | (apply f_Asg <;> walk_at "fe") | (apply f_Drop <;> walk_at "fe") | (apply f_Append <;> walk_at "fe") | (apply f_For <;> walk_at "fe"))
local macro_rules | `(tactic| walk_at "len") => `(tactic| first | (simp only [List.length_cons, List.length_nil]; decide) | assumption)
local macro_rules | `(tactic| walk_at "ev") => `(tactic| first
  | with_reducible assumption
  | ((with_reducible apply o2) <;> walk_at "ev") | ((with_reducible apply o1) <;> walk_at "ev") | ((with_reducible apply vCons_of) <;> walk_at "ev") | ((with_reducible apply o_cl) <;> walk_at "ev") | ((with_reducible apply o_call) <;> walk_at "ev")
  | ((with_reducible apply vTest_of) <;> walk_at "ev") | ((with_reducible apply o_tup) <;> first | walk_at "len" | walk_at "ev") | ((with_reducible apply o_lst) <;> first | walk_at "len" | walk_at "ev")
  | ((with_reducible apply vNot_t) <;> walk_at "ev") | ((with_reducible apply vNot_f) <;> walk_at "ev") | ((with_reducible apply vNot_of) <;> walk_at "ev") | ((with_reducible apply vIsi_of) <;> walk_at "ev") | ((with_reducible apply vNotV_of) <;> walk_at "ev") | ((with_reducible apply o_sl) <;> walk_at "ev") | ((with_reducible apply o_part) <;> walk_at "ev")
  | rfl)
local macro_rules | `(tactic| walk_at "we") => `(tactic| (apply w_exp; (case h => walk_at "fe"); (case e => walk_at "ev")))
local macro_rules | `(tactic| walk_at "wa") => `(tactic| (apply w_args; (case h => walk_at "fe"); (case e => walk_at "ev")))
local macro_rules | `(tactic| walk_at "wt") => `(tactic| (apply w_tst; (case h => walk_at "fe"); (case e => walk_at "ev")))
local macro_rules | `(tactic| walk_at "wi") => `(tactic| (apply w_it; (case h => walk_at "fe"); (case e => walk_at "ev")))
local macro_rules | `(tactic| walk_at "qs") => `(tactic| (apply q_set; (case h => walk_at "fe"); (case e => walk_at "ev")))
local macro_rules | `(tactic| walk_at "qn") => `(tactic| (apply q_no; (case h => walk_at "fe"); (case e => walk_at "ev")))
local macro_rules | `(tactic| walk_at "wr") => `(tactic| (apply w_ret; (case h => walk_at "fe"); (case e => walk_at "ev")))
local macro_rules | `(tactic| walk_at "sp") => `(tactic| (apply s_callP; (apply w_args; (case h => walk_at "fe"); (case e => walk_at "ev"))))
end RC
end
section
namespace RC
open PySem PySem.Spec L2 RR
open PyProof.Rows hiding St cutD
local macro_rules | `(tactic| walk_at "fp") => `(tactic| with_reducible first | exact fp_growth | exact fp_is_part)
local macro_rules | `(tactic| walk_at "fe") => `(tactic| with_reducible first
  | exact f_Var | exact f_C | exact f_Nil | exact f_Dict0 | exact f_NoPart | exact f_Yes | exact f_gName | exact f_gNil | exact f_pNil
  | (apply f_Cl <;> walk_at "fe") | (apply f_Op <;> walk_at "fe") | (apply f_Un <;> walk_at "fe") | (apply f_Cons <;> walk_at "fe")
  | (apply f_Test <;> walk_at "fe") | (apply f_Tru <;> walk_at "fe")
  | (apply f_Call (by walk_at "fp") <;> walk_at "fe") | (apply f_CallK (by walk_at "fp") <;> walk_at "fe")
  | (apply f_Tup <;> walk_at "fe") | (apply f_Lst <;> walk_at "fe") | (apply f_Isi <;> walk_at "fe") | (apply f_Isi2 <;> walk_at "fe")
  | (apply f_Sl <;> walk_at "fe") | (apply f_Part <;> walk_at "fe")
  | (apply f_And <;> walk_at "fe") | (apply f_Or <;> walk_at "fe") | (apply f_Not <;> walk_at "fe")
  | (apply f_AndV <;> walk_at "fe") | (apply f_OrV <;> walk_at "fe") | (apply f_NotV <;> walk_at "fe")
  | (apply f_If <;> walk_at "fe") | (apply f_Chain <;> walk_at "fe") | (apply f_Look <;> walk_at "fe") | (apply f_LookL <;> walk_at "fe") | (apply f_Rev <;> walk_at "fe")
  | (apply f_ISeq <;> walk_at "fe") | (apply f_IEn <;> walk_at "fe") | (apply f_IZ <;> walk_at "fe") | (apply f_IR1 <;> walk_at "fe") | (apply f_IR2 <;> walk_at "fe") | exact f_IKeys | exact f_IVals | exact f_IItems
  | (apply f_gTup <;> walk_at "fe") | (apply f_gCons <;> walk_at "fe") | (apply f_Lc <;> walk_at "fe")
  | (apply f_Disp <;> walk_at "fe") | (apply f_pCons <;> walk_at "fe")
  | (apply f_Seq <;> walk_at "fe") | (apply f_IfS <;> walk_at "fe") | (apply f_Ret <;> walk_at "fe") | exact f_Next | (apply f_Set <;> walk_at "fe") | (apply f_Par <;> walk_at "fe") | (apply f_Asg <;> walk_at "fe") | (apply f_Drop <;> walk_at "fe") | (apply f_Append <;> walk_at "fe") | (apply f_For <;> walk_at "fe"))
local macro_rules | `(tactic| walk_at "len") => `(tactic| first | (simp only [List.length_cons, List.length_nil]; decide) | assumption)
local macro_rules | `(tactic| walk_at "ev") => `(tactic| first
  | with_reducible assumption
  | ((with_reducible apply o2) <;> walk_at "ev") | ((with_reducible apply o1) <;> walk_at "ev") | ((with_reducible apply vCons_of) <;> walk_at "ev") | ((with_reducible apply o_cl) <;> walk_at "ev") | ((with_reducible apply o_call) <;> walk_at "ev")
  | ((with_reducible apply vTest_of) <;> walk_at "ev") | ((with_reducible apply o_tup) <;> first | walk_at "len" | walk_at "ev") | ((with_reducible apply o_lst) <;> first | walk_at "len" | walk_at "ev")
  | ((with_reducible apply vNot_t) <;> walk_at "ev") | ((with_reducible apply vNot_f) <;> walk_at "ev") | ((with_reducible apply vNot_of) <;> walk_at "ev") | ((with_reducible apply vIsi_of) <;> walk_at "ev") | ((with_reducible apply vNotV_of) <;> walk_at "ev") | ((with_reducible apply o_sl) <;> walk_at "ev") | ((with_reducible apply o_part) <;> walk_at "ev")
  | rfl)
local macro_rules | `(tactic| walk_at "we") => `(tactic| (apply w_exp; (case h => walk_at "fe"); (case e => walk_at "ev")))
local macro_rules | `(tactic| walk_at "wa") => `(tactic| (apply w_args; (case h => walk_at "fe"); (case e => walk_at "ev")))
local macro_rules | `(tactic| walk_at "wt") => `(tactic| (apply w_tst; (case h => walk_at "fe"); (case e => walk_at "ev")))
local macro_rules | `(tactic| walk_at "wi") => `(tactic| (apply w_it; (case h => walk_at "fe"); (case e => walk_at "ev")))
local macro_rules | `(tactic| walk_at "qs") => `(tactic| (apply q_set; (case h => walk_at "fe"); (case e => walk_at "ev")))
local macro_rules | `(tactic| walk_at "qn") => `(tactic| (apply q_no; (case h => walk_at "fe"); (case e => walk_at "ev")))
local macro_rules | `(tactic| walk_at "wr") => `(tactic| (apply w_ret; (case h => walk_at "fe"); (case e => walk_at "ev")))
local macro_rules | `(tactic| walk_at "sp") => `(tactic| (apply s_callP; (apply w_args; (case h => walk_at "fe"); (case e => walk_at "ev"))))
end RC
end
section
namespace RC
open PySem PySem.Spec L2 RR
open PyProof.Rows hiding St cutD
local macro_rules | `(tactic| walk_at "fp") => `(tactic| with_reducible first | exact fp_growth | exact fp_is_part | exact fp_twin_of | exact fp_with_part | exact fp_opens | exact fp_is_book | exact fp_is_part_number | exact fp_is_within)
local macro_rules | `(tactic| walk_at "fe") => `(tactic| with_reducible first
  | exact f_Var | exact f_C | exact f_Nil | exact f_Dict0 | exact f_NoPart | exact f_Yes | exact f_gName | exact f_gNil | exact f_pNil
  | (apply f_Cl <;> walk_at "fe") | (apply f_Op <;> walk_at "fe") | (apply f_Un <;> walk_at "fe") | (apply f_Cons <;> walk_at "fe")
  | (apply f_Test <;> walk_at "fe") | (apply f_Tru <;> walk_at "fe")
  | (apply f_Call (by walk_at "fp") <;> walk_at "fe") | (apply f_CallK (by walk_at "fp") <;> walk_at "fe")
  | (apply f_Tup <;> walk_at "fe") | (apply f_Lst <;> walk_at "fe") | (apply f_Isi <;> walk_at "fe") | (apply f_Isi2 <;> walk_at "fe")
  | (apply f_Sl <;> walk_at "fe") | (apply f_Part <;> walk_at "fe")
  | (apply f_And <;> walk_at "fe") | (apply f_Or <;> walk_at "fe") | (apply f_Not <;> walk_at "fe")
  | (apply f_AndV <;> walk_at "fe") | (apply f_OrV <;> walk_at "fe") | (apply f_NotV <;> walk_at "fe")
  | (apply f_If <;> walk_at "fe") | (apply f_Chain <;> walk_at "fe") | (apply f_Look <;> walk_at "fe") | (apply f_LookL <;> walk_at "fe") | (apply f_Rev <;> walk_at "fe")
  | (apply f_ISeq <;> walk_at "fe") | (apply f_IEn <;> walk_at "fe") | (apply f_IZ <;> walk_at "fe") | (apply f_IR1 <;> walk_at "fe") | (apply f_IR2 <;> walk_at "fe") | exact f_IKeys | exact f_IVals | exact f_IItems
  | (apply f_gTup <;> walk_at "fe") | (apply f_gCons <;> walk_at "fe") | (apply f_Lc <;> walk_at "fe")
  | (apply f_Disp <;> walk_at "fe") | (apply f_pCons <;> walk_at "fe")
  | (apply f_Seq <;> walk_at "fe") | (apply f_IfS <;> walk_at "fe") | (apply f_Ret <;> walk_at "fe") | exact f_Next | (apply f_Set <;> walk_at "fe") | (apply f_Par <;> walk_at "fe") | (apply f_Asg <;> walk_at "fe") | (apply f_Drop <;> walk_at "fe") | (apply f_Append <;> walk_at "fe") | (apply f_For <;> walk_at "fe"))
local macro_rules | `(tactic| walk_at "len") => `(tactic| first | (simp only [List.length_cons, List.length_nil]; decide) | assumption)
local macro_rules | `(tactic| walk_at "ev") => `(tactic| first
  | with_reducible assumption
  | ((with_reducible apply o2) <;> walk_at "ev") | ((with_reducible apply o1) <;> walk_at "ev") | ((with_reducible apply vCons_of) <;> walk_at "ev") | ((with_reducible apply o_cl) <;> walk_at "ev") | ((with_reducible apply o_call) <;> walk_at "ev")
  | ((with_reducible apply vTest_of) <;> walk_at "ev") | ((with_reducible apply o_tup) <;> first | walk_at "len" | walk_at "ev") | ((with_reducible apply o_lst) <;> first | walk_at "len" | walk_at "ev")
  | ((with_reducible apply vNot_t) <;> walk_at "ev") | ((with_reducible apply vNot_f) <;> walk_at "ev") | ((with_reducible apply vNot_of) <;> walk_at "ev") | ((with_reducible apply vIsi_of) <;> walk_at "ev") | ((with_reducible apply vNotV_of) <;> walk_at "ev") | ((with_reducible apply o_sl) <;> walk_at "ev") | ((with_reducible apply o_part) <;> walk_at "ev")
  | rfl)
local macro_rules | `(tactic| walk_at "we") => `(tactic| (apply w_exp; (case h => walk_at "fe"); (case e => walk_at "ev")))
local macro_rules | `(tactic| walk_at "wa") => `(tactic| (apply w_args; (case h => walk_at "fe"); (case e => walk_at "ev")))
local macro_rules | `(tactic| walk_at "wt") => `(tactic| (apply w_tst; (case h => walk_at "fe"); (case e => walk_at "ev")))
local macro_rules | `(tactic| walk_at "wi") => `(tactic| (apply w_it; (case h => walk_at "fe"); (case e => walk_at "ev")))
local macro_rules | `(tactic| walk_at "qs") => `(tactic| (apply q_set; (case h => walk_at "fe"); (case e => walk_at "ev")))
local macro_rules | `(tactic| walk_at "qn") => `(tactic| (apply q_no; (case h => walk_at "fe"); (case e => walk_at "ev")))
local macro_rules | `(tactic| walk_at "wr") => `(tactic| (apply w_ret; (case h => walk_at "fe"); (case e => walk_at "ev")))
local macro_rules | `(tactic| walk_at "sp") => `(tactic| (apply s_callP; (apply w_args; (case h => walk_at "fe"); (case e => walk_at "ev"))))
end RC
end
section
namespace RC
open PySem PySem.Spec L2 RR
open PyProof.Rows hiding St cutD
local macro_rules | `(tactic| walk_at "fp") => `(tactic| with_reducible first | exact fp__law_w_shifted | exact fp_is_book | exact fp_run_book | exact fp_opens | exact fp_twin | exact fp_has_door)
local macro_rules | `(tactic| walk_at "fe") => `(tactic| with_reducible first
  | exact f_Var | exact f_C | exact f_Nil | exact f_Dict0 | exact f_NoPart | exact f_Yes | exact f_gName | exact f_gNil | exact f_pNil
  | (apply f_Cl <;> walk_at "fe") | (apply f_Op <;> walk_at "fe") | (apply f_Un <;> walk_at "fe") | (apply f_Cons <;> walk_at "fe")
  | (apply f_Test <;> walk_at "fe") | (apply f_Tru <;> walk_at "fe")
  | (apply f_Call (by walk_at "fp") <;> walk_at "fe") | (apply f_CallK (by walk_at "fp") <;> walk_at "fe")
  | (apply f_Tup <;> walk_at "fe") | (apply f_Lst <;> walk_at "fe") | (apply f_Isi <;> walk_at "fe") | (apply f_Isi2 <;> walk_at "fe")
  | (apply f_Sl <;> walk_at "fe") | (apply f_Part <;> walk_at "fe")
  | (apply f_And <;> walk_at "fe") | (apply f_Or <;> walk_at "fe") | (apply f_Not <;> walk_at "fe")
  | (apply f_AndV <;> walk_at "fe") | (apply f_OrV <;> walk_at "fe") | (apply f_NotV <;> walk_at "fe")
  | (apply f_If <;> walk_at "fe") | (apply f_Chain <;> walk_at "fe") | (apply f_Look <;> walk_at "fe") | (apply f_LookL <;> walk_at "fe") | (apply f_Rev <;> walk_at "fe")
  | (apply f_ISeq <;> walk_at "fe") | (apply f_IEn <;> walk_at "fe") | (apply f_IZ <;> walk_at "fe") | (apply f_IR1 <;> walk_at "fe") | (apply f_IR2 <;> walk_at "fe") | exact f_IKeys | exact f_IVals | exact f_IItems
  | (apply f_gTup <;> walk_at "fe") | (apply f_gCons <;> walk_at "fe") | (apply f_Lc <;> walk_at "fe")
  | (apply f_Disp <;> walk_at "fe") | (apply f_pCons <;> walk_at "fe")
  | (apply f_Seq <;> walk_at "fe") | (apply f_IfS <;> walk_at "fe") | (apply f_Ret <;> walk_at "fe") | exact f_Next | (apply f_Set <;> walk_at "fe") | (apply f_Par <;> walk_at "fe") | (apply f_Asg <;> walk_at "fe") | (apply f_Drop <;> walk_at "fe") | (apply f_Append <;> walk_at "fe") | (apply f_For <;> walk_at "fe"))
local macro_rules | `(tactic| walk_at "len") => `(tactic| first | (simp only [List.length_cons, List.length_nil]; decide) | assumption)
local macro_rules | `(tactic| walk_at "ev") => `(tactic| first
  | with_reducible assumption
  | ((with_reducible apply o2) <;> walk_at "ev") | ((with_reducible apply o1) <;> walk_at "ev") | ((with_reducible apply vCons_of) <;> walk_at "ev") | ((with_reducible apply o_cl) <;> walk_at "ev") | ((with_reducible apply o_call) <;> walk_at "ev")
  | ((with_reducible apply vTest_of) <;> walk_at "ev") | ((with_reducible apply o_tup) <;> first | walk_at "len" | walk_at "ev") | ((with_reducible apply o_lst) <;> first | walk_at "len" | walk_at "ev")
  | ((with_reducible apply vNot_t) <;> walk_at "ev") | ((with_reducible apply vNot_f) <;> walk_at "ev") | ((with_reducible apply vNot_of) <;> walk_at "ev") | ((with_reducible apply vIsi_of) <;> walk_at "ev") | ((with_reducible apply vNotV_of) <;> walk_at "ev") | ((with_reducible apply o_sl) <;> walk_at "ev") | ((with_reducible apply o_part) <;> walk_at "ev")
  | rfl)
local macro_rules | `(tactic| walk_at "we") => `(tactic| (apply w_exp; (case h => walk_at "fe"); (case e => walk_at "ev")))
local macro_rules | `(tactic| walk_at "wa") => `(tactic| (apply w_args; (case h => walk_at "fe"); (case e => walk_at "ev")))
local macro_rules | `(tactic| walk_at "wt") => `(tactic| (apply w_tst; (case h => walk_at "fe"); (case e => walk_at "ev")))
local macro_rules | `(tactic| walk_at "wi") => `(tactic| (apply w_it; (case h => walk_at "fe"); (case e => walk_at "ev")))
local macro_rules | `(tactic| walk_at "qs") => `(tactic| (apply q_set; (case h => walk_at "fe"); (case e => walk_at "ev")))
local macro_rules | `(tactic| walk_at "qn") => `(tactic| (apply q_no; (case h => walk_at "fe"); (case e => walk_at "ev")))
local macro_rules | `(tactic| walk_at "wr") => `(tactic| (apply w_ret; (case h => walk_at "fe"); (case e => walk_at "ev")))
local macro_rules | `(tactic| walk_at "sp") => `(tactic| (apply s_callP; (apply w_args; (case h => walk_at "fe"); (case e => walk_at "ev"))))
theorem w_book4 {n : Nat} {R : D → Nat → Prop} (hn : n < 700000) (q : ∀ b n', FineBook b 4 → n' ≤ n + 400 → R (bd b) n') : m__law_w_book [.int 4, .int 3] n R := w_book_ok (most := 4) (L := 3) (by decide) (by decide) (by decide) hn q
end RC
end
section
namespace RC
open PySem PySem.Spec L2 RR
open PyProof.Rows hiding St cutD
local macro_rules | `(tactic| walk_at "fp") => `(tactic| with_reducible first | exact fp_growth | exact fp_is_part | exact fp_twin_of | exact fp_with_part | exact fp_opens | exact fp_is_book | exact fp_is_part_number | exact fp_is_within)
local macro_rules | `(tactic| walk_at "fe") => `(tactic| with_reducible first
  | exact f_Var | exact f_C | exact f_Nil | exact f_Dict0 | exact f_NoPart | exact f_Yes | exact f_gName | exact f_gNil | exact f_pNil
  | (apply f_Cl <;> walk_at "fe") | (apply f_Op <;> walk_at "fe") | (apply f_Un <;> walk_at "fe") | (apply f_Cons <;> walk_at "fe")
  | (apply f_Test <;> walk_at "fe") | (apply f_Tru <;> walk_at "fe")
  | (apply f_Call (by walk_at "fp") <;> walk_at "fe") | (apply f_CallK (by walk_at "fp") <;> walk_at "fe")
  | (apply f_Tup <;> walk_at "fe") | (apply f_Lst <;> walk_at "fe") | (apply f_Isi <;> walk_at "fe") | (apply f_Isi2 <;> walk_at "fe")
  | (apply f_Sl <;> walk_at "fe") | (apply f_Part <;> walk_at "fe")
  | (apply f_And <;> walk_at "fe") | (apply f_Or <;> walk_at "fe") | (apply f_Not <;> walk_at "fe")
  | (apply f_AndV <;> walk_at "fe") | (apply f_OrV <;> walk_at "fe") | (apply f_NotV <;> walk_at "fe")
  | (apply f_If <;> walk_at "fe") | (apply f_Chain <;> walk_at "fe") | (apply f_Look <;> walk_at "fe") | (apply f_LookL <;> walk_at "fe") | (apply f_Rev <;> walk_at "fe")
  | (apply f_ISeq <;> walk_at "fe") | (apply f_IEn <;> walk_at "fe") | (apply f_IZ <;> walk_at "fe") | (apply f_IR1 <;> walk_at "fe") | (apply f_IR2 <;> walk_at "fe") | exact f_IKeys | exact f_IVals | exact f_IItems
  | (apply f_gTup <;> walk_at "fe") | (apply f_gCons <;> walk_at "fe") | (apply f_Lc <;> walk_at "fe")
  | (apply f_Disp <;> walk_at "fe") | (apply f_pCons <;> walk_at "fe")
  | (apply f_Seq <;> walk_at "fe") | (apply f_IfS <;> walk_at "fe") | (apply f_Ret <;> walk_at "fe") | exact f_Next | (apply f_Set <;> walk_at "fe") | (apply f_Par <;> walk_at "fe") | (apply f_Asg <;> walk_at "fe") | (apply f_Drop <;> walk_at "fe") | (apply f_Append <;> walk_at "fe") | (apply f_For <;> walk_at "fe"))
local macro_rules | `(tactic| walk_at "len") => `(tactic| first | (simp only [List.length_cons, List.length_nil]; decide) | assumption)
local macro_rules | `(tactic| walk_at "ev") => `(tactic| first
  | with_reducible assumption
  | ((with_reducible apply o2) <;> walk_at "ev") | ((with_reducible apply o1) <;> walk_at "ev") | ((with_reducible apply vCons_of) <;> walk_at "ev") | ((with_reducible apply o_cl) <;> walk_at "ev") | ((with_reducible apply o_call) <;> walk_at "ev")
  | ((with_reducible apply vTest_of) <;> walk_at "ev") | ((with_reducible apply o_tup) <;> first | walk_at "len" | walk_at "ev") | ((with_reducible apply o_lst) <;> first | walk_at "len" | walk_at "ev")
  | ((with_reducible apply vNot_t) <;> walk_at "ev") | ((with_reducible apply vNot_f) <;> walk_at "ev") | ((with_reducible apply vNot_of) <;> walk_at "ev") | ((with_reducible apply vIsi_of) <;> walk_at "ev") | ((with_reducible apply vNotV_of) <;> walk_at "ev") | ((with_reducible apply o_sl) <;> walk_at "ev") | ((with_reducible apply o_part) <;> walk_at "ev")
  | rfl)
local macro_rules | `(tactic| walk_at "we") => `(tactic| (apply w_exp; (case h => walk_at "fe"); (case e => walk_at "ev")))
local macro_rules | `(tactic| walk_at "wa") => `(tactic| (apply w_args; (case h => walk_at "fe"); (case e => walk_at "ev")))
local macro_rules | `(tactic| walk_at "wt") => `(tactic| (apply w_tst; (case h => walk_at "fe"); (case e => walk_at "ev")))
local macro_rules | `(tactic| walk_at "wi") => `(tactic| (apply w_it; (case h => walk_at "fe"); (case e => walk_at "ev")))
local macro_rules | `(tactic| walk_at "qs") => `(tactic| (apply q_set; (case h => walk_at "fe"); (case e => walk_at "ev")))
local macro_rules | `(tactic| walk_at "qn") => `(tactic| (apply q_no; (case h => walk_at "fe"); (case e => walk_at "ev")))
local macro_rules | `(tactic| walk_at "wr") => `(tactic| (apply w_ret; (case h => walk_at "fe"); (case e => walk_at "ev")))
local macro_rules | `(tactic| walk_at "sp") => `(tactic| (apply s_callP; (apply w_args; (case h => walk_at "fe"); (case e => walk_at "ev"))))
theorem bd_len (b : Book) : cLen [bd b] = some (.int (b.length : Int)) := by unfold bd; exact (congrArg (fun k : Nat => some (PyData.int (k : Int))) (List.length_map (as := b) pd))
theorem v_number_eq (b : Book) (z : D) : v_is_part_number [bd b, z] = some (.bool (withinD z 0 ((b.length : Int) - 1))) := by
  have c := bd_len b
  have w := v_is_within_eq z 0 ((b.length : Int) - 1)
  have s : dSub (.int (b.length : Int)) (.int 1) = some (.int ((b.length : Int) - 1)) := rfl
  refine vFun_of rfl (vRet_of ?_)
  walk_at "ev"
end RC
end
section
namespace RC
open PySem PySem.Spec L2 RR
open PyProof.Rows hiding St cutD
def edD (e : Nat × Part) : D := .tuple [natD e.1, pd e.2]
def edsD (es : List (Nat × Part)) : D := .list (es.map edD)
structure EdOk (b : Book) (e : Nat × Part) : Prop where
  lt : e.1 < b.length
  ok : partOk e.2 = true
  far : ∀ r ∈ e.2, r.isFar = true → r.num < (b.length : Int)
open Classical in
noncomputable def lsz (m : Mach) (p : Part) : Int := if h : ∃ z, laidSize p m z then Classical.choose h else 0
theorem lsz_ok {m : Mach} {p : Part} (ok : partOk p = true) (mk : machOk m = true) : laidSize p m (lsz m p) := by
  unfold lsz
  rw [dif_pos (laidSize66 ok mk)]
  exact Classical.choose_spec (laidSize66 ok mk)
noncomputable def moreN (m : Mach) (b : Book) (e : Nat × Part) : Int := lsz m e.2 - lsz m (b.getD e.1 [])
noncomputable def stepR (m : Mach) (b : Book) (st : List Int × List D) (q : (Nat × Part) × Nat) : List Int × List D := if atN st.1 q.1.1 < moreN m b q.1 then (st.1.set q.1.1 (moreN m b q.1), st.2.set q.1.1 (natD q.2)) else st
theorem ixN_nat66 {i n : Nat} (h : i < n) : ixN n (i : Int) = some i := by
  unfold ixN
  simp
  omega
theorem book_at66 {b : Book} {i : Nat} (h : i < b.length) : dIx (bd b) (natD i) = some (pd (b.getD i [])) := by
  have : b[i]? = some (b.getD i []) := by rw [List.getD_eq_getElem?_getD, List.getElem?_eq_getElem h]; rfl
  exact ixB' this
theorem book_mem66 {b : Book} {i : Nat} (h : i < b.length) : b.getD i [] ∈ b := by
  rw [List.getD_eq_getElem?_getD, List.getElem?_eq_getElem h]
  exact List.getElem_mem h
def krE (b : Book) (m : Mach) (es : List (Nat × Part)) (szs : List Int) (st : List Int × List D) (x6 x7 x8 x9 : Option D) : DEnv := [some (bd b), some (md m), some (edsD es), some (.list (szs.map .int)), some (.list (st.1.map .int)), some (.list st.2), x6, x7, x8, x9]
abbrev krB : VS := (vSeqS (vSet 9 (vOp dSub (vCall v_laid_size (vCons (vVar 8) (vCons (vVar 1) vNil))) (vOp dIx (vVar 3) (vVar 7)))) (vIfS (vTest (vOp dGt (vVar 9) (vOp dIx (vVar 4) (vVar 7)))) (vSeqS (vPutI 4 (vVar 7) (vVar 9)) (vPutI 5 (vVar 7) (vVar 6))) vNext))
theorem putI_of66 {i : Nat} {ek ev : VE} {Γ : DEnv} {d : D} {ds : List D} {k : Nat} (hv : ev Γ = some d) (hl : vVar i Γ = some (.list ds)) (hk : ek Γ = some (natD k)) (h : k < ds.length) : vPutI i ek ev Γ = some (.nx (Γ.set i (some (.list (ds.set k d))))) := by
  unfold vPutI
  rw [hv, Option.bind_some, show RR.listAt i Γ = some ds from by
    unfold vVar at hl
    unfold RR.listAt
    cases e : Γ[i]? with
    | none => rw [e] at hl; cases hl
    | some x =>
      rw [e] at hl
      cases x with
      | none => cases hl
      | some y => cases hl; rfl, Option.bind_some, hk, Option.bind_some]
  show ((ixN ds.length (k : Int)).bind fun j => _) = _
  rw [ixN_nat66 h]; rfl
theorem kr_loop {b : Book} {m : Mach} {es0 : List (Nat × Part)} (bok : ∀ p ∈ b, partOk p = true) (mk : machOk m = true) : ∀ (es : List (Nat × Part)) (k : Nat) (st : List Int × List D) (x6 x7 x8 x9 : Option D), (∀ e ∈ es, EdOk b e) → st.1.length = b.length → st.2.length = b.length →
    ∃ y6 y7 y8 y9, vfor (vgTup 2 (vgCons (vgName 6) (vgCons (vgTup 2 (vgCons (vgName 7) (vgCons (vgName 8) vgNil))) vgNil))) krB ((es.zipIdx k).map fun q => .tuple [.int (q.2 : Int), edD q.1]) (krE b m es0 (b.map (lsz m)) st x6 x7 x8 x9) = some (.nx (krE b m es0 (b.map (lsz m)) ((es.zipIdx k).foldl (stepR m b) st) y6 y7 y8 y9))
  | [], k, st, x6, x7, x8, x9, _, _, _ => ⟨x6, x7, x8, x9, rfl⟩
  | e :: es, k, st, x6, x7, x8, x9, he, h1, h2 => by
    have eo := he e (List.mem_cons_self ..)
    obtain ⟨z1, _, _, _⟩ := lsz_ok (m := m) eo.ok mk
    have hs : (stepR m b st (e, k)).1.length = b.length ∧ (stepR m b st (e, k)).2.length = b.length := by
      unfold stepR
      split
      · exact ⟨by rw [List.length_set]; exact h1, by rw [List.length_set]; exact h2⟩
      · exact ⟨h1, h2⟩
    obtain ⟨y6, y7, y8, y9, ih⟩ := kr_loop (es0 := es0) bok mk es (k + 1) (stepR m b st (e, k)) (some (natD k)) (some (natD e.1)) (some (pd e.2)) (some (.int (moreN m b e))) (fun x h => he x (List.mem_cons_of_mem _ h)) hs.1 hs.2
    refine ⟨y6, y7, y8, y9, ?_⟩
    rw [List.zipIdx_cons, List.map_cons]
    unfold vfor
    have e1 : vgTup 2 (vgCons (vgName 6) (vgCons (vgTup 2 (vgCons (vgName 7) (vgCons (vgName 8) vgNil))) vgNil)) (.tuple [.int ((e, k).2 : Int), edD (e, k).1]) (krE b m es0 (b.map (lsz m)) st x6 x7 x8 x9) = some (krE b m es0 (b.map (lsz m)) st (some (natD k)) (some (natD e.1)) (some (pd e.2)) x9) := rfl
    have esz : dIx (.list ((b.map (lsz m)).map .int)) (natD e.1) = some (.int (lsz m (b.getD e.1 []))) := by
      rw [ix_ints (by rw [List.length_map]; exact eo.lt)]
      unfold atN
      rw [List.getD_eq_getElem?_getD, List.getElem?_map, List.getD_eq_getElem?_getD, List.getElem?_eq_getElem eo.lt]; rfl
    have e2 : vSet 9 (vOp dSub (vCall v_laid_size (vCons (vVar 8) (vCons (vVar 1) vNil))) (vOp dIx (vVar 3) (vVar 7))) (krE b m es0 (b.map (lsz m)) st (some (natD k)) (some (natD e.1)) (some (pd e.2)) x9) = some (.nx (krE b m es0 (b.map (lsz m)) st (some (natD k)) (some (natD e.1)) (some (pd e.2)) (some (.int (moreN m b e))))) :=
      vSet_of ((vOp_of (Eq.trans rfl z1) ((vOp_of rfl rfl).trans esz)).trans rfl)
    have et : vTest (vOp dGt (vVar 9) (vOp dIx (vVar 4) (vVar 7))) (krE b m es0 (b.map (lsz m)) st (some (natD k)) (some (natD e.1)) (some (pd e.2)) (some (.int (moreN m b e)))) = some (decide (atN st.1 e.1 < moreN m b e)) :=
      vTest_of ((vOp_of rfl ((vOp_of rfl rfl).trans (ix_ints (by rw [h1]; exact eo.lt)))).trans rfl)
    have e3 : krB (krE b m es0 (b.map (lsz m)) st (some (natD k)) (some (natD e.1)) (some (pd e.2)) x9) = some (.nx (krE b m es0 (b.map (lsz m)) (stepR m b st (e, k)) (some (natD k)) (some (natD e.1)) (some (pd e.2)) (some (.int (moreN m b e))))) := by
      refine vSeq_nx e2 ?_
      unfold stepR
      by_cases hb : atN st.1 e.1 < moreN m b e
      · rw [if_pos hb]
        rw [decide_eq_true hb] at et
        refine vIfS_t et (vSeq_nx (putI_of66 (d := .int (moreN m b e)) (ds := st.1.map .int) (k := e.1) rfl rfl rfl (by rw [List.length_map, h1]; exact eo.lt)) ((putI_of66 (d := natD k) (ds := st.2) (k := e.1) rfl rfl rfl (by rw [h2]; exact eo.lt)).trans ?_))
        unfold krE
        rw [show (st.1.map PyData.int).set e.1 (.int (moreN m b e)) = (st.1.set e.1 (moreN m b e)).map PyData.int from List.map_set.symm]
        rfl
      · rw [if_neg hb]
        rw [decide_eq_false hb] at et
        exact vIfS_f et rfl
    rw [e1, Option.bind_some, e3, Option.bind_some, List.foldl_cons]
    exact ih
/-- what reserve tells -/
noncomputable def resR (m : Mach) (b : Book) (es : List (Nat × Part)) : List Int × List D := es.zipIdx.foldl (stepR m b) (List.replicate b.length 0, List.replicate b.length .none)
noncomputable def resD (m : Mach) (b : Book) (es : List (Nat × Part)) : D := .tuple [.list ((resR m b es).1.map .int), .list (resR m b es).2]
theorem rep_int66 (n : Nat) : (List.replicate n [PyData.int 0]).flatten = (List.replicate n (0 : Int)).map .int := by
  induction n with
  | zero => rfl
  | succ n ih => rw [List.replicate_succ, List.flatten_cons, ih, List.replicate_succ, List.map_cons]; rfl
theorem rep_non66 (n : Nat) : (List.replicate n [PyData.none]).flatten = List.replicate n PyData.none := by
  induction n with
  | zero => rfl
  | succ n ih => rw [List.replicate_succ, List.flatten_cons, ih, List.replicate_succ]; rfl
theorem mulL66 {d : D} {n : Nat} (h : n ≤ 1000) : dMulL (.list [d]) (.int (n : Int)) = some (.list (List.replicate n [d]).flatten) := by
  refine if_pos ⟨?_, by omega, by omega⟩
  rw [List.length_singleton, Nat.one_mul, Int.toNat_natCast]
  exact Nat.le_trans h (by decide)
theorem v_kept_room_eq {b : Book} {m : Mach} {es : List (Nat × Part)} (bok : ∀ p ∈ b, partOk p = true) (mk : machOk m = true) (hb : b.length ≤ 5) (he : ∀ e ∈ es, EdOk b e) : v_kept_room [bd b, md m, edsD es] = some (resD m b es) := by
  obtain ⟨y6, y7, y8, y9, el⟩ := kr_loop (es0 := es) bok mk es 0 (List.replicate b.length 0, List.replicate b.length .none) none none none none he (by rw [List.length_replicate]) (by rw [List.length_replicate])
  have esz : v_sizes_of [bd b, md m] = some (.list ((b.map (lsz m)).map .int)) := by
    refine vFun_of rfl (vRet_of ?_)
    refine (vLc_of (ds := b.map pd) rfl (by rw [List.length_map]; exact Nat.le_trans hb (by decide)) (vcomp_mapOf pd (fun p => .int (lsz m p)) fun p hp => ⟨_, rfl, rfl, Eq.trans rfl (lsz_ok (m := m) (bok p hp) mk).1⟩)).trans ?_
    rw [List.map_map]; rfl
  have elen : cLen [bd b] = some (.int (b.length : Int)) := by
    show some (PyData.int ((b.map pd).length : Int)) = _
    rw [List.length_map]
  refine vFun_of rfl ?_
  refine vSeq_nx (Γ1 := [some (bd b), some (md m), some (edsD es), some (.list ((b.map (lsz m)).map .int)), none, none, none, none, none, none]) (vSet_of (Eq.trans rfl esz)) ?_
  refine vSeq_nx (Γ1 := [some (bd b), some (md m), some (edsD es), some (.list ((b.map (lsz m)).map .int)), some (.list ((List.replicate b.length (0 : Int)).map .int)), none, none, none, none, none]) (vSet_of ?_) ?_
  · rw [← rep_int66]
    exact (vOp_of (x := .list [.int 0]) rfl ((vCl_of (vCons_of rfl rfl)).trans elen)).trans (mulL66 (by omega))
  refine vSeq_nx (Γ1 := krE b m es (b.map (lsz m)) (List.replicate b.length 0, List.replicate b.length .none) none none none none) (vSet_of ?_) ?_
  · rw [← rep_non66]
    exact (vOp_of (x := .list [.none]) rfl ((vCl_of (vCons_of rfl rfl)).trans elen)).trans (mulL66 (by omega))
  refine vSeq_nx (Eq.trans ?_ el) (vRet_of (vTup_of (vCons_of rfl (vCons_of rfl rfl)) (by show 2 ≤ lim; decide)))
  unfold vFor
  rw [show vIEn (vCons (vVar 2) vNil) (krE b m es (b.map (lsz m)) (List.replicate b.length 0, List.replicate b.length .none) none none none none) = some ((es.zipIdx).map fun q => .tuple [.int (q.2 : Int), edD q.1]) from (congrArg some (enumD_map edD es 0))]
  rfl
theorem v_reserve_eq {b : Book} {m : Mach} {es : List (Nat × Part)} (b1 : 1 ≤ b.length) (b5 : b.length ≤ 5) (bok : ∀ p ∈ b, partOk p = true ∧ ∀ r ∈ p, r.isFar = true → r.num < (b.length : Int)) (mk : machOk m = true) (he : ∀ e ∈ es, EdOk b e) (hl : es.length ≤ 6) : v_reserve [bd b, md m, edsD es] = some (resD m b es) := by
  have cb := v_check_book_ok (book_ok b1 b5 rfl bok)
  have ie : ∀ e ∈ es, v_is_edit [bd b, edD e] = some (.bool true) := fun e h => by
    have eo := he e h
    have pn : v_is_part_number [bd b, natD e.1] = some (.bool true) := by
      rw [v_number_eq]
      have : withinD (natD e.1) 0 ((b.length : Int) - 1) = true := within_t (by omega) (by have := eo.lt; omega)
      rw [this]
    have bo : bookOk (b.set e.1 e.2) = true := book_ok b1 b5 (by rw [List.length_set]) fun p hp => by
      rcases List.mem_or_eq_of_mem_set hp with hp | rfl
      · exact bok p hp
      · exact ⟨eo.ok, eo.far⟩
    have wp := with_part_eq (q := e.2) eo.lt (by omega)
    have ib : v_is_book [bd (b.set e.1 e.2)] = some (.bool true) := by rw [v_is_book_eq, bookOf_d bo]; rfl
    refine vFun_of rfl (vSeq_nx (vIfS_f (vOr_of (x := false) (y := false) rfl fun _ => vOr_of (x := false) (y := false) rfl fun _ => vNot_f (vTest_of ?_)) rfl) (vRet_of ?_))
    · exact (vCall_of (vCons_of rfl (vCons_of ((vOp_of rfl rfl).trans (ix0_31 _ _)) rfl))).trans pn
    · exact (vCall_of (vCons_of ((vCall_of (vCons_of rfl (vCons_of ((vOp_of rfl rfl).trans (ix0_31 _ _)) (vCons_of ((vOp_of rfl rfl).trans (atI_nat (j := 1) rfl)) rfl)))).trans wp) rfl)).trans ib
  have ce : v_check_edits [bd b, edsD es] = some .none := by
    refine vFun_nx (Γ := [some (bd b), some (edsD es), none]) rfl ?_
    refine vSeq_nx (vIfS_f (vOr_of (x := false) (y := false) rfl fun _ => ?_) rfl) (vIfS_f (vNot_f (vTest_of ?_)) rfl)
    · refine vTest_of ((vOp_of (x := .int (es.length : Int)) (y := .int 6) ?_ rfl).trans ?_)
      · refine (vCl_of (vCons_of rfl rfl)).trans ?_
        show some (PyData.int ((es.map edD).length : Int)) = _
        rw [List.length_map]
      · show some (PyData.bool (decide ((6 : Int) < (es.length : Int)))) = _
        rw [decide_eq_false (by omega)]
    · have ea : (es.all fun _ => true) = true := by simp
      rw [← ea]
      exact (vCl_of (vCons_of (vLc_of (ds := es.map edD) rfl (by rw [List.length_map]; exact Nat.le_trans hl (by decide)) (vcomp_mapOf edD (fun _ => .bool true) fun e h => ⟨_, rfl, rfl, Eq.trans rfl (ie e h)⟩)) rfl)).trans (cAll_map _ _)
  refine vFun_of rfl ?_
  exact vSeq_nx (vDrop_of (Eq.trans rfl cb)) (vSeq_nx (vDrop_of (Eq.trans rfl (v_check_machine_ok mk))) (vSeq_nx (vDrop_of (Eq.trans rfl ce)) (vRet_of (Eq.trans rfl (v_kept_room_eq (fun p h => (bok p h).1) mk b5 he)))))
end RC
end
section
namespace RC
open PySem PySem.Spec L2 RR
open PyProof.Rows hiding St cutD
structure Inv66 (b : Book) (st : List Int × List D) : Prop where
  l1 : st.1.length = b.length
  l2 : st.2.length = b.length
  r1 : ∀ x ∈ st.1, 0 ≤ x ∧ x ≤ 1980
  r2 : ∀ d ∈ st.2, d = .none ∨ ∃ k : Nat, k < 40 ∧ d = natD k
theorem Inv66.step {b : Book} {m : Mach} {st : List Int × List D} {e : Nat × Part} {k : Nat} (bok : ∀ p ∈ b, partOk p = true) (mk : machOk m = true) (I : Inv66 b st) (eo : EdOk b e) (hk : k < 40) : Inv66 b (stepR m b st (e, k)) := by
  unfold stepR
  split
  · rename_i h
    obtain ⟨_, _, z1, z2⟩ := lsz_ok (m := m) eo.ok mk
    obtain ⟨_, _, z3, z4⟩ := lsz_ok (m := m) (bok _ (book_mem66 eo.lt)) mk
    have hm : atN st.1 e.1 ∈ st.1 := by
      unfold atN
      rw [List.getD_eq_getElem?_getD, List.getElem?_eq_getElem (by rw [I.l1]; exact eo.lt)]
      exact List.getElem_mem _
    have := I.r1 _ hm
    have hlt : atN st.1 e.1 < moreN m b e := h
    have hle : moreN m b e ≤ 1980 := by unfold moreN; omega
    refine ⟨by rw [List.length_set]; exact I.l1, by rw [List.length_set]; exact I.l2, fun x hx => ?_, fun d hd => ?_⟩
    · rcases List.mem_or_eq_of_mem_set hx with hx | rfl
      · exact I.r1 x hx
      · show 0 ≤ moreN m b e ∧ moreN m b e ≤ 1980
        omega
    · rcases List.mem_or_eq_of_mem_set hd with hd | rfl
      · exact I.r2 d hd
      · exact .inr ⟨k, hk, rfl⟩
  · exact I
theorem Inv66.fold {b : Book} {m : Mach} (bok : ∀ p ∈ b, partOk p = true) (mk : machOk m = true) : ∀ (es : List (Nat × Part)) (k : Nat) (st : List Int × List D), Inv66 b st → (∀ e ∈ es, EdOk b e) → k + es.length ≤ 40 → Inv66 b ((es.zipIdx k).foldl (stepR m b) st)
  | [], k, st, I, _, _ => I
  | e :: es, k, st, I, he, hk => by
    rw [List.length_cons] at hk
    rw [List.zipIdx_cons, List.foldl_cons]
    exact Inv66.fold bok mk es (k + 1) _ (I.step bok mk (he e (List.mem_cons_self ..)) (by omega)) (fun x h => he x (List.mem_cons_of_mem _ h)) (by omega)
theorem Inv66.start (b : Book) : Inv66 b (List.replicate b.length 0, List.replicate b.length .none) :=
  ⟨by rw [List.length_replicate], by rw [List.length_replicate], fun x hx => by rw [(List.mem_replicate.mp hx).2]; decide, fun d hd => .inl (List.mem_replicate.mp hd).2⟩
theorem inv66 {b : Book} {m : Mach} {es : List (Nat × Part)} (bok : ∀ p ∈ b, partOk p = true) (mk : machOk m = true) (he : ∀ e ∈ es, EdOk b e) (hl : es.length ≤ 6) : Inv66 b (resR m b es) := Inv66.fold bok mk es 0 _ (Inv66.start b) he (by omega)
def dwE (b : Book) (m : Mach) (es : List (Nat × Part)) (st : List Int × List D) (x5 x6 x7 x8 : Option D) : DEnv := [some (bd b), some (md m), some (edsD es), some (.list (st.1.map .int)), some (.list st.2), x5, x6, x7, x8]
theorem due66 {b : Book} {m : Mach} {es : List (Nat × Part)} (bok : ∀ p ∈ b, partOk p = true) (mk : machOk m = true) (hb : b.length ≤ 5) (he : ∀ e ∈ es, EdOk b e) (hl : es.length ≤ 6) {R : D → Prop} (kR : R (resD m b es)) : m__law_w_due [bd b, md m, edsD es] R := by
  unfold m__law_w_due b__law_w_due
  refine ⟨rfl, ?_⟩
  have elen : cLen [bd b] = some (.int (b.length : Int)) := by
    show some (PyData.int ((b.map pd).length : Int)) = _
    rw [List.length_map]
  have e0 : vCons (vOp dMulL (vLst (vCons (vC (.int 0)) vNil)) (vCl cLen (vCons (vVar 0) vNil))) (vCons (vOp dMulL (vLst (vCons (vC .none) vNil)) (vCl cLen (vCons (vVar 0) vNil))) vNil) [some (bd b), some (md m), some (edsD es), none, none, none, none, none, none] = some [.list ((List.replicate b.length (0 : Int)).map .int), .list (List.replicate b.length .none)] := by
    rw [← rep_int66, ← rep_non66]
    exact vCons_of ((vOp_of (x := .list [.int 0]) rfl ((vCl_of (vCons_of rfl rfl)).trans elen)).trans (mulL66 (by omega))) (vCons_of ((vOp_of (x := .list [.none]) rfl ((vCl_of (vCons_of rfl rfl)).trans elen)).trans (mulL66 (by omega))) rfl)
  refine q_par (w_args (f_Cons (f_Op (f_Lst (f_Cons f_C f_Nil)) (f_Cl (f_Cons f_Var f_Nil))) (f_Cons (f_Op (f_Lst (f_Cons f_C f_Nil)) (f_Cl (f_Cons f_Var f_Nil))) f_Nil)) e0 ⟨rfl, ?_⟩)
  refine q_for (w_it (ds := (es.zipIdx).map fun q => .tuple [.int (q.2 : Int), edD q.1]) (f_IEn (f_Cons f_Var f_Nil)) (congrArg some (enumD_map edD es 0)) ?_)
  refine w_for (fun ds Γ n' => ∃ (rest : List (Nat × Part)) (k : Nat) (st : List Int × List D) (x5 x6 x7 x8 : Option D), Γ = dwE b m es st x5 x6 x7 x8 ∧ ds = (rest.zipIdx k).map (fun q => .tuple [.int (q.2 : Int), edD q.1]) ∧ (∀ e ∈ rest, EdOk b e) ∧ Inv66 b st ∧ k + rest.length ≤ 40 ∧ (rest.zipIdx k).foldl (stepR m b) st = resR m b es) (fun d ds Γ n h K hK => ?_) (fun Γ n h => ?_) _ _ _ ⟨es, 0, (List.replicate b.length 0, List.replicate b.length .none), none, none, none, none, rfl, rfl, he, Inv66.start b, by omega, rfl⟩
  · obtain ⟨rest, k, st, x5, x6, x7, x8, rfl, hd, hr, I, hk, hf⟩ := h
    cases rest with
    | nil => cases hd
    | cons e rest =>
      rw [List.zipIdx_cons, List.map_cons] at hd
      obtain ⟨rfl, rfl⟩ := List.cons.inj hd
      rw [List.zipIdx_cons, List.foldl_cons] at hf
      rw [List.length_cons] at hk
      have eo := hr e (List.mem_cons_self ..)
      obtain ⟨_, z2, _, _⟩ := lsz_ok (m := m) eo.ok mk
      obtain ⟨_, y2, _, _⟩ := lsz_ok (m := m) (bok _ (book_mem66 eo.lt)) mk
      have go : ∀ x5 x6 x7 x8, K (dwE b m es (stepR m b st (e, k)) x5 x6 x7 x8) n := fun x5 x6 x7 x8 => hK _ _ ⟨rest, k + 1, _, _, _, _, _, rfl, rfl, fun x h => hr x (List.mem_cons_of_mem _ h), I.step bok mk eo (by omega), by omega, hf⟩
      refine f_gTup (f_gCons f_gName (f_gCons (f_gTup (f_gCons f_gName (f_gCons f_gName f_gNil))) f_gNil)) _ _ (dwE b m es st (some (natD k)) (some (natD e.1)) (some (pd e.2)) x8) _ rfl ?_
      refine q_set (d := .int (moreN m b e)) (f_Op (f_Call fp__law_w_laid (f_Cons f_Var (f_Cons f_Var f_Nil))) (f_Call fp__law_w_laid (f_Cons (f_Op f_Var f_Var) (f_Cons f_Var f_Nil)))) ((vOp_of (Eq.trans rfl z2) ((vCall_of (vCons_of ((vOp_of rfl rfl).trans (book_at66 eo.lt)) (vCons_of rfl rfl))).trans y2)).trans rfl) ?_
      refine w_if (decide (atN st.1 e.1 < moreN m b e)) (f_Test (f_Op f_Var (f_Op f_Var f_Var))) (vTest_of ((vOp_of rfl ((vOp_of rfl rfl).trans (ix_ints (by rw [I.l1]; exact eo.lt)))).trans rfl)) (fun hb => ?_) fun hb => ?_
      · have hb := of_decide_eq_true hb
        have e1 : ixN (st.1.map PyData.int).length (e.1 : Int) = some e.1 := ixN_nat66 (by rw [List.length_map, I.l1]; exact eo.lt)
        have e2 : ixN st.2.length (e.1 : Int) = some e.1 := ixN_nat66 (by rw [I.l2]; exact eo.lt)
        refine ⟨.int (moreN m b e), rfl, natD k, rfl, st.1.map .int, rfl, natD e.1, rfl, (e.1 : Int), e.1, rfl, e1, st.2, rfl, natD e.1, rfl, (e.1 : Int), e.1, rfl, e2, ?_⟩
        have := go (some (natD k)) (some (natD e.1)) (some (pd e.2)) (some (.int (moreN m b e)))
        unfold stepR at this
        rw [if_pos hb] at this
        unfold dwE at this
        rw [show (st.1.set e.1 (moreN m b e)).map PyData.int = (st.1.map PyData.int).set e.1 (.int (moreN m b e)) from List.map_set] at this
        exact this
      · have hb := of_decide_eq_false hb
        have := go (some (natD k)) (some (natD e.1)) (some (pd e.2)) (some (.int (moreN m b e)))
        unfold stepR at this
        rw [if_neg hb] at this
        exact this
  · obtain ⟨rest, k, st, x5, x6, x7, x8, rfl, hd, hr, I, hk, hf⟩ := h
    cases rest with
    | cons e rest => cases hd
    | nil =>
      have hf : st = resR m b es := hf
      subst hf
      exact w_ret (f_Tup (f_Cons f_Var (f_Cons f_Var f_Nil))) (vTup_of (vCons_of rfl (vCons_of rfl rfl)) (by show 2 ≤ lim; decide)) kR
end RC
end
section
namespace RC
open PySem PySem.Spec L2 RR
open PyProof.Rows hiding St cutD
def E66 (x0 x1 x2 x3 x4 x5 x6 x7 x8 x9 x10 x11 x12 : Option D) : DEnv := [x0, x1, x2, x3, x4, x5, x6, x7, x8, x9, x10, x11, x12]
abbrev k66T : MS := (mSeq (mPar [3, 4, 5] (mCons (mCallP m__law_w_book (mCons (mC (.int 4)) (mCons (mC (.int 3)) mNil))) (mCons (mLst (mCons (mCallP m__law_w_machine mNil) (mCons (mCallP m__law_w_machine mNil) mNil))) (mCons (mLst mNil) mNil)))) (mSeq (mFor (mIR1 (mCons (mCallP m__law_take_v2 (mCons (mC (.int 7)) mNil)) mNil)) (mgName 6) (mSeq (mSet 7 (mCallP m__law_take_v2 (mCons (mCl cLen (mCons (mVar 3) mNil)) mNil))) (mSeq (mSet 8 (mCallP m__law_w_part (mCons (mOp dAdd (mC (.int 3)) (mCallP m__law_take_v2 (mCons (mC (.int 2)) mNil))) (mCons (mCl cLen (mCons (mVar 3) mNil)) mNil)))) (mAppend 5 (mTup (mCons (mVar 7) (mCons (mCallP m__law_w_pick (mCons (mLst (mCons (mVar 8) (mCons (mVar 8) (mCons (mOp dIx (mVar 3) (mVar 7)) mNil)))) mNil)) mNil))))))) (mSeq (mSet 9 (mLook (mCl cReprX (mCons (mTup (mCons (mVar 3) (mCons (mVar 4) (mCons (mVar 5) mNil)))) mNil)))) (mFor (mISeq (mLst (mCons (mC (.int 0)) (mCons (mC (.int 1)) (mCons (mC (.int 0)) mNil))))) (mgName 10) (mSeq (mKillG 11 12 5 (.str "changed") m_reserve (mCons (mVar 3) (mCons (mOp dIx (mVar 4) (mVar 10)) (mCons (mVar 5) mNil))) (mOr (mTest (mOp dNe (mCl cReprX (mCons (mVar 11) mNil)) (mCl cReprX (mCons (mCall m__law_w_due (mCons (mVar 3) (mCons (mOp dIx (mVar 4) (mVar 10)) (mCons (mVar 5) mNil)))) mNil)))) (mTest (mOp dNe (mCl cReprX (mCons (mTup (mCons (mVar 3) (mCons (mVar 4) (mCons (mVar 5) mNil)))) mNil)) (mVar 9)))) (mTest (mOp dNe (mLc (mISeq (mVar 11)) (mgName 12) (mTest (mOp dNe (mCnt (mVar 12) (mC (.str "changed"))) (mC (.int 1)))) (mVar 12) [12]) (mLst mNil)))) (mIfS (mAnd (mTest (mOp dNe (mVar 5) (mLst mNil))) (mTest (mOp dEq (mVar 10) (mC (.int 1))))) (mSeq (mPopI 5 (mLook (mCallP m__law_take_v2 (mCons (mCl cLen (mCons (mVar 5) mNil)) mNil)))) (mSet 9 (mLook (mCl cReprX (mCons (mTup (mCons (mVar 3) (mCons (mVar 4) (mCons (mVar 5) mNil)))) mNil))))) mNext))))))
abbrev k66K : MS := (mKillG 11 12 5 (.str "changed") m_reserve (mCons (mVar 3) (mCons (mOp dIx (mVar 4) (mVar 10)) (mCons (mVar 5) mNil))) (mOr (mTest (mOp dNe (mCl cReprX (mCons (mVar 11) mNil)) (mCl cReprX (mCons (mCall m__law_w_due (mCons (mVar 3) (mCons (mOp dIx (mVar 4) (mVar 10)) (mCons (mVar 5) mNil)))) mNil)))) (mTest (mOp dNe (mCl cReprX (mCons (mTup (mCons (mVar 3) (mCons (mVar 4) (mCons (mVar 5) mNil)))) mNil)) (mVar 9)))) (mTest (mOp dNe (mLc (mISeq (mVar 11)) (mgName 12) (mTest (mOp dNe (mCnt (mVar 12) (mC (.str "changed"))) (mC (.int 1)))) (mVar 12) [12]) (mLst mNil))))
abbrev k66D : MS := (mSeq (mSet 7 (mCallP m__law_take_v2 (mCons (mCl cLen (mCons (mVar 3) mNil)) mNil))) (mSeq (mSet 8 (mCallP m__law_w_part (mCons (mOp dAdd (mC (.int 3)) (mCallP m__law_take_v2 (mCons (mC (.int 2)) mNil))) (mCons (mCl cLen (mCons (mVar 3) mNil)) mNil)))) (mAppend 5 (mTup (mCons (mVar 7) (mCons (mCallP m__law_w_pick (mCons (mLst (mCons (mVar 8) (mCons (mVar 8) (mCons (mOp dIx (mVar 3) (mVar 7)) mNil)))) mNil)) mNil))))))
theorem nilne66 : dNe (.list []) (.list []) = some (.bool false) := by kernel_rfl
open Classical in
noncomputable def vOne66 (ds : List D) (d : D) : VP := fun es => if es = ds then some d else none
theorem vOne_eq66 (ds : List D) (d : D) : vOne66 ds d ds = some d := if_pos rfl
theorem fOne66 {mf : MP} {ds : List D} {d : D} (h : ∀ R : D → Prop, R d → mf ds R) : FP mf (vOne66 ds d) := fun es e R q k => by
  unfold vOne66 at q
  split at q
  · rename_i z
    subst z
    cases q
    exact h R k
  · cases q
theorem seen_res66 {b : Book} {st : List Int × List D} (I : Inv66 b st) (hb : b.length ≤ 5) : Seen 2 400 (.tuple [.list (st.1.map .int), .list st.2]) := by
  have s1 : Seen 1 90 (.list (st.1.map .int)) := Seen.lstN (k := 0) (w := 17) (n := 5) (fun x hx => by
    obtain ⟨y, hy, rfl⟩ := List.mem_map.mp hx
    have := I.r1 y hy
    exact Seen.int16 (by omega)) (by rw [List.length_map, I.l1]; exact hb) (by decide)
  have s2 : Seen 1 90 (.list st.2) := Seen.lstN (k := 0) (w := 17) (n := 5) (fun x hx => by
    rcases I.r2 x hx with rfl | ⟨k, hk, rfl⟩
    · exact Seen.none.mono (by decide) (by decide)
    · exact Seen.int16 (by omega)) (by rw [I.l2]; exact hb) (by decide)
  exact Seen.tupN (k := 1) (w := 90) (n := 2) (fun x hx => by
    simp only [List.mem_cons, List.not_mem_nil, or_false] at hx
    rcases hx with rfl | rfl
    · exact s1
    · exact s2) (Nat.le_refl _) (by decide)
theorem seen_all66 {b : Book} {m1 m2 : Mach} {es : List (Nat × Part)} (bok : ∀ p ∈ b, partOk p = true) (hb : b.length ≤ 5) (k1 : machOk m1 = true) (k2 : machOk m2 = true) (he : ∀ e ∈ es, EdOk b e) (hl : es.length ≤ 6) : Seen 5 60000 (.tuple [bd b, .list [md m1, md m2], edsD es]) := by
  have s1 : Seen 3 6600 (bd b) := Seen.tupN (k := 2) (w := 1300) (n := 5) (fun x hx => by
    obtain ⟨p, hp, rfl⟩ := List.mem_map.mp hx
    exact seen_part16 (bok p hp)) (by rw [List.length_map]; exact hb) (by decide)
  have s2 : Seen 2 1700 (.list [md m1, md m2]) := Seen.lstN (k := 1) (w := 800) (n := 2) (fun x hx => by
    simp only [List.mem_cons, List.not_mem_nil, or_false] at hx
    rcases hx with rfl | rfl
    · exact seen_mach13 k1
    · exact seen_mach13 k2) (Nat.le_refl _) (by decide)
  have s3 : Seen 4 16000 (edsD es) := Seen.lstN (k := 3) (w := 2610) (n := 6) (fun x hx => by
    obtain ⟨e, h, rfl⟩ := List.mem_map.mp hx
    have eo := he e h
    exact Seen.tupN (k := 2) (w := 1300) (n := 2) (fun y hy => by
      simp only [List.mem_cons, List.not_mem_nil, or_false] at hy
      rcases hy with rfl | rfl
      · exact (Seen.int16 (by have := eo.lt; omega)).mono (by decide) (by decide)
      · exact seen_part16 eo.ok) (Nat.le_refl _) (by decide)) (by rw [List.length_map]; exact hl) (by decide)
  exact Seen.tupN (k := 4) (w := 16000) (n := 3) (fun x hx => by
    simp only [List.mem_cons, List.not_mem_nil, or_false] at hx
    rcases hx with rfl | rfl | rfl
    · exact s1.mono (by decide) (by decide)
    · exact s2.mono (by decide) (by decide)
    · exact s3) (Nat.le_refl _) (by decide)
theorem cnt_str66 (x : Str) (hx : PyData.strOk x = true) : ∀ ds : List D, (∀ d ∈ ds, d = .none ∨ ∃ i : Int, d = .int i) → PyData.plainAll (ds ++ [.str x]) = true ∧ PyData.canLayAll0 (ds ++ [.str x]) = true ∧ (ds ++ [PyData.str x]).countP (fun z => PyData.eqv z (PyData.str x)) = 1
  | [], _ => ⟨by simp [PyData.plainAll, PyData.plain], by simp [PyData.canLayAll0, PyData.canLay0, hx], by
    rw [List.nil_append, List.countP_singleton, eqv_str, decide_eq_true rfl]; rfl⟩
  | d :: ds, h => by
    obtain ⟨a, b, c⟩ := cnt_str66 x hx ds fun d h' => h d (List.mem_cons_of_mem _ h')
    rcases h d (List.mem_cons_self ..) with rfl | ⟨i, rfl⟩
    · refine ⟨?_, ?_, ?_⟩
      · rw [List.cons_append, PyData.plainAll, a]; simp [PyData.plain]
      · rw [List.cons_append, PyData.canLayAll0, b]; simp [PyData.canLay0]
      · rw [List.cons_append, List.countP_cons, c]; simp [PyData.eqv]
    · refine ⟨?_, ?_, ?_⟩
      · rw [List.cons_append, PyData.plainAll, a]; simp [PyData.plain]
      · rw [List.cons_append, PyData.canLayAll0, b]; simp [PyData.canLay0]
      · rw [List.cons_append, List.countP_cons, c]; simp [PyData.eqv]
theorem cnt1_66 {ds : List D} (h : ∀ d ∈ ds, d = .none ∨ ∃ i : Int, d = .int i) : dCnt (.list (ds ++ [.str "changed"])) (.str "changed") = some (.int 1) := by
  have hs : PyData.strOk ("changed" : Str) = true := by decide +kernel
  obtain ⟨a, b, c⟩ := cnt_str66 "changed" hs ds h
  have ls : Lay 0 (.str "changed") := Lay.str hs
  show (if _ then _ else _) = _
  rw [if_pos ⟨a, b, by simp [PyData.plain], ls.shaped (by decide), by have := ls.dep; omega⟩, c]
  rfl
theorem ap66 {es : List (Nat × Part)} {ys : List D} (h1 : 1 ≤ ys.length) (h : ∀ d ∈ ys, d = .none ∨ ∃ i : Int, d = .int i) : apL (edsD es) ys = true := by
  cases ys with
  | nil => simp at h1
  | cons y ys =>
    cases es with
    | nil => rfl
    | cons e es =>
      have hk : (kd31 y == 4) = false := by
        rcases h y (List.mem_cons_self ..) with rfl | ⟨i, rfl⟩ <;> rfl
      have : (((y :: ys).head?.map kd31) == (((e :: es).map edD).head?.map kd31)) = false := by
        show (some (kd31 y) == some 4) = false
        exact hk
      show (!((y :: ys).length == ((e :: es).map edD).length) || !(((y :: ys).head?.map kd31) == (((e :: es).map edD).head?.map kd31))) = true
      rw [this, Bool.not_false, Bool.or_true]
theorem same66 (s : Str) : dNe (.str s) (.str s) = some (.bool false) := by
  rw [dNe_str, decide_eq_true rfl]; rfl
theorem tup_edge66 (es : List (Nat × Part)) : lstT (edsD es) = true := by
  show (es.map edD).all tupD = true
  rw [List.all_eq_true]
  intro x hx
  obtain ⟨e, _, rfl⟩ := List.mem_map.mp hx
  show tupD (.tuple [natD e.1, pd e.2]) = true
  rw [tupD, tupD.tupAll, tupD.tupAll, tupD.tupAll, tup_part]; rfl
theorem tup_book66 (b : Book) : tupD (bd b) = true := by
  show tupD (.tuple (b.map pd)) = true
  rw [tupD]
  induction b with
  | nil => rfl
  | cons p b ih => rw [List.map_cons, tupD.tupAll, tup_part, ih]; rfl
theorem tup_mach66 (m : Mach) : tupD (md m) = true := rfl
theorem kill66 {E : EndsD} {b : Book} {m1 m2 : Mach} {es : List (Nat × Part)} (b1 : 1 ≤ b.length) (b5 : b.length ≤ 5) (bok : ∀ p ∈ b, partOk p = true ∧ ∀ r ∈ p, r.isFar = true → r.num < (b.length : Int)) (k1 : machOk m1 = true) (k2 : machOk m2 = true) (he : ∀ e ∈ es, EdOk b e) (hl : es.length ≤ 6) {i : Int} (hi : i = 0 ∨ i = 1) {x0 x1 x2 x6 x7 x8 x11 x12 : Option D} {n : Nat}
    (k : E.nx (E66 x0 x1 x2 (some (bd b)) (some (.list [md m1, md m2])) (some (edsD es)) x6 x7 x8 (some (.str (PyData.tuple [bd b, .list [md m1, md m2], edsD es]).shown)) (some (.int i)) none none) n) :
    k66K E (E66 x0 x1 x2 (some (bd b)) (some (.list [md m1, md m2])) (some (edsD es)) x6 x7 x8 (some (.str (PyData.tuple [bd b, .list [md m1, md m2], edsD es]).shown)) (some (.int i)) x11 x12) n := by
  have bo : ∀ p ∈ b, partOk p = true := fun p h => (bok p h).1
  obtain ⟨m, hm, mk⟩ : ∃ m, dIx (.list [md m1, md m2]) (.int i) = some (md m) ∧ machOk m = true := by
    rcases hi with rfl | rfl
    · exact ⟨m1, atI_nat (j := 0) rfl, k1⟩
    · exact ⟨m2, atI_nat (j := 1) rfl, k2⟩
  have I := inv66 (m := m) bo mk he hl
  have er := v_reserve_eq b1 b5 bok mk he hl
  have ea := seen_reprX (seen_all66 bo b5 k1 k2 he hl) (by decide) (by decide)
  generalize (PyData.tuple [bd b, .list [md m1, md m2], edsD es]).shown = sK at ea k ⊢
  have ed := seen_reprX (seen_res66 I b5) (by decide) (by decide)
  have hI : ∀ d ∈ (resR m b es).1.map PyData.int, d = .none ∨ ∃ i : Int, d = .int i := fun d hd => by
    obtain ⟨y, _, rfl⟩ := List.mem_map.mp hd
    exact .inr ⟨y, rfl⟩
  have hR : ∀ d ∈ (resR m b es).2, d = .none ∨ ∃ i : Int, d = .int i := fun d hd => by
    rcases I.r2 d hd with rfl | ⟨k, _, rfl⟩
    · exact .inl rfl
    · exact .inr ⟨_, rfl⟩
  have flat : ∀ ds : List D, (∀ d ∈ ds, d = .none ∨ ∃ i : Int, d = .int i) → ds.all flatD = true := fun ds h => List.all_eq_true.mpr fun d hd => by
    rcases h d hd with rfl | ⟨i, rfl⟩ <;> rfl
  have a1 : apL (edsD es) ((resR m b es).1.map .int) = true := ap66 (by rw [List.length_map, I.l1]; exact b1) hI
  have a2 : apL (edsD es) (resR m b es).2 = true := ap66 (by rw [I.l2]; exact b1) hR
  have nw : newsD [bd b, md m, edsD es] ((resR m b es).1.map .int) (resR m b es).2 = true := by
    unfold newsD
    show (true && (true && ((apL (edsD es) ((resR m b es).1.map .int) && apL (edsD es) (resR m b es).2) && true))) = true
    rw [a1, a2]; rfl
  have c1 := cnt1_66 hI
  have c2 := cnt1_66 hR
  refine ⟨by show 11 < 13; decide, by show 12 < 13; decide, edsD es, rfl, ?_⟩
  refine w_args (ds := [bd b, md m, edsD es]) (f_Cons f_Var (f_Cons (f_Op f_Var f_Var) (f_Cons f_Var f_Nil))) (vCons_of rfl (vCons_of ((vOp_of rfl rfl).trans hm) (vCons_of rfl rfl))) ⟨?_, ?_⟩
  · rw [List.all_cons, List.all_cons, List.all_cons, tup_book66, tup_mach66, tup_edge66]; simp
  refine fp_reserve _ _ _ er ⟨(resR m b es).1.map .int, (resR m b es).2, rfl, flat _ hI, flat _ hR, nw, a1, a2, by rw [List.length_map, I.l1]; exact Nat.lt_of_le_of_lt b5 (by decide), by rw [I.l2]; exact Nat.lt_of_le_of_lt b5 (by decide), ?_⟩
  refine w_tst (v := vOr (vTest (vOp dNe (vCl cReprX (vCons (vVar 11) vNil)) (vCl cReprX (vCons (vCall (vOne66 [bd b, md m, edsD es] (resD m b es)) (vCons (vVar 3) (vCons (vOp dIx (vVar 4) (vVar 10)) (vCons (vVar 5) vNil)))) vNil)))) (vTest (vOp dNe (vCl cReprX (vCons (vTup (vCons (vVar 3) (vCons (vVar 4) (vCons (vVar 5) vNil)))) vNil)) (vVar 9)))) (b := false) ?_ ?_ ?_
  · exact f_Or (f_Test (f_Op (f_Cl (f_Cons f_Var f_Nil)) (f_Cl (f_Cons (f_Call (fOne66 fun R q => due66 bo mk b5 he hl q) (f_Cons f_Var (f_Cons (f_Op f_Var f_Var) (f_Cons f_Var f_Nil)))) f_Nil)))) (f_Test (f_Op (f_Cl (f_Cons (f_Tup (f_Cons f_Var (f_Cons f_Var (f_Cons f_Var f_Nil)))) f_Nil)) f_Var))
  · refine vOr_of (x := false) (y := false) (vTest_of ((vOp_of ((vCl_of (vCons_of rfl rfl)).trans ed) ((vCl_of (vCons_of ((vCall_of (vCons_of rfl (vCons_of ((vOp_of rfl rfl).trans hm) (vCons_of rfl rfl)))).trans (vOne_eq66 _ _)) rfl)).trans ed)).trans (same66 _))) fun _ => ?_
    exact vTest_of ((vOp_of ((vCl_of (vCons_of (vTup_of (vCons_of rfl (vCons_of rfl (vCons_of rfl rfl))) (by show 3 ≤ lim; decide)) rfl)).trans ea) rfl).trans (same66 _))
  show (if false = true then _ else _)
  rw [if_neg (by decide)]
  have ne1 : dNe (.int 1) (.int 1) = some (.bool false) := by rw [dNe_int]; rfl
  have el : vLc (vISeq (vVar 11)) (vgName 12) (vTest (vOp dNe (vCnt (vVar 12) (vC (.str "changed"))) (vC (.int 1)))) (vVar 12) [12] (E66 x0 x1 x2 (some (bd b)) (some (.list [md m1, md m2])) (some (edsD es)) x6 x7 x8 (some (.str sK)) (some (.int i)) (some (.tuple [.list ((resR m b es).1.map .int ++ [.str "changed"]), .list ((resR m b es).2 ++ [.str "changed"])])) none) = some (.list []) := by
    refine vLc_of (ds := [.list ((resR m b es).1.map .int ++ [.str "changed"]), .list ((resR m b es).2 ++ [.str "changed"])]) rfl (by show 2 ≤ lim; decide) ?_
    have := vcomp_filterOf (g := vgName 12) (t := vTest (vOp dNe (vCnt (vVar 12) (vC (.str "changed"))) (vC (.int 1)))) (e := vVar 12) (Γ := wipeD (E66 x0 x1 x2 (some (bd b)) (some (.list [md m1, md m2])) (some (edsD es)) x6 x7 x8 (some (.str sK)) (some (.int i)) (some (.tuple [.list ((resR m b es).1.map .int ++ [.str "changed"]), .list ((resR m b es).2 ++ [.str "changed"])])) none) [12]) (xs := [PyData.list ((resR m b es).1.map .int ++ [.str "changed"]), .list ((resR m b es).2 ++ [.str "changed"])]) (fun d => d) (fun _ => false) (fun d => d) fun d hd => ⟨_, rfl, by
      simp only [List.mem_cons, List.not_mem_nil, or_false] at hd
      rcases hd with rfl | rfl
      · exact vTest_of ((vOp_of (Eq.trans rfl c1) rfl).trans ne1)
      · exact vTest_of ((vOp_of (Eq.trans rfl c2) rfl).trans ne1), fun z => nomatch z⟩
    exact this
  refine w_tst (b := false) (f_Test (f_Op (f_Lc (f_ISeq f_Var) f_gName (f_Test (f_Op (f_Cnt f_Var f_C) f_C)) f_Var) (f_Lst f_Nil))) (vTest_of ((vOp_of (Eq.trans rfl el) rfl).trans nilne66)) ?_
  show (if false = true then _ else _)
  rw [if_neg (by decide)]
  exact k
end RC
end
section
namespace RC
open PySem PySem.Spec L2 RR
open PyProof.Rows hiding St cutD
theorem lay_row66 (r : Row) : Lay 1 r.d := by
  cases r <;> (refine Lay.tup fun x hx => ?_) <;> (simp only [List.mem_cons, List.not_mem_nil, or_false] at hx) <;> first
    | (rcases hx with rfl | rfl | rfl <;> first | exact Lay.str (by decide +kernel) | exact Lay.int _)
    | (rcases hx with rfl | rfl <;> first | exact Lay.str (by decide +kernel) | exact Lay.int _)
theorem lay_eds66 (es : List (Nat × Part)) : Lay 4 (edsD es) := Lay.lst fun x hx => by
  obtain ⟨e, _, rfl⟩ := List.mem_map.mp hx
  refine Lay.tup fun y hy => ?_
  simp only [List.mem_cons, List.not_mem_nil, or_false] at hy
  rcases hy with rfl | rfl
  · exact (Lay.int _).mono (by decide)
  · exact Lay.tup fun z hz => by
      obtain ⟨r, _, rfl⟩ := List.mem_map.mp hz
      exact lay_row66 r
theorem ne_eds66 (es : List (Nat × Part)) : dNe (edsD es) (.list []) = some (.bool (!es.isEmpty)) := by
  have t0 : SeqAt.shaped (PyData.list []) = true := by decide +kernel
  unfold dNe
  rw [if_pos (.inr ⟨(lay_eds66 es).shaped (by decide), t0⟩)]
  cases es <;> rfl
theorem len_bd66 (b : Book) : cLen [bd b] = some (.int (b.length : Int)) := by
  show some (PyData.int ((b.map pd).length : Int)) = _
  rw [List.length_map]
theorem draw66 {E : EndsD} {b : Book} {es : List (Nat × Part)} (B : FineBook b 4) (hl : es.length ≤ 40) {x0 x1 x2 x4 x6 x7 x8 x9 x10 x11 x12 : Option D} {n : Nat} (hn : n < 500000)
    (k : ∀ e n' y7 y8, EdOk b e → n' ≤ n + 100 → E.nx (E66 x0 x1 x2 (some (bd b)) x4 (some (edsD (es ++ [e]))) x6 y7 y8 x9 x10 x11 x12) n') : k66D E (E66 x0 x1 x2 (some (bd b)) x4 (some (edsD es)) x6 x7 x8 x9 x10 x11 x12) n := by
  have b1 := B.l1
  have b4 := B.lm
  refine q_setM (s_callP (w_args (ds := [.int (b.length : Int)]) (f_Cons (f_Cl (f_Cons f_Var f_Nil)) f_Nil) (vCons_of ((vCl_of (vCons_of rfl rfl)).trans (len_bd66 b)) rfl) ?_))
  with_reducible refine take_ok (by omega) (by omega) (by omega) fun x x0 x1 => ?_
  obtain ⟨i, rfl⟩ := Int.eq_ofNat_of_zero_le x0
  have hi : i < b.length := by omega
  refine q_setM (s_callP (s_cons (s_op (s_C (s_callP (s_cons (s_C (s_nil ?_))))))))
  with_reducible refine take_ok (by decide) (by decide) (by omega) fun y y0 y1 => ?_
  obtain ⟨j, rfl⟩ := Int.eq_ofNat_of_zero_le y0
  refine ⟨.int ((j + 3 : Nat) : Int), by rw [show ((j + 3 : Nat) : Int) = 3 + (j : Int) by omega]; rfl, w_args (ds := [.int (b.length : Int)]) (f_Cons (f_Cl (f_Cons f_Var f_Nil)) f_Nil) (vCons_of ((vCl_of (vCons_of rfl rfl)).trans (len_bd66 b)) rfl) ?_⟩
  refine w_part_ok66 (by omega) b1 (by omega) (by omega) fun p n1 fine far hn1 => ?_
  refine ⟨es.map edD, rfl, ?_⟩
  refine s_tup (s_cons (s_var (d := natD i) rfl (s_cons (s_callP (s_cons (s_lst (s_cons (s_var (d := pd p) rfl (s_cons (s_var (d := pd p) rfl (s_cons (w_exp (d := pd (b.getD i [])) (f_Op f_Var f_Var) ((vOp_of rfl rfl).trans (book_at66 hi)) (s_nil ⟨by show 3 ≤ lim; decide, s_nil ?_⟩)))))))))))))
  refine w_pick_of pd (xs := [p, p, b.getD i []]) (by show 1 ≤ 3; decide) (by show 3 < 1073741824; decide) (by omega) fun q hq => ?_
  refine s_nil ⟨by show 2 ≤ lim; decide, by rw [List.length_map]; exact Nat.lt_of_le_of_lt hl (by decide), ?_⟩
  have eo : EdOk b (i, q) := by
    simp only [List.mem_cons, List.not_mem_nil, or_false] at hq
    have hb := B.fine _ (book_mem66 hi)
    rcases hq with rfl | rfl | rfl
    · exact ⟨hi, fine.ok, far⟩
    · exact ⟨hi, fine.ok, far⟩
    · exact ⟨hi, hb.1.ok, hb.2⟩
  have hk := k (i, q) (n1 + 1) (some (natD i)) (some (pd p)) eo (by omega)
  unfold edsD at hk
  rw [List.map_append] at hk
  exact hk
theorem turn66 {E : EndsD} {x0 x1 x2 x3 x4 x5 x6 x7 x8 x9 x10 x11 x12 : Option D} {n : Nat} (hn : n < 300000)
    (k : ∀ z3 z4 z5 z6 z7 z8 z9 z10 z11 z12 n', n' ≤ n + 2000 → E.nx (E66 x0 x1 x2 z3 z4 z5 z6 z7 z8 z9 z10 z11 z12) n') : k66T E (E66 x0 x1 x2 x3 x4 x5 x6 x7 x8 x9 x10 x11 x12) n := by
  refine q_par (s_cons (s_callP (s_cons (s_C (s_cons (s_C (s_nil ?_)))))))
  refine w_book4 (by omega) fun b n1 B hn1 => ?_
  refine s_cons (s_lst (s_cons (s_callP (s_nil ?_))))
  refine w_machine_ok (by omega) fun m1 n2 k1 _ _ hn2 => ?_
  refine s_cons (s_callP (s_nil ?_))
  refine w_machine_ok (by omega) fun m2 n3 k2 _ _ hn3 => ?_
  refine s_nil ⟨by show 2 ≤ lim; decide, s_cons (w_exp (d := .list []) (f_Lst f_Nil) rfl (s_nil ⟨rfl, ?_⟩))⟩
  have b1 := B.l1
  have b4 := B.lm
  have bok : ∀ p ∈ b, partOk p = true ∧ ∀ r ∈ p, r.isFar = true → r.num < (b.length : Int) := fun p hp => ⟨(B.fine p hp).1.ok, (B.fine p hp).2⟩
  have bo : ∀ p ∈ b, partOk p = true := fun p h => (bok p h).1
  refine q_for (s_ir1 (s_cons (s_callP (s_cons (s_C (s_nil ?_))))))
  with_reducible refine take_ok (by decide) (by decide) (by omega) fun x x0' x1' => ?_
  obtain ⟨z, rfl⟩ := Int.eq_ofNat_of_zero_le x0'
  refine s_nil ⟨(z : Int), rfl, okR_nat (by omega), ?_⟩
  rw [Int.toNat_natCast]
  refine w_for (fun ds Γ n' => (∃ es y6 y7 y8, Γ = E66 x0 x1 x2 (some (bd b)) (some (.list [md m1, md m2])) (some (edsD es)) y6 y7 y8 x9 x10 x11 x12 ∧ es.length + ds.length ≤ 6 ∧ ∀ e ∈ es, EdOk b e) ∧ n' + 110 * ds.length ≤ n + 1500) (fun d ds Γ n' h K hK => ?_) (fun Γ n' h => ?_) _ _ _ ⟨⟨[], x6, x7, x8, rfl, by rw [rangeD_len, List.length_nil]; omega, fun e h => nomatch h⟩, by rw [rangeD_len]; omega⟩
  · obtain ⟨⟨es, y6, y7, y8, rfl, hl, he⟩, hb⟩ := h
    rw [List.length_cons] at hl hb
    refine s_gName (draw66 B (by omega) (by omega) fun e n4 y7 y8 eo hn4 => hK _ _ ⟨⟨es ++ [e], _, y7, y8, rfl, by rw [List.length_append, List.length_singleton]; omega, fun x hx => ?_⟩, by omega⟩)
    rcases List.mem_append.mp hx with hx | hx
    · exact he x hx
    · rw [List.mem_singleton.mp hx]; exact eo
  obtain ⟨⟨es, y6, y7, y8, rfl, hl, he⟩, hb⟩ := h
  rw [List.length_nil] at hl hb
  have ea : ∀ es : List (Nat × Part), es.length ≤ 6 → (∀ e ∈ es, EdOk b e) → cReprX [.tuple [bd b, .list [md m1, md m2], edsD es]] = some (.str (PyData.tuple [bd b, .list [md m1, md m2], edsD es]).shown) := fun es hl he => seen_reprX (seen_all66 bo (by omega) k1 k2 he hl) (by decide) (by decide)
  have eset : ∀ (es : List (Nat × Part)) (y6 y7 y8 y9 y10 y11 y12 : Option D), es.length ≤ 6 → (∀ e ∈ es, EdOk b e) → vLook (vCl cReprX (vCons (vTup (vCons (vVar 3) (vCons (vVar 4) (vCons (vVar 5) vNil)))) vNil)) (E66 x0 x1 x2 (some (bd b)) (some (.list [md m1, md m2])) (some (edsD es)) y6 y7 y8 y9 y10 y11 y12) = some (.str (PyData.tuple [bd b, .list [md m1, md m2], edsD es]).shown) := fun es y6 y7 y8 y9 y10 y11 y12 hl he =>
    o_look ((vCl_of (vCons_of (vTup_of (vCons_of rfl (vCons_of rfl (vCons_of rfl rfl))) (by show 3 ≤ lim; decide)) rfl)).trans (ea es hl he)) rfl
  refine q_set (f_Look (f_Cl (f_Cons (f_Tup (f_Cons f_Var (f_Cons f_Var (f_Cons f_Var f_Nil)))) f_Nil))) (eset es _ _ _ _ _ _ _ (by omega) he) ?_
  refine w_it (ds := [.int 0, .int 1, .int 0]) (f_ISeq (f_Lst (f_Cons f_C (f_Cons f_C (f_Cons f_C f_Nil))))) rfl ?_
  refine w_for (fun ds Γ n' => (∃ es y6 y7 y8 y10 y11 y12, Γ = E66 x0 x1 x2 (some (bd b)) (some (.list [md m1, md m2])) (some (edsD es)) y6 y7 y8 (some (.str (PyData.tuple [bd b, .list [md m1, md m2], edsD es]).shown)) y10 y11 y12 ∧ es.length ≤ 6 ∧ ∀ e ∈ es, EdOk b e) ∧ (∀ d ∈ ds, ∃ i : Int, (i = 0 ∨ i = 1) ∧ d = .int i) ∧ n' + 10 * ds.length ≤ n + 1600) (fun d ds Γ n' h K hK => ?_) (fun Γ n' h => ?_) _ _ _ ⟨⟨es, _, _, _, _, _, _, rfl, by omega, he⟩, fun d hd => ?_, by show n' + 10 * 3 ≤ n + 1600; omega⟩
  · obtain ⟨⟨es, y6, y7, y8, y10, y11, y12, rfl, hl, he⟩, hds, hb⟩ := h
    rw [List.length_cons] at hb
    obtain ⟨i, hi, rfl⟩ := hds d (List.mem_cons_self ..)
    refine s_gName (w_seq (kill66 b1 (by omega) bok k1 k2 he hl hi ?_))
    refine w_if (!es.isEmpty && decide (i = 1)) (f_And (f_Test (f_Op f_Var (f_Lst f_Nil))) (f_Test (f_Op f_Var f_C))) (vAnd_of (vTest_of ((vOp_of rfl rfl).trans (ne_eds66 es))) fun _ => vTest_of ((vOp_of rfl rfl).trans (dEq_int _ _))) (fun hc => ?_) fun hc => ?_
    · rw [Bool.and_eq_true] at hc
      have hne : 1 ≤ es.length := by
        cases es with
        | nil => have := hc.1; simp at this
        | cons e es => rw [List.length_cons]; omega
      refine w_seq ⟨es.map edD, rfl, ?_⟩
      refine s_callP (w_args (ds := [.int (es.length : Int)]) (f_Cons (f_Cl (f_Cons f_Var f_Nil)) f_Nil) (vCons_of ((vCl_of (vCons_of rfl rfl)).trans (by show some (PyData.int ((es.map edD).length : Int)) = _; rw [List.length_map])) rfl) ?_)
      with_reducible refine take_ok (by omega) (by omega) (by omega) fun x x0 x1 => ?_
      obtain ⟨k, rfl⟩ := Int.eq_ofNat_of_zero_le x0
      refine ⟨rfl, k, rfl, by rw [List.length_map]; omega, by rw [List.length_map]; exact Nat.le_trans hl (by decide), ?_⟩
      have hsub : ∀ e ∈ es.eraseIdx k, EdOk b e := fun e h => he e (List.mem_of_mem_eraseIdx h)
      have hle : (es.eraseIdx k).length ≤ 6 := Nat.le_trans (List.length_eraseIdx_le ..) hl
      have em : (es.map edD).eraseIdx k = (es.eraseIdx k).map edD := by
        rw [List.eraseIdx_eq_take_drop_succ, List.eraseIdx_eq_take_drop_succ, List.map_append, List.map_take, List.map_drop]
      rw [em]
      refine w_set (f_Look (f_Cl (f_Cons (f_Tup (f_Cons f_Var (f_Cons f_Var (f_Cons f_Var f_Nil)))) f_Nil))) (eset (es.eraseIdx k) _ _ _ _ _ _ _ hle hsub) ?_
      exact hK _ _ ⟨⟨es.eraseIdx k, _, _, _, _, _, _, rfl, hle, hsub⟩, fun d hd => hds d (List.mem_cons_of_mem _ hd), by omega⟩
    · exact hK _ _ ⟨⟨es, _, _, _, _, _, _, rfl, hl, he⟩, fun d hd => hds d (List.mem_cons_of_mem _ hd), by omega⟩
  · obtain ⟨⟨es, y6, y7, y8, y10, y11, y12, rfl, hl, he⟩, hds, hb⟩ := h
    exact k _ _ _ _ _ _ _ _ _ _ _ (by simp only [List.length_nil] at hb; omega)
  · simp only [List.mem_cons, List.not_mem_nil, or_false] at hd
    rcases hd with rfl | rfl | rfl
    · exact ⟨0, .inl rfl, rfl⟩
    · exact ⟨1, .inr rfl, rfl⟩
    · exact ⟨0, .inl rfl, rfl⟩
theorem law66 : b_c66_law mTrue (List.replicate 13 none) 0 := by
  unfold b_c66_law
  refine w_seq ⟨2, rfl, (okR_nat (n := 2) (by decide) : okR 2), ?_⟩
  refine w_for (fun ds Γ n => (∃ x0 x1 x2 x3 x4 x5 x6 x7 x8 x9 x10 x11 x12, Γ = E66 x0 x1 x2 x3 x4 x5 x6 x7 x8 x9 x10 x11 x12) ∧ n + 2000 * ds.length ≤ 5000) (fun d ds Γ n h K hK => ?_) (fun Γ n h => ?_) _ _ _ ⟨⟨_, _, _, _, _, _, _, _, _, _, _, _, _, rfl⟩, by rw [rangeD_len]; show 0 + 2000 * 2 ≤ 5000; omega⟩
  · obtain ⟨⟨x0, x1, x2, x3, x4, x5, x6, x7, x8, x9, x10, x11, x12, rfl⟩, hn⟩ := h
    rw [List.length_cons] at hn
    exact s_gName (turn66 (by omega) fun _ _ _ _ _ _ _ _ _ _ n' h => hK _ _ ⟨⟨_, _, _, _, _, _, _, _, _, _, _, _, _, rfl⟩, by omega⟩)
  · show mRet (mC (.bool true)) mTrue Γ n
    refine w_ret (d := .bool true) f_C rfl ?_
    exact rfl
end RC
end
section
open PySem PySem.W PyProof.Rows
set_option maxHeartbeats 0 in
theorem PySem.Challenge.cw_reachrows_k66_reserved_room_holds : PySem.Challenge.rw_reachrows_k66_reserved_room.Holds := by
  w_on; o_law; k_head; (case hw => w_witness2)
  k_fill
  refine RR.walkG (l := PySem.Challenge.rw_reachrows_k66_reserved_room) (k := 100) (x := "script") rfl rfl rfl ⟨rfl, by decide, by decide⟩ (fun w h Y => PySem.W.kIn_of Y) ?F
  case F =>
    intro w mg fa h KX G hmg
    refine' RR.fin_mk (l := PySem.Challenge.rw_reachrows_k66_reserved_room) (st := K66.topS 73) KX G hmg ?la ?ll ?lc ?lk ?lb (fun base fd sy FF => K66.fn_law (base := base) (K66.Txt.mk sy (PySem.W.mg_none_of KX G ?q1) (PySem.W.mg_none_of KX G ?q2) (PySem.W.mg_none_of KX G ?q3) (PySem.W.mg_none_of KX G ?q4) (PySem.W.mg_none_of KX G ?q5) (PySem.W.mg_none_of KX G ?q6) (PySem.W.mg_none_of KX G ?q7) (PySem.W.mg_none_of KX G ?q8) (PySem.W.mg_none_of KX G ?q9) (PySem.W.mg_none_of KX G ?q10) (PySem.W.mg_none_of KX G ?q11) (PySem.W.mg_none_of KX G ?q12) (PySem.W.mg_none_of KX G ?q13) (PySem.W.mg_none_of KX G ?q14) (PySem.W.mg_of KX G ?q15) (RR.ci_int KX G ?q16 ?q17) (RR.ci_int KX G ?q18 ?q19) (RR.ci_int KX G ?q20 ?q21) (RR.ci_int KX G ?q22 ?q23) (RR.ci_int KX G ?q24 ?q25) (RR.ci_int KX G ?q26 ?q27) ⟨_, RR.ci_tup KX G ?q28 ?q29 ?q30 (RR.rqs_cons (RR.rq_tup ?q32 ?q33 (RR.rqs_cons RR.rq_int (RR.rqs_cons RR.rq_int RR.rqs_nil)) ?q34) (RR.rqs_cons (RR.rq_tup ?q35 ?q36 (RR.rqs_cons RR.rq_int (RR.rqs_cons RR.rq_int RR.rqs_nil)) ?q37) (RR.rqs_cons (RR.rq_tup ?q38 ?q39 (RR.rqs_cons RR.rq_int (RR.rqs_cons RR.rq_int RR.rqs_nil)) ?q40) (RR.rqs_cons (RR.rq_tup ?q41 ?q42 (RR.rqs_cons RR.rq_int (RR.rqs_cons RR.rq_int RR.rqs_nil)) ?q43) (RR.rqs_cons (RR.rq_tup ?q44 ?q45 (RR.rqs_cons RR.rq_int (RR.rqs_cons RR.rq_int RR.rqs_nil)) ?q46) (RR.rqs_cons (RR.rq_tup ?q47 ?q48 (RR.rqs_cons RR.rq_int (RR.rqs_cons RR.rq_int RR.rqs_nil)) ?q49) (RR.rqs_cons (RR.rq_tup ?q50 ?q51 (RR.rqs_cons RR.rq_int (RR.rqs_cons RR.rq_int RR.rqs_nil)) ?q52) (RR.rqs_cons (RR.rq_tup ?q53 ?q54 (RR.rqs_cons RR.rq_int (RR.rqs_cons RR.rq_int RR.rqs_nil)) ?q55) RR.rqs_nil)))))))) ?q31⟩ ⟨_, RR.dk_mk KX G ?q56 ?q57 ?q58 ?q59 ?q111⟩ (RR.ci_int KX G ?q112 ?q113) (RR.ci_int KX G ?q114 ?q115) (RR.ci_int KX G ?q116 ?q117) ⟨_, RR.ci_tup KX G ?q118 ?q119 ?q120 (RR.rqs_cons RR.rq_int (RR.rqs_cons RR.rq_int (RR.rqs_cons RR.rq_int (RR.rqs_cons RR.rq_int RR.rqs_nil)))) ?q121⟩ ⟨_, RR.ci_tup KX G ?q122 ?q123 ?q124 (RR.rqs_cons RR.rq_str (RR.rqs_cons RR.rq_str RR.rqs_nil)) ?q125⟩ ⟨_, RR.ci_tup KX G ?q126 ?q127 ?q128 (RR.rqs_cons RR.rq_str (RR.rqs_cons RR.rq_str (RR.rqs_cons RR.rq_str (RR.rqs_cons RR.rq_str RR.rqs_nil)))) ?q129⟩ (RR.ci_int KX G ?q130 ?q131) (RR.fd_mk (st := K66.topS 60) KX G ?q132 ?q133 ?q134 ?q135 (fun _ _ _ _ _ _ us hl => match us, hl with | [_], _ => rfl)) (RR.fd_mk (st := K66.topS 59) KX G ?q136 ?q137 ?q138 ?q139 (fun _ _ _ _ _ _ us hl => match us, hl with | [_, _], _ => rfl)) (RR.fd_mk (st := K66.topS 61) KX G ?q140 ?q141 ?q142 ?q143 (fun _ _ _ _ _ _ us hl => match us, hl with | [_, _], _ => rfl)) (RR.fd_mk (st := K66.topS 62) KX G ?q144 ?q145 ?q146 ?q147 (fun _ _ _ _ _ _ us hl => match us, hl with | [_, _], _ => rfl)) (RR.fd_mk (st := K66.topS 63) KX G ?q148 ?q149 ?q150 ?q151 (fun _ _ _ _ _ _ us hl => match us, hl with | [_, _, _], _ => rfl)) (RR.fd_mk (st := K66.topS 64) KX G ?q152 ?q153 ?q154 ?q155 (fun _ _ _ _ _ _ us hl => match us, hl with | [_, _, _], _ => rfl)) (RR.fd_mk (st := K66.topS 65) KX G ?q156 ?q157 ?q158 ?q159 (fun _ _ _ _ _ _ us hl => match us, hl with | [_, _, _], _ => rfl)) (RR.fd_mk (st := K66.topS 68) KX G ?q160 ?q161 ?q162 ?q163 (fun _ _ _ _ _ _ us hl => match us, hl with | [_, _, _, _], _ => rfl)) (RR.fd_mk (st := K66.topS 69) KX G ?q164 ?q165 ?q166 ?q167 (fun _ _ _ _ _ _ us hl => match us, hl with | [_, _, _], _ => rfl)) (RR.fd_mk (st := K66.topS 70) KX G ?q168 ?q169 ?q170 ?q171 (fun _ _ _ _ _ _ us hl => match us, hl with | [_, _, _], _ => rfl)) (RR.fd_mk (st := K66.topS 71) KX G ?q172 ?q173 ?q174 ?q175 (fun _ _ _ _ _ _ us hl => match us, hl with | [_, _], _ => rfl)) (RR.fd_mk (st := K66.topS 72) KX G ?q176 ?q177 ?q178 ?q179 (fun _ _ _ _ _ _ us hl => match us, hl with | [_, _, _], _ => rfl)) (RR.fd_mk (st := K66.topS 66) KX G ?q180 ?q181 ?q182 ?q183 (fun _ _ _ _ _ _ us hl => match us, hl with | [_], _ => rfl)) (RR.fd_mk (st := K66.topS 30) KX G ?q184 ?q185 ?q186 ?q187 (fun _ _ _ _ _ _ us hl => match us, hl with | [_], _ => rfl)) (RR.fd_mk (st := K66.topS 25) KX G ?q188 ?q189 ?q190 ?q191 (fun _ _ _ _ _ _ us hl => match us, hl with | [_], _ => rfl)) (RR.fd_mk (st := K66.topS 27) KX G ?q192 ?q193 ?q194 ?q195 (fun _ _ _ _ _ _ us hl => match us, hl with | [_], _ => rfl)) (RR.fd_mk (st := K66.topS 26) KX G ?q196 ?q197 ?q198 ?q199 (fun _ _ _ _ _ _ us hl => match us, hl with | [_], _ => rfl)) (RR.fd_mk (st := K66.topS 21) KX G ?q200 ?q201 ?q202 ?q203 (fun _ _ _ _ _ _ us hl => match us, hl with | [_, _, _], _ => rfl)) (RR.fd_mk (st := K66.topS 22) KX G ?q204 ?q205 ?q206 ?q207 (fun _ _ _ _ _ _ us hl => match us, hl with | [_, _], _ => rfl)) (RR.fd_mk (st := K66.topS 24) KX G ?q208 ?q209 ?q210 ?q211 (fun _ _ _ _ _ _ us hl => match us, hl with | [_], _ => rfl)) (RR.fd_mk (st := K66.topS 28) KX G ?q212 ?q213 ?q214 ?q215 (fun _ _ _ _ _ _ us hl => match us, hl with | [_], _ => rfl)) (RR.fd_mk (st := K66.topS 29) KX G ?q216 ?q217 ?q218 ?q219 (fun _ _ _ _ _ _ us hl => match us, hl with | [_], _ => rfl)) (RR.fd_mk (st := K66.topS 31) KX G ?q220 ?q221 ?q222 ?q223 (fun _ _ _ _ _ _ us hl => match us, hl with | [_], _ => rfl)) (RR.fd_mk (st := K66.topS 33) KX G ?q224 ?q225 ?q226 ?q227 (fun _ _ _ _ _ _ us hl => match us, hl with | [_], _ => rfl)) (RR.fd_mk (st := K66.topS 50) KX G ?q228 ?q229 ?q230 ?q231 (fun _ _ _ _ _ _ us hl => match us, hl with | [_, _], _ => rfl)) (RR.fd_mk (st := K66.topS 32) KX G ?q232 ?q233 ?q234 ?q235 (fun _ _ _ _ _ _ us hl => match us, hl with | [_, _, _], _ => rfl)) (RR.fd_mk (st := K66.topS 54) KX G ?q236 ?q237 ?q238 ?q239 (fun _ _ _ _ _ _ us hl => match us, hl with | [_, _], _ => rfl)) (RR.fd_mk (st := K66.topS 55) KX G ?q240 ?q241 ?q242 ?q243 (fun _ _ _ _ _ _ us hl => match us, hl with | [_, _], _ => rfl)) (RR.fd_mk (st := K66.topS 23) KX G ?q244 ?q245 ?q246 ?q247 (fun _ _ _ _ _ _ us hl => match us, hl with | [_], _ => rfl)) (RR.fd_mk (st := K66.topS 34) KX G ?q248 ?q249 ?q250 ?q251 (fun _ _ _ _ _ _ us hl => match us, hl with | [_], _ => rfl)) (RR.fd_mk (st := K66.topS 36) KX G ?q252 ?q253 ?q254 ?q255 (fun _ _ _ _ _ _ us hl => match us, hl with | [_, _, _, _], _ => rfl)) (RR.fd_mk (st := K66.topS 37) KX G ?q256 ?q257 ?q258 ?q259 (fun _ _ _ _ _ _ us hl => match us, hl with | [_, _, _], _ => rfl)) (RR.fd_mk (st := K66.topS 38) KX G ?q260 ?q261 ?q262 ?q263 (fun _ _ _ _ _ _ us hl => match us, hl with | [_, _, _], _ => rfl)) (RR.fd_mk (st := K66.topS 39) KX G ?q264 ?q265 ?q266 ?q267 (fun _ _ _ _ _ _ us hl => match us, hl with | [_, _, _], _ => rfl)) (RR.fd_mk (st := K66.topS 41) KX G ?q268 ?q269 ?q270 ?q271 (fun _ _ _ _ _ _ us hl => match us, hl with | [_, _], _ => rfl)) (RR.fd_mk (st := K66.topS 42) KX G ?q272 ?q273 ?q274 ?q275 (fun _ _ _ _ _ _ us hl => match us, hl with | [_, _], _ => rfl)) (RR.fd_mk (st := K66.topS 45) KX G ?q276 ?q277 ?q278 ?q279 (fun _ _ _ _ _ _ us hl => match us, hl with | [_, _, _], _ => rfl)) (RR.fd_mk (st := K66.topS 44) KX G ?q280 ?q281 ?q282 ?q283 (fun _ _ _ _ _ _ us hl => match us, hl with | [_], _ => rfl)) (RR.fd_mk (st := K66.topS 46) KX G ?q284 ?q285 ?q286 ?q287 (fun _ _ _ _ _ _ us hl => match us, hl with | [_, _], _ => rfl)) (RR.fd_mk (st := K66.topS 47) KX G ?q288 ?q289 ?q290 ?q291 (fun _ _ _ _ _ _ us hl => match us, hl with | [_, _], _ => rfl)) (RR.fd_mk (st := K66.topS 48) KX G ?q292 ?q293 ?q294 ?q295 (fun _ _ _ _ _ _ us hl => match us, hl with | [_, _], _ => rfl)) (RR.fd_mk (st := K66.topS 51) KX G ?q296 ?q297 ?q298 ?q299 (fun _ _ _ _ _ _ us hl => match us, hl with | [_, _], _ => rfl)) (RR.fd_mk (st := K66.topS 56) KX G ?q300 ?q301 ?q302 ?q303 (fun _ _ _ _ _ _ us hl => match us, hl with | [_, _, _], _ => rfl)) (RR.fd_mk (st := K66.topS 57) KX G ?q304 ?q305 ?q306 ?q307 (fun _ _ _ _ _ _ us hl => match us, hl with | [_, _, _], _ => rfl)) (RR.fd_mk (st := K66.topS 73) KX G ?q308 ?q309 ?q310 ?q311 (fun _ _ _ _ _ _ us hl => match us, hl with | [_], _ => rfl))) RC.law66 FF)
    (case la => k_is)
    (case ll => k_is)
    (case lc => k_is)
    (case lk => k_is)
    (case lb => exact fun _ _ => PySem.BindsTo.of_eq rfl)
    (case q1 => k_is)
    (case q2 => k_is)
    (case q3 => k_is)
    (case q4 => k_is)
    (case q5 => k_is)
    (case q6 => k_is)
    (case q7 => k_is)
    (case q8 => k_is)
    (case q9 => k_is)
    (case q10 => k_is)
    (case q11 => k_is)
    (case q12 => k_is)
    (case q13 => k_is)
    (case q14 => k_is)
    (case q15 => k_is)
    (case q16 => k_is)
    (case q17 => exact ⟨_, rfl⟩)
    (case q18 => k_is)
    (case q19 => exact ⟨_, rfl⟩)
    (case q20 => k_is)
    (case q21 => exact ⟨_, rfl⟩)
    (case q22 => k_is)
    (case q23 => exact ⟨_, rfl⟩)
    (case q24 => k_is)
    (case q25 => exact ⟨_, rfl⟩)
    (case q26 => k_is)
    (case q27 => exact ⟨_, rfl⟩)
    (case q28 => k_is)
    (case q29 => k_is)
    (case q30 => decide)
    (case q31 => exact (.cons rfl (.cons rfl (.cons rfl (.cons rfl (.cons rfl (.cons rfl (.cons rfl (.cons rfl .nil)))))))))
    (case q32 => k_is)
    (case q33 => decide)
    (case q34 => exact (.cons ⟨_, rfl⟩ (.cons ⟨_, rfl⟩ .nil)))
    (case q35 => k_is)
    (case q36 => decide)
    (case q37 => exact (.cons ⟨_, rfl⟩ (.cons ⟨_, rfl⟩ .nil)))
    (case q38 => k_is)
    (case q39 => decide)
    (case q40 => exact (.cons ⟨_, rfl⟩ (.cons ⟨_, rfl⟩ .nil)))
    (case q41 => k_is)
    (case q42 => decide)
    (case q43 => exact (.cons ⟨_, rfl⟩ (.cons ⟨_, rfl⟩ .nil)))
    (case q44 => k_is)
    (case q45 => decide)
    (case q46 => exact (.cons ⟨_, rfl⟩ (.cons ⟨_, rfl⟩ .nil)))
    (case q47 => k_is)
    (case q48 => decide)
    (case q49 => exact (.cons ⟨_, rfl⟩ (.cons ⟨_, rfl⟩ .nil)))
    (case q50 => k_is)
    (case q51 => decide)
    (case q52 => exact (.cons ⟨_, rfl⟩ (.cons ⟨_, rfl⟩ .nil)))
    (case q53 => k_is)
    (case q54 => decide)
    (case q55 => exact (.cons ⟨_, rfl⟩ (.cons ⟨_, rfl⟩ .nil)))
    (case q56 => k_is)
    (case q57 => k_is)
    (case q58 => k_keys)
    (case q59 => decide)
    (case q111 => (refine' (.cons (v := L2.V.ref _) rfl (RR.rq_tup ?q60 ?q61 (RR.rqs_cons (RR.rq_tup ?q63 ?q64 (RR.rqs_cons RR.rq_int (RR.rqs_cons RR.rq_int RR.rqs_nil)) ?q65) (RR.rqs_cons (RR.rq_tup ?q66 ?q67 (RR.rqs_cons RR.rq_int (RR.rqs_cons RR.rq_int RR.rqs_nil)) ?q68) RR.rqs_nil)) ?q62) (.cons (v := L2.V.ref _) rfl (RR.rq_tup ?q69 ?q70 (RR.rqs_cons (RR.rq_tup ?q72 ?q73 (RR.rqs_cons RR.rq_int (RR.rqs_cons RR.rq_int RR.rqs_nil)) ?q74) RR.rqs_nil) ?q71) (.cons (v := L2.V.ref _) rfl (RR.rq_tup ?q75 ?q76 (RR.rqs_cons (RR.rq_tup ?q78 ?q79 (RR.rqs_cons RR.rq_int (RR.rqs_cons RR.rq_int RR.rqs_nil)) ?q80) RR.rqs_nil) ?q77) (.cons (v := L2.V.ref _) rfl (RR.rq_tup ?q81 ?q82 (RR.rqs_cons (RR.rq_tup ?q84 ?q85 (RR.rqs_cons RR.rq_int (RR.rqs_cons RR.rq_int RR.rqs_nil)) ?q86) RR.rqs_nil) ?q83) (.cons (v := L2.V.ref _) rfl (RR.rq_tup ?q87 ?q88 (RR.rqs_cons (RR.rq_tup ?q90 ?q91 (RR.rqs_cons RR.rq_int (RR.rqs_cons RR.rq_int RR.rqs_nil)) ?q92) RR.rqs_nil) ?q89) (.cons (v := L2.V.ref _) rfl (RR.rq_tup ?q93 ?q94 (RR.rqs_cons (RR.rq_tup ?q96 ?q97 (RR.rqs_cons RR.rq_int (RR.rqs_cons RR.rq_int RR.rqs_nil)) ?q98) RR.rqs_nil) ?q95) (.cons (v := L2.V.ref _) rfl (RR.rq_tup ?q99 ?q100 (RR.rqs_cons (RR.rq_tup ?q102 ?q103 (RR.rqs_cons RR.rq_int (RR.rqs_cons RR.rq_int RR.rqs_nil)) ?q104) RR.rqs_nil) ?q101) (.cons (v := L2.V.ref _) rfl (RR.rq_tup ?q105 ?q106 (RR.rqs_cons (RR.rq_tup ?q108 ?q109 (RR.rqs_cons RR.rq_int (RR.rqs_cons RR.rq_int RR.rqs_nil)) ?q110) RR.rqs_nil) ?q107) .nil)))))))); (case q60 => k_is); (case q61 => decide); (case q62 => exact (.cons rfl (.cons rfl .nil))); (case q63 => k_is); (case q64 => decide); (case q65 => exact (.cons ⟨_, rfl⟩ (.cons ⟨_, rfl⟩ .nil))); (case q66 => k_is); (case q67 => decide); (case q68 => exact (.cons ⟨_, rfl⟩ (.cons ⟨_, rfl⟩ .nil))); (case q69 => k_is); (case q70 => decide); (case q71 => exact (.cons rfl .nil)); (case q72 => k_is); (case q73 => decide); (case q74 => exact (.cons ⟨_, rfl⟩ (.cons ⟨_, rfl⟩ .nil))); (case q75 => k_is); (case q76 => decide); (case q77 => exact (.cons rfl .nil)); (case q78 => k_is); (case q79 => decide); (case q80 => exact (.cons ⟨_, rfl⟩ (.cons ⟨_, rfl⟩ .nil))); (case q81 => k_is); (case q82 => decide); (case q83 => exact (.cons rfl .nil)); (case q84 => k_is); (case q85 => decide); (case q86 => exact (.cons ⟨_, rfl⟩ (.cons ⟨_, rfl⟩ .nil))); (case q87 => k_is); (case q88 => decide); (case q89 => exact (.cons rfl .nil)); (case q90 => k_is); (case q91 => decide); (case q92 => exact (.cons ⟨_, rfl⟩ (.cons ⟨_, rfl⟩ .nil))); (case q93 => k_is); (case q94 => decide); (case q95 => exact (.cons rfl .nil)); (case q96 => k_is); (case q97 => decide); (case q98 => exact (.cons ⟨_, rfl⟩ (.cons ⟨_, rfl⟩ .nil))); (case q99 => k_is); (case q100 => decide); (case q101 => exact (.cons rfl .nil)); (case q102 => k_is); (case q103 => decide); (case q104 => exact (.cons ⟨_, rfl⟩ (.cons ⟨_, rfl⟩ .nil))); (case q105 => k_is); (case q106 => decide); (case q107 => exact (.cons rfl .nil)); (case q108 => k_is); (case q109 => decide); (case q110 => exact (.cons ⟨_, rfl⟩ (.cons ⟨_, rfl⟩ .nil)))))
    (case q112 => k_is)
    (case q113 => exact ⟨_, rfl⟩)
    (case q114 => k_is)
    (case q115 => exact ⟨_, rfl⟩)
    (case q116 => k_is)
    (case q117 => exact ⟨_, rfl⟩)
    (case q118 => k_is)
    (case q119 => k_is)
    (case q120 => decide)
    (case q121 => exact (.cons ⟨_, rfl⟩ (.cons ⟨_, rfl⟩ (.cons ⟨_, rfl⟩ (.cons ⟨_, rfl⟩ .nil)))))
    (case q122 => k_is)
    (case q123 => k_is)
    (case q124 => decide)
    (case q125 => exact (.cons ⟨_, rfl⟩ (.cons ⟨_, rfl⟩ .nil)))
    (case q126 => k_is)
    (case q127 => k_is)
    (case q128 => decide)
    (case q129 => exact (.cons ⟨_, rfl⟩ (.cons ⟨_, rfl⟩ (.cons ⟨_, rfl⟩ (.cons ⟨_, rfl⟩ .nil)))))
    (case q130 => k_is)
    (case q131 => exact ⟨_, rfl⟩)
    (case q132 => k_is)
    (case q133 => k_is)
    (case q134 => k_is)
    (case q135 => k_is)
    (case q136 => k_is)
    (case q137 => k_is)
    (case q138 => k_is)
    (case q139 => k_is)
    (case q140 => k_is)
    (case q141 => k_is)
    (case q142 => k_is)
    (case q143 => k_is)
    (case q144 => k_is)
    (case q145 => k_is)
    (case q146 => k_is)
    (case q147 => k_is)
    (case q148 => k_is)
    (case q149 => k_is)
    (case q150 => k_is)
    (case q151 => k_is)
    (case q152 => k_is)
    (case q153 => k_is)
    (case q154 => k_is)
    (case q155 => k_is)
    (case q156 => k_is)
    (case q157 => k_is)
    (case q158 => k_is)
    (case q159 => k_is)
    (case q160 => k_is)
    (case q161 => k_is)
    (case q162 => k_is)
    (case q163 => k_is)
    (case q164 => k_is)
    (case q165 => k_is)
    (case q166 => k_is)
    (case q167 => k_is)
    (case q168 => k_is)
    (case q169 => k_is)
    (case q170 => k_is)
    (case q171 => k_is)
    (case q172 => k_is)
    (case q173 => k_is)
    (case q174 => k_is)
    (case q175 => k_is)
    (case q176 => k_is)
    (case q177 => k_is)
    (case q178 => k_is)
    (case q179 => k_is)
    (case q180 => k_is)
    (case q181 => k_is)
    (case q182 => k_is)
    (case q183 => k_is)
    (case q184 => k_is)
    (case q185 => k_is)
    (case q186 => k_is)
    (case q187 => k_is)
    (case q188 => k_is)
    (case q189 => k_is)
    (case q190 => k_is)
    (case q191 => k_is)
    (case q192 => k_is)
    (case q193 => k_is)
    (case q194 => k_is)
    (case q195 => k_is)
    (case q196 => k_is)
    (case q197 => k_is)
    (case q198 => k_is)
    (case q199 => k_is)
    (case q200 => k_is)
    (case q201 => k_is)
    (case q202 => k_is)
    (case q203 => k_is)
    (case q204 => k_is)
    (case q205 => k_is)
    (case q206 => k_is)
    (case q207 => k_is)
    (case q208 => k_is)
    (case q209 => k_is)
    (case q210 => k_is)
    (case q211 => k_is)
    (case q212 => k_is)
    (case q213 => k_is)
    (case q214 => k_is)
    (case q215 => k_is)
    (case q216 => k_is)
    (case q217 => k_is)
    (case q218 => k_is)
    (case q219 => k_is)
    (case q220 => k_is)
    (case q221 => k_is)
    (case q222 => k_is)
    (case q223 => k_is)
    (case q224 => k_is)
    (case q225 => k_is)
    (case q226 => k_is)
    (case q227 => k_is)
    (case q228 => k_is)
    (case q229 => k_is)
    (case q230 => k_is)
    (case q231 => k_is)
    (case q232 => k_is)
    (case q233 => k_is)
    (case q234 => k_is)
    (case q235 => k_is)
    (case q236 => k_is)
    (case q237 => k_is)
    (case q238 => k_is)
    (case q239 => k_is)
    (case q240 => k_is)
    (case q241 => k_is)
    (case q242 => k_is)
    (case q243 => k_is)
    (case q244 => k_is)
    (case q245 => k_is)
    (case q246 => k_is)
    (case q247 => k_is)
    (case q248 => k_is)
    (case q249 => k_is)
    (case q250 => k_is)
    (case q251 => k_is)
    (case q252 => k_is)
    (case q253 => k_is)
    (case q254 => k_is)
    (case q255 => k_is)
    (case q256 => k_is)
    (case q257 => k_is)
    (case q258 => k_is)
    (case q259 => k_is)
    (case q260 => k_is)
    (case q261 => k_is)
    (case q262 => k_is)
    (case q263 => k_is)
    (case q264 => k_is)
    (case q265 => k_is)
    (case q266 => k_is)
    (case q267 => k_is)
    (case q268 => k_is)
    (case q269 => k_is)
    (case q270 => k_is)
    (case q271 => k_is)
    (case q272 => k_is)
    (case q273 => k_is)
    (case q274 => k_is)
    (case q275 => k_is)
    (case q276 => k_is)
    (case q277 => k_is)
    (case q278 => k_is)
    (case q279 => k_is)
    (case q280 => k_is)
    (case q281 => k_is)
    (case q282 => k_is)
    (case q283 => k_is)
    (case q284 => k_is)
    (case q285 => k_is)
    (case q286 => k_is)
    (case q287 => k_is)
    (case q288 => k_is)
    (case q289 => k_is)
    (case q290 => k_is)
    (case q291 => k_is)
    (case q292 => k_is)
    (case q293 => k_is)
    (case q294 => k_is)
    (case q295 => k_is)
    (case q296 => k_is)
    (case q297 => k_is)
    (case q298 => k_is)
    (case q299 => k_is)
    (case q300 => k_is)
    (case q301 => k_is)
    (case q302 => k_is)
    (case q303 => k_is)
    (case q304 => k_is)
    (case q305 => k_is)
    (case q306 => k_is)
    (case q307 => k_is)
    (case q308 => k_is)
    (case q309 => k_is)
    (case q310 => k_is)
    (case q311 => k_is)
end
