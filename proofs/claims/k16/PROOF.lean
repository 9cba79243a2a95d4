import PyProof.Rows.All
import HandS.ForMost
import HandS.TupAny
import HandS.IsInst
import HandS.Deep
import HandS.Zip
import HandS.Lambda
import KE.GoesMore
import KE.GoesEnum
import HandS.Style
import HandS.More
import KE.DataMinMax
import HandS.DictComp
import HandS.SortInts
import KE.SortData
import KE.DataFind
import KE.KDictCopyH
import KE.KDictSum
import HandS.ExcValue
import KE.DataCmp
import HandS.ExcOwn
import HandS.ExcIs
import HandS.RepeatKit
import HandS.Iter
import PyProof.Rows.SortShell
import HandS.TupMul
import KE.GoesSet
import HandS.Strs
import KE.KEqDict
import HandS.RaiseMore
import HandS.FStr
import HandS.TupSets
import HandS.Conv
import KE.GoesZip
import HandS.ReCall
import PyProof.DictUpdate
import PyProof.EqAt
import HandS.Steps
import HandS.ListItems
import HandS.DictTup
import KE.KDictList
import KE.KSortTup
import KE.SortCalls
import HandS.SetFor
import KE.LtData
import KE.DatumOrd
import PySem.Challenge.RW_reachrows_k16_runs_alike_on_ranges
set_option Elab.async false
set_option linter.all false
set_option maxRecDepth 100000
set_option maxHeartbeats 4000000
section
namespace RR
open PySem PySem.Spec L2
open PyProof.Rows hiding St
abbrev D := PyData
abbrev DEnv := List (Option D)
def keyD : Key → D
  | .inl i => .int i
  | .inr x => .str x
/-- what stands for a datum, all of it in F -/
inductive Rp (K : PySem.W.Frag) (F : Hp) : D → V → Prop
  | non : Rp K F .none .non
  | bl (b : Bool) : Rp K F (.bool b) (.bl b)
  | int (i : Int) : Rp K F (.int i) (.int i)
  | str (x : Str) : Rp K F (.str x) (.str x)
  | lst {a : Addr} {xs : List V} {ds : List D} : F a = some (.lst xs) → xs.length = ds.length → (∀ (i : Nat) x d, xs[i]? = some x → ds[i]? = some d → Rp K F d x) → Rp K F (.list ds) (.ref a)
  | tup {a : Addr} {xs : List V} {ds : List D} : SqT K F a xs → xs.length = ds.length → (∀ (i : Nat) x d, xs[i]? = some x → ds[i]? = some d → Rp K F d x) → Rp K F (.tuple ds) (.ref a)
  | dct {a : Addr} {kvs : List (Key × V)} {ds : List (D × D)} : Rd F a (.dK kvs) → ds.map (·.1) = kvs.map (fun p => keyD p.1) → (∀ (i : Nat) x d, kvs[i]? = some x → ds[i]? = some d → Rp K F d.2 x.2) → Rp K F (.dict ds) (.ref a)
/-- the same of lists, one by one -/
structure Rps (K : PySem.W.Frag) (F : Hp) (ds : List D) (xs : List V) : Prop where
  len : xs.length = ds.length
  at_ : ∀ (i : Nat) x d, xs[i]? = some x → ds[i]? = some d → Rp K F d x
section
variable {K : PySem.W.Frag} {F F' H H' : Hp} {d : D} {v : V}
theorem Same.sqt {a : Addr} {xs : List V} (e : Same F F') (h : SqT K F a xs) : SqT K F' a xs := by
  rcases h with (h | ⟨o, h⟩) | h
  · exact .inl (.inl (e _ _ h))
  · exact .inl (.inr ⟨o, e _ _ h⟩)
  · exact .inr h
theorem Same.rd {a : Addr} {u : HO} (e : Same F F') (h : Rd F a u) : Rd F' a u := by
  rcases h with h | ⟨o, h⟩
  · exact .inl (e _ _ h)
  · exact .inr ⟨o, e _ _ h⟩
theorem Rp.mono (h : Rp K F d v) (e : Same F F') : Rp K F' d v := by
  induction h with
  | non => exact .non
  | bl b => exact .bl b
  | int i => exact .int i
  | str x => exact .str x
  | lst h1 h2 _ ih => exact .lst (e _ _ h1) h2 ih
  | tup h1 h2 _ ih => exact .tup (Same.sqt e h1) h2 ih
  | dct h1 h2 _ ih => exact .dct (Same.rd e h1) h2 ih
theorem Rps.mono {ds : List D} {xs : List V} (h : Rps K F ds xs) (e : Same F F') : Rps K F' ds xs := ⟨h.len, fun i x d a b => (h.at_ i x d a b).mono e⟩
theorem Rps.nil : Rps K F [] [] := ⟨rfl, fun i x d a => by simp at a⟩
theorem Rps.cons {ds : List D} {xs : List V} (h : Rp K F d v) (t : Rps K F ds xs) : Rps K F (d :: ds) (v :: xs) := by
  refine ⟨by simp [t.len], fun i x d' a b => ?_⟩
  cases i with
  | zero =>
    simp at a b
    subst a b
    exact h
  | succ i =>
    simp at a b
    exact t.at_ i x d' a b
theorem Rps.uncons {ds : List D} {xs : List V} (h : Rps K F (d :: ds) xs) : ∃ v r, xs = v :: r ∧ Rp K F d v ∧ Rps K F ds r := by
  cases xs with
  | nil => have := h.len; simp at this
  | cons v r =>
    refine ⟨v, r, rfl, h.at_ 0 v d rfl rfl, ?_, fun i x d' a b => h.at_ (i + 1) x d' (by simpa using a) (by simpa using b)⟩
    have := h.len
    simpa using this
theorem Rps.unnil {xs : List V} (h : Rps K F [] xs) : xs = [] := List.length_eq_zero_iff.mp h.len
theorem Rps.append {ds es : List D} {xs ys : List V} (h : Rps K F ds xs) (t : Rps K F es ys) : Rps K F (ds ++ es) (xs ++ ys) := by
  induction ds generalizing xs with
  | nil => rw [h.unnil]; exact t
  | cons d ds ih =>
    obtain ⟨v, r, rfl, h1, h2⟩ := h.uncons
    exact .cons h1 (ih h2)
theorem Rps.get {ds : List D} {xs : List V} (h : Rps K F ds xs) {i : Nat} (e : ds[i]? = some d) : ∃ v, xs[i]? = some v ∧ Rp K F d v := by
  have hi : i < xs.length := by rw [h.len]; exact (List.getElem?_eq_some_iff.mp e).1
  exact ⟨xs[i], by simp [hi], h.at_ i _ d (by simp [hi]) e⟩
theorem Rps.set {ds : List D} {xs : List V} (h : Rps K F ds xs) (i : Nat) (r : Rp K F d v) : Rps K F (ds.set i d) (xs.set i v) := by
  refine ⟨by simp [h.len], fun j x d' a b => ?_⟩
  by_cases e : i = j
  · subst e
    rw [List.getElem?_set] at a b
    simp at a b
    obtain ⟨_, rfl⟩ := a
    obtain ⟨_, rfl⟩ := b
    exact r
  · rw [List.getElem?_set_ne e] at a b
    exact h.at_ j x d' a b
theorem Rps.take {ds : List D} {xs : List V} (h : Rps K F ds xs) (n : Nat) : Rps K F (ds.take n) (xs.take n) := by
  refine ⟨by simp [h.len], fun j x d' a b => ?_⟩
  rw [List.getElem?_take] at a b
  split at a
  · rename_i hj
    rw [if_pos hj] at b
    exact h.at_ j x d' a b
  · cases a
theorem Rps.drop {ds : List D} {xs : List V} (h : Rps K F ds xs) (n : Nat) : Rps K F (ds.drop n) (xs.drop n) := by
  refine ⟨by simp [h.len], fun j x d' a b => ?_⟩
  rw [List.getElem?_drop] at a b
  exact h.at_ _ x d' a b
theorem Rps.reverse {ds : List D} {xs : List V} (h : Rps K F ds xs) : Rps K F ds.reverse xs.reverse := by
  induction ds generalizing xs with
  | nil => rw [h.unnil]; exact .nil
  | cons d ds ih =>
    obtain ⟨v, r, rfl, h1, h2⟩ := h.uncons
    rw [List.reverse_cons, List.reverse_cons]
    exact (ih h2).append (.cons h1 .nil)
theorem Rp.int_inv {i : Int} (h : Rp K F (.int i) v) : v = .int i := by cases h; rfl
theorem Rp.bl_inv {b : Bool} (h : Rp K F (.bool b) v) : v = .bl b := by cases h; rfl
theorem Rp.str_inv {x : Str} (h : Rp K F (.str x) v) : v = .str x := by cases h; rfl
theorem Rp.non_inv (h : Rp K F .none v) : v = .non := by cases h; rfl
theorem Rp.lst_inv {ds : List D} (h : Rp K F (.list ds) v) : ∃ a xs, v = .ref a ∧ F a = some (.lst xs) ∧ Rps K F ds xs := by
  cases h with
  | lst h1 h2 h3 => exact ⟨_, _, rfl, h1, h2, h3⟩
theorem Rp.tup_inv {ds : List D} (h : Rp K F (.tuple ds) v) : ∃ a xs, v = .ref a ∧ SqT K F a xs ∧ Rps K F ds xs := by
  cases h with
  | tup h1 h2 h3 => exact ⟨_, _, rfl, h1, h2, h3⟩
theorem Rp.of_lst {ds : List D} {a : Addr} {xs : List V} (h : F a = some (.lst xs)) (r : Rps K F ds xs) : Rp K F (.list ds) (.ref a) := .lst h r.len r.at_
theorem Rp.of_tup {ds : List D} {a : Addr} {xs : List V} (h : SqT K F a xs) (r : Rps K F ds xs) : Rp K F (.tuple ds) (.ref a) := .tup h r.len r.at_
end
/-- new things alone -/
structure Gr (F H F' H' : Hp) : Prop where
  f : Same F F'
  fh : Same F' H'
  h : Same H H'
  new : ∀ a o, F' a = some o → F a = some o ∨ H a = none
theorem Gr.refl {F H : Hp} (h : Same F H) : Gr F H F H := ⟨.refl _, h, .refl _, fun _ _ e => .inl e⟩
theorem Gr.trans {F H F1 H1 F2 H2 : Hp} (a : Gr F H F1 H1) (b : Gr F1 H1 F2 H2) : Gr F H F2 H2 := by
  refine ⟨a.f.trans b.f, b.fh, a.h.trans b.h, fun p o e => ?_⟩
  rcases b.new p o e with q | q
  · exact a.new p o q
  · exact .inr (a.h.free q)
theorem same_up {H : Hp} {p : Addr} {o : HO} (h : H p = none) : Same H (upd H p o) := fun b x e => by
  rw [upd_ne (ne_of_none e h)]
  exact e
/-- a new object, frozen at once -/
theorem Gr.new1 {F H : Hp} {p : Addr} (h : Same F H) (n : H p = none) (o : HO) : Gr F H (upd F p o) (upd H p o) := by
  refine ⟨same_up (h.free n), fun b x e => ?_, same_up n, fun b x e => ?_⟩
  · by_cases hb : b = p
    · subst hb; rw [upd_same] at e ⊢; exact e
    · rw [upd_ne hb] at e ⊢; exact h _ _ e
  · by_cases hb : b = p
    · subst hb; exact .inr n
    · rw [upd_ne hb] at e; exact .inl e
/-- a new object, not frozen -/
theorem Gr.new0 {F H : Hp} {p : Addr} (h : Same F H) (n : H p = none) (o : HO) : Gr F H F (upd H p o) :=
  ⟨.refl _, h.trans (same_up n), same_up n, fun _ _ e => .inl e⟩
/-- the drawing list: its drawn cells, how many were spread, what is left -/
def PenAt (dr : Addr) (F H : Hp) (a : Addr) (n : Nat) : Prop := ∃ (w l : Int) (xs : List Int), H a = some (.lst [.ref dr, .int w, .int l]) ∧ F dr = some (.lst (xs.map V.int)) ∧ 0 ≤ w ∧ w ≤ n ∧ 0 ≤ l
/-- the list of drawn cells; the tables of code objects, each with its lambdas' name -/
structure DrT where
  ad : Addr
  tb : List (Addr × Str)
instance {n : Nat} : OfNat DrT n := ⟨⟨n, []⟩⟩
structure Pm where
  K : PySem.W.Frag
  /-- the drawing list's address and slot -/
  ap : Option (Addr × Nat)
  /-- the list of its drawn cells -/
  dr : DrT
/-- what may change: the drawing list, the tables -/
def Pm.isPen (p : Pm) (a : Addr) : Prop := ∃ b i, p.ap = some (b, i) ∧ (a = b ∨ ∃ q ∈ p.dr.tb, q.1 = a)
/-- the tables: each code object that they tell is frozen and bears the name -/
def TabF (T : List (Addr × Str)) (F H : Hp) : Prop := ∀ q ∈ T, F q.1 = none ∧ ∃ ps : Array Value, H q.1 = some (.tbl ps) ∧ TriplesOk ps.toList ∧ ∀ (pos : Pos) (cv : Value), codeAmong pos ps.toList = some cv → ∃ c, cv = .ref c ∧ F c = some (LamX.CodeO c q.2)
theorem TabF.nil {F H : Hp} : TabF [] F H := fun _ h => nomatch h
theorem TabF.up {T : List (Addr × Str)} {F H F' H' : Hp} (t : TabF T F H) (ff : Same F F') (fn : ∀ q ∈ T, F' q.1 = none) (hh : ∀ q ∈ T, ∀ o, H q.1 = some o → H' q.1 = some o) : TabF T F' H' := fun q hq => by
  obtain ⟨_, ps, e, t3, c⟩ := t q hq
  refine ⟨fn q hq, ps, hh q hq _ e, t3, fun pos cv h => ?_⟩
  obtain ⟨c, e1, e2⟩ := c pos cv h
  exact ⟨c, e1, ff _ _ e2⟩
/-- a local's own list or dict: nobody else knows it -/
inductive Own (K : PySem.W.Frag) (F H : Hp) : D → Addr → Prop
  | lst {a : Addr} {xs : List V} {ds : List D} : H a = some (.lst xs) → Rps K F ds xs → Own K F H (.list ds) a
  | dct {a : Addr} {kvs : List (Key × V)} {ds : List (D × D)} : H a = some (.dK kvs) → ds.map (·.1) = kvs.map (fun p => keyD p.1) → (∀ (i : Nat) x d, kvs[i]? = some x → ds[i]? = some d → Rp K F d.2 x.2) → Own K F H (.dict ds) a
/-- F: what stands frozen; O: the slots that hold things of their own; F0, H0: at the def's entry -/
structure Sep (p : Pm) (F0 H0 : Hp) (O : List Nat) (F H : Hp) (σ : St) (Γ : DEnv) (n : Nat) : Prop where
  f0 : Same F0 F
  fh : Same F H
  stay : ∀ a o, H0 a = some o → ¬ p.isPen a → H a = some o
  newF : ∀ a o, F a = some o → F0 a = some o ∨ H0 a = none
  pen : ∀ a i, p.ap = some (a, i) → F a = none ∧ σ[i]? = some (some (.ref a)) ∧ PenAt p.dr.ad F H a n ∧ TabF p.dr.tb F H
  len : σ.length = Γ.length
  sh : ∀ i d, i ∉ O → Γ[i]? = some (some d) → ∃ v, σ[i]? = some (some v) ∧ Rp p.K F d v
  ow : ∀ i ∈ O, ∀ d, Γ[i]? = some (some d) → ∃ a, σ[i]? = some (some (.ref a)) ∧ Own p.K F H d a ∧ F a = none ∧ H0 a = none ∧ ¬ p.isPen a
  dj : ∀ i ∈ O, ∀ j ∈ O, i ≠ j → ∀ a di dj, Γ[i]? = some (some di) → Γ[j]? = some (some dj) → σ[i]? = some (some (.ref a)) → σ[j]? = some (some (.ref a)) → False
section
variable {p : Pm} {F0 H0 F H F' H' : Hp} {O O' : List Nat} {σ : St} {Γ : DEnv} {n : Nat}
theorem Own.gr {K : PySem.W.Frag} {d : D} {a : Addr} (h : Own K F H d a) (g : Gr F H F' H') : Own K F' H' d a := by
  cases h with
  | lst e r => exact .lst (g.h _ _ e) (r.mono g.f)
  | dct e q r => exact .dct (g.h _ _ e) q fun i x d a b => (r i x d a b).mono g.f
theorem Own.notCode {K : PySem.W.Frag} {d : D} {a : Addr} {o : HO} {q : Str} (h : Own K F H d a) (e : H a = some o) : ∀ c : Addr, o = LamX.CodeO c q → False := fun c z => by
  subst z
  unfold LamX.CodeO at e
  cases h with
  | lst e1 _ => rw [e] at e1; cases e1
  | dct e1 _ _ => rw [e] at e1; cases e1
theorem Own.at {K : PySem.W.Frag} {d : D} {a : Addr} (h : Own K F H d a) : ∃ o, H a = some o := by
  cases h with
  | lst e r => exact ⟨_, e⟩
  | dct e q r => exact ⟨_, e⟩
theorem PenAt.at {a dr : Addr} (h : PenAt dr F H a n) : ∃ o, H a = some o := by
  obtain ⟨_, _, _, e, _⟩ := h
  exact ⟨_, e⟩
theorem PenAt.gr {a dr : Addr} (h : PenAt dr F H a n) (g : Gr F H F' H') : PenAt dr F' H' a n := by
  obtain ⟨w, l, xs, e, q, r⟩ := h
  exact ⟨w, l, xs, g.h _ _ e, g.f _ _ q, r⟩
theorem Gr.none {a : Addr} (g : Gr F H F' H') (h : F a = none) (e : ∃ o, H a = some o) : F' a = none := by
  cases q : F' a with
  | none => rfl
  | some o =>
    obtain ⟨u, e⟩ := e
    rcases g.new a o q with z | z
    · rw [h] at z; cases z
    · rw [e] at z; cases z
theorem Sep.gr (s : Sep p F0 H0 O F H σ Γ n) (g : Gr F H F' H') : Sep p F0 H0 O F' H' σ Γ n where
  f0 := s.f0.trans g.f
  fh := g.fh
  stay := fun a o e q => g.h _ _ (s.stay a o e q)
  newF := fun a o e => by
    rcases g.new a o e with z | z
    · exact s.newF a o z
    · cases q : H0 a with
      | none => exact .inr rfl
      | some u =>
        by_cases hp : p.isPen a
        · obtain ⟨b, i, hp, rfl | ⟨qt, hq, rfl⟩⟩ := hp
          · obtain ⟨x, e1⟩ := (s.pen _ i hp).2.2.1.at
            rw [e1] at z; cases z
          · obtain ⟨_, ps, e1, _⟩ := (s.pen b i hp).2.2.2 qt hq
            rw [e1] at z; cases z
        · have := s.stay a u q hp
          rw [this] at z; cases z
  pen := fun a i e => let ⟨h1, h2, h3⟩ := s.pen a i e; ⟨g.none h1 h3.1.at, h2, h3.1.gr g, h3.2.up g.f (fun q hq => g.none (h3.2 q hq).1 (let ⟨_, ps, e, _⟩ := h3.2 q hq; ⟨_, e⟩)) (fun q _ o e => g.h _ _ e)⟩
  len := s.len
  sh := fun i d h e => let ⟨v, e1, r⟩ := s.sh i d h e; ⟨v, e1, r.mono g.f⟩
  ow := fun i hi d e => let ⟨a, e1, o, f, h, q⟩ := s.ow i hi d e; ⟨a, e1, o.gr g, g.none f o.at, h, q⟩
  dj := s.dj
end
/-- what an expression may do: new things, and draws -/
structure Gp (p : Pm) (F H F' H' : Hp) : Prop where
  f : Same F F'
  h : ∀ a o, H a = some o → ¬ p.isPen a → H' a = some o
  new : ∀ a o, F' a = some o → F a = some o ∨ H a = none ∨ p.isPen a
theorem Gp.refl {p : Pm} {F H : Hp} : Gp p F H F H := ⟨.refl _, fun _ _ e _ => e, fun _ _ e => .inl e⟩
theorem Gp.trans {p : Pm} {F H F1 H1 F2 H2 : Hp} (a : Gp p F H F1 H1) (b : Gp p F1 H1 F2 H2) : Gp p F H F2 H2 := by
  refine ⟨a.f.trans b.f, fun q o e hp => b.h q o (a.h q o e hp) hp, fun q o e => ?_⟩
  rcases b.new q o e with z | z | z
  · exact a.new q o z
  · by_cases hp : p.isPen q
    · exact .inr (.inr hp)
    · cases w : H q with
      | none => exact .inr (.inl rfl)
      | some u =>
        rw [a.h q u w hp] at z
        cases z
  · exact .inr (.inr z)
theorem Gr.gp {p : Pm} {F H F' H' : Hp} (g : Gr F H F' H') : Gp p F H F' H' := ⟨g.f, fun a o e _ => g.h a o e, fun a o e => (g.new a o e).elim .inl fun z => .inr (.inl z)⟩
abbrev ME := DEnv → Nat → (D → Nat → Prop) → Prop
abbrev MT := DEnv → Nat → (Bool → Nat → Prop) → Prop
abbrev MA := DEnv → Nat → (List D → Nat → Prop) → Prop
abbrev MF := List D → Nat → (D → Nat → Prop) → Prop
structure EndsD where
  nx : DEnv → Nat → Prop
  rt : D → Nat → Prop
  bk : DEnv → Nat → Prop := fun _ _ => False
  ct : DEnv → Nat → Prop := fun _ _ => False
abbrev MS := EndsD → DEnv → Nat → Prop
abbrev MG := D → DEnv → (DEnv → Prop) → Prop
/-- a reading t tells the meaning m -/
def LE (p : Pm) (O : List Nat) (t : TE) (m : ME) : Prop :=
  ∀ F0 H0 F H σ Γ n (Q : D → Nat → Prop), Sep p F0 H0 O F H σ Γ n → m Γ n Q → ∀ Q' : VK,
    (∀ d v F' H' n', Sep p F0 H0 O F' H' σ Γ n' → Gp p F H F' H' → Rp p.K F' d v → Q d n' → Q' v H') → t σ H Q'
def LT (p : Pm) (O : List Nat) (t : TT) (m : MT) : Prop :=
  ∀ F0 H0 F H σ Γ n (Q : Bool → Nat → Prop), Sep p F0 H0 O F H σ Γ n → m Γ n Q → ∀ Q' : Bool → Hp → Prop,
    (∀ b F' H' n', Sep p F0 H0 O F' H' σ Γ n' → Gp p F H F' H' → Q b n' → Q' b H') → t σ H Q'
def LA (p : Pm) (O : List Nat) (t : TA) (m : MA) : Prop :=
  ∀ F0 H0 F H σ Γ n (Q : List D → Nat → Prop), Sep p F0 H0 O F H σ Γ n → m Γ n Q → ∀ Q' : List V → Hp → Prop,
    (∀ ds vs F' H' n', Sep p F0 H0 O F' H' σ Γ n' → Gp p F H F' H' → Rps p.K F' ds vs → Q ds n' → Q' vs H') → t σ H Q'
/-- behind a return: what the slots hold is nothing to us -/
structure Fin0 (p : Pm) (F0 H0 F H : Hp) (n : Nat) : Prop where
  f0 : Same F0 F
  fh : Same F H
  stay : ∀ a o, H0 a = some o → ¬ p.isPen a → H a = some o
  newF : ∀ a o, F a = some o → F0 a = some o ∨ H0 a = none
  pen : ∀ a i, p.ap = some (a, i) → F a = none ∧ PenAt p.dr.ad F H a n ∧ TabF p.dr.tb F H
theorem Sep.fin {p : Pm} {F0 H0 F H : Hp} {O : List Nat} {σ : St} {Γ : DEnv} {n : Nat} (s : Sep p F0 H0 O F H σ Γ n) : Fin0 p F0 H0 F H n :=
  ⟨s.f0, s.fh, s.stay, s.newF, fun a i e => ⟨(s.pen a i e).1, (s.pen a i e).2.2⟩⟩
def LS (p : Pm) (Ob O O' : List Nat) (t : TS) (m : MS) : Prop :=
  ∀ F0 H0 F H σ Γ n (E : EndsD), Sep p F0 H0 O F H σ Γ n → m E Γ n → ∀ E' : Ends,
    (∀ F' H' σ' Γ' n', Sep p F0 H0 O' F' H' σ' Γ' n' → Same F F' → E.nx Γ' n' → E'.nx σ' H') →
    (∀ d v F' H' n', Fin0 p F0 H0 F' H' n' → Rp p.K F' d v → E.rt d n' → E'.rt v H') →
    (∀ F' H' σ' Γ' n', Sep p F0 H0 Ob F' H' σ' Γ' n' → Same F F' → E.bk Γ' n' → E'.bk σ' H') →
    (∀ F' H' σ' Γ' n', Sep p F0 H0 Ob F' H' σ' Γ' n' → Same F F' → E.ct Γ' n' → E'.ct σ' H') → t E' σ H
structure RE (X : Cx) (p : Pm) (O : List Nat) (e : Expr) (t : TE) (m : ME) : Prop where
  pe : PE X e t
  le : LE p O t m
structure RT (X : Cx) (p : Pm) (O : List Nat) (e : Expr) (t : TT) (m : MT) : Prop where
  pt : PT X e t
  le : LT p O t m
structure RW (X : Cx) (p : Pm) (O : List Nat) (e : Expr) (t : TT) (m : MT) : Prop where
  pw : PW X e t
  le : LT p O t m
structure RA (X : Cx) (p : Pm) (O : List Nat) (es : List Expr) (t : TA) (m : MA) : Prop where
  pa : PA X es t
  le : LA p O t m
structure RS (X : Cx) (p : Pm) (Ob O O' : List Nat) (st : Stmt) (t : TS) (m : MS) : Prop where
  ps : PS X st t
  le : LS p Ob O O' t m
structure RSs (X : Cx) (p : Pm) (Ob O O' : List Nat) (sts : List Stmt) (t : TS) (m : MS) : Prop where
  ps : PSs X sts t
  le : LS p Ob O O' t m
end RR
end
section
namespace RR
open PySem PySem.Spec L2
open PyProof.Rows hiding St
section
variable {X : Cx} {p : Pm} {O : List Nat} {a b c e : Expr} {pos : Pos} {ta tb tc te : TE} {ma mb mc me : ME}
@[reducible] def mVar (i : Nat) : ME := fun Γ n Q => ∃ d, Γ[i]? = some (some d) ∧ Q d n
@[reducible] def mC (d : D) : ME := fun _ n Q => Q d n
theorem e_var {x : Str} (i : Nat) (h : PE X (.Name x pos) (tVar i)) (hO : i ∉ O) : RE X p O (.Name x pos) (tVar i) (mVar i) :=
  ⟨h, fun F0 H0 F H σ Γ n Q s ⟨d, e, q⟩ Q' k => by
    obtain ⟨v, e1, r⟩ := s.sh i d hO e
    exact ⟨v, e1, k d v F H n s .refl r q⟩⟩
theorem le_c {v : V} {d : D} (r : ∀ K F, Rp K F d v) : LE p O (tC v) (mC d) := fun F0 H0 F H σ Γ n Q s q Q' k => k d v F H n s .refl (r _ _) q
theorem e_int {i j} : RE X p O (.Constant (.int i) j pos) (tC (.int i)) (mC (.int i)) := ⟨pe_int, le_c fun _ _ => .int i⟩
theorem e_bl {i j} : RE X p O (.Constant (.bool i) j pos) (tC (.bl i)) (mC (.bool i)) := ⟨pe_bl, le_c fun _ _ => .bl i⟩
theorem e_non {j} : RE X p O (.Constant .none j pos) (tC .non) (mC .none) := ⟨pe_non, le_c fun _ _ => .non⟩
theorem e_str {i j} : RE X p O (.Constant (.str i) j pos) (tC (.str i)) (mC (.str i)) := ⟨pe_str, le_c fun _ _ => .str i⟩
/-- a constant of the module -/
theorem e_glob {x : Str} {v : V} {u : Value} {d : D} (hg : Gl X x) (hm : X.mg x = some u) (r : RelV v u) (w : ∀ F, Rp p.K F d v) (hd : (x == ("__debug__" : Str)) = false := by decide) : RE X p O (.Name x pos) (tC v) (mC d) :=
  ⟨pe_glob hg hm r hd, fun F0 H0 F H σ Γ n Q s q Q' k => k d v F H n s .refl (w F) q⟩
/-- a reading by values tells a partial function of data -/
def OpL (K : PySem.W.Frag) (r : R2) (f : D → D → Option D) : Prop := ∀ F H x y dx dy d, Same F H → Rp K F dx x → Rp K F dy y → f dx dy = some d →
  ∀ Q' : VK, (∀ v F' H', Gr F H F' H' → Rp K F' d v → Q' v H') → r x y H Q'
def UnL (K : PySem.W.Frag) (r : V → Hp → VK → Prop) (f : D → Option D) : Prop := ∀ F H x dx d, Same F H → Rp K F dx x → f dx = some d →
  ∀ Q' : VK, (∀ v F' H', Gr F H F' H' → Rp K F' d v → Q' v H') → r x H Q'
def ClL (K : PySem.W.Frag) (r : List V → Hp → VK → Prop) (f : List D → Option D) : Prop := ∀ F H xs ds d, Same F H → Rps K F ds xs → f ds = some d →
  ∀ Q' : VK, (∀ v F' H', Gr F H F' H' → Rp K F' d v → Q' v H') → r xs H Q'
@[reducible] def mOp (f : D → D → Option D) (ma mb : ME) : ME := fun Γ n Q => ma Γ n fun x n1 => mb Γ n1 fun y n2 => ∃ d, f x y = some d ∧ Q d n2
@[reducible] def mUn (f : D → Option D) (ma : ME) : ME := fun Γ n Q => ma Γ n fun x n1 => ∃ d, f x = some d ∧ Q d n1
theorem le_op {r : R2} {f : D → D → Option D} (l : OpL p.K r f) (ha : LE p O ta ma) (hb : LE p O tb mb) : LE p O (tOp r ta tb) (mOp f ma mb) :=
  fun F0 H0 F H σ Γ n Q s q Q' k => by
    refine ha F0 H0 F H σ Γ n _ s q _ fun dx x F1 H1 n1 s1 e1 r1 q1 => ?_
    refine hb F0 H0 F1 H1 σ Γ n1 _ s1 q1 _ fun dy y F2 H2 n2 s2 e2 r2 ⟨d, fe, q2⟩ => ?_
    refine l F2 H2 x y dx dy d s2.fh (r1.mono e2.f) r2 fe _ fun v F3 H3 g r3 => ?_
    exact k d v F3 H3 n2 (s2.gr g) ((e1.trans e2).trans g.gp) r3 q2
theorem le_un {r : V → Hp → VK → Prop} {f : D → Option D} (l : UnL p.K r f) (ha : LE p O ta ma) : LE p O (tUn r ta) (mUn f ma) :=
  fun F0 H0 F H σ Γ n Q s q Q' k => by
    refine ha F0 H0 F H σ Γ n _ s q _ fun dx x F1 H1 n1 s1 e1 r1 ⟨d, fe, q1⟩ => ?_
    refine l F1 H1 x dx d s1.fh r1 fe _ fun v F3 H3 g r3 => ?_
    exact k d v F3 H3 n1 (s1.gr g) (e1.trans g.gp) r3 q1
theorem e_op {op : Operator} {r : R2} {f : D → D → Option D} (ho : OpR X (binaryOp op) r) (l : OpL p.K r f) (ha : RE X p O a ta ma) (hb : RE X p O b tb mb) : RE X p O (.BinOp a op b pos) (tOp r ta tb) (mOp f ma mb) :=
  ⟨pe_op ho ha.pe hb.pe, le_op l ha.le hb.le⟩
theorem e_un {op : UnaryOp} {r : V → Hp → VK → Prop} {f : D → Option D} (ho : UnR X (unaryOp op) r) (l : UnL p.K r f) (ha : RE X p O a ta ma) : RE X p O (.UnaryOp op a pos) (tUn r ta) (mUn f ma) :=
  ⟨pe_un ho ha.pe, le_un l ha.le⟩
theorem e_cmp {op : CmpOp} {r : R2} {f : D → D → Option D} (ho : OpR X (compareOp op) r) (l : OpL p.K r f) (ha : RE X p O a ta ma) (hb : RE X p O b tb mb) (hm : behindInMarks op b = false) : RE X p O (.Compare a [op] [b] pos) (tOp r ta tb) (mOp f ma mb) :=
  ⟨pe_cmpR ho ha.pe hb.pe hm, le_op l ha.le hb.le⟩
/-- a value that is True or False, as a test -/
@[reducible] def mTest (m : ME) : MT := fun Γ n Q => m Γ n fun d n1 => ∃ b, d = .bool b ∧ Q b n1
theorem lt_test {t : TE} {m : ME} (h : LE p O t m) : LT p O (tTest t) (mTest m) := fun F0 H0 F H σ Γ n Q s q Q' k =>
  h F0 H0 F H σ Γ n _ s q _ fun d v F1 H1 n1 s1 e1 r1 ⟨b, eb, q1⟩ => by
    subst eb
    exact ⟨b, r1.bl_inv, k b F1 H1 n1 s1 e1 q1⟩
theorem t_cmp {op : CmpOp} {r : R2} {f : D → D → Option D} (ho : OpR X (compareOp op) r) (l : OpL p.K r f) (ha : RE X p O a ta ma) (hb : RE X p O b tb mb) (hm : behindInMarks op b = false) : RT X p O (.Compare a [op] [b] pos) (tTest (tOp r ta tb)) (mTest (mOp f ma mb)) :=
  ⟨pt_cmpR ho ha.pe hb.pe hm, lt_test (le_op l ha.le hb.le)⟩
theorem t_val (ha : RE X p O a ta ma) (he : ∀ whole, isTrue a X.env whole = (do let v ← whole; standAt a.pos; holding [v] (truthy v)) := by intro _; rfl) : RT X p O a (tB ta) (mTest ma) :=
  ⟨pt_val ha.pe he, lt_test ha.le⟩
/-- a < b < c -/
@[reducible] def mChain (f g : D → D → Option D) (ma mb mc : ME) : ME := fun Γ n Q => ma Γ n fun x n1 => mb Γ n1 fun y n2 => ∃ k, f x y = some (.bool k) ∧ if k = true then mc Γ n2 fun z n3 => ∃ d, g y z = some d ∧ Q d n3 else Q (.bool false) n2
theorem le_chain {r r' : R2} {f g : D → D → Option D} (l : OpL p.K r f) (l' : OpL p.K r' g) (ha : LE p O ta ma) (hb : LE p O tb mb) (hc : LE p O tc mc) : LE p O (tChain r r' ta tb tc) (mChain f g ma mb mc) :=
  fun F0 H0 F H σ Γ n Q s q Q' k => by
    refine ha F0 H0 F H σ Γ n _ s q _ fun dx x F1 H1 n1 s1 e1 r1 q1 => ?_
    refine hb F0 H0 F1 H1 σ Γ n1 _ s1 q1 _ fun dy y F2 H2 n2 s2 e2 r2 ⟨d, fe, q2⟩ => ?_
    refine l F2 H2 x y dx dy _ s2.fh (r1.mono e2.f) r2 fe _ fun v F3 H3 g3 r3 => ?_
    refine ⟨d, r3.bl_inv, ?_⟩
    cases d with
    | true =>
      rw [if_pos rfl] at q2 ⊢
      refine hc F0 H0 F3 H3 σ Γ n2 _ (s2.gr g3) q2 _ fun dz z F4 H4 n4 s4 e4 r4 ⟨d, ge, q4⟩ => ?_
      refine l' F4 H4 y z dy dz d s4.fh (r2.mono (g3.f.trans e4.f)) r4 ge _ fun v F5 H5 g5 r5 => ?_
      exact k d v F5 H5 n4 (s4.gr g5) ((((e1.trans e2).trans g3.gp).trans e4).trans g5.gp) r5 q4
    | false =>
      rw [if_neg (by decide)] at q2 ⊢
      exact k _ _ F3 H3 n2 (s2.gr g3) ((e1.trans e2).trans g3.gp) (.bl false) q2
theorem e_chain {op op' : CmpOp} {r r' : R2} {f g : D → D → Option D} (ho : OpR X (compareOp op) r) (l : OpL p.K r f) (ho' : OpR X (compareOp op') r') (l' : OpL p.K r' g) (ha : RE X p O a ta ma) (hb : RE X p O b tb mb) (hc : RE X p O c tc mc)
    (h : PE X (.Compare a [op, op'] [b, c] pos) (tChain r r' ta tb tc)) : RE X p O (.Compare a [op, op'] [b, c] pos) (tChain r r' ta tb tc) (mChain f g ma mb mc) := ⟨h, le_chain l l' ha.le hb.le hc.le⟩
variable {tA tB' : TT} {mA mB : MT} {rest : List Expr}
@[reducible] def mAnd (m u : MT) : MT := fun Γ n Q => m Γ n fun c n1 => if c = true then u Γ n1 Q else Q false n1
@[reducible] def mOr (m u : MT) : MT := fun Γ n Q => m Γ n fun c n1 => if c = true then Q true n1 else u Γ n1 Q
@[reducible] def mNot (m : MT) : MT := fun Γ n Q => m Γ n fun c n1 => Q (!c) n1
theorem lt_and (ha : LT p O tA mA) (hb : LT p O tB' mB) : LT p O (tAnd tA tB') (mAnd mA mB) := fun F0 H0 F H σ Γ n Q s q Q' k =>
  ha F0 H0 F H σ Γ n _ s q _ fun c F1 H1 n1 s1 e1 q1 => by
    cases c with
    | true =>
      rw [if_pos rfl] at q1 ⊢
      exact hb F0 H0 F1 H1 σ Γ n1 Q s1 q1 Q' fun b F2 H2 n2 s2 e2 q2 => k b F2 H2 n2 s2 (e1.trans e2) q2
    | false =>
      rw [if_neg (by decide)] at q1 ⊢
      exact k false F1 H1 n1 s1 e1 q1
theorem lt_or (ha : LT p O tA mA) (hb : LT p O tB' mB) : LT p O (tOr tA tB') (mOr mA mB) := fun F0 H0 F H σ Γ n Q s q Q' k =>
  ha F0 H0 F H σ Γ n _ s q _ fun c F1 H1 n1 s1 e1 q1 => by
    cases c with
    | true =>
      rw [if_pos rfl] at q1 ⊢
      exact k true F1 H1 n1 s1 e1 q1
    | false =>
      rw [if_neg (by decide)] at q1 ⊢
      exact hb F0 H0 F1 H1 σ Γ n1 Q s1 q1 Q' fun b F2 H2 n2 s2 e2 q2 => k b F2 H2 n2 s2 (e1.trans e2) q2
theorem lt_not (ha : LT p O tA mA) : LT p O (tNot tA) (mNot mA) := fun F0 H0 F H σ Γ n Q s q Q' k =>
  ha F0 H0 F H σ Γ n _ s q _ fun c F1 H1 n1 s1 e1 q1 => k (!c) F1 H1 n1 s1 e1 q1
theorem w_and1 (ha : RT X p O a tA mA) : RW X p O (.BoolOp .And [a] pos) tA mA := ⟨pw_and1 ha.pt, ha.le⟩
theorem w_or1 (ha : RT X p O a tA mA) : RW X p O (.BoolOp .Or [a] pos) tA mA := ⟨pw_or1 ha.pt, ha.le⟩
theorem w_and (ha : RT X p O a tA mA) (hb : RW X p O (.BoolOp .And (b :: rest) pos) tB' mB) : RW X p O (.BoolOp .And (a :: b :: rest) pos) (tAnd tA tB') (mAnd mA mB) := ⟨pw_and ha.pt hb.pw, lt_and ha.le hb.le⟩
theorem w_or (ha : RT X p O a tA mA) (hb : RW X p O (.BoolOp .Or (b :: rest) pos) tB' mB) : RW X p O (.BoolOp .Or (a :: b :: rest) pos) (tOr tA tB') (mOr mA mB) := ⟨pw_or ha.pt hb.pw, lt_or ha.le hb.le⟩
theorem RW.t (h : RW X p O a tA mA) : RT X p O a tA mA := ⟨h.pw.pt, h.le⟩
theorem t_not (ha : RT X p O a tA mA) : RT X p O (.UnaryOp .Not a pos) (tNot tA) (mNot mA) := ⟨pt_not ha.pt, lt_not ha.le⟩
/-- as values -/
@[reducible] def mAndV (m u : ME) : ME := fun Γ n Q => m Γ n fun x n1 => ∃ c, x = .bool c ∧ if c = true then u Γ n1 Q else Q (.bool false) n1
@[reducible] def mOrV (m u : ME) : ME := fun Γ n Q => m Γ n fun x n1 => ∃ c, x = .bool c ∧ if c = true then Q (.bool true) n1 else u Γ n1 Q
@[reducible] def mNotV (m : ME) : ME := fun Γ n Q => m Γ n fun x n1 => ∃ c, x = .bool c ∧ Q (.bool (!c)) n1
theorem le_andV (ha : LE p O ta ma) (hb : LE p O tb mb) : LE p O (tAndV ta tb) (mAndV ma mb) := fun F0 H0 F H σ Γ n Q s q Q' k =>
  ha F0 H0 F H σ Γ n _ s q _ fun d v F1 H1 n1 s1 e1 r1 ⟨c, ec, q1⟩ => by
    subst ec
    refine ⟨c, r1.bl_inv, ?_⟩
    cases c with
    | true =>
      rw [if_pos rfl] at q1 ⊢
      exact hb F0 H0 F1 H1 σ Γ n1 Q s1 q1 Q' fun d v F2 H2 n2 s2 e2 r2 q2 => k d v F2 H2 n2 s2 (e1.trans e2) r2 q2
    | false =>
      rw [if_neg (by decide)] at q1 ⊢
      exact k _ _ F1 H1 n1 s1 e1 (.bl false) q1
theorem le_orV (ha : LE p O ta ma) (hb : LE p O tb mb) : LE p O (tOrV ta tb) (mOrV ma mb) := fun F0 H0 F H σ Γ n Q s q Q' k =>
  ha F0 H0 F H σ Γ n _ s q _ fun d v F1 H1 n1 s1 e1 r1 ⟨c, ec, q1⟩ => by
    subst ec
    refine ⟨c, r1.bl_inv, ?_⟩
    cases c with
    | true =>
      rw [if_pos rfl] at q1 ⊢
      exact k _ _ F1 H1 n1 s1 e1 (.bl true) q1
    | false =>
      rw [if_neg (by decide)] at q1 ⊢
      exact hb F0 H0 F1 H1 σ Γ n1 Q s1 q1 Q' fun d v F2 H2 n2 s2 e2 r2 q2 => k d v F2 H2 n2 s2 (e1.trans e2) r2 q2
theorem le_notV (ha : LE p O ta ma) : LE p O (tNotV ta) (mNotV ma) := fun F0 H0 F H σ Γ n Q s q Q' k =>
  ha F0 H0 F H σ Γ n _ s q _ fun d v F1 H1 n1 s1 e1 r1 ⟨c, ec, q1⟩ => by
    subst ec
    exact ⟨c, r1.bl_inv, k _ _ F1 H1 n1 s1 e1 (.bl _) q1⟩
theorem e_one {op} (h : RE X p O a ta ma) : RE X p O (.BoolOp op [a] pos) ta ma := ⟨pe_one h.pe, h.le⟩
theorem e_and (ha : RE X p O a ta ma) (hb : RE X p O (.BoolOp .And (b :: rest) pos) tb mb) : RE X p O (.BoolOp .And (a :: b :: rest) pos) (tAndV ta tb) (mAndV ma mb) := ⟨pe_and ha.pe hb.pe, le_andV ha.le hb.le⟩
theorem e_or (ha : RE X p O a ta ma) (hb : RE X p O (.BoolOp .Or (b :: rest) pos) tb mb) : RE X p O (.BoolOp .Or (a :: b :: rest) pos) (tOrV ta tb) (mOrV ma mb) := ⟨pe_or ha.pe hb.pe, le_orV ha.le hb.le⟩
theorem e_not (ha : RE X p O a ta ma) : RE X p O (.UnaryOp .Not a pos) (tNotV ta) (mNotV ma) := ⟨pe_not ha.pe, le_notV ha.le⟩
@[reducible] def mIf (t : MT) (ma mb : ME) : ME := fun Γ n Q => t Γ n fun c n1 => if c = true then ma Γ n1 Q else mb Γ n1 Q
theorem le_if (hc : LT p O tA mA) (ha : LE p O ta ma) (hb : LE p O tb mb) : LE p O (tIf tA ta tb) (mIf mA ma mb) := fun F0 H0 F H σ Γ n Q s q Q' k =>
  hc F0 H0 F H σ Γ n _ s q _ fun c F1 H1 n1 s1 e1 q1 => by
    cases c with
    | true =>
      rw [if_pos rfl] at q1 ⊢
      exact ha F0 H0 F1 H1 σ Γ n1 Q s1 q1 Q' fun d v F2 H2 n2 s2 e2 r2 q2 => k d v F2 H2 n2 s2 (e1.trans e2) r2 q2
    | false =>
      rw [if_neg (by decide)] at q1 ⊢
      exact hb F0 H0 F1 H1 σ Γ n1 Q s1 q1 Q' fun d v F2 H2 n2 s2 e2 r2 q2 => k d v F2 H2 n2 s2 (e1.trans e2) r2 q2
theorem e_if (hc : RT X p O c tA mA) (ha : RE X p O a ta ma) (hb : RE X p O b tb mb) : RE X p O (.IfExp c a b pos) (tIf tA ta tb) (mIf mA ma mb) := ⟨pe_ifExp hc.pt ha.pe hb.pe, le_if hc.le ha.le hb.le⟩
@[reducible] def mNil : MA := fun _ n Q => Q [] n
@[reducible] def mCons (m : ME) (u : MA) : MA := fun Γ n Q => m Γ n fun d n1 => u Γ n1 fun ds n2 => Q (d :: ds) n2
variable {es : List Expr} {t : TA} {m : MA}
theorem a_nil : RA X p O [] tNil mNil := ⟨pa_nil, fun F0 H0 F H σ Γ n Q s q Q' k => k [] [] F H n s .refl .nil q⟩
theorem la_cons (ha : LE p O te me) (hr : LA p O t m) : LA p O (tCons te t) (mCons me m) := fun F0 H0 F H σ Γ n Q s q Q' k =>
  ha F0 H0 F H σ Γ n _ s q _ fun d v F1 H1 n1 s1 e1 r1 q1 =>
    hr F0 H0 F1 H1 σ Γ n1 _ s1 q1 _ fun ds vs F2 H2 n2 s2 e2 r2 q2 => k (d :: ds) (v :: vs) F2 H2 n2 s2 (e1.trans e2) (.cons (r1.mono e2.f) r2) q2
theorem a_cons (ha : RE X p O e te me) (hr : RA X p O es t m) (hs : starEach (e :: es) X.env = (false, eval e X.env) :: starEach es X.env := by rfl) : RA X p O (e :: es) (tCons te t) (mCons me m) := ⟨pa_cons ha.pe hr.pa hs, la_cons ha.le hr.le⟩
/-- sizes: a list, a tuple, a text of at most so many -/
def lim : Nat := 100000
theorem lim_line {n : Nat} (h : n ≤ lim) : n ≤ sizeLine := Nat.le_trans h (by decide)
theorem lim_lt {n : Nat} (h : n ≤ lim) : n < sizeLine := Nat.lt_of_le_of_lt h (by decide)
@[reducible] def mTup (m : MA) : ME := fun Γ n Q => m Γ n fun ds n1 => ds.length ≤ lim ∧ Q (.tuple ds) n1
@[reducible] def mLst (m : MA) : ME := fun Γ n Q => m Γ n fun ds n1 => ds.length ≤ lim ∧ Q (.list ds) n1
theorem Rp.new_tup {K : PySem.W.Frag} {F H : Hp} {q : Addr} {ds : List D} {vs : List V} (r : Rps K F ds vs) (f : F q = none) : Rp K (upd F q (.tup vs)) (.tuple ds) (.ref q) := .of_tup (.inl (.inl upd_same)) (r.mono (same_up f))
theorem Rp.new_lst {K : PySem.W.Frag} {F H : Hp} {q : Addr} {ds : List D} {vs : List V} (r : Rps K F ds vs) (f : F q = none) : Rp K (upd F q (.lst vs)) (.list ds) (.ref q) := .of_lst upd_same (r.mono (same_up f))
theorem le_tup (h : LA p O t m) : LE p O (tTup t) (mTup m) := fun F0 H0 F H σ Γ n Q s q Q' k =>
  h F0 H0 F H σ Γ n _ s q _ fun ds vs F1 H1 n1 s1 e1 r1 ⟨l, q1⟩ => by
    refine ⟨by rw [r1.len]; exact lim_line l, fun x hx => ?_⟩
    have g := Gr.new1 (F := F1) s1.fh hx (.tup vs)
    exact k _ _ _ _ n1 (s1.gr g) (e1.trans g.gp) (Rp.new_tup (H := H1) r1 (s1.fh.free hx)) q1
theorem le_lst (h : LA p O t m) : LE p O (tLst t) (mLst m) := fun F0 H0 F H σ Γ n Q s q Q' k =>
  h F0 H0 F H σ Γ n _ s q _ fun ds vs F1 H1 n1 s1 e1 r1 ⟨l, q1⟩ => by
    refine ⟨by rw [r1.len]; exact lim_line l, fun x hx => ?_⟩
    have g := Gr.new1 (F := F1) s1.fh hx (.lst vs)
    exact k _ _ _ _ n1 (s1.gr g) (e1.trans g.gp) (Rp.new_lst (H := H1) r1 (s1.fh.free hx)) q1
theorem e_tup {x1} (h : RA X p O es t m) : RE X p O (.Tuple es x1 pos) (tTup t) (mTup m) := ⟨pe_tup h.pa, le_tup h.le⟩
theorem e_lst (h : RA X p O es t m) : RE X p O (.List es pos) (tLst t) (mLst m) := ⟨pe_lst h.pa, le_lst h.le⟩
@[reducible] def mCl (f : List D → Option D) (m : MA) : ME := fun Γ n Q => m Γ n fun ds n1 => ∃ d, f ds = some d ∧ Q d n1
theorem le_cl {r : List V → Hp → VK → Prop} {f : List D → Option D} (l : ClL p.K r f) (h : LA p O t m) : LE p O (tCB r t) (mCl f m) := fun F0 H0 F H σ Γ n Q s q Q' k =>
  h F0 H0 F H σ Γ n _ s q _ fun ds vs F1 H1 n1 s1 e1 r1 ⟨d, fe, q1⟩ =>
    l F1 H1 vs ds d s1.fh r1 fe _ fun v F3 H3 g r3 => k d v F3 H3 n1 (s1.gr g) (e1.trans g.gp) r3 q1
theorem e_ix {r : R2} {f : D → D → Option D} (hr : IxR X r) (l : OpL p.K r f) (ha : RE X p O a ta ma) (hb : RE X p O b tb mb) (hs : PlainIx b) : RE X p O (.Subscript a b pos) (tOp r ta tb) (mOp f ma mb) := ⟨pe_ix hr ha.pe hb.pe hs, le_op l ha.le hb.le⟩
end
end RR
end
section
namespace RR
open PySem PySem.Spec L2
open PyProof.Rows hiding St
def dAdd : D → D → Option D
  | .int i, .int j => some (.int (i + j))
  | .list xs, .list ys => if xs.length + ys.length ≤ lim then some (.list (xs ++ ys)) else none
  | .tuple xs, .tuple ys => if xs.length + ys.length ≤ lim then some (.tuple (xs ++ ys)) else none
  | _, _ => none
def dAddI : D → D → Option D
  | .int i, .int j => some (.int (i + j))
  | _, _ => none
def dSub : D → D → Option D
  | .int i, .int j => some (.int (i - j))
  | _, _ => none
def dMul : D → D → Option D
  | .int i, .int j => if (-(2 ^ 64) < i ∧ i < 2 ^ 64) ∨ (-(2 ^ 64) < j ∧ j < 2 ^ 64) then some (.int (i * j)) else none
  | .list xs, .int k => if xs.length * k.toNat ≤ lim ∧ -(2 ^ 63) ≤ k ∧ k < 2 ^ 63 then some (.list (List.replicate k.toNat xs).flatten) else none
  | _, _ => none
def dMod : D → D → Option D
  | .int i, .int j => if 0 < j then some (.int (i % j)) else none
  | _, _ => none
def dDiv : D → D → Option D
  | .int i, .int j => if 0 < j ∧ j < 1073741824 then some (.int (i / j)) else none
  | _, _ => none
def dPow : D → D → Option D
  | .int i, .int j => if 0 ≤ j ∧ j ≤ 1000000 ∧ i.natAbs < 2 ^ 64 then some (.int (i ^ j.toNat)) else none
  | _, _ => none
def dCmp (p : Int → Int → Bool) : D → D → Option D
  | .int i, .int j => some (.bool (p i j))
  | _, _ => none
@[reducible] def dLt := dCmp fun i j => decide (i < j)
@[reducible] def dLe := dCmp fun i j => decide (i ≤ j)
@[reducible] def dGt := dCmp fun i j => decide (j < i)
@[reducible] def dGe := dCmp fun i j => decide (j ≤ i)
def dNeg : D → Option D
  | .int i => some (.int (-i))
  | _ => none
def scalD : D → D → Bool
  | .int _, .int _ => true
  | .str _, .str _ => true
  | .bool _, .bool _ => true
  | _, _ => false
def dEq (x y : D) : Option D := if scalD x y = true ∨ (SeqAt.shaped x = true ∧ SeqAt.shaped y = true) then some (.bool (PyData.eqv x y)) else none
def dNe (x y : D) : Option D := if scalD x y = true ∨ (SeqAt.shaped x = true ∧ SeqAt.shaped y = true) then some (.bool (!PyData.eqv x y)) else none
/-- is None -/
def isNone : D → Bool
  | .none => true
  | _ => false
def dIsN : D → D → Option D
  | x, .none => some (.bool (isNone x))
  | _, _ => none
def dIsNotN : D → D → Option D
  | x, .none => some (.bool (!isNone x))
  | _, _ => none
/-- of a dict -/
def keyOf : D → Option Key
  | .int i => some (.inl i)
  | .str x => some (.inr x)
  | _ => none
def dLook (kvs : List (D × D)) (k : D) : Option D := (kvs.find? fun q => PyData.eqv q.1 k).map (·.2)
def isKey (d : D) : Bool := (keyOf d).isSome
def flatD : D → Bool
  | .none => true
  | .bool _ => true
  | .int _ => true
  | .str _ => true
  | _ => false
def anyEq (x : D) (xs : List D) : Bool := xs.any fun y => PyData.eqv y x
def dIn (x : D) : D → Option D
  | .list xs => if SeqAt.shaped x = true ∧ SeqAt.shaped (.list xs) = true then some (.bool (anyEq x xs)) else none
  | .tuple xs => if flatD x = true ∧ xs.all flatD = true then some (.bool (anyEq x xs)) else none
  | .dict kvs => if isKey x = true then some (.bool (dLook kvs x).isSome) else none
  | _ => none
def dNotIn (x : D) : D → Option D
  | .list xs => if SeqAt.shaped x = true ∧ SeqAt.shaped (.list xs) = true then some (.bool (!anyEq x xs)) else none
  | .tuple xs => if flatD x = true ∧ xs.all flatD = true then some (.bool (!anyEq x xs)) else none
  | .dict kvs => if isKey x = true then some (.bool (!(dLook kvs x).isSome)) else none
  | _ => none
def dIx : D → D → Option D
  | .list xs, .int i => atI xs i
  | .tuple xs, .int i => atI xs i
  | .dict kvs, k => if isKey k = true then dLook kvs k else none
  | _, _ => none
section
variable {X : Cx} {K : PySem.W.Frag}
theorem OpL.or {r r' : R2} {f g : D → D → Option D} (l : OpL K r f) (l' : OpL K r' g) {h : D → D → Option D} (e : ∀ x y d, h x y = some d → f x y = some d ∨ g x y = some d) : OpL K (fun x y H Q => r x y H Q ∨ r' x y H Q) h :=
  fun F H x y dx dy d s rx ry fe Q' k => (e _ _ _ fe).elim (fun z => .inl (l F H x y dx dy d s rx ry z Q' k)) fun z => .inr (l' F H x y dx dy d s rx ry z Q' k)
theorem OpL.imp {r : R2} {f h : D → D → Option D} (l : OpL K r f) (e : ∀ x y d, h x y = some d → f x y = some d) : OpL K r h := fun F H x y dx dy d s rx ry fe => l F H x y dx dy d s rx ry (e _ _ _ fe)
/-- ints alone -/
theorem opl_int {C : Int → Int → Prop} {g : Int → Int → V} {f : D → D → Option D} (h : ∀ x y d, f x y = some d → ∃ i j, x = .int i ∧ y = .int j ∧ C i j ∧ ∀ F, Rp K F d (g i j)) : OpL K (rI C g) f :=
  fun F H x y dx dy d s rx ry fe Q' k => by
    obtain ⟨i, j, rfl, rfl, c, w⟩ := h _ _ _ fe
    exact ⟨i, j, rx.int_inv, ry.int_inv, c, k _ F H (.refl s) (w F)⟩
theorem opl_int0 {g : Int → Int → V} {f : D → D → Option D} (h : ∀ x y d, f x y = some d → ∃ i j, x = .int i ∧ y = .int j ∧ ∀ F, Rp K F d (g i j)) : OpL K (rI0 g) f :=
  fun F H x y dx dy d s rx ry fe Q' k => by
    obtain ⟨i, j, rfl, rfl, w⟩ := h _ _ _ fe
    exact ⟨i, j, rx.int_inv, ry.int_inv, k _ F H (.refl s) (w F)⟩
theorem l_addI : OpL K (rI0 fun i j => .int (i + j)) (fun x y => match x, y with | .int i, .int j => some (.int (i + j)) | _, _ => none) := opl_int0 fun x y d e => by
  split at e <;> first | (cases e; exact ⟨_, _, rfl, rfl, fun _ => .int _⟩) | cases e
theorem l_cat : OpL K rCat (fun x y => match x, y with | .list xs, .list ys => if xs.length + ys.length ≤ lim then some (.list (xs ++ ys)) else none | _, _ => none) := fun F H x y dx dy d s rx ry fe Q' k => by
  dsimp only at fe
  split at fe
  · rename_i xs ys
    split at fe
    · rename_i hl
      cases fe
      obtain ⟨a, vs, rfl, e1, r1⟩ := rx.lst_inv
      obtain ⟨b, ws, rfl, e2, r2⟩ := ry.lst_inv
      refine ⟨a, b, vs, ws, rfl, rfl, s _ _ e1, s _ _ e2, by rw [r1.len, r2.len]; exact lim_line hl, fun q hq => ?_⟩
      exact k _ _ _ (Gr.new1 s hq _) (Rp.new_lst (H := H) (r1.append r2) (s.free hq))
    · cases fe
  · cases fe
theorem l_catT : OpL K (rCatA K) (fun x y => match x, y with | .tuple xs, .tuple ys => if xs.length + ys.length ≤ lim then some (.tuple (xs ++ ys)) else none | _, _ => none) := fun F H x y dx dy d s rx ry fe Q' k => by
  dsimp only at fe
  split at fe
  · rename_i xs ys
    split at fe
    · rename_i hl
      cases fe
      obtain ⟨a, vs, rfl, e1, r1⟩ := rx.tup_inv
      obtain ⟨b, ws, rfl, e2, r2⟩ := ry.tup_inv
      refine ⟨a, b, vs, ws, rfl, rfl, Same.sqt s e1, Same.sqt s e2, by rw [r1.len, r2.len]; exact lim_line hl, fun z => ?_, fun _ z => ?_, fun _ _ q hq => ?_⟩
      · subst z
        have : xs = [] := List.length_eq_zero_iff.mp r1.len.symm
        subst this
        exact k _ F H (.refl s) (.of_tup e2 r2)
      · subst z
        have : ys = [] := List.length_eq_zero_iff.mp r2.len.symm
        subst this
        rw [List.append_nil] at k
        exact k _ F H (.refl s) (.of_tup e1 r1)
      · exact k _ _ _ (Gr.new1 s hq _) (Rp.new_tup (H := H) (r1.append r2) (s.free hq))
    · cases fe
  · cases fe
def rAddA (K : PySem.W.Frag) : R2 := fun x y H Q => rI0 (fun i j => .int (i + j)) x y H Q ∨ (fun x y H Q => rCat x y H Q ∨ rCatA K x y H Q) x y H Q
theorem o_add : OpR X (binaryOp .Add) (rAddA X.K) := op_add.or (op_cat.or op_catA)
theorem l_add : OpL K (rAddA K) dAdd := l_addI.or (l_cat.or l_catT (h := fun x y => match x, y with
    | .list xs, .list ys => if xs.length + ys.length ≤ lim then some (.list (xs ++ ys)) else none
    | .tuple xs, .tuple ys => if xs.length + ys.length ≤ lim then some (.tuple (xs ++ ys)) else none
    | _, _ => none) (fun x y d e => by split at e <;> first | exact .inl e | exact .inr e | cases e)) (fun x y d e => by
  unfold dAdd at e
  split at e <;> first | exact .inl e | exact .inr e | cases e)
theorem Rps.rep {F : Hp} {ds : List D} {xs : List V} (h : Rps K F ds xs) : ∀ n, Rps K F (List.replicate n ds).flatten (List.replicate n xs).flatten
  | 0 => .nil
  | n + 1 => by rw [List.replicate_succ, List.replicate_succ]; exact h.append (h.rep n)
theorem l_mulI : OpL K (rI CMul fun i j => .int (i * j)) (fun x y => match x, y with | .int i, .int j => if (-(2 ^ 64) < i ∧ i < 2 ^ 64) ∨ (-(2 ^ 64) < j ∧ j < 2 ^ 64) then some (.int (i * j)) else none | _, _ => none) := opl_int fun x y d e => by
  split at e
  · split at e
    · rename_i h
      cases e
      exact ⟨_, _, rfl, rfl, h, fun _ => .int _⟩
    · cases e
  · cases e
theorem l_mul : OpL K (fun x y H Q => rI CMul (fun i j => .int (i * j)) x y H Q ∨ rRep x y H Q) dMul := l_mulI.or (g := fun x y => match x, y with | .list xs, .int k => if xs.length * k.toNat ≤ lim ∧ -(2 ^ 63) ≤ k ∧ k < 2 ^ 63 then some (.list (List.replicate k.toNat xs).flatten) else none | _, _ => none) (fun F H x y dx dy d s rx ry fe Q' k => by
  dsimp only at fe
  split at fe
  · split at fe
    · rename_i hl
      cases fe
      obtain ⟨a, vs, rfl, e1, r1⟩ := rx.lst_inv
      cases ry.int_inv
      refine ⟨a, _, vs, rfl, rfl, s _ _ e1, hl.2.1, hl.2.2, by rw [r1.len]; exact lim_line hl.1, fun q hq => ?_⟩
      exact k _ _ _ (Gr.new1 s hq _) (Rp.new_lst (H := H) (r1.rep _) (s.free hq))
    · cases fe
  · cases fe) (fun x y d e => by
  unfold dMul at e
  split at e <;> first | exact .inl e | exact .inr e | cases e)
theorem o_mul : OpR X (binaryOp .Mult) (fun x y H Q => rI CMul (fun i j => .int (i * j)) x y H Q ∨ rRep x y H Q) := op_mul.or op_rep
theorem l_mod : OpL K (rI (fun _ j => 0 < j) fun i j => .int (i % j)) dMod := opl_int fun x y d e => by
  unfold dMod at e
  split at e
  · split at e
    · rename_i h
      cases e
      exact ⟨_, _, rfl, rfl, h, fun _ => .int _⟩
    · cases e
  · cases e
theorem l_div : OpL K (rI CDiv fun i j => .int (i / j)) dDiv := opl_int fun x y d e => by
  unfold dDiv at e
  split at e
  · split at e
    · rename_i h
      cases e
      exact ⟨_, _, rfl, rfl, h, fun _ => .int _⟩
    · cases e
  · cases e
theorem l_pow : OpL K (rI CPow fun i j => .int (i ^ j.toNat)) dPow := opl_int fun x y d e => by
  unfold dPow at e
  split at e
  · split at e
    · rename_i h
      cases e
      exact ⟨_, _, rfl, rfl, h, fun _ => .int _⟩
    · cases e
  · cases e
theorem l_cmp {p : Int → Int → Bool} : OpL K (rI0 fun i j => .bl (p i j)) (dCmp p) := opl_int0 fun x y d e => by
  unfold dCmp at e
  split at e <;> first | (cases e; exact ⟨_, _, rfl, rfl, fun _ => .bl _⟩) | cases e
theorem l_neg : UnL K (rU fun i => .int (-i)) dNeg := fun F H x dx d s rx fe Q' k => by
  unfold dNeg at fe
  split at fe
  · cases fe
    exact ⟨_, rx.int_inv, k _ F H (.refl s) (.int _)⟩
  · cases fe
mutual
theorem Rp.dp {F : Hp} : ∀ (d : D) (v : V), d.canLay0 = true → Rp K F d v → Dp K F v d
  | .none, v, _, h => by cases h; exact .non
  | .bool b, v, _, h => by cases h; exact .bl b
  | .int i, v, _, h => by cases h; exact .int i
  | .str x, v, _, h => by cases h; exact .str x
  | .list ds, v, c, h => by
    obtain ⟨a, xs, rfl, e, r⟩ := h.lst_inv
    exact .lst (.of e) (Rp.dps ds xs (by simpa [PyData.canLay0] using c) r)
  | .tuple ds, v, c, h => by
    obtain ⟨a, xs, rfl, e, r⟩ := h.tup_inv
    exact .tup e (Rp.dps ds xs (by simpa [PyData.canLay0] using c) r)
  | .dict _, v, c, h => by simp [PyData.canLay0] at c
theorem Rp.dps {F : Hp} : ∀ (ds : List D) (vs : List V), PyData.canLayAll0 ds = true → Rps K F ds vs → DpAll K F vs ds
  | [], vs, _, h => by rw [h.unnil]; exact .nil
  | d :: ds, vs, c, h => by
    obtain ⟨v, r, rfl, h1, h2⟩ := h.uncons
    rw [PyData.canLayAll0, Bool.and_eq_true] at c
    exact .cons (Rp.dp d v c.1 h1) (Rp.dps ds r c.2 h2)
end
theorem Rp.dpS {F : Hp} {d : D} {v : V} (c : SeqAt.shaped d = true) (h : Rp K F d v) : Dp K F v d := Rp.dp d v (SeqAt.canLay_of_shaped c) h
theorem Rp.scal {F : Hp} {d e : D} {x y : V} (c : scalD d e = true) (h : Rp K F d x) (h' : Rp K F e y) : L2.scal x y = true ∧ decide (x = y) = PyData.eqv d e := by
  cases d <;> cases e <;> (try (exfalso; unfold scalD at c; cases c; done))
  · cases h.bl_inv; cases h'.bl_inv; exact ⟨rfl, by rw [dec_bl]; simp [PyData.eqv]⟩
  · cases h.int_inv; cases h'.int_inv; exact ⟨rfl, by rw [dec_int]; simp [PyData.eqv]⟩
  · cases h.str_inv; cases h'.str_inv; exact ⟨rfl, by rw [dec_str]; simp [PyData.eqv]⟩
def rEqA (K : PySem.W.Frag) : R2 := fun x y H Q => rEq x y H Q ∨ rEqD K x y H Q
def rNeA (K : PySem.W.Frag) : R2 := fun x y H Q => rNe x y H Q ∨ rNeD K x y H Q
theorem o_eq (hu : X.A.units + 64 < cLine) : OpR X (compareOp .Eq) (rEqA X.K) := op_eq.or (op_eqD hu)
theorem o_ne (hu : X.A.units + 64 < cLine) : OpR X (compareOp .NotEq) (rNeA X.K) := op_ne.or (op_neD hu)
theorem l_eq : OpL K (rEqA K) dEq := fun F H x y dx dy d s rx ry fe Q' k => by
  unfold dEq at fe
  split at fe
  · rename_i h
    cases fe
    rcases h with h | h
    · obtain ⟨h1, h2⟩ := rx.scal h ry
      exact .inl ⟨h1, by rw [h2]; exact k _ F H (.refl s) (.bl _)⟩
    · exact .inr ⟨dx, dy, (rx.mono s).dpS h.1, (ry.mono s).dpS h.2, h.1, h.2, k _ F H (.refl s) (.bl _)⟩
  · cases fe
theorem l_ne : OpL K (rNeA K) dNe := fun F H x y dx dy d s rx ry fe Q' k => by
  unfold dNe at fe
  split at fe
  · rename_i h
    cases fe
    rcases h with h | h
    · obtain ⟨h1, h2⟩ := rx.scal h ry
      exact .inl ⟨h1, by rw [h2]; exact k _ F H (.refl s) (.bl _)⟩
    · exact .inr ⟨dx, dy, (rx.mono s).dpS h.1, (ry.mono s).dpS h.2, h.1, h.2, k _ F H (.refl s) (.bl _)⟩
  · cases fe
theorem Rp.isNone {F : Hp} {d : D} {v : V} (h : Rp K F d v) : decide (v = .non) = isNone d := by
  cases h <;> first | rfl | exact decide_eq_false (fun z => by cases z)
theorem l_isN : OpL K (fun x y H Q => y = .non ∧ Q (.bl (decide (x = .non))) H) dIsN := fun F H x y dx dy d s rx ry fe Q' k => by
  unfold dIsN at fe
  split at fe
  · cases fe
    exact ⟨ry.non_inv, k _ F H (.refl s) (by rw [rx.isNone]; exact .bl _)⟩
  · cases fe
theorem l_notN : OpL K (fun x y H Q => y = .non ∧ Q (.bl (!decide (x = .non))) H) dIsNotN := fun F H x y dx dy d s rx ry fe Q' k => by
  unfold dIsNotN at fe
  split at fe
  · cases fe
    exact ⟨ry.non_inv, k _ F H (.refl s) (by rw [rx.isNone]; exact .bl _)⟩
  · cases fe
theorem Rp.flat {F : Hp} {d : D} {v : V} (f : flatD d = true) (h : Rp K F d v) : flatV v = true := by
  cases h <;> first | rfl | (unfold flatD at f; cases f)
theorem Rp.eqV {F : Hp} {d e : D} {x y : V} (f : flatD d = true) (g : flatD e = true) (h : Rp K F d x) (h' : Rp K F e y) : eqV x y = PyData.eqv d e := by
  cases h <;> (try (unfold flatD at f; cases f)) <;> cases h' <;> (try (unfold flatD at g; cases g)) <;> simp [L2.eqV, PyData.eqv]
theorem Rps.all_flat {F : Hp} : ∀ {ds : List D} {xs : List V}, ds.all flatD = true → Rps K F ds xs → xs.all flatV = true
  | [], xs, _, h => by rw [h.unnil]; rfl
  | d :: ds, xs, f, h => by
    obtain ⟨v, r, rfl, h1, h2⟩ := h.uncons
    rw [List.all_cons, Bool.and_eq_true] at f ⊢
    exact ⟨h1.flat f.1, Rps.all_flat f.2 h2⟩
theorem Rps.anyEq {F : Hp} {d : D} {x : V} (fd : flatD d = true) (rx : Rp K F d x) : ∀ {ds : List D} {xs : List V}, ds.all flatD = true → Rps K F ds xs → inV x xs = anyEq d ds
  | [], xs, _, h => by rw [h.unnil]; rfl
  | e :: ds, xs, f, h => by
    obtain ⟨v, r, rfl, h1, h2⟩ := h.uncons
    rw [List.all_cons, Bool.and_eq_true] at f
    show (eqV v x || inV x r) = (PyData.eqv e d || RR.anyEq d ds)
    rw [Rps.anyEq fd rx f.2 h2, Rp.eqV f.1 fd h1 rx]
/-- a dict's entry -/
theorem keyD_of {F : Hp} {d : D} {v : V} (i : isKey d = true) (h : Rp K F d v) : ∃ k : Key, v = kV k ∧ d = keyD k := by
  cases h <;> first | (exfalso; simp [isKey, keyOf] at i; done) | exact ⟨.inl _, rfl, rfl⟩ | exact ⟨.inr _, rfl, rfl⟩
theorem eqv_key (j k : Key) : PyData.eqv (keyD j) (keyD k) = decide (j = k) := by
  cases j <;> cases k
  · simp only [keyD, PyData.eqv]; rw [key_ll]
  · simp only [keyD, PyData.eqv]; exact (key_lr _ _).symm
  · simp only [keyD, PyData.eqv]; exact (key_rl _ _).symm
  · simp only [keyD, PyData.eqv]; rw [key_rr]; rename_i a b; by_cases e : a = b <;> simp [e]
theorem dct_look {F : Hp} (k : Key) : ∀ {kvs : List (Key × V)} {ds : List (D × D)}, ds.map (·.1) = kvs.map (fun p => keyD p.1) → (∀ (i : Nat) x d, kvs[i]? = some x → ds[i]? = some d → Rp K F d.2 x.2) →
    match dLook ds (keyD k) with | some d => ∃ v, valV kvs k = some v ∧ Rp K F d v | none => valV kvs k = none
  | [], [], _, _ => rfl
  | [], _ :: _, e, _ => by simp at e
  | _ :: _, [], e, _ => by simp at e
  | q :: kvs, d :: ds, e, r => by
    obtain ⟨d1, d2⟩ := d
    simp only [List.map_cons, List.cons.injEq] at e
    obtain ⟨e1, e2⟩ := e
    subst e1
    by_cases hk : q.1 = k
    · have h1 : dLook ((keyD q.1, d2) :: ds) (keyD k) = some d2 := by
        unfold dLook
        rw [List.find?_cons_of_pos (by rw [eqv_key]; exact decide_eq_true hk)]
        rfl
      rw [h1]
      exact ⟨_, valV_pos hk, r 0 q (_, d2) rfl rfl⟩
    · have h1 : dLook ((keyD q.1, d2) :: ds) (keyD k) = dLook ds (keyD k) := by
        unfold dLook
        rw [List.find?_cons_of_neg (by rw [eqv_key, decide_eq_false hk]; decide)]
      rw [h1, valV_neg hk]
      exact dct_look k e2 fun i x d a b => r (i + 1) x d (by simpa using a) (by simpa using b)
theorem dct_get {F : Hp} {ds : List (D × D)} {a : V} {d : D} {y : V} (h : Rp K F (.dict ds) a) (i : isKey d = true) (ry : Rp K F d y) :
    ∃ b o, a = .ref b ∧ DGet F b y o ∧ (match dLook ds d with | some e => ∃ v, o = some v ∧ Rp K F e v | none => o = none) := by
  obtain ⟨k, rfl, rfl⟩ := keyD_of i ry
  cases h with
  | dct h1 h2 h3 =>
    rename_i b kvs
    refine ⟨b, valV kvs k, rfl, .inl ⟨kvs, k, h1, rfl, rfl⟩, ?_⟩
    exact dct_look k h2 h3
def rDIn (neg : Bool) : R2 := fun y x H Q => ∃ a o, x = .ref a ∧ DGet H a y o ∧ Q (.bl (if neg then !o.isSome else o.isSome)) H
theorem op_din (hu : X.A.units + 1 < cLine) : OpR X (compareOp .In) (rDIn false) := fun pins s σ H x y v u Q I rx ry h => by
  obtain ⟨a, o, rfl, g, q⟩ := h
  cases ry
  exact d_in hu I g rx fun s' I' => ⟨.bl o.isSome, H, I', rfl, q⟩
theorem op_dnotin (hu : X.A.units + 1 < cLine) : OpR X (compareOp .NotIn) (rDIn true) := fun pins s σ H x y v u Q I rx ry h => by
  obtain ⟨a, o, rfl, g, q⟩ := h
  cases ry
  exact d_notIn hu I g rx fun s' I' => ⟨.bl (!o.isSome), H, I', rfl, q⟩
theorem l_din {neg : Bool} : OpL K (rDIn neg) (fun x y => match y with | .dict kvs => if isKey x = true then some (.bool (if neg then !(dLook kvs x).isSome else (dLook kvs x).isSome)) else none | _ => none) := fun F H x y dx dy d s rx ry fe Q' k => by
  dsimp only at fe
  split at fe
  · rename_i kvs
    by_cases hk : isKey dx = true
    · rw [if_pos hk] at fe
      cases fe
      obtain ⟨b, o, rfl, g, w⟩ := dct_get (ry.mono s) hk (rx.mono s)
      refine ⟨b, o, rfl, g, k _ F H (.refl s) ?_⟩
      have e : o.isSome = (dLook kvs dx).isSome := by
        split at w
        · rename_i e1
          obtain ⟨v, rfl, _⟩ := w
          rw [e1]; rfl
        · rename_i e1
          rw [w, e1]; rfl
      rw [e]
      exact .bl _
    · rw [if_neg hk] at fe
      cases fe
  · cases fe
def rInA (K : PySem.W.Frag) : R2 := fun x y H Q => rInD K x y H Q ∨ (fun x y H Q => rIn K false x y H Q ∨ rDIn false x y H Q) x y H Q
def rNotInA (K : PySem.W.Frag) : R2 := fun x y H Q => rNotInD K x y H Q ∨ (fun x y H Q => rIn K true x y H Q ∨ rDIn true x y H Q) x y H Q
theorem o_in (hu : X.A.units + 65 < cLine) : OpR X (compareOp .In) (rInA X.K) := (op_inD hu).or (op_in_seq.or (op_din (by omega)))
theorem o_notIn (hu : X.A.units + 65 < cLine) : OpR X (compareOp .NotIn) (rNotInA X.K) := (op_notInD hu).or (op_notIn_seq.or (op_dnotin (by omega)))
theorem l_inD : OpL K (rInD K) (fun x y => match y with | .list xs => if SeqAt.shaped x = true ∧ SeqAt.shaped (.list xs) = true then some (.bool (anyEq x xs)) else none | _ => none) := fun F H x y dx dy d s rx ry fe Q' k => by
  dsimp only at fe
  split at fe
  · split at fe
    · rename_i h
      cases fe
      exact ⟨dx, _, (rx.mono s).dpS h.1, (ry.mono s).dpS h.2, h.1, h.2, k _ F H (.refl s) (.bl _)⟩
    · cases fe
  · cases fe
theorem l_notInD : OpL K (rNotInD K) (fun x y => match y with | .list xs => if SeqAt.shaped x = true ∧ SeqAt.shaped (.list xs) = true then some (.bool (!anyEq x xs)) else none | _ => none) := fun F H x y dx dy d s rx ry fe Q' k => by
  dsimp only at fe
  split at fe
  · split at fe
    · rename_i h
      cases fe
      exact ⟨dx, _, (rx.mono s).dpS h.1, (ry.mono s).dpS h.2, h.1, h.2, k _ F H (.refl s) (.bl _)⟩
    · cases fe
  · cases fe
theorem l_inT {neg : Bool} : OpL K (rIn K neg) (fun x y => match y with | .tuple xs => if flatD x = true ∧ xs.all flatD = true then some (.bool (if neg then !anyEq x xs else anyEq x xs)) else none | _ => none) := fun F H x y dx dy d s rx ry fe Q' k => by
  dsimp only at fe
  split at fe
  · split at fe
    · rename_i h
      cases fe
      obtain ⟨a, vs, rfl, e1, r1⟩ := ry.tup_inv
      refine ⟨a, vs, rfl, .inr (Same.sqt s e1), rx.flat h.1, r1.all_flat h.2, ?_⟩
      rw [Rps.anyEq h.1 rx h.2 r1]
      exact k _ F H (.refl s) (.bl _)
    · cases fe
  · cases fe
theorem l_in : OpL K (rInA K) dIn := l_inD.or (l_inT.or l_din (h := fun x y => match y with
    | .tuple xs => if flatD x = true ∧ xs.all flatD = true then some (.bool (anyEq x xs)) else none
    | .dict kvs => if isKey x = true then some (.bool (dLook kvs x).isSome) else none
    | _ => none) (fun x y d e => by split at e <;> first | exact .inl e | exact .inr e | cases e)) (fun x y d e => by
  unfold dIn at e
  split at e <;> first | exact .inl e | exact .inr e | cases e)
theorem l_notIn : OpL K (rNotInA K) dNotIn := l_notInD.or (l_inT.or l_din (h := fun x y => match y with
    | .tuple xs => if flatD x = true ∧ xs.all flatD = true then some (.bool (!anyEq x xs)) else none
    | .dict kvs => if isKey x = true then some (.bool (!(dLook kvs x).isSome)) else none
    | _ => none) (fun x y d e => by split at e <;> first | exact .inl e | exact .inr e | cases e)) (fun x y d e => by
  unfold dNotIn at e
  split at e <;> first | exact .inl e | exact .inr e | cases e)
theorem ixN_eq {ds : List D} {xs : List V} {F : Hp} (h : Rps K F ds xs) {i : Int} {d : D} (e : atI ds i = some d) : ∃ v, atI xs i = some v ∧ Rp K F d v := by
  unfold atI at e ⊢
  rw [h.len]
  cases q : ixN ds.length i with
  | none => rw [q] at e; cases e
  | some j =>
    rw [q] at e
    exact h.get (by simpa using e)
def rIxD : R2 := fun x y H Q => ∃ a v, x = .ref a ∧ DGet H a y (some v) ∧ Q v H
theorem ix_dict (hu : X.A.units + 1 < cLine) : IxR X rIxD := fun value slice pins s σ H x y v u Q I rx ry h hs => by
  obtain ⟨a, z, rfl, g, q⟩ := h
  cases rx
  exact tail_any (dict_typeIs I g) PySem.F.slot_dict_getitem.lookup (d_getItem hu I g ry fun w' s3 I3 rw' => ⟨z, H, I3, rw', q⟩) hs
end
end RR
end
section
namespace RR
open PySem PySem.Spec L2
open PyProof.Rows hiding St
section
variable {X : Cx} {K : PySem.W.Frag} {p : Pm} {O : List Nat} {a b c e : Expr} {pos : Pos} {ta tb tc te : TE} {ma mb mc me : ME} {es : List Expr} {t : TA} {m : MA}
def rIxA (K : PySem.W.Frag) : R2 := fun x y H Q => rIxL K x y H Q ∨ (fun x y H Q => rIxT K x y H Q ∨ rIxD x y H Q) x y H Q
theorem o_ix (hu : X.A.units + 1 < cLine) : IxR X (rIxA X.K) := ix_list.or (ix_tup.or (ix_dict hu))
theorem l_ixL : OpL K (rIxL K) (fun x y => match x, y with | .list xs, .int i => atI xs i | _, _ => none) := fun F H x y dx dy d s rx ry fe Q' k => by
  dsimp only at fe
  split at fe
  · obtain ⟨a, vs, rfl, e1, r1⟩ := rx.lst_inv
    obtain ⟨v, e2, r2⟩ := ixN_eq r1 fe
    exact ⟨a, vs, _, v, rfl, ry.int_inv, .of (s _ _ e1), e2, k v F H (.refl s) r2⟩
  · cases fe
theorem l_ixT : OpL K (rIxT K) (fun x y => match x, y with | .tuple xs, .int i => atI xs i | _, _ => none) := fun F H x y dx dy d s rx ry fe Q' k => by
  dsimp only at fe
  split at fe
  · obtain ⟨a, vs, rfl, e1, r1⟩ := rx.tup_inv
    obtain ⟨v, e2, r2⟩ := ixN_eq r1 fe
    exact ⟨a, vs, _, v, rfl, ry.int_inv, Same.sqt s e1, e2, k v F H (.refl s) r2⟩
  · cases fe
theorem l_ixD : OpL K rIxD (fun x y => match x with | .dict kvs => if isKey y = true then dLook kvs y else none | _ => none) := fun F H x y dx dy d s rx ry fe Q' k => by
  dsimp only at fe
  split at fe
  · rename_i kvs
    by_cases hk : isKey dy = true
    · rw [if_pos hk] at fe
      obtain ⟨b, o, rfl, g, w⟩ := dct_get rx hk ry
      rw [fe] at w
      obtain ⟨v, rfl, r⟩ := w
      refine ⟨b, v, rfl, ?_, k v F H (.refl s) r⟩
      rcases g with ⟨q1, q2, z1, z2, z3⟩ | ⟨q1, q2, q3, z1, z2, z3, z4⟩
      · exact .inl ⟨q1, q2, Same.rd s z1, z2, z3⟩
      · exact .inr ⟨q1, q2, q3, Same.rd s z1, z2, s _ _ z3, z4⟩
    · rw [if_neg hk] at fe
      cases fe
  · cases fe
theorem l_ix : OpL K (rIxA K) dIx := l_ixL.or (l_ixT.or l_ixD (h := fun x y => match x, y with
    | .tuple xs, .int i => atI xs i
    | .dict kvs, k => if isKey k = true then dLook kvs k else none
    | _, _ => none) (fun x y d e => by split at e <;> first | exact .inl e | exact .inr e | cases e)) (fun x y d e => by
  unfold dIx at e
  split at e <;> first | exact .inl e | exact .inr e | cases e)
def cutD (xs : List D) (lo hi : Option Int) : List D := (xs.drop (HT.sIx xs.length 0 lo)).take (HT.sIx xs.length xs.length hi - HT.sIx xs.length 0 lo)
def dSl (lo hi : Option Int) : D → Option D
  | .list xs => some (.list (cutD xs lo hi))
  | .tuple xs => some (.tuple (cutD xs lo hi))
  | _ => none
abbrev MO := DEnv → Nat → (Option Int → Nat → Prop) → Prop
@[reducible] def mNoPart : MO := fun _ n Q => Q none n
@[reducible] def mPart (m : ME) : MO := fun Γ n Q => m Γ n fun d n1 => ∃ i, d = .int i ∧ Q (some i) n1
def rSlX (K : PySem.W.Frag) : V → Option Int → Option Int → Hp → VK → Prop := fun x lo hi H Q => rSlL K x lo hi H Q ∨ rSlA K x lo hi H Q
theorem o_sl : SlR X (rSlX X.K) := sl_list.or sl_tupA
@[reducible] def mSl (me : ME) (ml mh : MO) : ME := fun Γ n Q => me Γ n fun x n1 => ml Γ n1 fun lo n2 => mh Γ n2 fun hi n3 => ∃ d, dSl lo hi x = some d ∧ Q d n3
def cLen : List D → Option D
  | [.list xs] => some (.int xs.length)
  | [.tuple xs] => some (.int xs.length)
  | _ => none
def rLen (K : PySem.W.Frag) : List V → Hp → VK → Prop := fun xs H Q => ∃ q ys, xs = [.ref q] ∧ (SqL K H q ys ∨ SqT K H q ys) ∧ Q (.int ys.length) H
theorem l_len : ClL K (rLen K) cLen := fun F H xs ds d s r fe Q' k => by
  unfold cLen at fe
  split at fe
  · cases fe
    obtain ⟨v, w, rfl, r1, r2⟩ := r.uncons
    cases r2.unnil
    obtain ⟨a, vs, rfl, e1, r3⟩ := r1.lst_inv
    exact ⟨a, vs, rfl, .inl (.of (s _ _ e1)), k _ F H (.refl s) (by rw [r3.len]; exact .int _)⟩
  · cases fe
    obtain ⟨v, w, rfl, r1, r2⟩ := r.uncons
    cases r2.unnil
    obtain ⟨a, vs, rfl, e1, r3⟩ := r1.tup_inv
    exact ⟨a, vs, rfl, .inr (Same.sqt s e1), k _ F H (.refl s) (by rw [r3.len]; exact .int _)⟩
  · cases fe
def cAbs : List D → Option D
  | [.int i] => some (.int (if i < 0 then -i else i))
  | _ => none
def cInt : List D → Option D
  | [.int i] => some (.int i)
  | [.bool b] => some (.int (if b then 1 else 0))
  | _ => none
theorem l_int : ClL K (fun xs H Q => (∃ i, xs = [.int i] ∧ Q (.int i) H) ∨ ∃ k, xs = [.bl k] ∧ Q (.int (if k then 1 else 0)) H) cInt := fun F H xs ds d s r fe Q' k => by
  unfold cInt at fe
  split at fe
  · cases fe
    obtain ⟨v, w, rfl, r1, r2⟩ := r.uncons
    cases r2.unnil
    cases r1.int_inv
    exact .inl ⟨_, rfl, k _ F H (.refl s) (.int _)⟩
  · cases fe
    obtain ⟨v, w, rfl, r1, r2⟩ := r.uncons
    cases r2.unnil
    cases r1.bl_inv
    exact .inr ⟨_, rfl, k _ F H (.refl s) (.int _)⟩
  · cases fe
def cMax2 : List D → Option D
  | [.int i, .int j] => some (.int (if j > i then j else i))
  | _ => none
theorem l_max2 : ClL K (fun xs H Q => ∃ i j, xs = [.int i, .int j] ∧ Q (.int (if j > i then j else i)) H) cMax2 := fun F H xs ds d s r fe Q' k => by
  unfold cMax2 at fe
  split at fe
  · cases fe
    obtain ⟨v, w, rfl, r1, r2⟩ := r.uncons
    obtain ⟨v2, w2, rfl, r3, r4⟩ := r2.uncons
    cases r4.unnil
    cases r1.int_inv
    cases r3.int_inv
    exact ⟨_, _, rfl, k _ F H (.refl s) (.int _)⟩
  · cases fe
def cList : List D → Option D
  | [.list xs] => some (.list xs)
  | [.tuple xs] => some (.list xs)
  | _ => none
def rListOf (K : PySem.W.Frag) : List V → Hp → VK → Prop := fun xs H Q => ∃ q ys, xs = [.ref q] ∧ (SqL K H q ys ∨ SqT K H q ys) ∧ ∀ l, H l = none → Q (.ref l) (upd H l (.lst ys))
def cTuple : List D → Option D
  | [.list xs] => some (.tuple xs)
  | [.tuple xs] => some (.tuple xs)
  | _ => none
def boolsD : List D → Option (List Bool)
  | [] => some []
  | .bool i :: r => (boolsD r).map (i :: ·)
  | _ :: _ => none
theorem boolsD_map (ns : List Bool) : boolsD (ns.map .bool) = some ns := by
  induction ns with
  | nil => rfl
  | cons n r ih => show (boolsD (r.map .bool)).map _ = _; rw [ih]; rfl
theorem boolsD_eq : ∀ {ds : List D} {ns : List Bool}, boolsD ds = some ns → ds = ns.map .bool
  | [], ns, h => by cases h; rfl
  | .bool i :: r, ns, h => by
    unfold boolsD at h
    cases q : boolsD r with
    | none => rw [q] at h; cases h
    | some z =>
      rw [q] at h
      cases h
      rw [boolsD_eq q]
      rfl
  | .none :: _, _, h => by cases h
  | .int _ :: _, _, h => by cases h
  | .str _ :: _, _, h => by cases h
  | .list _ :: _, _, h => by cases h
  | .tuple _ :: _, _, h => by cases h
  | .dict _ :: _, _, h => by cases h
theorem Rps.bools {F : Hp} : ∀ {ns : List Bool} {xs : List V}, Rps K F (ns.map .bool) xs → xs = ns.map V.bl
  | [], xs, h => h.unnil
  | n :: r, xs, h => by
    obtain ⟨v, w, rfl, r1, r2⟩ := h.uncons
    cases r1.bl_inv
    rw [Rps.bools r2]
    rfl
def cAll : List D → Option D
  | [.list xs] => (boolsD xs).map fun bs => .bool (bs.all id)
  | _ => none
theorem l_all : ClL K (rAll K) cAll := fun F H xs ds d s r fe Q' k => by
  unfold cAll at fe
  split at fe
  · rename_i ys
    cases q : boolsD ys with
    | none => rw [q] at fe; cases fe
    | some bs =>
      rw [q] at fe
      cases fe
      obtain ⟨v, w, rfl, r1, r2⟩ := r.uncons
      cases r2.unnil
      obtain ⟨a, vs, rfl, e1, r3⟩ := r1.lst_inv
      rw [boolsD_eq q] at r3
      rw [r3.bools] at e1
      exact ⟨a, bs, rfl, .of (s _ _ e1), k _ F H (.refl s) (.bl _)⟩
  · cases fe
def tyD : D → String
  | .none => "NoneType"
  | .bool _ => "bool"
  | .int _ => "int"
  | .str _ => "str"
  | .list _ => "list"
  | .tuple _ => "tuple"
  | .dict _ => "dict"
theorem Rp.tyX {F : Hp} {d : D} {v : V} (h : Rp K F d v) : TyX K F v (.type (tyD d)) := by
  cases h with
  | non => exact .base .non
  | bl b => exact .base (.bl b)
  | int i => exact .base (.int i)
  | str x => exact .base (.str x)
  | lst h1 => exact .base (.lst h1)
  | tup h1 =>
    rcases h1 with (h1 | ⟨o, h1⟩) | ⟨o, its, n, h1, h2, _⟩
    · exact .base (.tup h1)
    · exact .fTuple h1
    · exact .kTuple h1 h2
  | dct h1 =>
    rcases h1 with h1 | ⟨o, h1⟩
    · exact .base (.dK h1)
    · exact .fDict h1
def isiB (d : D) (T : String) : Bool := tyD d == T || (T == "int" && tyD d == "bool")
/-- the kinds asked here -/
def okTy (T : String) : Bool := T == "int" || T == "bool" || T == "str" || T == "list" || T == "tuple" || T == "dict"
theorem kit_isi : ∀ (d : D) (T : String), okTy T = true → kitB (tyD d) T = some (isiB d T) := by
  have all : ∀ u ∈ ["NoneType", "bool", "int", "str", "list", "tuple", "dict"], ∀ T ∈ ["int", "bool", "str", "list", "tuple", "dict"], kitB u T = some (u == T || (T == "int" && u == "bool")) := by
    decide +kernel
  intro d T h
  refine all _ ?_ T ?_
  · cases d <;> simp [tyD]
  · simp only [okTy, Bool.or_eq_true, beq_iff_eq] at h
    rcases h with ((((h | h) | h) | h) | h) | h <;> subst h <;> simp
@[reducible] def mIsi (T : String) (me : ME) : ME := fun Γ n Q => me Γ n fun d n1 => Q (.bool (isiB d T)) n1
theorem e_isi {T : String} (x : Str) {q q2 : Pos} (hT : okTy T = true) (hK : p.K = X.K) (he : RE X p O e te me) (hg : Gl X "isinstance") (hm : X.mg "isinstance" = none) (hx : PE X (.Name x q2) (tC (.ty T)))
    (h : PE X (.Call (.Name "isinstance" q) [e, .Name x q2] [] pos) (tCB (rIsi X.K) (tCons te (tCons (tC (.ty T)) tNil)))) : RE X p O (.Call (.Name "isinstance" q) [e, .Name x q2] [] pos) (tCB (rIsi p.K) (tCons te (tCons (tC (.ty T)) tNil))) (mIsi T me) :=
  ⟨hK ▸ h, fun F0 H0 F H σ Γ n Q s qq Q' k =>
    he.le F0 H0 F H σ Γ n _ s qq _ fun d v F1 H1 n1 s1 e1 r1 q1 =>
      ⟨v, .ty T, _, _, _, rfl, .ty T, (r1.mono s1.fh).tyX, kit_ty (kit_isi d T hT), k _ _ F1 H1 n1 s1 e1 (.bl _) q1⟩⟩
@[reducible] def mIsi2 (T U : String) (me : ME) : ME := fun Γ n Q => me Γ n fun d n1 => Q (.bool (isiB d T || isiB d U)) n1
end
end RR
end
section
namespace RR
open PySem PySem.Spec L2
open PyProof.Rows hiding St
section
variable {p : Pm} {F0 H0 F H F' H' : Hp} {O O' : List Nat} {σ : St} {Γ : DEnv} {n : Nat}
theorem set_at {α : Type} {l : List α} {i j : Nat} {x : α} : (l.set i x)[j]? = if i = j then (if j < l.length then some x else none) else l[j]? := by
  rw [List.getElem?_set]
  by_cases e : i = j
  · subst e; rfl
  · rw [if_neg e, if_neg e]
/-- a slot gets a shared thing -/
theorem Sep.put (s : Sep p F0 H0 O F H σ Γ n) {i : Nat} {d : D} {v : V} (hi : i ∉ O) (hp : ∀ a j, p.ap = some (a, j) → j ≠ i) (r : Rp p.K F d v) : Sep p F0 H0 O F H (σ.set i (some v)) (Γ.set i (some d)) n where
  f0 := s.f0
  fh := s.fh
  stay := s.stay
  newF := s.newF
  pen := fun a j e => by
    obtain ⟨h1, h2, h3⟩ := s.pen a j e
    exact ⟨h1, by rw [List.getElem?_set_ne (Ne.symm (hp a j e))]; exact h2, h3⟩
  len := by simp [s.len]
  sh := fun j e hj h => by
    by_cases hij : i = j
    · subst hij
      rw [set_at, if_pos rfl] at h
      split at h
      · rename_i hl
        cases h
        refine ⟨v, ?_, r⟩
        rw [set_at, if_pos rfl, if_pos (by rw [s.len]; exact hl)]
      · cases h
    · rw [List.getElem?_set_ne hij] at h ⊢
      exact s.sh j e hj h
  ow := fun j hj e h => by
    have hij : i ≠ j := fun z => hi (z ▸ hj)
    rw [List.getElem?_set_ne hij] at h ⊢
    exact s.ow j hj e h
  dj := fun j hj k hk hjk a dj dk h1 h2 h3 h4 => by
    have e1 : i ≠ j := fun z => hi (z ▸ hj)
    have e2 : i ≠ k := fun z => hi (z ▸ hk)
    rw [List.getElem?_set_ne e1] at h1 h3
    rw [List.getElem?_set_ne e2] at h2 h4
    exact s.dj j hj k hk hjk a dj dk h1 h2 h3 h4
/-- what a new thing of one's own must be -/
structure Free (p : Pm) (H0 : Hp) (O : List Nat) (F H : Hp) (σ : St) (Γ : DEnv) (d : D) (a : Addr) : Prop where
  own : Own p.K F H d a
  f : F a = none
  h0 : H0 a = none
  pen : ¬ p.isPen a
  sl : ∀ j ∈ O, ∀ dj, Γ[j]? = some (some dj) → σ[j]? ≠ some (some (.ref a))
/-- a slot gets a thing of its own -/
theorem Sep.putOwn (s : Sep p F0 H0 O F H σ Γ n) {i : Nat} {d : D} {a : Addr} (hp : ∀ b j, p.ap = some (b, j) → j ≠ i) (w : Free p H0 O F H σ Γ d a) : Sep p F0 H0 (i :: O) F H (σ.set i (some (.ref a))) (Γ.set i (some d)) n where
  f0 := s.f0
  fh := s.fh
  stay := s.stay
  newF := s.newF
  pen := fun a j e => by
    obtain ⟨h1, h2, h3⟩ := s.pen a j e
    exact ⟨h1, by rw [List.getElem?_set_ne (Ne.symm (hp a j e))]; exact h2, h3⟩
  len := by simp [s.len]
  sh := fun j e hj h => by
    have hij : i ≠ j := fun z => hj (by rw [z]; exact List.mem_cons_self ..)
    rw [List.getElem?_set_ne hij] at h ⊢
    exact s.sh j e (fun z => hj (List.mem_cons_of_mem _ z)) h
  ow := fun j hj e h => by
    by_cases hij : i = j
    · subst hij
      rw [set_at, if_pos rfl] at h
      split at h
      · rename_i hl
        cases h
        refine ⟨a, ?_, w.own, w.f, w.h0, w.pen⟩
        rw [set_at, if_pos rfl, if_pos (by rw [s.len]; exact hl)]
      · cases h
    · rw [List.getElem?_set_ne hij] at h ⊢
      rcases List.mem_cons.mp hj with z | z
      · exact absurd z.symm hij
      · exact s.ow j z e h
  dj := fun j hj k hk hjk b dj dk h1 h2 h3 h4 => by
    have hl : ∀ {m : Nat} {e : D}, i = m → (Γ.set i (some d))[m]? = some (some e) → m < σ.length := fun {m e} z h => by
      subst z
      rw [set_at, if_pos rfl] at h
      split at h
      · rename_i hl; rw [s.len]; exact hl
      · cases h
    by_cases e1 : i = j
    · by_cases e2 : i = k
      · exact hjk (e1.symm.trans e2)
      · rw [List.getElem?_set_ne e2] at h2 h4
        have q := hl e1 h1
        subst e1
        rw [set_at, if_pos rfl, if_pos q] at h3
        cases h3
        rcases List.mem_cons.mp hk with z | z
        · exact e2 z.symm
        · exact w.sl k z dk h2 h4
    · rw [List.getElem?_set_ne e1] at h1 h3
      have hj' : j ∈ O := (List.mem_cons.mp hj).elim (fun z => absurd z.symm e1) id
      by_cases e2 : i = k
      · have q := hl e2 h2
        subst e2
        rw [set_at, if_pos rfl, if_pos q] at h4
        cases h4
        exact w.sl j hj' dj h1 h3
      · rw [List.getElem?_set_ne e2] at h2 h4
        have hk' : k ∈ O := (List.mem_cons.mp hk).elim (fun z => absurd z.symm e2) id
        exact s.dj j hj' k hk' hjk b dj dk h1 h2 h3 h4
/-- a free thing is frozen -/
theorem Sep.freeze0 (s : Sep p F0 H0 O F H σ Γ n) {d : D} {a : Addr} (w : Free p H0 O F H σ Γ d a) : ∃ F', Sep p F0 H0 O F' H σ Γ n ∧ Same F F' ∧ Gp p F H F' H = Gp p F H F' H ∧ Rp p.K F' d (.ref a) ∧ (∀ b o, F' b = some o → F b = some o ∨ b = a) := by
  obtain ⟨o, e⟩ := w.own.at
  have sm : Same F (upd F a o) := same_up w.f
  have nw : ∀ b u, (upd F a o) b = some u → F b = some u ∨ b = a := fun b u q => by
    by_cases hb : b = a
    · exact .inr hb
    · rw [upd_ne hb] at q; exact .inl q
  refine ⟨upd F a o, ⟨s.f0.trans sm, fun b u q => ?_, s.stay, fun b u q => ?_, fun b j q => ?_, s.len, fun j e hj h => ?_, fun j hj e h => ?_, s.dj⟩, sm, rfl, ?_, nw⟩
  · rcases nw b u q with z | z
    · exact s.fh _ _ z
    · subst z
      rw [upd_same] at q
      cases q
      exact e
  · rcases nw b u q with z | z
    · exact s.newF _ _ z
    · subst z; exact .inr w.h0
  · obtain ⟨h1, h2, ⟨x, l, xs, z1, z2, z3⟩, zt⟩ := s.pen b j q
    have hb : b ≠ a := fun z => w.pen ⟨b, j, q, .inl z.symm⟩
    exact ⟨by rw [upd_ne hb]; exact h1, h2, ⟨x, l, xs, z1, sm _ _ z2, z3⟩, zt.up sm (fun y hy => by rw [upd_ne fun z => w.pen ⟨b, j, q, .inr ⟨y, hy, z⟩⟩]; exact (zt y hy).1) (fun _ _ _ h => h)⟩
  · obtain ⟨v, q, r⟩ := s.sh j e hj h
    exact ⟨v, q, r.mono sm⟩
  · obtain ⟨b, q, r, z1, z2, z3⟩ := s.ow j hj e h
    have hb : b ≠ a := fun z => w.sl j hj e h (z ▸ q)
    refine ⟨b, q, ?_, by rw [upd_ne hb]; exact z1, z2, z3⟩
    cases r with
    | lst q1 q2 => exact .lst q1 (q2.mono sm)
    | dct q1 q2 q3 => exact .dct q1 q2 fun i x d a b => (q3 i x d a b).mono sm
  · have hw := w.own
    cases hw with
    | lst q1 q2 =>
      rw [e] at q1
      cases q1
      exact .of_lst upd_same (q2.mono sm)
    | dct q1 q2 q3 =>
      rw [e] at q1
      cases q1
      exact .dct (.inl upd_same) q2 fun i x d a b => (q3 i x d a b).mono sm
/-- an own slot's thing -/
theorem Sep.at_own (s : Sep p F0 H0 O F H σ Γ n) {i : Nat} (hi : i ∈ O) {d : D} (e : Γ[i]? = some (some d)) : ∃ a, σ[i]? = some (some (.ref a)) ∧ Free p H0 (O.filter (· ≠ i)) F H σ Γ d a := by
  obtain ⟨a, q, r, z1, z2, z3⟩ := s.ow i hi d e
  refine ⟨a, q, r, z1, z2, z3, fun j hj dj h z => ?_⟩
  obtain ⟨h1, h2⟩ := List.mem_filter.mp hj
  exact s.dj i hi j h1 (fun w => by simp [w] at h2) a d dj e h q z
/-- forgetting that a slot's thing is its own: for an unset slot nothing is to be done -/
theorem Sep.fewer (s : Sep p F0 H0 O F H σ Γ n) {i : Nat} (h : ∀ d, Γ[i]? ≠ some (some d)) : Sep p F0 H0 (O.filter (· ≠ i)) F H σ Γ n :=
  ⟨s.f0, s.fh, s.stay, s.newF, s.pen, s.len, fun j d hj e => by
    by_cases q : j = i
    · subst q; exact absurd e (h d)
    · exact s.sh j d (fun z => hj (List.mem_filter.mpr ⟨z, by simpa using q⟩)) e, fun j hj => s.ow j (List.mem_filter.mp hj).1, fun j hj k hk => s.dj j (List.mem_filter.mp hj).1 k (List.mem_filter.mp hk).1⟩
theorem Sep.freeze (s : Sep p F0 H0 O F H σ Γ n) (i : Nat) : ∃ F', Same F F' ∧ Sep p F0 H0 (O.filter (· ≠ i)) F' H σ Γ n := by
  by_cases hi : i ∈ O
  · cases e : Γ[i]? with
    | none => exact ⟨F, .refl _, s.fewer fun d z => by rw [e] at z; cases z⟩
    | some o =>
      cases o with
      | none => exact ⟨F, .refl _, s.fewer fun d z => by rw [e] at z; cases z⟩
      | some d =>
        obtain ⟨a, q, w⟩ := s.at_own hi e
        -- first out of O, then frozen
        obtain ⟨o, ho⟩ := w.own.at
        have s1 : Sep p F0 H0 (O.filter (· ≠ i)) F H σ (Γ.set i none) n := by
          have gi : ∀ j, j ≠ i → (Γ.set i none)[j]? = Γ[j]? := fun j hj => List.getElem?_set_ne (Ne.symm hj)
          refine ⟨s.f0, s.fh, s.stay, s.newF, s.pen, by simp [s.len], fun j d' hj h => ?_, fun j hj d' h => ?_, fun j hj k hk hjk a' dj dk h1 h2 h3 h4 => ?_⟩
          · by_cases z : j = i
            · subst z
              rw [set_at, if_pos rfl] at h
              split at h <;> cases h
            · rw [gi j z] at h
              exact s.sh j d' (fun z' => hj (List.mem_filter.mpr ⟨z', by simpa using z⟩)) h
          · have z : j ≠ i := by simpa using (List.mem_filter.mp hj).2
            rw [gi j z] at h
            exact s.ow j (List.mem_filter.mp hj).1 d' h
          · have z1 : j ≠ i := by simpa using (List.mem_filter.mp hj).2
            have z2 : k ≠ i := by simpa using (List.mem_filter.mp hk).2
            rw [gi j z1] at h1
            rw [gi k z2] at h2
            exact s.dj j (List.mem_filter.mp hj).1 k (List.mem_filter.mp hk).1 hjk a' dj dk h1 h2 h3 h4
        have w1 : Free p H0 (O.filter (· ≠ i)) F H σ (Γ.set i none) d a := ⟨w.own, w.f, w.h0, w.pen, fun j hj dj h => by
          have z : j ≠ i := by simpa using (List.mem_filter.mp hj).2
          rw [List.getElem?_set_ne (Ne.symm z)] at h
          exact w.sl j hj dj h⟩
        obtain ⟨F1, s2, sm, _, r, _⟩ := s1.freeze0 w1
        refine ⟨F1, sm, ⟨s2.f0, s2.fh, s2.stay, s2.newF, s2.pen, s.len, fun j d' hj h => ?_, fun j hj d' h => ?_, fun j hj k hk hjk a' dj dk h1 h2 h3 h4 => ?_⟩⟩
        · by_cases z : j = i
          · subst z
            rw [e] at h
            cases h
            exact ⟨_, q, r⟩
          · exact s2.sh j d' hj (by rw [List.getElem?_set_ne (Ne.symm z)]; exact h)
        · have z : j ≠ i := by simpa using (List.mem_filter.mp hj).2
          exact s2.ow j hj d' (by rw [List.getElem?_set_ne (Ne.symm z)]; exact h)
        · have z1 : j ≠ i := by simpa using (List.mem_filter.mp hj).2
          have z2 : k ≠ i := by simpa using (List.mem_filter.mp hk).2
          exact s2.dj j hj k hk hjk a' dj dk (by rw [List.getElem?_set_ne (Ne.symm z1)]; exact h1) (by rw [List.getElem?_set_ne (Ne.symm z2)]; exact h2) h3 h4
  · refine ⟨F, .refl _, ?_⟩
    have e : O.filter (· ≠ i) = O := List.filter_eq_self.mpr fun j hj => by simpa using fun z : j = i => hi (z ▸ hj)
    rw [e]
    exact s
theorem Sep.congr (s : Sep p F0 H0 O F H σ Γ n) (h : ∀ i, i ∈ O ↔ i ∈ O') : Sep p F0 H0 O' F H σ Γ n :=
  ⟨s.f0, s.fh, s.stay, s.newF, s.pen, s.len, fun j d hj => s.sh j d fun z => hj ((h j).mp z), fun j hj => s.ow j ((h j).mpr hj), fun j hj k hk => s.dj j ((h j).mpr hj) k ((h k).mpr hk)⟩
theorem Sep.weak (s : Sep p F0 H0 O F H σ Γ n) (h : ∀ i ∈ O', i ∈ O) : ∃ F', Same F F' ∧ Sep p F0 H0 O' F' H σ Γ n := by
  have go : ∀ (R : List Nat) (O : List Nat) (F : Hp), Sep p F0 H0 O F H σ Γ n → ∃ F', Same F F' ∧ Sep p F0 H0 (O.filter fun i => decide (i ∉ R)) F' H σ Γ n := by
    intro R
    induction R with
    | nil => intro O F s; exact ⟨F, .refl _, s.congr fun i => by simp⟩
    | cons r R ih =>
      intro O F s
      obtain ⟨F1, e1, s1⟩ := s.freeze r
      obtain ⟨F2, e2, s2⟩ := ih _ _ s1
      refine ⟨F2, e1.trans e2, s2.congr fun i => ?_⟩
      simp only [List.mem_filter, List.mem_cons, decide_eq_true_eq, not_or, ne_eq]
      constructor
      · rintro ⟨⟨a, b⟩, c⟩; exact ⟨a, b, c⟩
      · rintro ⟨a, b, c⟩; exact ⟨⟨a, b⟩, c⟩
  obtain ⟨F1, e1, s1⟩ := go (O.filter fun i => decide (i ∉ O')) O F s
  refine ⟨F1, e1, s1.congr fun i => ?_⟩
  simp only [List.mem_filter, decide_eq_true_eq, not_and, Decidable.not_not]
  constructor
  · rintro ⟨a, b⟩; exact b a
  · intro a; exact ⟨h i a, fun _ => a⟩
end
section
variable {X : Cx} {p : Pm} {Ob O O1 O2 O' : List Nat} {a b c e : Expr} {pos : Pos} {te : TE} {me : ME} {tA : TT} {mA : MT} {st : Stmt} {sts : List Stmt} {t u : TS} {m mu : MS}
@[reducible] def mNext : MS := fun E Γ n => E.nx Γ n
@[reducible] def mSeq (t u : MS) : MS := fun E Γ n => t { E with nx := u E } Γ n
theorem ls_weak {Ox : List Nat} (h : LS p Ob O O' t m) (k : ∀ i ∈ Ox, i ∈ O') : LS p Ob O Ox t m := fun F0 H0 F H σ Γ n E s q E' hn hr hb hc =>
  h F0 H0 F H σ Γ n E s q E' (fun F1 H1 σ1 Γ1 n1 s1 e1 q1 => let ⟨F2, e2, s2⟩ := s1.weak k; hn F2 H1 σ1 Γ1 n1 s2 (e1.trans e2) q1) hr hb hc
/-- a step that is none: what a slot holds is its own no more -/
theorem ls_pre {Ox : List Nat} (h : LS p Ob O O' t m) (k : ∀ i ∈ O, i ∈ Ox) : LS p Ob Ox O' t m := fun F0 H0 F H σ Γ n E s q E' hn hr hb hc => by
  obtain ⟨F1, e1, s1⟩ := s.weak k
  exact h F0 H0 F1 H σ Γ n E s1 q E' (fun F2 H2 σ2 Γ2 n2 s2 e2 q2 => hn F2 H2 σ2 Γ2 n2 s2 (e1.trans e2) q2) hr (fun F2 H2 σ2 Γ2 n2 s2 e2 q2 => hb F2 H2 σ2 Γ2 n2 s2 (e1.trans e2) q2) (fun F2 H2 σ2 Γ2 n2 s2 e2 q2 => hc F2 H2 σ2 Γ2 n2 s2 (e1.trans e2) q2)
theorem RSs.weak {Ox : List Nat} (h : RSs X p Ob O O' sts t m) (k : ∀ i ∈ Ox, i ∈ O') : RSs X p Ob O Ox sts t m := ⟨h.ps, ls_weak h.le k⟩
theorem RSs.pre {Ox : List Nat} (h : RSs X p Ob O O' sts t m) (k : ∀ i ∈ O, i ∈ Ox) : RSs X p Ob Ox O' sts t m := ⟨h.ps, ls_pre h.le k⟩
theorem ss_nil : RSs X p Ob O O [] tNext mNext := ⟨pss_nil, fun F0 H0 F H σ Γ n E s q E' hn _ _ _ => hn F H σ Γ n s (.refl _) q⟩
theorem ls_seq (h1 : LS p Ob O O1 t m) (h2 : LS p Ob O1 O' u mu) : LS p Ob O O' (tSeq t u) (mSeq m mu) := fun F0 H0 F H σ Γ n E s q E' hn hr hb hc =>
  h1 F0 H0 F H σ Γ n _ s q _ (fun F1 H1 σ1 Γ1 n1 s1 e1 q1 => h2 F0 H0 F1 H1 σ1 Γ1 n1 E s1 q1 E' (fun F2 H2 σ2 Γ2 n2 s2 e2 q2 => hn F2 H2 σ2 Γ2 n2 s2 (e1.trans e2) q2) hr
    (fun F2 H2 σ2 Γ2 n2 s2 e2 q2 => hb F2 H2 σ2 Γ2 n2 s2 (e1.trans e2) q2) (fun F2 H2 σ2 Γ2 n2 s2 e2 q2 => hc F2 H2 σ2 Γ2 n2 s2 (e1.trans e2) q2)) hr hb hc
theorem ss_cons (h1 : RS X p Ob O O1 st t m) (h2 : RSs X p Ob O1 O' sts u mu) : RSs X p Ob O O' (st :: sts) (tSeq t u) (mSeq m mu) := ⟨pss_cons h1.ps h2.ps, ls_seq h1.le h2.le⟩
theorem ss_one (h1 : RS X p Ob O O' st t m) : RSs X p Ob O O' [st] t m := ⟨pss_one h1.ps, h1.le⟩
/-- never reached -/
@[reducible] def mNever : MS := fun _ _ _ => False
theorem s_never : RS X p Ob O O' st tNever mNever := ⟨ps_never, fun F0 H0 F H σ Γ n E s q => q.elim⟩
@[reducible] def mDrop (me : ME) : MS := fun E Γ n => me Γ n fun _ n1 => E.nx Γ n1
theorem s_expr (he : RE X p O e te me) (h : PS X (.Expr e pos) (tDrop te)) : RS X p Ob O O (.Expr e pos) (tDrop te) (mDrop me) := ⟨h, fun F0 H0 F H σ Γ n E s q E' hn _ _ _ =>
  he.le F0 H0 F H σ Γ n _ s q _ fun d v F1 H1 n1 s1 e1 r1 q1 => hn F1 H1 σ Γ n1 s1 e1.f q1⟩
@[reducible] def mRet (me : ME) : MS := fun E Γ n => me Γ n E.rt
theorem s_ret (he : RE X p O e te me) : RS X p Ob O O' (.Return (some e) pos) (tRet te) (mRet me) := ⟨ps_ret he.pe, fun F0 H0 F H σ Γ n E s q E' _ hr _ _ =>
  he.le F0 H0 F H σ Γ n _ s q _ fun d v F1 H1 n1 s1 e1 r1 q1 => hr d v F1 H1 n1 s1.fin r1 q1⟩
@[reducible] def mIfS (c : MT) (t u : MS) : MS := fun E Γ n => c Γ n fun b n1 => if b = true then t E Γ n1 else u E Γ n1
theorem s_if {x y : List Stmt} (hc : RT X p O c tA mA) (ha : RSs X p Ob O O' x t m) (hb : RSs X p Ob O O' y u mu) : RS X p Ob O O' (.If c x y pos) (tIfS tA t u) (mIfS mA m mu) := ⟨ps_if hc.pt ha.ps hb.ps, fun F0 H0 F H σ Γ n E s q E' hn hr hb' hc' =>
  hc.le F0 H0 F H σ Γ n _ s q _ fun d F1 H1 n1 s1 e1 q1 => by
    cases d with
    | true =>
      rw [if_pos rfl] at q1 ⊢
      exact ha.le F0 H0 F1 H1 σ Γ n1 E s1 q1 E' (fun F2 H2 σ2 Γ2 n2 s2 e2 q2 => hn F2 H2 σ2 Γ2 n2 s2 (e1.f.trans e2) q2) hr (fun F2 H2 σ2 Γ2 n2 s2 e2 q2 => hb' F2 H2 σ2 Γ2 n2 s2 (e1.f.trans e2) q2) (fun F2 H2 σ2 Γ2 n2 s2 e2 q2 => hc' F2 H2 σ2 Γ2 n2 s2 (e1.f.trans e2) q2)
    | false =>
      rw [if_neg (by decide)] at q1 ⊢
      exact hb.le F0 H0 F1 H1 σ Γ n1 E s1 q1 E' (fun F2 H2 σ2 Γ2 n2 s2 e2 q2 => hn F2 H2 σ2 Γ2 n2 s2 (e1.f.trans e2) q2) hr (fun F2 H2 σ2 Γ2 n2 s2 e2 q2 => hb' F2 H2 σ2 Γ2 n2 s2 (e1.f.trans e2) q2) (fun F2 H2 σ2 Γ2 n2 s2 e2 q2 => hc' F2 H2 σ2 Γ2 n2 s2 (e1.f.trans e2) q2)⟩
@[reducible] def mSet (i : Nat) (me : ME) : MS := fun E Γ n => me Γ n fun d n1 => E.nx (Γ.set i (some d)) n1
def Pm.off (p : Pm) (i : Nat) : Prop := ∀ a j, p.ap = some (a, j) → j ≠ i
theorem s_set {tg : Expr} {i : Nat} (he : RE X p O e te me) (hi : i ∉ O) (hp : p.off i) (h : PS X (.Assign [tg] e pos) (tAsg te (gName i))) : RS X p Ob O O (.Assign [tg] e pos) (tAsg te (gName i)) (mSet i me) := ⟨h, fun F0 H0 F H σ Γ n E s q E' hn _ _ _ =>
  he.le F0 H0 F H σ Γ n _ s q _ fun d v F1 H1 n1 s1 e1 r1 q1 => hn F1 H1 _ _ n1 (s1.put hi hp r1) e1.f q1⟩
@[reducible] def mAug (i : Nat) (f : D → D → Option D) (me : ME) : MS := fun E Γ n => ∃ x, Γ[i]? = some (some x) ∧ me Γ n fun y n1 => ∃ d, f x y = some d ∧ E.nx (Γ.set i (some d)) n1
theorem s_augI {x : Str} {i : Nat} {op : Operator} {f : Int → Int → Int} {g : D → D → Option D} {pos' : Pos} (hg : ∀ x y d, g x y = some d → ∃ i j, x = .int i ∧ y = .int j ∧ d = .int (f i j)) (he : RE X p O e te me) (hi : i ∉ O) (hp : p.off i)
    (h : PS X (.AugAssign (.Name x pos') op e pos) (tAug i te (ipI f))) : RS X p Ob O O (.AugAssign (.Name x pos') op e pos) (tAug i te (ipI f)) (mAug i g me) := ⟨h, fun F0 H0 F H σ Γ n E s ⟨x, ex, q⟩ E' hn _ _ _ => by
  obtain ⟨v, e1, r⟩ := s.sh i x hi ex
  refine ⟨v, e1, he.le F0 H0 F H σ Γ n _ s q _ fun d w F1 H1 n1 s1 g1 r1 ⟨z, ez, q1⟩ => ?_⟩
  obtain ⟨k, l, rfl, rfl, rfl⟩ := hg _ _ _ ez
  exact ⟨k, l, r.int_inv, r1.int_inv, hn F1 H1 _ _ n1 (s1.put hi hp (.int _)) g1.f q1⟩⟩
end
end RR
end
section
namespace RR
open PySem PySem.Spec L2
open PyProof.Rows hiding St
def Agree (is : List Nat) (σ σ' : St) : Prop := σ'.length = σ.length ∧ ∀ j, j ∉ is → σ'[j]? = σ[j]?
def LG (p : Pm) (O : List Nat) (is : List Nat) (g : TG) (mg : MG) : Prop := ∀ F0 H0 F H σ Γ n d v, Sep p F0 H0 O F H σ Γ n → Rp p.K F d v → ∀ (Q : DEnv → Prop) (Q' : St → Hp → Prop), mg d Γ Q →
  (∀ σ' Γ', Sep p F0 H0 O F H σ' Γ' n → Agree is σ σ' → Q Γ' → Q' σ' H) → g v σ H Q'
def LGs (p : Pm) (O : List Nat) (is : List Nat) (g : TGs) (mg : List D → DEnv → (DEnv → Prop) → Prop) : Prop := ∀ F0 H0 F H σ Γ n ds vs, Sep p F0 H0 O F H σ Γ n → Rps p.K F ds vs → ∀ (Q : DEnv → Prop) (Q' : St → Hp → Prop), mg ds Γ Q →
  (∀ σ' Γ', Sep p F0 H0 O F H σ' Γ' n → Agree is σ σ' → Q Γ' → Q' σ' H) → g vs σ H Q'
structure RG (X : Cx) (p : Pm) (O : List Nat) (is : List Nat) (tg : Expr) (g : TG) (mg : MG) : Prop where
  pg : PG X tg g
  le : LG p O is g mg
structure RGs (X : Cx) (p : Pm) (O : List Nat) (is : List Nat) (tg : List Expr) (g : TGs) (mg : List D → DEnv → (DEnv → Prop) → Prop) : Prop where
  pg : PGs X tg g
  le : LGs p O is g mg
@[reducible] def mgName (i : Nat) : MG := fun d Γ Q => Q (Γ.set i (some d))
@[reducible] def mgNil : List D → DEnv → (DEnv → Prop) → Prop := fun ds Γ Q => ds = [] ∧ Q Γ
@[reducible] def mgCons (g : MG) (u : List D → DEnv → (DEnv → Prop) → Prop) : List D → DEnv → (DEnv → Prop) → Prop := fun ds Γ Q => ∃ d r, ds = d :: r ∧ g d Γ fun Γ1 => u r Γ1 Q
@[reducible] def mgTup (n : Nat) (u : List D → DEnv → (DEnv → Prop) → Prop) : MG := fun d Γ Q => ∃ ds, d = .tuple ds ∧ ds.length = n ∧ u ds Γ Q
section
variable {X : Cx} {p : Pm} {O is js : List Nat} {tg : Expr} {tgs : List Expr} {g : TG} {gs : TGs} {mg : MG} {mgs : List D → DEnv → (DEnv → Prop) → Prop} {pos : Pos}
theorem g_name {x : Str} {i : Nat} (h : PG X (.Name x pos) (gName i)) (hi : i ∉ O) (hp : p.off i) : RG X p O [i] (.Name x pos) (gName i) (mgName i) := ⟨h, fun F0 H0 F H σ Γ n d v s r Q Q' q k => by
  refine k _ _ (s.put hi hp r) ⟨by simp, fun j hj => ?_⟩ q
  exact List.getElem?_set_ne fun z => hj (by simp [z])⟩
theorem gs_nil : RGs X p O [] [] gNil mgNil := ⟨pgs_nil, fun F0 H0 F H σ Γ n ds vs s r Q Q' ⟨e, q⟩ k => by
  subst e
  exact ⟨r.unnil, k σ Γ s ⟨rfl, fun _ _ => rfl⟩ q⟩⟩
theorem gs_cons (h1 : RG X p O is tg g mg) (h2 : RGs X p O js tgs gs mgs) (h : PGs X (tg :: tgs) (gCons g gs)) : RGs X p O (is ++ js) (tg :: tgs) (gCons g gs) (mgCons mg mgs) := ⟨h, fun F0 H0 F H σ Γ n ds vs s r Q Q' ⟨d, w, e, q⟩ k => by
  subst e
  obtain ⟨v, x, rfl, r1, r2⟩ := r.uncons
  refine ⟨v, x, rfl, h1.le F0 H0 F H σ Γ n d v s r1 _ _ q fun σ1 Γ1 s1 a1 q1 => ?_⟩
  refine h2.le F0 H0 F H σ1 Γ1 n w x s1 r2 _ _ q1 fun σ2 Γ2 s2 a2 q2 => ?_
  refine k σ2 Γ2 s2 ⟨a2.1.trans a1.1, fun j hj => ?_⟩ q2
  exact (a2.2 j fun z => hj (List.mem_append_right _ z)).trans (a1.2 j fun z => hj (List.mem_append_left _ z))⟩
theorem g_tup {k n : Nat} {K : PySem.W.Frag} (hK : p.K = K) (h1 : RGs X p O is tgs gs mgs) (h : PG X (.Tuple tgs k pos) (gTup K n gs)) : RG X p O is (.Tuple tgs k pos) (gTup K n gs) (mgTup n mgs) := ⟨h, fun F0 H0 F H σ Γ m d v s r Q Q' ⟨ds, e, hn, q⟩ k => by
  subst e hK
  obtain ⟨a, xs, rfl, h1', r1⟩ := r.tup_inv
  exact ⟨a, xs, rfl, Same.sqt s.fh h1', by rw [r1.len]; exact hn, h1.le F0 H0 F H σ Γ m ds xs s r1 Q Q' q k⟩⟩
end
structure Feeds (K : PySem.W.Frag) (J : It) (ds : List D) (F : Hp) : Prop where
  stop : ∀ F' H', Same F F' → Same F' H' → J.stop ds.length H'
  go : ∀ (i : Nat) d F' H', ds[i]? = some d → Same F F' → Same F' H' → J.go i H' ∧ ∀ x H2, J.yld i H' x H2 → ∃ F2, Gr F' H' F2 H2 ∧ Rp K F2 d x
abbrev MI := DEnv → Nat → (List D → Nat → Prop) → Prop
def LI (p : Pm) (O : List Nat) (wi : TI) (mi : MI) : Prop := ∀ F0 H0 F H σ Γ n (R : List D → Nat → Prop), Sep p F0 H0 O F H σ Γ n → mi Γ n R → ∀ R' : It → Hp → Prop,
  (∀ J ds F' H' n', Sep p F0 H0 O F' H' σ Γ n' → Gp p F H F' H' → Feeds p.K J ds F' → R ds n' → R' J H') → wi σ H R'
structure RI (X : Cx) (p : Pm) (O : List Nat) (tg iter : Expr) (wi : TI) (mi : MI) : Prop where
  pi : PI X tg iter wi
  le : LI p O wi mi
section
variable {X : Cx} {K : PySem.W.Frag} {p : Pm} {O : List Nat} {tg e : Expr} {te : TE} {me : ME} {ta : TA} {ma : MA} {pos : Pos}
theorem feeds_list {F : Hp} {a : Addr} {xs : List V} {ds : List D} (h : F a = some (.lst xs)) (r : Rps K F ds xs) : Feeds K (Itl K a) ds F where
  stop := fun F' H' e e' => ⟨xs, .of (e' _ _ (e _ _ h)), Nat.le_of_eq r.len⟩
  go := fun i d F' H' hd e e' => by
    have hq : SqL K H' a xs := .of (e' _ _ (e _ _ h))
    obtain ⟨v, e1, r1⟩ := r.get hd
    refine ⟨⟨xs, v, hq, e1⟩, fun x H2 ⟨h2, y⟩ => ?_⟩
    subst h2
    have := y xs hq
    rw [e1] at this
    cases this
    exact ⟨F', .refl e', r1.mono e⟩
theorem feeds_tup {F : Hp} {a : Addr} {xs : List V} {ds : List D} (h : SqT K F a xs) (r : Rps K F ds xs) : Feeds K (Itt K a) ds F where
  stop := fun F' H' e e' => ⟨xs, Same.sqt e' (Same.sqt e h), Nat.le_of_eq r.len⟩
  go := fun i d F' H' hd e e' => by
    have hq : SqT K H' a xs := Same.sqt e' (Same.sqt e h)
    obtain ⟨v, e1, r1⟩ := r.get hd
    refine ⟨⟨xs, v, hq, e1⟩, fun x H2 ⟨h2, y⟩ => ?_⟩
    subst h2
    have := y xs hq
    rw [e1] at this
    cases this
    exact ⟨F', .refl e', r1.mono e⟩
/-- lo, lo + 1, .. -/
def rangeD (lo : Int) : Nat → List D
  | 0 => []
  | n + 1 => .int lo :: rangeD (lo + 1) n
theorem rangeD_len (lo : Int) (n : Nat) : (rangeD lo n).length = n := by
  induction n generalizing lo with
  | zero => rfl
  | succ n ih => show (rangeD (lo + 1) n).length + 1 = n + 1; rw [ih]
theorem rangeD_get {lo : Int} {n i : Nat} {d : D} (h : (rangeD lo n)[i]? = some d) : d = .int (lo + i) ∧ i < n := by
  induction n generalizing lo i with
  | zero => simp [rangeD] at h
  | succ n ih =>
    cases i with
    | zero =>
      have : some (PyData.int lo) = some d := h
      cases this
      exact ⟨by simp, Nat.succ_pos n⟩
    | succ i =>
      obtain ⟨h1, h2⟩ := ih (lo := lo + 1) (i := i) h
      exact ⟨by rw [h1]; congr 1; omega, Nat.succ_lt_succ h2⟩
theorem feeds_range {F : Hp} (lo : Int) (n : Nat) : Feeds K (Itr lo n) (rangeD lo n) F where
  stop := fun F' H' e e' => Nat.le_of_eq (rangeD_len lo n).symm
  go := fun i d F' H' hd e e' => by
    obtain ⟨h1, h2⟩ := rangeD_get hd
    refine ⟨h2, fun x H2 ⟨h3, h4⟩ => ?_⟩
    subst h1 h3 h4
    exact ⟨F', .refl e', .int _⟩
def okR (i : Int) : Prop := -(2 ^ 62) ≤ i ∧ i < 2 ^ 62
@[reducible] def mIR1 (ma : MA) : MI := fun Γ n Q => ma Γ n fun ds n1 => ∃ j, ds = [.int j] ∧ okR j ∧ Q (rangeD 0 j.toNat) n1
@[reducible] def mIR2 (ma : MA) : MI := fun Γ n Q => ma Γ n fun ds n1 => ∃ i j, ds = [.int i, .int j] ∧ okR i ∧ okR j ∧ Q (rangeD i (j - i).toNat) n1
theorem i_range1 {a : Expr} {q : Pos} (ha : RA X p O [a] ta ma) (h : PI X tg (.Call (.Name "range" q) [a] [] pos) (iRng1 ta)) : RI X p O tg (.Call (.Name "range" q) [a] [] pos) (iRng1 ta) (mIR1 ma) := ⟨h, fun F0 H0 F H σ Γ n R s q R' k =>
  ha.le F0 H0 F H σ Γ n _ s q _ fun ds vs F1 H1 n1 s1 e1 r1 ⟨j, ed, o, q1⟩ => by
    subst ed
    obtain ⟨v, w, rfl, r2, r3⟩ := r1.uncons
    cases r3.unnil
    cases r2.int_inv
    exact ⟨j, rfl, o.1, o.2, k _ _ F1 H1 n1 s1 e1 (feeds_range 0 _) q1⟩⟩
/-- enumerate of a list -/
def enumD (i : Int) : List D → List D
  | [] => []
  | d :: r => .tuple [.int i, d] :: enumD (i + 1) r
theorem Rp.pair {F' H' : Hp} {T : Addr} {d e : D} {x y : V} (h : H' T = none) (s : Same F' H') (r1 : Rp K F' d x) (r2 : Rp K F' e y) : Rp K (upd F' T (.tup [x, y])) (.tuple [d, e]) (.ref T) := Rp.new_tup (H := H') (.cons r1 (.cons r2 .nil)) (s.free h)
/-- zip -/
def zipD : List D → List D → List D
  | x :: xs, y :: ys => .tuple [x, y] :: zipD xs ys
  | _, _ => []
theorem zipD_len : ∀ xs ys : List D, (zipD xs ys).length = min xs.length ys.length
  | [], [] => rfl
  | [], _ :: _ => by simp [zipD]
  | _ :: _, [] => by simp [zipD]
  | x :: xs, y :: ys => by
    show (zipD xs ys).length + 1 = _
    rw [zipD_len xs ys, List.length_cons, List.length_cons]
    omega
theorem zipD_get : ∀ {xs ys : List D} {i : Nat} {d : D}, (zipD xs ys)[i]? = some d → ∃ x y, xs[i]? = some x ∧ ys[i]? = some y ∧ d = .tuple [x, y]
  | [], [], i, d, h => by simp [zipD] at h
  | [], _ :: _, i, d, h => by simp [zipD] at h
  | _ :: _, [], i, d, h => by simp [zipD] at h
  | x :: xs, y :: ys, 0, d, h => by
    have : some (PyData.tuple [x, y]) = some d := h
    cases this
    exact ⟨x, y, rfl, rfl, rfl⟩
  | x :: xs, y :: ys, i + 1, d, h => zipD_get (xs := xs) (ys := ys) (i := i) h
theorem feeds_zipL {F : Hp} {a b : Addr} {xs ys : List V} {ds es : List D} (h : F a = some (.lst xs)) (r : Rps K F ds xs) (h' : F b = some (.lst ys)) (r' : Rps K F es ys) : Feeds K (Itz K a b) (zipD ds es) F where
  stop := fun F' H' e e' => by
    refine ⟨xs, ys, .of (e' _ _ (e _ _ h)), .of (e' _ _ (e _ _ h')), ?_⟩
    rw [zipD_len, ← r.len, ← r'.len]
    omega
  go := fun i d F' H' hd e e' => by
    have hq : SqL K H' a xs := .of (e' _ _ (e _ _ h))
    have hq' : SqL K H' b ys := .of (e' _ _ (e _ _ h'))
    obtain ⟨x, y, hx, hy, rfl⟩ := zipD_get hd
    obtain ⟨v, e1, r1⟩ := r.get hx
    obtain ⟨u, e2, r2⟩ := r'.get hy
    refine ⟨⟨xs, ys, v, u, hq, hq', e1, e2⟩, fun w H2 ⟨T, x1, y1, h1, h2, h3, h4, h5⟩ => ?_⟩
    have t1 := h4 xs hq
    have t2 := h5 ys hq'
    rw [e1] at t1
    rw [e2] at t2
    cases t1
    cases t2
    subst h1 h3
    exact ⟨_, .new1 e' h2 _, Rp.pair h2 e' (r1.mono e) (r2.mono e)⟩
theorem feeds_zipT {F : Hp} {a b : Addr} {xs ys : List V} {ds es : List D} (h : SqT K F a xs) (r : Rps K F ds xs) (h' : SqT K F b ys) (r' : Rps K F es ys) : Feeds K (RZ.ItzT K a b) (zipD ds es) F where
  stop := fun F' H' e e' => by
    refine ⟨xs, ys, Same.sqt e' (Same.sqt e h), Same.sqt e' (Same.sqt e h'), ?_⟩
    rw [zipD_len, ← r.len, ← r'.len]
    omega
  go := fun i d F' H' hd e e' => by
    have hq : SqT K H' a xs := Same.sqt e' (Same.sqt e h)
    have hq' : SqT K H' b ys := Same.sqt e' (Same.sqt e h')
    obtain ⟨x, y, hx, hy, rfl⟩ := zipD_get hd
    obtain ⟨v, e1, r1⟩ := r.get hx
    obtain ⟨u, e2, r2⟩ := r'.get hy
    refine ⟨⟨xs, ys, v, u, hq, hq', e1, e2⟩, fun w H2 ⟨T, x1, y1, h1, h2, h3, h4, h5⟩ => ?_⟩
    have t1 := h4 xs hq
    have t2 := h5 ys hq'
    rw [e1] at t1
    rw [e2] at t2
    cases t1
    cases t2
    subst h1 h3
    exact ⟨_, .new1 e' h2 _, Rp.pair h2 e' (r1.mono e) (r2.mono e)⟩
@[reducible] def mIZ (ma : MA) : MI := fun Γ n Q => ma Γ n fun ds n1 => (∃ xs ys, ds = [.list xs, .list ys] ∧ Q (zipD xs ys) n1) ∨ ∃ xs ys, ds = [.tuple xs, .tuple ys] ∧ Q (zipD xs ys) n1
theorem i_zip {e2 : Expr} {q : Pos} (hK : p.K = X.K) (ha : RA X p O [e, e2] ta ma) (h : PI X tg (.Call (.Name "zip" q) [e, e2] [] pos) (RZ.iZipA X.K ta)) : RI X p O tg (.Call (.Name "zip" q) [e, e2] [] pos) (RZ.iZipA p.K ta) (mIZ ma) := ⟨hK ▸ h, fun F0 H0 F H σ Γ n R s q R' k =>
  ha.le F0 H0 F H σ Γ n _ s q _ fun ds vs F1 H1 n1 s1 e1 r1 q1 => by
    rcases q1 with ⟨xs, ys, ed, q1⟩ | ⟨xs, ys, ed, q1⟩
    · subst ed
      obtain ⟨v, w, rfl, r2, r3⟩ := r1.uncons
      obtain ⟨v', w', rfl, r4, r5⟩ := r3.uncons
      cases r5.unnil
      obtain ⟨a, zs, rfl, h1, r6⟩ := r2.lst_inv
      obtain ⟨b, us, rfl, h2, r7⟩ := r4.lst_inv
      exact ⟨a, b, zs, us, rfl, .inl ⟨.of (s1.fh _ _ h1), .of (s1.fh _ _ h2), k _ _ F1 H1 n1 s1 e1 (feeds_zipL h1 r6 h2 r7) q1⟩⟩
    · subst ed
      obtain ⟨v, w, rfl, r2, r3⟩ := r1.uncons
      obtain ⟨v', w', rfl, r4, r5⟩ := r3.uncons
      cases r5.unnil
      obtain ⟨a, zs, rfl, h1, r6⟩ := r2.tup_inv
      obtain ⟨b, us, rfl, h2, r7⟩ := r4.tup_inv
      exact ⟨a, b, zs, us, rfl, .inr ⟨Same.sqt s1.fh h1, Same.sqt s1.fh h2, k _ _ F1 H1 n1 s1 e1 (feeds_zipT h1 r6 h2 r7) q1⟩⟩⟩
end
def forW (g : MG) (tb : MS) (E : EndsD) : List D → DEnv → Nat → Prop
  | [], Γ, n => E.nx Γ n
  | d :: ds, Γ, n => g d Γ fun Γ1 => tb { E with nx := forW g tb E ds, ct := forW g tb E ds, bk := E.nx } Γ1 n
@[reducible] def mFor (mi : MI) (g : MG) (tb : MS) : MS := fun E Γ n => mi Γ n fun ds n1 => forW g tb E ds Γ n1
@[reducible] def mWhile (c : MT) (tb : MS) : MS := fun E Γ n => ∃ W : Nat → DEnv → Nat → Prop, (∃ m, W m Γ n) ∧ ∀ m Γ n, W m Γ n →
  c Γ n fun b n1 => if b = true then tb { E with nx := fun Γ' n' => ∃ m', m' < m ∧ W m' Γ' n', ct := fun Γ' n' => ∃ m', m' < m ∧ W m' Γ' n', bk := E.nx } Γ n1 else E.nx Γ n1
section
variable {X : Cx} {p : Pm} {Ob O O' is : List Nat} {tg iter c : Expr} {body : List Stmt} {pos : Pos} {wi : TI} {mi : MI} {g : TG} {mg : MG} {tb : TS} {mb : MS} {tc : TT} {mc : MT}
theorem ls_for (hi : LI p O wi mi) (hg : LG p O is g mg) (hb : LS p O O O tb mb) : LS p Ob O O (tFor wi g tb) (mFor mi mg mb) := fun F0 H0 F H σ Γ n E s q E' hn hr hb' hc' =>
  hi F0 H0 F H σ Γ n _ s q _ fun J ds F1 H1 n1 s1 g1 fd q1 => by
    refine ⟨fun i m σ H => m = ds.length - i ∧ i ≤ ds.length ∧ ∃ F Γ n, Same F1 F ∧ Sep p F0 H0 O F H σ Γ n ∧ forW mg mb E (ds.drop i) Γ n, ⟨ds.length, by simp, Nat.zero_le _, F1, Γ, n1, .refl _, s1, q1⟩, ?_⟩
    rintro i m σ2 H2 ⟨rfl, hi, F2, Γ2, n2, e2, s2, q2⟩
    by_cases hlt : i < ds.length
    · obtain ⟨d, hd⟩ : ∃ d, ds[i]? = some d := ⟨ds[i], by simp [hlt]⟩
      obtain ⟨go, yl⟩ := fd.go i d F2 H2 hd e2 s2.fh
      have hdr : ds.drop i = d :: ds.drop (i + 1) := by
        rw [List.drop_eq_getElem_cons hlt]
        congr 1
        simpa [hlt] using hd
      rw [hdr] at q2
      refine .inr ⟨go, fun σ' H' => ∃ F Γ n, Same F1 F ∧ Sep p F0 H0 O F H' σ' Γ n ∧ forW mg mb E (ds.drop (i + 1)) Γ n, fun σ' H' w => ⟨ds.length - (i + 1), by omega, rfl, hlt, w⟩, fun x H3 y => ?_⟩
      obtain ⟨F3, g3, r3⟩ := yl x H3 y
      refine hg F0 H0 F3 H3 σ2 Γ2 n2 d x (s2.gr g3) r3 _ _ q2 fun σ4 Γ4 s4 _ q4 => ?_
      refine hb F0 H0 F3 H3 σ4 Γ4 n2 _ s4 q4 _ (fun F5 H5 σ5 Γ5 n5 s5 e5 q5 => ⟨F5, Γ5, n5, (e2.trans g3.f).trans e5, s5, q5⟩) hr (fun F5 H5 σ5 Γ5 n5 s5 e5 q5 => hn F5 H5 σ5 Γ5 n5 s5 (((g1.f.trans e2).trans g3.f).trans e5) q5) fun F5 H5 σ5 Γ5 n5 s5 e5 q5 => ⟨F5, Γ5, n5, (e2.trans g3.f).trans e5, s5, q5⟩
    · have e : i = ds.length := by omega
      subst e
      rw [List.drop_length] at q2
      exact .inl ⟨fd.stop F2 H2 e2 s2.fh, hn F2 H2 σ2 Γ2 n2 s2 (g1.f.trans e2) q2⟩
theorem s_for (hi : RI X p O tg iter wi mi) (hg : RG X p O is tg g mg) (hb : RSs X p O O O body tb mb) (h : PS X (.For tg iter body [] pos) (tFor wi g tb)) : RS X p Ob O O (.For tg iter body [] pos) (tFor wi g tb) (mFor mi mg mb) := ⟨h, ls_for hi.le hg.le hb.le⟩
theorem s_while (hc : RT X p O c tc mc) (hb : RSs X p O O O body tb mb) (h : PS X (.While c body [] pos) (tWhile tc tb)) : RS X p Ob O O (.While c body [] pos) (tWhile tc tb) (mWhile mc mb) := ⟨h, fun F0 H0 F H σ Γ n E s ⟨W, ⟨m0, w0⟩, turn⟩ E' hn hr hb' hc' => by
  refine ⟨fun m σ H => ∃ F1 Γ n, Same F F1 ∧ Sep p F0 H0 O F1 H σ Γ n ∧ W m Γ n, ⟨m0, F, Γ, n, .refl _, s, w0⟩, ?_⟩
  rintro m σ1 H1 ⟨F1, Γ1, n1, e1, s1, w1⟩
  refine hc.le F0 H0 F1 H1 σ1 Γ1 n1 _ s1 (turn m Γ1 n1 w1) _ fun b F2 H2 n2 s2 g2 q2 => ?_
  cases b with
  | true =>
    rw [if_pos rfl] at q2 ⊢
    refine ⟨fun σ' H' => ∃ F1 Γ n, Same F F1 ∧ Sep p F0 H0 O F1 H' σ' Γ n ∧ ∃ m', m' < m ∧ W m' Γ n, fun σ' H' ⟨F3, Γ3, n3, e3, s3, m', hm, w3⟩ => ⟨m', hm, F3, Γ3, n3, e3, s3, w3⟩, ?_⟩
    exact hb.le F0 H0 F2 H2 σ1 Γ1 n2 _ s2 q2 _ (fun F5 H5 σ5 Γ5 n5 s5 e5 q5 => ⟨F5, Γ5, n5, (e1.trans g2.f).trans e5, s5, q5⟩) hr (fun F5 H5 σ5 Γ5 n5 s5 e5 q5 => hn F5 H5 σ5 Γ5 n5 s5 ((e1.trans g2.f).trans e5) q5) fun F5 H5 σ5 Γ5 n5 s5 e5 q5 => ⟨F5, Γ5, n5, (e1.trans g2.f).trans e5, s5, q5⟩
  | false =>
    rw [if_neg (by decide)] at q2 ⊢
    exact hn F2 H2 σ1 Γ1 n2 s2 (e1.trans g2.f) q2⟩
end
end RR
end
section
namespace RR
open PySem PySem.Spec L2
open PyProof.Rows hiding St
def wipeD (Γ : DEnv) : List Nat → DEnv
  | [] => Γ
  | v :: vs => (wipeD Γ vs).set v none
def compW (g : MG) (t : MT) (e : ME) (Γ : DEnv) : List D → Nat → (List D → Nat → Prop) → Prop
  | [], n, Q => Q [] n
  | d :: ds, n, Q => g d Γ fun Γ2 => t Γ2 n fun b n1 => if b = true then e Γ2 n1 fun y n2 => compW g t e Γ ds n2 fun r n3 => Q (y :: r) n3 else compW g t e Γ ds n1 Q
@[reducible] def mLc (mi : MI) (g : MG) (t : MT) (e : ME) (vs : List Nat) : ME := fun Γ n Q => mi Γ n fun ds n1 => ds.length ≤ lim ∧ compW g t e (wipeD Γ vs) ds n1 fun r n2 => Q (.list r) n2
@[reducible] def mYes : MT := fun _ n Q => Q true n
section
theorem wipe_at {σ : St} {i : Nat} : ∀ {vs : List Nat}, (wipe σ vs)[i]? = if i ∈ vs then (if i < σ.length then some none else none) else σ[i]?
  | [] => by simp [wipe]
  | v :: vs => by
    unfold wipe
    rw [set_at, wipe_length, wipe_at (vs := vs)]
    by_cases h : v = i
    · subst h; simp
    · rw [if_neg h]
      have : (i ∈ v :: vs) ↔ i ∈ vs := by simp [Ne.symm h]
      by_cases q : i ∈ vs
      · rw [if_pos q, if_pos (this.mpr q)]
      · rw [if_neg q, if_neg fun z => q (this.mp z)]
theorem wipeD_at {Γ : DEnv} {i : Nat} : ∀ {vs : List Nat}, (wipeD Γ vs)[i]? = if i ∈ vs then (if i < Γ.length then some none else none) else Γ[i]?
  | [] => by simp [wipeD]
  | v :: vs => by
    have hl : (wipeD Γ vs).length = Γ.length := by
      have go : ∀ vs : List Nat, (wipeD Γ vs).length = Γ.length := fun vs => by
        induction vs with
        | nil => rfl
        | cons v vs ih => unfold wipeD; rw [List.length_set, ih]
      exact go vs
    unfold wipeD
    rw [set_at, hl, wipeD_at (vs := vs)]
    by_cases h : v = i
    · subst h; simp
    · rw [if_neg h]
      have : (i ∈ v :: vs) ↔ i ∈ vs := by simp [Ne.symm h]
      by_cases q : i ∈ vs
      · rw [if_pos q, if_pos (this.mpr q)]
      · rw [if_neg q, if_neg fun z => q (this.mp z)]
theorem wipeD_len {Γ : DEnv} : ∀ vs : List Nat, (wipeD Γ vs).length = Γ.length
  | [] => rfl
  | v :: vs => by unfold wipeD; rw [List.length_set, wipeD_len vs]
theorem wipe_agree {σ σ' : St} {vs is : List Nat} (h : Agree is (wipe σ vs) σ') (k : ∀ i ∈ is, i ∈ vs) : wipe σ' vs = wipe σ vs := by
  apply List.ext_getElem?
  intro i
  have hl : σ'.length = σ.length := by rw [h.1, wipe_length]
  rw [wipe_at, wipe_at, hl]
  by_cases q : i ∈ vs
  · rw [if_pos q, if_pos q]
  · rw [if_neg q, if_neg q, h.2 i fun z => q (k i z), wipe_at, if_neg q]
variable {p : Pm} {F0 H0 F H : Hp} {O : List Nat} {σ : St} {Γ : DEnv} {n : Nat}
theorem Sep.wipe (s : Sep p F0 H0 O F H σ Γ n) {vs : List Nat} (hp : ∀ v ∈ vs, p.off v) : Sep p F0 H0 O F H (wipe σ vs) (wipeD Γ vs) n := by
  have gd : ∀ {j : Nat} {d : D}, (wipeD Γ vs)[j]? = some (some d) → j ∉ vs ∧ Γ[j]? = some (some d) := fun {j d} e => by
    rw [wipeD_at] at e
    by_cases q : j ∈ vs
    · rw [if_pos q] at e
      split at e <;> cases e
    · rw [if_neg q] at e
      exact ⟨q, e⟩
  refine ⟨s.f0, s.fh, s.stay, s.newF, fun a j e => ?_, by rw [wipe_length, wipeD_len]; exact s.len, fun j d hj e => ?_, fun j hj d e => ?_, fun j hj k hk hjk a dj dk h1 h2 h3 h4 => ?_⟩
  · obtain ⟨h1, h2, h3⟩ := s.pen a j e
    exact ⟨h1, by rw [wipe_at, if_neg fun z => hp j z a j e rfl]; exact h2, h3⟩
  · obtain ⟨q, e⟩ := gd e
    rw [wipe_at, if_neg q]
    exact s.sh j d hj e
  · obtain ⟨q, e⟩ := gd e
    rw [wipe_at, if_neg q]
    exact s.ow j hj d e
  · obtain ⟨q1, h1⟩ := gd h1
    obtain ⟨q2, h2⟩ := gd h2
    rw [wipe_at, if_neg q1] at h3
    rw [wipe_at, if_neg q2] at h4
    exact s.dj j hj k hk hjk a dj dk h1 h2 h3 h4
/-- the slots again, as they were -/
theorem Sep.back {F' H' : Hp} {σ' : St} {Γ' : DEnv} {n' : Nat} (s : Sep p F0 H0 O F H σ Γ n) (s' : Sep p F0 H0 O F' H' σ' Γ' n') (g : Gp p F H F' H') : Sep p F0 H0 O F' H' σ Γ n' := by
  refine ⟨s'.f0, s'.fh, s'.stay, s'.newF, fun a j e => ⟨(s'.pen a j e).1, (s.pen a j e).2.1, (s'.pen a j e).2.2⟩, s.len, fun j d hj e => ?_, fun j hj d e => ?_, s.dj⟩
  · obtain ⟨v, h1, r⟩ := s.sh j d hj e
    exact ⟨v, h1, r.mono g.f⟩
  · obtain ⟨a, h1, r, z1, z2, z3⟩ := s.ow j hj d e
    refine ⟨a, h1, ?_, ?_, z2, z3⟩
    · cases r with
      | lst q1 q2 => exact .lst (g.h _ _ q1 z3) (q2.mono g.f)
      | dct q1 q2 q3 => exact .dct (g.h _ _ q1 z3) q2 fun i x d a b => (q3 i x d a b).mono g.f
    · cases w : F' a with
      | none => rfl
      | some o =>
        obtain ⟨u, hu⟩ := r.at
        rcases g.new a o w with q | q | q
        · rw [z1] at q; cases q
        · rw [hu] at q; cases q
        · exact absurd q z3
end
section
variable {X : Cx} {p : Pm} {O is vs : List Nat} {tg iter elt : Expr} {ifs : List Expr} {pos : Pos} {wi : TI} {mi : MI} {g : TG} {mg : MG} {tt : TT} {mt : MT} {te : TE} {me : ME}
/-- a fresh thing: t tells m, and what it gives is nobody's yet -/
def LF (p : Pm) (O : List Nat) (t : TE) (m : ME) : Prop :=
  ∀ F0 H0 F H σ Γ n (Q : D → Nat → Prop), Sep p F0 H0 O F H σ Γ n → m Γ n Q → ∀ Q' : VK,
    (∀ d a F' H' n', Sep p F0 H0 O F' H' σ Γ n' → Gp p F H F' H' → Own p.K F' H' d a → F' a = none → H a = none → Q d n' → Q' (.ref a) H') → t σ H Q'
structure RF (X : Cx) (p : Pm) (O : List Nat) (e : Expr) (t : TE) (m : ME) : Prop where
  pe : PE X e t
  le : LF p O t m
theorem Sep.h0 {F0 H0 F H : Hp} {σ : St} {Γ : DEnv} {n : Nat} (s : Sep p F0 H0 O F H σ Γ n) {a : Addr} (h : H a = none) : H0 a = none ∧ ¬ p.isPen a := by
  have hp : ¬ p.isPen a := fun ⟨b, i, e, hb⟩ => by
    rcases hb with rfl | ⟨y, hy, rfl⟩
    · obtain ⟨o, q⟩ := (s.pen a i e).2.2.1.at
      rw [h] at q; cases q
    · obtain ⟨_, ps, q, _⟩ := (s.pen b i e).2.2.2 y hy
      rw [h] at q; cases q
  refine ⟨?_, hp⟩
  cases q : H0 a with
  | none => rfl
  | some o =>
    have := s.stay a o q hp
    rw [h] at this; cases this
/-- a thing that is new since H is free -/
theorem Sep.isFree {F0 H0 F H F' H' : Hp} {σ : St} {Γ : DEnv} {n : Nat} (s : Sep p F0 H0 O F H σ Γ n) {d : D} {a : Addr} (h : H a = none) (w : Own p.K F' H' d a) (f : F' a = none) : Free p H0 O F' H' σ Γ d a :=
  ⟨w, f, (s.h0 h).1, (s.h0 h).2, fun j hj dj e q => by
    obtain ⟨b, e1, r, _⟩ := s.ow j hj dj e
    rw [q] at e1
    cases e1
    obtain ⟨o, e2⟩ := r.at
    rw [h] at e2; cases e2⟩
theorem LF.toLE {t : TE} {m : ME} (h : LF p O t m) : LE p O t m := fun F0 H0 F H σ Γ n Q s q Q' k =>
  h F0 H0 F H σ Γ n Q s q Q' fun d a F1 H1 n1 s1 g1 w f ha q1 => by
    have fr := s.isFree ha w f
    obtain ⟨F2, s2, e2, _, r, nw⟩ := s1.freeze0 fr
    refine k d _ F2 H1 n1 s2 ⟨g1.f.trans e2, g1.h, fun b o e => ?_⟩ r q1
    rcases nw b o e with z | z
    · exact g1.new b o z
    · subst z; exact .inr (.inl ha)
theorem RF.e {ex : Expr} {t : TE} {m : ME} (h : RF X p O ex t m) : RE X p O ex t m := ⟨h.pe, h.le.toLE⟩
/-- an object that nobody here knows is written -/
theorem Sep.poke {F0 H0 F H : Hp} {σ : St} {Γ : DEnv} {n : Nat} (s : Sep p F0 H0 O F H σ Γ n) {a : Addr} {o : HO} (f : F a = none) (h0 : H0 a = none) (hp : ¬ p.isPen a) (sl : ∀ j ∈ O, ∀ dj, Γ[j]? = some (some dj) → σ[j]? ≠ some (some (.ref a))) : Sep p F0 H0 O F (upd H a o) σ Γ n := by
  have ne : ∀ {b : Addr} {u : HO}, F b = some u → b ≠ a := fun e z => by rw [z, f] at e; cases e
  refine ⟨s.f0, fun b u e => by rw [upd_ne (ne e)]; exact s.fh _ _ e, fun b u e q => ?_, s.newF, fun b j e => ?_, s.len, s.sh, fun j hj d e => ?_, s.dj⟩
  · rw [upd_ne fun z => by rw [z, h0] at e; cases e]
    exact s.stay b u e q
  · obtain ⟨h1, h2, ⟨w, l, xs, z1, z2, z3⟩, zt⟩ := s.pen b j e
    refine ⟨h1, h2, ⟨w, l, xs, ?_, z2, z3⟩, zt.up (.refl _) (fun y hy => (zt y hy).1) fun y hy o h => by rw [upd_ne fun z => hp ⟨b, j, e, .inr ⟨y, hy, z⟩⟩]; exact h⟩
    rw [upd_ne fun z : b = a => hp ⟨b, j, e, .inl z.symm⟩]
    exact z1
  · obtain ⟨b, h1, r, z1, z2, z3⟩ := s.ow j hj d e
    have hb : b ≠ a := fun z => sl j hj d e (z ▸ h1)
    refine ⟨b, h1, ?_, z1, z2, z3⟩
    cases r with
    | lst q1 q2 => exact .lst (by rw [upd_ne hb]; exact q1) q2
    | dct q1 q2 q3 => exact .dct (by rw [upd_ne hb]; exact q1) q2 q3
theorem Gp.none {F H F' H' : Hp} {a : Addr} {o : HO} (g : Gp p F H F' H') (f : F a = none) (h : H a = some o) (hp : ¬ p.isPen a) : F' a = none := by
  cases w : F' a with
  | none => rfl
  | some u =>
    rcases g.new a u w with q | q | q
    · rw [f] at q; cases q
    · rw [h] at q; cases q
    · exact absurd q hp
theorem lf_lc (hi : LI p O wi mi) (hg : LG p O is g mg) (ht : LT p O tt mt) (he : LE p O te me) (his : ∀ i ∈ is, i ∈ vs) (hp : ∀ v ∈ vs, p.off v) : LF p O (tLc wi g tt te vs) (mLc mi mg mt me vs) := fun F0 H0 F H σ Γ n Q s q Q' k =>
  hi F0 H0 F H σ Γ n _ s q _ fun J ds F1 H1 n1 s1 g1 fd ⟨hl, q1⟩ => fun Dd hD => by
    have hD0 : H Dd = none := by
      cases w : H Dd with
      | none => rfl
      | some o => rw [g1.h Dd o w (s1.h0 hD).2] at hD; cases hD
    have hp0 := (s1.h0 hD).2
    have hH0 := (s1.h0 hD).1
    have hF1 : F1 Dd = none := s1.fh.free hD
    have sl1 : ∀ j ∈ O, ∀ dj, Γ[j]? = some (some dj) → σ[j]? ≠ some (some (.ref Dd)) := fun j hj dj e w => by
      obtain ⟨b, e1, r, _⟩ := s1.ow j hj dj e
      rw [w] at e1
      cases e1
      obtain ⟨o, e2⟩ := r.at
      rw [hD] at e2; cases e2
    refine ⟨fun i m H => m = ds.length - i ∧ i ≤ ds.length ∧ ∃ F n acc accV, Gp p F1 H1 F H ∧ Sep p F0 H0 O F H σ Γ n ∧ F Dd = none ∧ H Dd = some (.lst accV) ∧ Rps p.K F acc accV ∧ acc.length ≤ i ∧ compW mg mt me (wipeD Γ vs) (ds.drop i) n (fun r n' => Q (.list (acc ++ r)) n'),
      ⟨ds.length, by simp, Nat.zero_le _, F1, n1, [], [], (Gr.new0 s1.fh hD _).gp, s1.gr (Gr.new0 s1.fh hD _), hF1, upd_same, .nil, Nat.zero_le _, by simpa using q1⟩, ?_⟩
    rintro i m H2 ⟨rfl, hi', F2, n2, acc, accV, g2, s2, f2, hD2, ra, hla, c2⟩
    by_cases hlt : i < ds.length
    · obtain ⟨d, hd⟩ : ∃ d, ds[i]? = some d := ⟨ds[i], by simp [hlt]⟩
      obtain ⟨go, yl⟩ := fd.go i d F2 H2 hd g2.f s2.fh
      have hdr : ds.drop i = d :: ds.drop (i + 1) := by
        rw [List.drop_eq_getElem_cons hlt]
        congr 1
        simpa [hlt] using hd
      rw [hdr] at c2
      refine .inr ⟨go, fun H => ∃ F n acc accV, Gp p F1 H1 F H ∧ Sep p F0 H0 O F H σ Γ n ∧ F Dd = none ∧ H Dd = some (.lst accV) ∧ Rps p.K F acc accV ∧ acc.length ≤ i + 1 ∧ compW mg mt me (wipeD Γ vs) (ds.drop (i + 1)) n (fun r n' => Q (.list (acc ++ r)) n'),
        fun H' w => ⟨ds.length - (i + 1), by omega, rfl, hlt, w⟩, fun x H3 y => ?_⟩
      obtain ⟨F3, g3, r3⟩ := yl x H3 y
      have s3 := s2.gr g3
      refine hg F0 H0 F3 H3 _ _ n2 d x (s3.wipe hp) r3 _ _ c2 fun σ4 Γ4 s4 a4 q4 => ?_
      refine ⟨wipe_agree a4 his, ?_⟩
      refine ht F0 H0 F3 H3 σ4 Γ4 n2 _ s4 q4 _ fun b F5 H5 n5 s5 g5 q5 => ?_
      have hD3 : H3 Dd = some (.lst accV) := g3.h _ _ hD2
      have f3 : F3 Dd = none := g3.none f2 ⟨_, hD2⟩
      have hD5 : H5 Dd = some (.lst accV) := g5.h _ _ hD3 hp0
      have f5 : F5 Dd = none := g5.none f3 hD3 hp0
      have g25 : Gp p F2 H2 F5 H5 := g3.gp.trans g5
      cases b with
      | true =>
        rw [if_pos rfl] at q5 ⊢
        refine he F0 H0 F5 H5 σ4 Γ4 n5 _ s5 q5 _ fun y v F6 H6 n6 s6 g6 r6 q6 => ?_
        have hD6 : H6 Dd = some (.lst accV) := g6.h _ _ hD5 hp0
        have f6 : F6 Dd = none := g6.none f5 hD5 hp0
        have g26 : Gp p F2 H2 F6 H6 := g25.trans g6
        refine ⟨accV, hD6, ?_, F6, n6, acc ++ [y], accV ++ [v], ?_, ((s2.back s6 g26).poke f6 hH0 hp0 sl1), f6, upd_same, (ra.mono g26.f).append (.cons r6 .nil), by rw [List.length_append, List.length_singleton]; omega, ?_⟩
        · rw [ra.len]
          exact lim_lt (by omega)
        · have g16 := g2.trans g26
          refine ⟨g16.f, fun a o e hp => ?_, g16.new⟩
          rw [upd_ne fun z => by rw [z, hD] at e; cases e]
          exact g16.h a o e hp
        · simpa using q6
      | false =>
        rw [if_neg (by decide)] at q5 ⊢
        exact ⟨F5, n5, acc, accV, g2.trans g25, s2.back s5 g25, f5, hD5, ra.mono g25.f, by omega, q5⟩
    · have e : i = ds.length := by omega
      subst e
      rw [List.drop_length] at c2
      refine .inl ⟨fd.stop F2 H2 g2.f s2.fh, k (.list acc) Dd F2 H2 n2 s2 (g1.trans g2) (.lst hD2 ra) f2 hD0 ?_⟩
      have c3 : Q (.list (acc ++ [])) n2 := c2
      rwa [List.append_nil] at c3
theorem lt_yes : LT p O tYes mYes := fun F0 H0 F H σ Γ n Q s q Q' k => k true F H n s .refl q
theorem lf_lst {t : TA} {m : MA} (h : LA p O t m) : LF p O (tLst t) (mLst m) := fun F0 H0 F H σ Γ n Q s q Q' k =>
  h F0 H0 F H σ Γ n _ s q _ fun ds us F1 H1 n1 s1 g1 r1 ⟨l, q1⟩ => by
    refine ⟨by rw [r1.len]; exact lim_line l, fun x hx => ?_⟩
    have hx0 : H x = none := by
      cases w : H x with
      | none => rfl
      | some o => rw [g1.h x o w (s1.h0 hx).2] at hx; cases hx
    exact k _ _ F1 _ n1 (s1.gr (Gr.new0 s1.fh hx _)) (g1.trans (Gr.new0 s1.fh hx _).gp) (.lst upd_same r1) (s1.fh.free hx) hx0 q1
theorem f_lst {es : List Expr} {t : TA} {m : MA} (h : RA X p O es t m) : RF X p O (.List es pos) (tLst t) (mLst m) := ⟨pe_lst h.pa, lf_lst h.le⟩
@[reducible] def mDict0 : ME := fun _ n Q => Q (.dict []) n
theorem f_dict0 : RF X p O (.Dict [] [] pos) tDNewK mDict0 := ⟨pe_dnewK, fun F0 H0 F H σ Γ n Q s q Q' k x hx =>
  k _ _ F _ n (s.gr (Gr.new0 s.fh hx _)) (Gr.new0 s.fh hx _).gp (.dct upd_same rfl fun i x d a => by simp at a) (s.fh.free hx) hx q⟩
/-- x = a fresh thing, kept as one's own -/
theorem s_own {Ob : List Nat} {tg' e : Expr} {i : Nat} (he : RF X p O e te me) (hi : i ∉ O) (hp : p.off i) (h : PS X (.Assign [tg'] e pos) (tAsg te (gName i))) : RS X p Ob O (i :: O) (.Assign [tg'] e pos) (tAsg te (gName i)) (mSet i me) := ⟨h, fun F0 H0 F H σ Γ n E s q E' hn _ _ _ =>
  he.le F0 H0 F H σ Γ n _ s q _ fun d a F1 H1 n1 s1 g1 w f ha q1 => hn F1 H1 _ _ n1 (s1.putOwn hp (s.isFree ha w f)) g1.f q1⟩
/-- xs.append(e) -/
@[reducible] def mAppend (i : Nat) (me : ME) : MS := fun E Γ n => ∃ ds, Γ[i]? = some (some (.list ds)) ∧ me Γ n fun d n1 => ds.length < lim ∧ E.nx (Γ.set i (some (.list (ds ++ [d])))) n1
theorem s_append {Ob : List Nat} {e : Expr} {st : Stmt} {i : Nat} (he : RE X p O e te me) (hi : i ∈ O) (hK : p.K = X.K) (h : PS X st (tDrop (tBM X.K "list" rAppend (tVar i) (tCons te tNil)))) : RS X p Ob O O st (tDrop (tBM p.K "list" rAppend (tVar i) (tCons te tNil))) (mAppend i me) := ⟨hK ▸ h, fun F0 H0 F H σ Γ n E s ⟨ds, ei, q⟩ E' hn _ _ _ => by
  obtain ⟨a, e1, w, z1, z2, z3⟩ := s.ow i hi _ ei
  cases w with
  | lst w1 w2 =>
    rename_i xs
    refine ⟨.ref a, e1, .inl ⟨rfl, xs, .of w1⟩, ?_⟩
    refine he.le F0 H0 F H σ Γ n _ s q _ fun d v F1 H1 n1 s1 g1 r1 ⟨l, q1⟩ => ?_
    have w1' := g1.h _ _ w1 z3
    have f1 := g1.none z1 w1 z3
    refine ⟨a, xs, v, rfl, rfl, w1', by rw [w2.len]; exact lim_lt (by omega), ?_⟩
    refine hn F1 _ σ _ n1 ?_ g1.f q1
    -- the state behind the append
    have sg : ∀ {j : Nat} {dj : D}, (Γ.set i (some (.list (ds ++ [d]))))[j]? = some (some dj) → (j = i ∧ dj = .list (ds ++ [d])) ∨ (j ≠ i ∧ Γ[j]? = some (some dj)) := fun {j dj} e => by
      by_cases hj : i = j
      · subst hj
        rw [set_at, if_pos rfl] at e
        split at e
        · cases e; exact .inl ⟨rfl, rfl⟩
        · cases e
      · rw [List.getElem?_set_ne hj] at e
        exact .inr ⟨Ne.symm hj, e⟩
    have hu : ∀ {b : Addr} {u : HO}, F1 b = some u → b ≠ a := fun e z => by rw [z, f1] at e; cases e
    refine ⟨s1.f0, fun b u e => by rw [upd_ne (hu e)]; exact s1.fh _ _ e, fun b u e q => ?_, s1.newF, fun b j e => ?_, by simp [s1.len], fun j dj hj e => ?_, fun j hj dj e => ?_, fun j hj k hk hjk b dj dk h1 h2 h3 h4 => ?_⟩
    · rw [upd_ne fun z => by rw [z, z2] at e; cases e]
      exact s1.stay b u e q
    · obtain ⟨h1, h2, ⟨w, l, ys, y1, y2, y3⟩, zt⟩ := s1.pen b j e
      refine ⟨h1, h2, ⟨w, l, ys, ?_, y2, y3⟩, zt.up (.refl _) (fun y hy => (zt y hy).1) fun y hy o h => by rw [upd_ne fun z => z3 ⟨b, j, e, .inr ⟨y, hy, z⟩⟩]; exact h⟩
      rw [upd_ne fun z : b = a => z3 ⟨b, j, e, .inl z.symm⟩]
      exact y1
    · rcases sg e with ⟨rfl, _⟩ | ⟨_, e⟩
      · exact absurd hi hj
      · exact s1.sh j dj hj e
    · rcases sg e with ⟨rfl, rfl⟩ | ⟨hne, e⟩
      · exact ⟨a, e1, .lst upd_same ((w2.mono g1.f).append (.cons r1 .nil)), f1, z2, z3⟩
      · obtain ⟨b, h1, r, y1, y2, y3⟩ := s1.ow j hj dj e
        have hb : b ≠ a := fun z => s1.dj j hj i hi hne a dj _ e ei (z ▸ h1) e1
        refine ⟨b, h1, ?_, y1, y2, y3⟩
        cases r with
        | lst q1 q2 => exact .lst (by rw [upd_ne hb]; exact q1) q2
        | dct q1 q2 q3 => exact .dct (by rw [upd_ne hb]; exact q1) q2 q3
    · have gj : ∃ d', Γ[j]? = some (some d') := by
        rcases sg h1 with ⟨rfl, _⟩ | ⟨_, e⟩
        · exact ⟨_, ei⟩
        · exact ⟨_, e⟩
      have gk : ∃ d', Γ[k]? = some (some d') := by
        rcases sg h2 with ⟨rfl, _⟩ | ⟨_, e⟩
        · exact ⟨_, ei⟩
        · exact ⟨_, e⟩
      obtain ⟨d1, g1'⟩ := gj
      obtain ⟨d2, g2'⟩ := gk
      exact s1.dj j hj k hk hjk b d1 d2 g1' g2' h3 h4⟩
end
end RR
end
section
namespace RR
open PySem PySem.Spec L2
open PyProof.Rows hiding St
abbrev GB (k : Nat) (A : Around) : Prop := 100 ≤ k → A.guards = some []
theorem GB.le {j k : Nat} {A : Around} (g : GB k A) (h : j ≤ k) : GB j A := fun z => g (Nat.le_trans z h)
structure FnG (P : Program) (w : World) (K : PySem.W.Frag) (mg : Str → Option Value) (base : Heap) (k : Nat) (f : Addr) (fd : FuncData) (ps : List Str) (sp : Sp) : Prop where
  len : ∀ vs H Q E, sp vs H Q E → vs.length = ps.length
  run : ∀ (A : Around) (outer : List Env) (s : Shared) (H : Hp) (args : Args) (us : List Value) (vs : List V) (Q : VK) (E : XK), Room k A → GB k A →
    Env0 P w K mg base A outer s H → BindsTo s fd args (ps.zip us) → Vals vs us → sp vs H Q E → codeAny (model P w) A (.call (.ref f) args) (CR CX0 outer P w H s Q E) s
section
variable {P : Program} {w : World} {K : PySem.W.Frag} {mg : Str → Option Value} {base : Heap}
theorem FnG.mono {j k : Nat} {f : Addr} {fd : FuncData} {ps : List Str} {sp : Sp} (F : FnG P w K mg base j f fd ps sp) (h : j ≤ k) : FnG P w K mg base k f fd ps sp :=
  ⟨F.len, fun A o s H a us vs Q E hr g => F.run A o s H a us vs Q E (hr.mono h) (g.le h)⟩
theorem FnG.imp {k : Nat} {f : Addr} {fd : FuncData} {ps : List Str} {sp sp' : Sp} (F : FnG P w K mg base k f fd ps sp) (h : ∀ vs H Q E, sp' vs H Q E → sp vs H Q E) : FnG P w K mg base k f fd ps sp' :=
  ⟨fun vs H Q E q => F.len vs H Q E (h _ _ _ _ q), fun A o s H a us vs Q E r g e b v q => F.run A o s H a us vs Q E r g e b v (h _ _ _ _ q)⟩
abbrev bodyCx (P : Program) (w : World) (K : PySem.W.Frag) (mg : Str → Option Value) (base : Heap) (N : List Str) (qual : Str) (scope : Scope) (f : Addr) (cdv : Value) (A : Around) (outer : List Env) (s : Shared) (H : Hp) (E : XK) : Cx :=
  (cxOf CX0 P w K mg base N qual scope f cdv A outer s H E).nox
theorem FnG.mk' {x qual : Str} {st : Stmt} {f : Addr} {fd : FuncData} {N ps : List Str} {k : Nat} {sp : Sp} (F : Fun K x qual st f fd) (S : FnScope N ps (defScope st)) (len : ∀ vs H Q E, sp vs H Q E → vs.length = ps.length)
    (hbody : ∀ (cdv : Value) (A : Around) (outer : List Env) (s : Shared) (H : Hp) (vs : List V) (Q : VK) (E : XK), Room k (A.deeper (envOfC qual (defScope st) s.heap.objs.size f cdv)) → GB (k + 1) A → sp vs H Q E →
      ∃ t, PSs (bodyCx P w K mg base N qual (defScope st) f cdv A outer s H E) (defBody st) t ∧ t { nx := fun _ H' => Q .non H', rt := Q } (start N vs) H) : FnG P w K mg base (k + 1) f fd ps sp := by
  obtain ⟨oc, od, kV, doc, pm, an, cdv, ct, osl, rfl, lk, hcd⟩ := F.ex
  refine ⟨len, ?_⟩
  intro A outer s H args us vs Q E hr hg e0 hb r hsp
  have hl : vs.length = ps.length := len _ _ _ _ hsp
  have KX : K.In s.heap := e0.mod.kin.keeps fun b o z => (e0.bs b o z).1
  have lim := e0.mod.nolimit.keeps (h' := s.heap) fun b o z => (e0.bs b o z).1
  have kinds : ∀ y ∈ ps.zip us, (defScope st).names.lookup y.1 = some .local ∨ ((defScope st).names.lookup y.1 = some .cell ∧ ((cellsFrom (s.heap.objs.size + 1) (defScope st).names []).lookup y.1).isSome = true) := by
    rintro ⟨n, v⟩ hy
    exact (S.par n (List.of_mem_zip hy).1).imp id fun q => ⟨q, PySem.W.cellsFrom_some _ _ _ (.inl q)⟩
  refine codeAny_call_function hr.depth (KX _ _ lk) rfl S.co S.gen rfl (PySem.W.codeRec_of KX hcd) (hb _ _ _ _ (wpAny_newFunctionEnv_cells S.kind kinds ?_))
  intro env he s1 x1
  subst he
  refine ⟨lim.keeps x1.toInCall.keep, codeAny_func ?_⟩
  obtain ⟨t, ht, hq⟩ := hbody cdv A outer s H vs Q E (hr.deeper _) hg hsp
  have I := inv_start (CX := CX0) (P := P) (w := w) (K := K) (mg := mg) (E := E) S hr.hd e0 hl r x1
  refine wpAny_mono (ht.nox.run [] s1 (start N vs) H _ I hq) ?_ fun e s' z => z
  intro fl s' hs
  cases fl with
  | ret u =>
    obtain ⟨v, σ', H', J, rv, q⟩ := hs
    exact ⟨v, H', J.os, J.bare, J.base, J.hok, rv, q⟩
  | next =>
    obtain ⟨σ', H', J, q⟩ := hs
    exact ⟨V.non, H', J.os, J.bare, J.base, J.hok, rfl, q⟩
  | brk => exact hs.elim fun _ z => z.elim fun _ z => z.2.elim
  | cont => exact hs.elim fun _ z => z.elim fun _ z => z.2.elim
end
section
variable {X : Cx} {k : Nat} {f : Addr} {fd : FuncData} {ps : List Str} {sp : Sp}
theorem run_g {pins : List (Addr × Obj)} {σ : St} {H : Hp} {s : Shared} {Q : VK} {us : List Value} {vs : List V} (F : FnG X.prog X.w X.K X.mg X.base k f fd ps sp) (hr : Room k X.A) (hg : GB k X.A) (hb : Binds X.K fd ps []) (I : Inv X pins σ H s) (r : Vals vs us) (h : sp vs H Q E0) :
    wpAny (model X.prog X.w) X.A (call (.ref f) us) (EP X pins σ Q) X.xe s := by
  have hl : us.length = ps.length := r.length.symm.trans (F.len _ _ _ _ h)
  have b0 : BindsTo s fd ⟨us, []⟩ (ps.zip us) := by
    have z := hb s us I.kIn (by rw [List.append_nil]; exact hl)
    rwa [List.append_nil] at z
  refine wpAny_call (codeAny_mono (F.run X.A X.stack s H ⟨us, []⟩ us vs Q E0 hr hg I.env0 b0 r h) ?_)
  intro res s' hq
  match res, hq with
  | .ok (.ret u), hq => exact I.after hq
/-- f(e, ..) -/
theorem pe_callG {x : Str} {p pos : Pos} {e : Expr} {es : List Expr} {t : TA} (F : FnG X.prog X.w X.K X.mg X.base k f fd ps sp) (hr : Room k X.A) (hg : GB k X.A) (hgl : Gl X x) (hm : X.mg x = some (.ref f)) (hk : PySem.W.keepIn X.K (.ref f) = true) (hb : Binds X.K fd ps [])
    (ha : PA X (e :: es) t) (hdb : (x == ("__debug__" : Str)) = false := by decide) (he : starEach (e :: es) X.env = (false, eval e X.env) :: starEach es X.env := by rfl) (hpl : (backTo pos (starEach es X.env)).any (·.1) = false := by rfl) :
    PE X (.Call (.Name x p) (e :: es) [] pos) (tCall sp [] E0 t) := ⟨fun pins s σ H Q I h =>
  wpAny_Call_Name_kw (ld_glob I hgl hm (PySem.W.callWith_K (h₀ := X.base) I.ok.mod.kin hk (thn (ha.run pos pins s σ H _ I h) fun us s1 w => by
    obtain ⟨vs, H1, I1, r, q⟩ := w
    rw [List.append_nil] at q
    exact ⟨I1.kIn, run_g F hr hg hb I1 r q⟩) he hpl) hdb)⟩
end
abbrev MP := List D → (D → Prop) → Prop
/-- a def that leaves all as it is -/
def spF (K : PySem.W.Frag) (m : MP) : Sp := fun vs H Q _ => ∃ (F : Hp) (ds : List D) (R : D → Prop), Same F H ∧ Rps K F ds vs ∧ m ds R ∧ ∀ d v F' H', Gr F H F' H' → Rp K F' d v → R d → Q v H'
/-- a def that draws: its first argument is the drawing list -/
def spP (K : PySem.W.Frag) (m : MF) : Sp := fun vs H Q _ => ∃ (a dr : Addr) (ws : List V) (F : Hp) (ds : List D) (n : Nat) (R : D → Nat → Prop), vs = .ref a :: ws ∧ Same F H ∧ F a = none ∧ PenAt dr F H a n ∧ Rps K F ds ws ∧ m ds n R ∧
  ∀ d n' v F' H', Same F F' → Same F' H' → (∀ b o, H b = some o → b ≠ a → H' b = some o) → (∀ b o, F' b = some o → F b = some o ∨ H b = none) → F' a = none → PenAt dr F' H' a n' → Rp K F' d v → R d n' → Q v H'
def startD (N : List Str) (ds : List (Option D)) : DEnv := ds ++ List.replicate (N.length - ds.length) none
@[reducible] def mEnds (R : D → Nat → Prop) : EndsD := { nx := fun _ n => R .none n, rt := R }
/-- what a def's body means -/
@[reducible] def mFun (N : List Str) (np : Nat) (mb : MS) : MP := fun ds R => ds.length = np ∧ mb (mEnds fun d _ => R d) (startD N (ds.map some)) 0
@[reducible] def mFunP (N : List Str) (np : Nat) (mb : MS) : MF := fun ds n R => ds.length = np ∧ mb (mEnds R) (startD N (none :: ds.map some)) n
section
variable {P : Program} {w : World} {K : PySem.W.Frag} {mg : Str → Option Value} {base : Heap}
theorem start_get {N : List Str} {vs : List V} {i : Nat} (h : i < vs.length) : (start N vs)[i]? = some (some vs[i]) := by
  unfold L2.start
  rw [List.getElem?_append_left (by simpa using h), List.getElem?_map, List.getElem?_eq_getElem h]
  rfl
theorem startD_get {N : List Str} {ds : List (Option D)} {i : Nat} {d : D} (h : (startD N ds)[i]? = some (some d)) : ds[i]? = some (some d) := by
  unfold startD at h
  by_cases hi : i < ds.length
  · rwa [List.getElem?_append_left hi] at h
  · rw [List.getElem?_append_right (by omega), List.getElem?_replicate] at h
    split at h <;> cases h
theorem sep_start {N : List Str} {F H : Hp} {ds : List D} {vs : List V} {n : Nat} (s : Same F H) (r : Rps K F ds vs) (hl : vs.length ≤ N.length) : Sep ⟨K, none, 0⟩ F H [] F H (start N vs) (startD N (ds.map some)) n where
  f0 := .refl _
  fh := s
  stay := fun _ _ e _ => e
  newF := fun _ _ e => .inl e
  pen := fun _ _ e => nomatch e
  len := by simp [L2.start, startD, r.len]
  sh := fun i d _ e => by
    have e1 : ds[i]? = some d := by
      have := startD_get e
      rw [List.getElem?_map] at this
      cases q : ds[i]? with
      | none => rw [q] at this; cases this
      | some x => rw [q] at this; cases this; rfl
    obtain ⟨v, e2, rv⟩ := r.get e1
    have hi := (List.getElem?_eq_some_iff.mp e2).1
    refine ⟨v, ?_, rv⟩
    rw [start_get hi]
    rw [List.getElem?_eq_getElem hi] at e2
    cases e2
    rfl
  ow := fun i h => nomatch h
  dj := fun i h => nomatch h
theorem sep_startP {N : List Str} {F H : Hp} {a dr : Addr} {ds : List D} {vs : List V} {n : Nat} (s : Same F H) (fa : F a = none) (pa : PenAt dr F H a n) (r : Rps K F ds vs) (hl : vs.length + 1 ≤ N.length) : Sep ⟨K, some (a, 0), ⟨dr, []⟩⟩ F H [] F H (start N (.ref a :: vs)) (startD N (none :: ds.map some)) n where
  f0 := .refl _
  fh := s
  stay := fun _ _ e _ => e
  newF := fun _ _ e => .inl e
  pen := fun b j e => by
    cases e
    exact ⟨fa, rfl, pa, .nil⟩
  len := by simp [L2.start, startD, r.len]
  sh := fun i d _ e => by
    have e0 := startD_get e
    cases i with
    | zero => cases e0
    | succ i =>
      have e1 : ds[i]? = some d := by
        rw [List.getElem?_cons_succ, List.getElem?_map] at e0
        cases q : ds[i]? with
        | none => rw [q] at e0; cases e0
        | some x => rw [q] at e0; cases e0; rfl
      obtain ⟨v, e2, rv⟩ := r.get e1
      have hi := (List.getElem?_eq_some_iff.mp e2).1
      refine ⟨v, ?_, rv⟩
      rw [start_get (by simpa using hi)]
      rw [List.getElem?_eq_getElem hi] at e2
      cases e2
      rfl
  ow := fun i h => nomatch h
  dj := fun i h => nomatch h
/-- a def by its body's derivation -/
theorem FnG.pure {x qual : Str} {st : Stmt} {f : Addr} {fd : FuncData} {N ps : List Str} {k : Nat} {mb : MS} (F : Fun K x qual st f fd) (S : FnScope N ps (defScope st))
    (body : ∀ (cdv : Value) (A : Around) (outer : List Env) (s : Shared) (H : Hp) (E : XK), Room k (A.deeper (envOfC qual (defScope st) s.heap.objs.size f cdv)) → GB (k + 1) A →
      ∃ t O', RSs (bodyCx P w K mg base N qual (defScope st) f cdv A outer s H E) ⟨K, none, 0⟩ [] [] O' (defBody st) t mb) : FnG P w K mg base (k + 1) f fd ps (spF K (mFun N ps.length mb)) := by
  refine FnG.mk' F S (fun vs H Q E ⟨Fz, ds, R, s, r, ⟨hl, _⟩, _⟩ => r.len.trans hl) fun cdv A outer s H vs Q E hr hg ⟨Fz, ds, R, sm, r, ⟨hl, q⟩, fin⟩ => ?_
  obtain ⟨t, O', B⟩ := body cdv A outer s H E hr hg
  have hN : vs.length ≤ N.length := by
    rw [r.len, hl]
    have := congrArg List.length S.pre
    rw [List.length_take] at this
    omega
  refine ⟨t, B.ps, B.le Fz H Fz H _ _ 0 _ (sep_start sm r hN) q _ (fun F' H' σ' Γ' n' s' _ q' => ?_) (fun d v F' H' n' s' r' q' => ?_) (fun _ _ _ _ _ _ _ z => z.elim) (fun _ _ _ _ _ _ _ z => z.elim)⟩
  · exact fin .none .non F' H' ⟨s'.f0, s'.fh, fun a o e => s'.stay a o e (fun ⟨_, _, z, _⟩ => nomatch z), s'.newF⟩ .non q'
  · exact fin d v F' H' ⟨s'.f0, s'.fh, fun a o e => s'.stay a o e (fun ⟨_, _, z, _⟩ => nomatch z), s'.newF⟩ r' q'
theorem FnG.pen {x qual : Str} {st : Stmt} {f : Addr} {fd : FuncData} {N ps : List Str} {x0 : Str} {k : Nat} {mb : MS} (F : Fun K x qual st f fd) (S : FnScope N (x0 :: ps) (defScope st))
    (body : ∀ (a dr : Addr) (cdv : Value) (A : Around) (outer : List Env) (s : Shared) (H : Hp) (E : XK), Room k (A.deeper (envOfC qual (defScope st) s.heap.objs.size f cdv)) → GB (k + 1) A →
      ∃ t O', RSs (bodyCx P w K mg base N qual (defScope st) f cdv A outer s H E) ⟨K, some (a, 0), ⟨dr, []⟩⟩ [] [] O' (defBody st) t mb) : FnG P w K mg base (k + 1) f fd (x0 :: ps) (spP K (mFunP N ps.length mb)) := by
  refine FnG.mk' F S (fun vs H Q E h => ?_) fun cdv A outer s H vs Q E hr hg h => ?_
  · obtain ⟨a, dr, ws, Fz, ds, n, R, rfl, sm, fa, pa, r, ⟨hl, _⟩, _⟩ := h
    rw [List.length_cons, List.length_cons, r.len, hl]
  · obtain ⟨a, dr, ws, Fz, ds, n, R, rfl, sm, fa, pa, r, ⟨hl, q⟩, fin⟩ := h
    obtain ⟨t, O', B⟩ := body a dr cdv A outer s H E hr hg
    have hN : ws.length + 1 ≤ N.length := by
      rw [r.len, hl]
      have := congrArg List.length S.pre
      rw [List.length_take, List.length_cons] at this
      omega
    have isP : ∀ b, (Pm.mk K (some (a, 0)) ⟨dr, []⟩).isPen b → b = a := fun b ⟨c, j, e, hb⟩ => by
      cases e
      rcases hb with h | ⟨y, hy, _⟩
      · exact h
      · cases hy
    have fin' : ∀ {d : D} {v : V} {F' H' : Hp} {n' : Nat}, Fin0 ⟨K, some (a, 0), ⟨dr, []⟩⟩ Fz H F' H' n' → Rp K F' d v → R d n' → Q v H' := fun {d v F' H' n'} s' r' q' =>
      fin d n' v F' H' s'.f0 s'.fh (fun b o e hb => s'.stay b o e fun z => hb (isP b z)) s'.newF (s'.pen a 0 rfl).1 (s'.pen a 0 rfl).2.1 r' q'
    refine ⟨t, B.ps, B.le Fz H Fz H _ _ n _ (sep_startP sm fa pa r hN) q _ (fun F' H' σ' Γ' n' s' _ q' => fin' s'.fin .non q') (fun d v F' H' n' s' r' q' => fin' s' r' q') (fun _ _ _ _ _ _ _ z => z.elim) (fun _ _ _ _ _ _ _ z => z.elim)⟩
end
@[reducible] def mCall (mf : MP) (ma : MA) : ME := fun Γ n Q => ma Γ n fun ds n1 => mf ds fun d => Q d n1
@[reducible] def mCallP (mf : MF) (ma : MA) : ME := fun Γ n Q => ma Γ n fun ds n1 => mf ds n1 Q
section
variable {X : Cx} {p : Pm} {O : List Nat} {k : Nat} {f : Addr} {fd : FuncData} {ps : List Str} {x : Str} {q pos : Pos} {e : Expr} {es : List Expr} {t : TA} {ma : MA}
theorem le_call {mf : MP} (h : LA p O t ma) : LE p O (tCall (spF p.K mf) [] E0 t) (mCall mf ma) := fun F0 H0 F H σ Γ n Q s q Q' k =>
  h F0 H0 F H σ Γ n _ s q _ fun ds vs F1 H1 n1 s1 g1 r1 q1 =>
    ⟨F1, ds, _, s1.fh, by rw [List.append_nil]; exact r1, q1, fun d v F2 H2 g2 r2 q2 => k d v F2 H2 n1 (s1.gr g2) (g1.trans g2.gp) r2 q2⟩
/-- the drawing list's state anew -/
theorem Sep.drew {F0 H0 F H F' H' : Hp} {σ : St} {Γ : DEnv} {n n' : Nat} {a : Addr} {i : Nat} (s : Sep p F0 H0 O F H σ Γ n) (hp : p.ap = some (a, i)) (ff : Same F F') (fh : Same F' H') (st : ∀ b o, H b = some o → b ≠ a → H' b = some o) (nw : ∀ b o, F' b = some o → F b = some o ∨ H b = none) (fa : F' a = none) (pa : PenAt p.dr.ad F' H' a n') :
    Sep p F0 H0 O F' H' σ Γ n' ∧ Gp p F H F' H' := by
  have g : Gp p F H F' H' := ⟨ff, fun b o e hb => st b o e fun z => hb ⟨a, i, hp, .inl z⟩, fun b o e => (nw b o e).imp id .inl⟩
  have zt := (s.pen a i hp).2.2.2
  have tabs : TabF p.dr.tb F' H' := zt.up ff (fun y hy => by
    obtain ⟨h1, ps, h2, _⟩ := zt y hy
    cases q : F' y.1 with
    | none => rfl
    | some o =>
      rcases nw _ _ q with z | z
      · rw [h1] at z; cases z
      · rw [h2] at z; cases z) fun y hy o h => st _ _ h fun z => by
    obtain ⟨h1, ps, h2, _⟩ := zt y hy
    obtain ⟨_, _, _, e1, _⟩ := (s.pen a i hp).2.2.1
    rw [z, e1] at h2
    cases h2
  refine ⟨⟨s.f0.trans ff, fh, fun b o e hb => g.h b o (s.stay b o e hb) hb, fun b o e => ?_, fun b j e => ?_, s.len, fun j d hj e => ?_, fun j hj d e => ?_, s.dj⟩, g⟩
  · rcases nw b o e with z | z
    · exact s.newF b o z
    · exact .inr (s.h0 z).1
  · rw [hp] at e
    cases e
    exact ⟨fa, (s.pen a i hp).2.1, pa, tabs⟩
  · obtain ⟨v, h1, r⟩ := s.sh j d hj e
    exact ⟨v, h1, r.mono ff⟩
  · obtain ⟨b, h1, r, z1, z2, z3⟩ := s.ow j hj d e
    obtain ⟨o, ho⟩ := r.at
    refine ⟨b, h1, ?_, g.none z1 ho z3, z2, z3⟩
    cases r with
    | lst q1 q2 => exact .lst (g.h _ _ q1 z3) (q2.mono ff)
    | dct q1 q2 q3 => exact .dct (g.h _ _ q1 z3) q2 fun i x d a b => (q3 i x d a b).mono ff
/-- f(pen, e, ..): the drawing list stands in slot i -/
theorem le_callP {mf : MF} {a : Addr} {i : Nat} (hp : p.ap = some (a, i)) (h : LA p O t ma) : LE p O (tCall (spP p.K mf) [] E0 (tCons (tVar i) t)) (mCallP mf ma) := fun F0 H0 F H σ Γ n Q s q Q' k => by
  refine ⟨.ref a, (s.pen a i hp).2.1, ?_⟩
  refine h F0 H0 F H σ Γ n _ s q _ fun ds vs F1 H1 n1 s1 g1 r1 q1 => ?_
  obtain ⟨h1, _, h3, _⟩ := s1.pen a i hp
  refine ⟨a, p.dr.ad, vs, F1, ds, n1, _, by rw [List.append_nil], s1.fh, h1, h3, r1, q1, fun d n2 v F2 H2 e1 e2 e3 e4 e5 e6 e7 e8 => ?_⟩
  obtain ⟨s2, g2⟩ := s1.drew hp e1 e2 e3 e4 e5 e6
  exact k d v F2 H2 n2 s2 (g1.trans g2) e7 e8
end
end RR
end
section
namespace RR
open PySem PySem.Spec L2
open PyProof.Rows hiding St
/-- the tuple at a, each item in a new pair with its place -/
def ItE (K : PySem.W.Frag) (a : Addr) : It :=
  ⟨fun j H => ∃ (zs : List V) (z : V), SqT K H a zs ∧ zs[j]? = some z, fun j H r H' => ∃ T z, r = .ref T ∧ H T = none ∧ H' = upd H T (.tup [.int (j : Nat), z]) ∧ ∀ zs, SqT K H a zs → zs[j]? = some z, fun j H => ∃ zs : List V, SqT K H a zs ∧ zs.length ≤ j⟩
theorem isTuple_of {h : Heap} {a : Addr} {its : Array Value} (p : IsTup h a its) : h.IsTuple a its := p
theorem turn_etup {P : Program} {w : World} {K : PySem.W.Frag} {els : List Expr} {kk : Nat} {tp : Pos} (a e it : Addr) (hea : e ≠ a) (hai : a ≠ it) :
    Turn P w K (.Tuple els kk tp) (ItE K a) [e, it] e (fun j h => (∃ old, IsEnum h e it ((j : Nat) : Int) old) ∧ h.IsTupleIter it a j ∧ e ≠ it) where
  mem := List.mem_cons_self ..
  obj := by
    rintro j h ⟨⟨old, he⟩, ⟨o, ho, hcl, hda⟩, _⟩ b hb
    rcases List.mem_cons.mp hb with rfl | hb
    · exact ⟨_, he, fun v z => nomatch z⟩
    · obtain rfl : b = it := by simpa using hb
      exact ⟨o, ho, fun v z => by rw [hda] at z; cases z⟩
  keep := by
    rintro j h h' ⟨⟨old, he⟩, hi, hne⟩ kp
    exact ⟨⟨old, kp e (by simp) _ he⟩, hi.at fun o z => kp it (by simp) o z, hne⟩
  item := by
    intro X hP hw hK hc j pins s σ H E I hf st hg
    subst hP hw hK
    obtain ⟨⟨old, he⟩, hit, hne⟩ := st
    obtain ⟨zs, z, hq, hz⟩ := hg
    obtain ⟨its, rv, pt, _⟩ := I.tuple hq
    obtain ⟨u, hu, ru⟩ := rv.get hz
    have le : e < s.heap.objs.size := Heap.lt_size he
    have li : it < s.heap.objs.size := by
      obtain ⟨_, q, _⟩ := hit
      exact Heap.lt_size q
    have hj : j < its.toArray.size := by
      have := (List.getElem?_eq_some_iff.mp hu).1
      simpa using this
    have Dr := Draws.tuple (prog := X.prog) (w := X.w) (A := X.A.in1) (I.ok.hd hc) it a hai its.toArray
    refine wpAny_pyNext_enum_itemD Dr he ⟨hit, isTuple_of pt⟩ hj hne (by simp [hne, hea]) fun y h' tk hy ho hst hT hsz hk => ?_
    obtain rfl : u = y := by
      have h1 : its.toArray[j]? = some y := hy
      have h2 : its.toArray[j]? = some u := by simpa using hu
      exact Option.some.inj (h2.symm.trans h1)
    refine ⟨_, rfl, wpAny_letOwnedTupleGo_enum (s := { s with heap := h', toks := tk + 1 }) ho fun h2 he2 sb => ?_⟩
    have hT2 : h2.get? s.heap.objs.size = some { cls := .type "tuple", data := .seq #[.int j tk, u] } := (sb.2 _ (Nat.ne_of_gt le)).trans hT
    have nw : ObjOk X.prog X.w (upd H s.heap.objs.size (.tup [.int (j : Nat), z])) h2 s.heap.objs.size (.tup [.int (j : Nat), z]) :=
      ⟨by show 2 ≤ sizeLine; decide, [.int j tk, u], .cons ⟨_, rfl⟩ (.cons ru .nil), _, hT2, rfl, _, rfl⟩
    have J : Inv X pins σ (upd H s.heap.objs.size (.tup [.int (j : Nat), z])) { s with heap := h2, toks := tk + 1 } :=
      I.turnedNew (ch := [e, it]) (fun b ob hb q => (sb.2 b fun w => hb (by simp [w])).trans (hk b ob (fun w => hb (by simp [w])) (fun w => hb (by simp [w])) q)) hf (Nat.le_refl _) nw
    refine ⟨.ref s.heap.objs.size, _, J, rfl, ⟨_, z, rfl, I.hok.fresh (Nat.le_refl _), rfl, fun ys hy => by rw [I.tuple_inj hy hq]; exact hz⟩, ⟨⟨u, ?_⟩, hst.1.at fun o q => (sb.2 it (Ne.symm hne)).trans q, hne⟩, fun b hb => ?_⟩
    · rw [show ((j + 1 : Nat) : Int) = (j : Int) + 1 by omega]
      exact he2
    · have lb : b < s.heap.objs.size := by
        rcases List.mem_cons.mp hb with q | q
        · rw [q]; exact le
        · obtain rfl : b = it := by simpa using q
          exact li
      rw [upd_ne (Nat.ne_of_lt lb)]
      exact (hf b hb).1
  done := by
    intro X hP hw hK hc j pins s σ H E I hf st hg
    subst hP hw hK
    obtain ⟨⟨old, he⟩, hit, hne⟩ := st
    obtain ⟨zs, hq, hz⟩ := hg
    obtain ⟨its, rv, pt, _⟩ := I.tuple hq
    obtain ⟨f0, f1, f2, f3, f4, f5⟩ := hf it (by simp)
    have hl := rv.length
    have Dr := Draws.tuple (prog := X.prog) (w := X.w) (A := X.A.in1) (I.ok.hd hc) it a hai its.toArray
    -- the iterator stands at or behind the end: at the end as it draws
    unfold pyNext
    have hT : s.TypeIs (.ref e) "enumerate" := ⟨_, he, rfl⟩
    refine wpAny_bind (wpAny_attempt (wpAny_callSpecial?_slot (name := Str.ofString "__next__") hT PySem.F.slot_enumerate_next
      (wpAny_call_entry PySem.F.slot_enumerate_next hT PySem.F.entry_enumerate_next ?_ (PySem.F.args_enumerate_next_1 _))))
    show wpAny _ _ (field (.ref e) 2 >>= _) _ _ _
    refine wpAny_bind (wpAny_field he rfl (x := .ref it) rfl ?_)
    refine wpAny_bind (wpAny_nextOf_tuple_end (A := X.A.in1) (I.ok.hd hc) hit (isTuple_of pt) (by simp; omega) fun h' x he' hx' => ?_)
    obtain ⟨o, ho, hcl⟩ := hx'
    refine wpAny_bind (wpAny_isInstance (T := "StopIteration") (b := true) ⟨o, ho, hcl⟩ isSubtype_stop ?_)
    exact wpAny_pure ⟨rfl, I.turned (t' := s.toks) (fun b o hb q => he' b o hb q) f0 f1 f3 f4 f5⟩
  self := fun A j s Q E st h => let ⟨⟨_, he⟩, _⟩ := st; wpAny_pyIter_enum he h
theorem meets_enum1 {v : Value} {o : Obj} {H : Heap → Prop} (B : Begins v o H) :
    Meets (Builtin.«enumerate.__new__» ⟨[.type "enumerate", v], []⟩) (fun _ R s => H s.heap ∧
      R (.ok (.ret (.ref (s.heap.push o).objs.size))) { s with heap := (s.heap.push o).push { cls := .type "enumerate", data := .fields #[.none, .bool false, .ref s.heap.objs.size, rawInt 0, .none, .none] } }) :=
  .of_wp fun prog w A R s h => by
    obtain ⟨hp, g, d, tk, os⟩ := s
    obtain ⟨h1, h⟩ := h
    have sube := sub_enumerate
    have it1 : ∀ {A' : Around} {E : Value → Shared → Prop} {Q : Value → Shared → Prop}, Q (.ref hp.objs.size) ⟨hp.push o, g, d, tk, os⟩ → wpAny (model prog w) A' (pyIter v) Q E ⟨hp, g, d, tk, os⟩ :=
      fun z => B.iter prog w _ _ ⟨hp, g, d, tk, os⟩ _ h1 z
    wp_walk using it1
    refine wpAny_stack_any fun st => wpAny_pure ?_
    split
    · rename_i c _ _ _ _ _
      cases (c == Value.type "enumerate") <;> (wp_walk using it1; exact ⟨_, rfl, h⟩)
    · wp_walk using it1
      exact ⟨_, rfl, h⟩
theorem call_enum1 {prog : Program} {w : World} {A : Around} {E : Value → Shared → Prop} {s : Shared} {v : Value} {o : Obj} {H : Heap → Prop} {Q : Value → Shared → Prop} (B : Begins v o H) (h1 : H s.heap)
    (h : ∀ h', IsEnum h' (s.heap.objs.size + 1) s.heap.objs.size 0 .none → h'.get? s.heap.objs.size = some o → h'.objs.size = s.heap.objs.size + 2 → (∀ b o, s.heap.get? b = some o → h'.get? b = some o) → Q (.ref (s.heap.objs.size + 1)) { s with heap := h' }) :
    wpAny (model prog w) A (call (.type "enumerate") [v]) Q E s := by
  refine callType_new PySem.F.called_enumerate (by decide) (PySem.F.typeCall_enumerate_1 _) (PySem.F.newCall_enumerate_1 _) (fun obj => PySem.F.args_object_init_2 obj _) PySem.F.entry_enumerate_new (meets_enum1 B) ⟨h1, ?_⟩
  have hz : (s.heap.push o).objs.size = s.heap.objs.size + 1 := Heap.size_push ..
  show _ ∧ _
  rw [hz]
  have he : IsEnum ((s.heap.push o).push { cls := .type "enumerate", data := .fields #[.none, .bool false, .ref s.heap.objs.size, rawInt 0, .none, .none] }) (s.heap.objs.size + 1) s.heap.objs.size 0 .none := by
    have z := Heap.get?_push_size (s.heap.push o) (o := { cls := .type "enumerate", data := .fields #[.none, .bool false, .ref s.heap.objs.size, rawInt 0, .none, .none] }) rfl
    rw [hz] at z
    exact z
  exact ⟨⟨_, he, rfl⟩, h _ he (Heap.get?_push_of_some _ (Heap.get?_push_size _ B.free)) (by rw [Heap.size_push, hz]) fun b o x => Heap.get?_push_of_some _ (Heap.get?_push_of_some _ x)⟩
/-- enumerate of a list or a tuple -/
def iEnumA (K : PySem.W.Frag) (ta : TA) : TI := fun σ H R => ta σ H fun vs H1 => ∃ a xs, vs = [.ref a] ∧ ((SqL K H1 a xs ∧ R (Ite K a) H1) ∨ (SqT K H1 a xs ∧ R (ItE K a) H1))
theorem pi_enumA {X : Cx} {e : Expr} {ta : TA} {p pos tpos : Pos} {elts : List Expr} {kk : Nat} (hg : Gl X "enumerate") (hm : X.mg "enumerate" = none) (ha : PA X [e] ta) (hs : starEach [e] X.env = [(false, eval e X.env)] := by rfl) :
    PI X (.Tuple elts kk tpos) (.Call (.Name "enumerate" p) [e] [] pos) (iEnumA X.K ta) := ⟨fun pins s σ H R I h => by
  refine Call_ (ld_blt I hg hm boot_enumerate (callWith_type1 (thn (ha.run pos pins s σ H _ I h) fun us s1 w => ?_) hs rfl))
  obtain ⟨vs, H1, I1, r1, a, xs, ex, q⟩ := w
  subst ex
  obtain ⟨u, rfl, ru⟩ := r1.one
  cases ru
  have tail : ∀ (h' : Heap) (J : It), (∀ b o, s1.heap.get? b = some o → h'.get? b = some o) → ∀ tn, Turn X.prog X.w X.K (.Tuple elts kk tpos) J [s1.heap.objs.size + 1, s1.heap.objs.size] (s1.heap.objs.size + 1) tn → tn 0 h' → R J H1 →
      PIE X pins σ (.Tuple elts kk tpos) R (.ref (s1.heap.objs.size + 1)) { s1 with heap := h' } := fun h' J hk tn T t0 q => by
    refine ⟨s1.heap.objs.size + 1, _, tn, J, H1, rfl, I1.kept (t' := s1.toks) hk, T, t0, fun b hb => ?_, q⟩
    have hle : s1.heap.objs.size ≤ b := by
      rcases List.mem_cons.mp hb with z | z
      · rw [z]; exact Nat.le_succ _
      · rw [show b = s1.heap.objs.size by simpa using z]; exact Nat.le_refl _
    exact I1.fpOk hle (I1.hok.fresh hle)
  rcases q with ⟨hq, q⟩ | ⟨hq, q⟩
  · obtain ⟨its, rv, pl, _⟩ := I1.list hq
    exact call_enumerate_list pl.isList fun h' he hit hsz hk => wpAny_pyIter_enum he (tail h' _ hk _ (turn_enum a _ _) ⟨⟨.none, he⟩, hit, Nat.succ_ne_self _⟩ q)
  · obtain ⟨its, rv, pt, _⟩ := I1.tuple hq
    have la : a < s1.heap.objs.size := by
      obtain ⟨o, ho, _⟩ := pt
      exact Heap.lt_size ho
    refine call_enum1 (begins_tuple a its.toArray) (isTuple_of pt) fun h' he hit hsz hk => wpAny_pyIter_enum he (tail h' _ hk _ (turn_etup a _ _ (Nat.ne_of_gt (Nat.lt_succ_of_lt la)) (Nat.ne_of_lt la)) ⟨⟨.none, he⟩, ⟨_, hit, rfl, rfl⟩, Nat.succ_ne_self _⟩ q)⟩
section
variable {X : Cx} {K : PySem.W.Frag} {p : Pm} {O : List Nat} {tg e : Expr} {te : TE} {me : ME} {ta : TA} {ma : MA} {pos : Pos}
/-- the items of a list or a tuple -/
def seqD : D → Option (List D)
  | .list xs => some xs
  | .tuple xs => some xs
  | _ => none
@[reducible] def mIEn (ma : MA) : MI := fun Γ n Q => ma Γ n fun ds n1 => ∃ d xs, ds = [d] ∧ seqD d = some xs ∧ Q (enumD 0 xs) n1
/-- a list or a tuple, walked -/
def iSeq (K : PySem.W.Frag) (tl : TE) : TI := fun σ H R => tl σ H fun x H1 => ∃ a, x = .ref a ∧ (((∃ xs, SqL K H1 a xs) ∧ R (Itl K a) H1) ∨ ((∃ xs, SqT K H1 a xs) ∧ R (Itt K a) H1))
theorem pi_seq {l : Expr} {tl : TE} (hl : PE X l tl) : PI X tg l (iSeq X.K tl) := ⟨fun pins s σ H R I h => thn (hl.run pins s σ H _ I h) fun v s1 w => by
  obtain ⟨x, H1, I1, r1, a, rfl, q⟩ := w
  cases r1
  have fin : ∀ b ∈ [s1.heap.objs.size], FpOk X pins H1 b := fun b hb => by
    obtain rfl : b = s1.heap.objs.size := by simpa using hb
    exact I1.fpOk (Nat.le_refl _) (I1.hok.fresh (Nat.le_refl _))
  rcases q with ⟨⟨xs, hq⟩, q⟩ | ⟨⟨xs, hq⟩, q⟩
  · obtain ⟨its, rv, pl, _⟩ := I1.list hq
    exact wpAny_pyIter_list pl.isList ⟨_, _, _, _, H1, rfl, I1.kept (t' := s1.toks) fun b o z => Heap.get?_push_of_some _ z, turn_list a _, ⟨_, Heap.get?_push_size _ rfl, rfl, rfl⟩, fin, q⟩
  · obtain ⟨its, rv, pt, _⟩ := I1.tuple hq
    exact wpAny_pyIter_tuple (isTuple_of pt) ⟨_, _, _, _, H1, rfl, I1.kept (t' := s1.toks) fun b o z => Heap.get?_push_of_some _ z, turn_tuple a _, ⟨_, Heap.get?_push_size _ rfl, rfl, rfl⟩, fin, q⟩⟩
@[reducible] def mISeq (me : ME) : MI := fun Γ n Q => me Γ n fun d n1 => ∃ xs, seqD d = some xs ∧ Q xs n1
theorem i_seq (hK : p.K = X.K) (he : RE X p O e te me) : RI X p O tg e (iSeq p.K te) (mISeq me) := ⟨hK ▸ pi_seq he.pe, fun F0 H0 F H σ Γ n R s q R' k =>
  he.le F0 H0 F H σ Γ n _ s q _ fun d v F1 H1 n1 s1 e1 r1 ⟨ds, sd, q1⟩ => by
    unfold seqD at sd
    split at sd
    · cases sd
      obtain ⟨a, xs, rfl, h, r⟩ := r1.lst_inv
      exact ⟨a, rfl, .inl ⟨⟨xs, .of (s1.fh _ _ h)⟩, k _ _ F1 H1 n1 s1 e1 (feeds_list h r) q1⟩⟩
    · cases sd
      obtain ⟨a, xs, rfl, h, r⟩ := r1.tup_inv
      exact ⟨a, rfl, .inr ⟨⟨xs, Same.sqt s1.fh h⟩, k _ _ F1 H1 n1 s1 e1 (feeds_tup h r) q1⟩⟩
    · cases sd⟩
end
end RR
end
section
namespace RR
open PySem PySem.Spec L2
open PyProof.Rows hiding St
inductive Mx (p : Pm) (H F' H' : Hp) : List Bool → List D → List V → List Addr → Prop
  | nil : Mx p H F' H' [] [] [] []
  | sh {fl ds vs as d v} : Rp p.K F' d v → Mx p H F' H' fl ds vs as → Mx p H F' H' (false :: fl) (d :: ds) (v :: vs) as
  | ow {fl ds vs as d a} : Own p.K F' H' d a → F' a = none → H a = none → a ∉ as → Mx p H F' H' fl ds vs as → Mx p H F' H' (true :: fl) (d :: ds) (.ref a :: vs) (a :: as)
def LX (p : Pm) (O : List Nat) (fl : List Bool) (t : TA) (m : MA) : Prop :=
  ∀ F0 H0 F H σ Γ n (Q : List D → Nat → Prop), Sep p F0 H0 O F H σ Γ n → m Γ n Q → ∀ Q' : List V → Hp → Prop,
    (∀ ds vs as F' H' n', Sep p F0 H0 O F' H' σ Γ n' → Gp p F H F' H' → Mx p H F' H' fl ds vs as → Q ds n' → Q' vs H') → t σ H Q'
structure RX (X : Cx) (p : Pm) (O : List Nat) (fl : List Bool) (es : List Expr) (t : TA) (m : MA) : Prop where
  pa : PA X es t
  le : LX p O fl t m
section
variable {X : Cx} {p : Pm} {O : List Nat} {fl : List Bool} {e : Expr} {es : List Expr} {te : TE} {me : ME} {t : TA} {m : MA} {F0 H0 F H F' H' : Hp} {σ : St} {Γ : DEnv} {n : Nat}
theorem Mx.since {H1 F' H' : Hp} {ds : List D} {vs : List V} {as : List Addr} (h : Mx p H1 F' H' fl ds vs as) (k : ∀ a, H1 a = none → H a = none) : Mx p H F' H' fl ds vs as := by
  induction h with
  | nil => exact .nil
  | sh r _ ih => exact .sh r ih
  | ow w f z q _ ih => exact .ow w f (k _ z) q ih
theorem Mx.news {ds : List D} {vs : List V} {as : List Addr} (h : Mx p H F' H' fl ds vs as) : ∀ a ∈ as, H a = none := by
  induction h with
  | nil => intro a h; cases h
  | sh _ _ ih => exact ih
  | ow w f z q _ ih =>
    intro b hb
    rcases List.mem_cons.mp hb with rfl | hb
    · exact z
    · exact ih b hb
theorem Sep.since (s : Sep p F0 H0 O F H σ Γ n) (s1 : Sep p F0 H0 O F' H' σ Γ n) (g : Gp p F H F' H') {a : Addr} (h : H' a = none) : H a = none := by
  cases w : H a with
  | none => rfl
  | some o =>
    have := g.h a o w (s1.h0 h).2
    rw [h] at this; cases this
theorem x_nil : RX X p O [] [] tNil mNil := ⟨pa_nil, fun F0 H0 F H σ Γ n Q s q Q' k => k [] [] [] F H n s .refl .nil q⟩
theorem lx_sh (ha : LE p O te me) (hr : LX p O fl t m) : LX p O (false :: fl) (tCons te t) (mCons me m) := fun F0 H0 F H σ Γ n Q s q Q' k =>
  ha F0 H0 F H σ Γ n _ s q _ fun d v F1 H1 n1 s1 g1 r1 q1 =>
    hr F0 H0 F1 H1 σ Γ n1 _ s1 q1 _ fun ds vs as F2 H2 n2 s2 g2 m2 q2 =>
      k (d :: ds) (v :: vs) as F2 H2 n2 s2 (g1.trans g2) (.sh (r1.mono g2.f) (m2.since fun a h => by
        cases w : H a with
        | none => rfl
        | some o => rw [g1.h a o w (s1.h0 h).2] at h; cases h)) q2
theorem Own.gp {d : D} {a : Addr} (h : Own p.K F H d a) (g : Gp p F H F' H') (hp : ¬ p.isPen a) : Own p.K F' H' d a := by
  cases h with
  | lst q1 q2 => exact .lst (g.h _ _ q1 hp) (q2.mono g.f)
  | dct q1 q2 q3 => exact .dct (g.h _ _ q1 hp) q2 fun i x d a b => (q3 i x d a b).mono g.f
theorem lx_ow (ha : LF p O te me) (hr : LX p O fl t m) : LX p O (true :: fl) (tCons te t) (mCons me m) := fun F0 H0 F H σ Γ n Q s q Q' k =>
  ha F0 H0 F H σ Γ n _ s q _ fun d a F1 H1 n1 s1 g1 w1 f1 z1 q1 =>
    hr F0 H0 F1 H1 σ Γ n1 _ s1 q1 _ fun ds vs as F2 H2 n2 s2 g2 m2 q2 => by
      have hp := (s.h0 z1).2
      obtain ⟨o, ho⟩ := w1.at
      refine k (d :: ds) (.ref a :: vs) (a :: as) F2 H2 n2 s2 (g1.trans g2) (.ow (w1.gp g2 hp) (g2.none f1 ho hp) z1 (fun hm => ?_) (m2.since fun a h => ?_)) q2
      · have := m2.news a hm
        rw [ho] at this; cases this
      · cases w : H a with
        | none => rfl
        | some o => rw [g1.h a o w (s1.h0 h).2] at h; cases h
theorem x_sh (ha : RE X p O e te me) (hr : RX X p O fl es t m) (hs : starEach (e :: es) X.env = (false, eval e X.env) :: starEach es X.env := by rfl) : RX X p O (false :: fl) (e :: es) (tCons te t) (mCons me m) := ⟨pa_cons ha.pe hr.pa hs, lx_sh ha.le hr.le⟩
theorem x_ow (ha : RF X p O e te me) (hr : RX X p O fl es t m) (hs : starEach (e :: es) X.env = (false, eval e X.env) :: starEach es X.env := by rfl) : RX X p O (true :: fl) (e :: es) (tCons te t) (mCons me m) := ⟨pa_cons ha.pe hr.pa hs, lx_ow ha.le hr.le⟩
/-- slots set one after the other -/
def setsD (Γ : DEnv) : List Nat → List D → DEnv
  | i :: is, d :: ds => setsD (Γ.set i (some d)) is ds
  | _, _ => Γ
def setsV (σ : St) : List Nat → List V → St
  | i :: is, d :: ds => setsV (σ.set i (some d)) is ds
  | _, _ => σ
def owns : List Nat → List Bool → List Nat → List Nat
  | i :: is, true :: fl, O => owns is fl (i :: O)
  | _ :: is, false :: fl, O => owns is fl O
  | _, _, O => O
theorem Sep.puts {Hs : Hp} {ds : List D} {vs : List V} {as : List Addr} (h : Mx p Hs F H fl ds vs as) (hh : ∀ a, Hs a = none → H0 a = none ∧ ¬ p.isPen a) : ∀ (is O : List Nat) (σ : St) (Γ : DEnv), Sep p F0 H0 O F H σ Γ n → is.Nodup → (∀ i ∈ is, i ∉ O ∧ p.off i) →
    (∀ a ∈ as, ∀ j ∈ O, ∀ dj, Γ[j]? = some (some dj) → σ[j]? ≠ some (some (.ref a))) → is.length = ds.length → Sep p F0 H0 (owns is fl O) F H (setsV σ is vs) (setsD Γ is ds) n := by
  induction h with
  | nil =>
    intro is O σ Γ s _ _ _ hl
    obtain rfl : is = [] := List.length_eq_zero_iff.mp hl
    exact s
  | sh r m ih =>
    rename_i d v
    intro is O σ Γ s nd ho ha hl
    match is, nd, ho, hl with
    | [], _, _, hl => simp at hl
    | i :: is, nd, ho, hl =>
      obtain ⟨h1, h2⟩ := List.nodup_cons.mp nd
      obtain ⟨h3, h4⟩ := ho i (List.mem_cons_self ..)
      refine ih is O _ _ (s.put h3 h4 r) h2 (fun j hj => ho j (List.mem_cons_of_mem _ hj)) (fun a hm j hj dj e => ?_) (by simpa using hl)
      have hij : i ≠ j := fun z => h3 (z ▸ hj)
      rw [List.getElem?_set_ne hij] at e ⊢
      exact ha a hm j hj dj e
  | ow w f z q m ih =>
    rename_i d a
    intro is O σ Γ s nd ho ha hl
    match is, nd, ho, hl with
    | [], _, _, hl => simp at hl
    | i :: is, nd, ho, hl =>
      obtain ⟨h1, h2⟩ := List.nodup_cons.mp nd
      obtain ⟨h3, h4⟩ := ho i (List.mem_cons_self ..)
      have fr : Free p H0 O F H σ Γ d a := ⟨w, f, (hh a z).1, (hh a z).2, ha a (List.mem_cons_self ..)⟩
      refine ih is (i :: O) _ _ (s.putOwn h4 fr) h2 (fun j hj => ⟨fun hm => ?_, (ho j (List.mem_cons_of_mem _ hj)).2⟩) (fun b hm j hj dj e => ?_) (by simpa using hl)
      · rcases List.mem_cons.mp hm with rfl | hm
        · exact h1 hj
        · exact (ho j (List.mem_cons_of_mem _ hj)).1 hm
      · by_cases hij : i = j
        · subst hij
          rw [set_at, if_pos rfl] at e ⊢
          split at e
          · rename_i hi
            rw [if_pos (by rw [s.len]; exact hi)]
            intro z'
            cases z'
            exact q hm
          · cases e
        · rw [List.getElem?_set_ne hij] at e ⊢
          rcases List.mem_cons.mp hj with z' | z'
          · exact absurd z'.symm hij
          · exact ha b (List.mem_cons_of_mem _ hm) j z' dj e
theorem Mx.gr {Hs F2 H2 : Hp} {ds : List D} {vs : List V} {as : List Addr} (h : Mx p Hs F H fl ds vs as) (g : Gr F H F2 H2) : Mx p Hs F2 H2 fl ds vs as := by
  induction h with
  | nil => exact .nil
  | sh r _ ih => exact .sh (r.mono g.f) ih
  | ow w f z q _ ih => exact .ow (w.gr g) (g.none f w.at) z q ih
theorem Mx.len {ds : List D} {vs : List V} {as : List Addr} (h : Mx p H F' H' fl ds vs as) : vs.length = ds.length := by
  induction h with
  | nil => rfl
  | sh _ _ ih => simp [ih]
  | ow _ _ _ _ _ ih => simp [ih]
@[reducible] def mPar (is : List Nat) (m : MA) : MS := fun E Γ n => m Γ n fun ds n1 => ds.length = is.length ∧ E.nx (setsD Γ is ds) n1
/-- the state behind a parallel assignment -/
theorem LX.par {is : List Nat} {Ob : List Nat} {T : TS} (h : LX p O fl t m) (nd : is.Nodup) (ho : ∀ i ∈ is, i ∉ O ∧ p.off i)
    (hT : ∀ (E' : Ends) σ H, t σ H (fun vs H1 => vs.length = is.length ∧ E'.nx (setsV σ is vs) H1) → T E' σ H) : LS p Ob O (owns is fl O) T (mPar is m) := fun F0 H0 F H σ Γ n E s q E' hn _ _ _ => by
  refine hT E' σ H (h F0 H0 F H σ Γ n _ s q _ fun ds vs as F1 H1 n1 s1 g1 m1 ⟨hl, q1⟩ => ⟨m1.len.trans hl, ?_⟩)
  refine hn F1 H1 _ _ n1 (Sep.puts m1 (fun a z => s.h0 z) is O σ Γ s1 nd ho (fun a hm j hj dj e q => ?_) hl.symm) g1.f q1
  obtain ⟨b, e1, r, _⟩ := s.ow j hj dj e
  rw [q] at e1
  cases e1
  obtain ⟨o, e2⟩ := r.at
  rw [m1.news _ hm] at e2; cases e2
theorem s_par2 {Ob : List Nat} {i j : Nat} {a b : Expr} {st : Stmt} (h : RX X p O fl [a, b] t m) (nd : [i, j].Nodup) (ho : ∀ k ∈ [i, j], k ∉ O ∧ p.off k) (hS : PS X st (tPar i j t)) : RS X p Ob O (owns [i, j] fl O) st (tPar i j t) (mPar [i, j] m) := ⟨hS, h.le.par nd ho fun E' σ H q => by
  have mono : ∀ Q : List V → Hp → Prop, t σ H Q → t σ H Q := fun _ z => z
  revert q
  unfold tPar
  intro q
  exact (show (fun vs H1 => vs.length = [i, j].length ∧ E'.nx (setsV σ [i, j] vs) H1) = (fun vs H1 => ∃ v w, vs = [v, w] ∧ E'.nx ((σ.set i (some v)).set j (some w)) H1) from by
    funext vs H1
    apply propext
    constructor
    · rintro ⟨hl, q⟩
      match vs, hl with
      | [v, w], _ => exact ⟨v, w, rfl, q⟩
    · rintro ⟨v, w, rfl, q⟩
      exact ⟨rfl, q⟩) ▸ q⟩
/-- names as targets, one by one -/
def gNames : List Nat → TGs
  | [] => gNil
  | i :: is => gCons (gName i) (gNames is)
theorem gNames_of : ∀ {is : List Nat} {vs : List V} {σ : St} {H : Hp} {Q : St → Hp → Prop}, vs.length = is.length → Q (setsV σ is vs) H → gNames is vs σ H Q
  | [], [], σ, H, Q, _, q => ⟨rfl, q⟩
  | [], _ :: _, σ, H, Q, hl, q => by simp at hl
  | _ :: _, [], σ, H, Q, hl, q => by simp at hl
  | i :: is, v :: vs, σ, H, Q, hl, q => ⟨v, vs, rfl, gNames_of (by simpa using hl) q⟩
/-- .. where a tuple is made: its object is nobody's -/
theorem s_parT {Ob : List Nat} {is : List Nat} {es : List Expr} {st : Stmt} {k : Nat} {K : PySem.W.Frag} (h : RX X p O fl es t m) (nd : is.Nodup) (ho : ∀ k ∈ is, k ∉ O ∧ p.off k) (hk : is.length = k ∧ k ≤ lim) (hS : PS X st (tAsg (tTup t) (gTup K k (gNames is)))) : RS X p Ob O (owns is fl O) st (tAsg (tTup t) (gTup K k (gNames is))) (mPar is m) := ⟨hS, fun F0 H0 F H σ Γ n E s q E' hn _ _ _ => by
  refine h.le F0 H0 F H σ Γ n _ s q _ fun ds vs as F1 H1 n1 s1 g1 m1 ⟨hl, q1⟩ => ⟨by rw [m1.len, hl, hk.1]; exact lim_line hk.2, fun x hx => ?_⟩
  have s2 := s1.gr (Gr.new0 s1.fh hx (.tup vs))
  have m2 : Mx p H F1 (upd H1 x (.tup vs)) fl ds vs as := m1.gr (Gr.new0 s1.fh hx _)
  refine ⟨x, vs, rfl, .inl (.inl upd_same), by rw [m1.len, hl, hk.1], gNames_of (m1.len.trans hl) ?_⟩
  refine hn F1 _ _ _ n1 (Sep.puts m2 (fun a z => s.h0 z) is O σ Γ s2 nd ho (fun a hm j hj dj e q => ?_) hl.symm) g1.f q1
  obtain ⟨b, e1, r, _⟩ := s.ow j hj dj e
  rw [q] at e1
  cases e1
  obtain ⟨o, e2⟩ := r.at
  rw [m1.news _ hm] at e2; cases e2⟩
/-- a, b = e: a tuple taken apart -/
@[reducible] def mAsg (me : ME) (mg : MG) : MS := fun E Γ n => me Γ n fun d n1 => mg d Γ fun Γ1 => E.nx Γ1 n1
theorem s_asg {Ob is : List Nat} {tg : Expr} {g : TG} {mg : MG} {st : Stmt} (he : RE X p O e te me) (hg : RG X p O is tg g mg) (hS : PS X st (tAsg te g)) : RS X p Ob O O st (tAsg te g) (mAsg me mg) := ⟨hS, fun F0 H0 F H σ Γ n E s q E' hn _ _ _ =>
  he.le F0 H0 F H σ Γ n _ s q _ fun d v F1 H1 n1 s1 g1 r1 q1 =>
    hg.le F0 H0 F1 H1 σ Γ n1 d v s1 r1 _ _ q1 fun σ2 Γ2 s2 _ q2 => hn F1 H1 σ2 Γ2 n1 s2 g1.f q2⟩
end
section
variable {X : Cx} {K : PySem.W.Frag} {p : Pm} {O : List Nat} {e : Expr} {te : TE} {me : ME} {pos : Pos}
/-- a value's truth -/
def truD : D → Option Bool
  | .none => some false
  | .bool b => some b
  | .int i => some (i != 0)
  | .list xs => some (!xs.isEmpty)
  | .tuple xs => some (!xs.isEmpty)
  | _ => none
@[reducible] def mTru (me : ME) : MT := fun Γ n Q => me Γ n fun d n1 => ∃ b, truD d = some b ∧ Q b n1
theorem Rps.empty {F : Hp} {ds : List D} {xs : List V} (h : Rps K F ds xs) : (!ds.isEmpty) = !xs.isEmpty := by
  cases ds with
  | nil => rw [h.unnil]; rfl
  | cons d ds => obtain ⟨v, r, rfl, _⟩ := h.uncons; rfl
theorem t_truth {t : TT} (hK : p.K = X.K) (he : RE X p O e te me) (h : PT X e (fun σ H Q => te σ H fun x H1 => ∃ k, TruV X.K x H1 k ∧ Q k H1)) : RT X p O e (fun σ H Q => te σ H fun x H1 => ∃ k, TruV p.K x H1 k ∧ Q k H1) (mTru me) := ⟨hK ▸ h, fun F0 H0 F H σ Γ n Q s q Q' k =>
  he.le F0 H0 F H σ Γ n _ s q _ fun d v F1 H1 n1 s1 g1 r1 ⟨b, tb, q1⟩ => by
    refine ⟨b, ?_, k b F1 H1 n1 s1 g1 q1⟩
    unfold truD at tb
    split at tb <;> (try (cases tb; done))
    · cases tb; cases r1; rfl
    · cases tb; cases r1; rfl
    · cases tb; cases r1; rfl
    · cases tb
      obtain ⟨a, xs, rfl, h1, r2⟩ := r1.lst_inv
      exact .inl ⟨xs, .of (s1.fh _ _ h1), r2.empty⟩
    · cases tb
      obtain ⟨a, xs, rfl, h1, r2⟩ := r1.tup_inv
      exact .inr (.inl ⟨xs, Same.sqt s1.fh h1, r2.empty⟩)⟩
end
end RR
end
section
namespace RR
open PySem PySem.Spec L2
open PyProof.Rows hiding St
theorem off0 {K : PySem.W.Frag} {dr : DrT} {i : Nat} : (Pm.mk K none dr).off i := fun _ _ e => nomatch e
theorem off1 {K : PySem.W.Frag} {a : Addr} {dr : DrT} {i : Nat} (h : 0 ≠ i) : (Pm.mk K (some (a, 0)) dr).off i := fun _ _ e => by cases e; exact h
/-- where a def's data stands -/
def FunL (K : PySem.W.Frag) (f : Addr) (fd : FuncData) : Prop := ∃ oc od sl, K.lookup f = some ⟨oc, od, .func fd, sl⟩
theorem Fun.lk {K : PySem.W.Frag} {x q : Str} {st : Stmt} {f : Addr} {fd : FuncData} (F : Fun K x q st f fd) : FunL K f fd := by
  obtain ⟨oc, od, kV, doc, pm, an, cdv, ct, osl, rfl, lk, hcd⟩ := F.ex
  exact ⟨_, _, _, lk⟩
/-- a def that is known: its promise, its name, how it is called -/
structure FI (P : Program) (w : World) (K : PySem.W.Frag) (mg : Str → Option Value) (base : Heap) (k : Nat) (x : Str) (ps : List Str) (sp : Sp) : Prop where
  ex : ∃ f fd, FnG P w K mg base k f fd ps sp ∧ mg x = some (.ref f) ∧ PySem.W.keepIn K (.ref f) = true ∧ Binds K fd ps [] ∧ FunL K f fd
/-- a def that the top has laid -/
structure FD (K : PySem.W.Frag) (mg : Str → Option Value) (x : Str) (st : Stmt) (ps : List Str) : Prop where
  ex : ∃ f fd, Fun K x x st f fd ∧ mg x = some (.ref f) ∧ Binds K fd ps []
theorem FI.mono {P : Program} {w : World} {K : PySem.W.Frag} {mg : Str → Option Value} {base : Heap} {j k : Nat} {x : Str} {ps : List Str} {sp : Sp} (F : FI P w K mg base j x ps sp) (h : j ≤ k) : FI P w K mg base k x ps sp := by
  obtain ⟨f, fd, a, b, c, d, l⟩ := F.ex
  exact ⟨f, fd, a.mono h, b, c, d, l⟩
section
variable {X : Cx} {p : Pm} {Ob O O' is js vs : List Nat} {a b c e iter elt : Expr} {es : List Expr} {tg : Expr} {tgs : List Expr} {pos q q2 pos' : Pos} {ta tb tc te : TE} {ma mb mc me : ME} {t : TA} {m : MA} {x : Str} {i j l : Nat} {g : TG} {gs : TGs} {mg : MG} {mgs : List D → DEnv → (DEnv → Prop) → Prop} {wi : TI} {mi : MI} {fl : List Bool} {tT : TT} {mT : MT} {body : List Stmt} {tS : TS} {mS : MS}
theorem cB {id : String} {r : List V → Hp → VK → Prop} {f : List D → Option D} (hc : CallR X (.builtin id) r) (l : ClL p.K r f) (hg : Gl X x) (hm : X.mg x = none) (hv : bootBuiltins x = some (.builtin id)) (ha : RA X p O (e :: es) t m) (hn : x ≠ "__name__" := by decide) (hdb : (x == ("__debug__" : Str)) = false := by decide)
    (he : starEach (e :: es) X.env = (false, eval e X.env) :: starEach es X.env := by rfl) (hpl : (backTo pos (starEach es X.env)).any (·.1) = false := by rfl) : RE X p O (.Call (.Name x q) (e :: es) [] pos) (tCB r t) (mCl f m) := ⟨pe_callB hc hg hm hv ha.pa hn hdb he hpl, le_cl l ha.le⟩
theorem cT {T : String} {r : List V → Hp → VK → Prop} {f : List D → Option D} (hc : CallR X (.type T) r) (l : ClL p.K r f) (hg : Gl X x) (hm : X.mg x = none) (hv : bootBuiltins x = some (.type T)) (ha : RA X p O (e :: es) t m) (hn : x ≠ "__name__" := by decide) (hdb : (x == ("__debug__" : Str)) = false := by decide)
    (he : starEach (e :: es) X.env = (false, eval e X.env) :: starEach es X.env := by rfl) (hpl : (backTo pos (starEach es X.env)).any (·.1) = false := by rfl) : RE X p O (.Call (.Name x q) (e :: es) [] pos) (tCB r t) (mCl f m) := ⟨pe_callTy hc hg hm hv ha.pa hn hdb he hpl, le_cl l ha.le⟩
theorem eCh {op op' : CmpOp} {r r' : R2} {f g : D → D → Option D} (ho : OpR X (compareOp op) r) (l : OpL p.K r f) (ho' : OpR X (compareOp op') r') (l' : OpL p.K r' g) (ha : RE X p O a ta ma) (hb : RE X p O b tb mb) (hc : RE X p O c tc mc)
    (hm : lastMarks [op, op'] [b, c] = false := by with_unfolding_all rfl) : RE X p O (.Compare a [op, op'] [b, c] pos) (tChain r r' ta tb tc) (mChain f g ma mb mc) := e_chain ho l ho' l' ha hb hc (pe_chain ho ho' ha.pe hb.pe hc.pe hm)
theorem tTru (hK : p.K = X.K) (he : RE X p O e te me) (h : ∀ whole, isTrue e X.env whole = (do let v ← whole; standAt e.pos; holding [v] (truthy v)) := by intro _; rfl) : RT X p O e (fun σ H Q => te σ H fun x H1 => ∃ k, TruV p.K x H1 k ∧ Q k H1) (mTru me) := t_truth (t := fun σ H Q => te σ H fun x H1 => ∃ k, TruV X.K x H1 k ∧ Q k H1) hK he (pt_truth he.pe h)
theorem eIsi {T : String} {y : Str} (hT : okTy T = true) (hK : p.K = X.K) (he : RE X p O e te me) (hg : Gl X "isinstance") (hm : X.mg "isinstance" = none) (hgy : Gl X y) (hmy : X.mg y = none) (hv : bootBuiltins y = some (.type T)) (hn : y ≠ "__name__" := by decide) (hdb : (y == ("__debug__" : Str)) = false := by decide)
    (h1 : starEach [e, .Name y q2] X.env = (false, eval e X.env) :: starEach [.Name y q2] X.env := by rfl) (h2 : starEach [.Name y q2] X.env = (false, eval (.Name y q2) X.env) :: starEach [] X.env := by rfl) (hpl : (backTo pos (starEach [.Name y q2] X.env)).any (·.1) = false := by rfl) :
    RE X p O (.Call (.Name "isinstance" q) [e, .Name y q2] [] pos) (tCB (rIsi p.K) (tCons te (tCons (tC (.ty T)) tNil))) (mIsi T me) :=
  have hx : PE X (.Name y q2) (tC (.ty T)) := pe_bltn hgy hmy hv rfl hn hdb
  e_isi y hT hK he hg hm hx (pe_callB call_isi hg hm (by decide +kernel) (pa_cons he.pe (pa_cons hx pa_nil h2) h1) (by decide) (by decide) h1 hpl)
theorem eF {k : Nat} {ps : List Str} {mf : MP} (F : FI X.prog X.w X.K X.mg X.base k x ps (spF X.K mf)) {lv : Nat} (hr : Room k X.A) (hg : GB lv X.A) (hK : p.K = X.K) (hgl : Gl X x) (ha : RA X p O (e :: es) t m)
    (hdb : (x == ("__debug__" : Str)) = false := by decide) (he : starEach (e :: es) X.env = (false, eval e X.env) :: starEach es X.env := by rfl) (hpl : (backTo pos (starEach es X.env)).any (·.1) = false := by rfl) (hkm : k ≤ lv := by first | decide | omega) :
    RE X p O (.Call (.Name x q) (e :: es) [] pos) (tCall (spF p.K mf) [] E0 t) (mCall mf m) := by
  obtain ⟨f, fd, G, h1, h2, h3, _⟩ := F.ex
  exact ⟨hK ▸ pe_callG G hr (hg.le hkm) hgl h1 h2 h3 ha.pa hdb he hpl, le_call ha.le⟩
theorem eP {k : Nat} {ps : List Str} {mf : MF} {ad : Addr} {xp : Str} {pp : Pos} (F : FI X.prog X.w X.K X.mg X.base k x ps (spP X.K mf)) {lv : Nat} (hr : Room k X.A) (hg : GB lv X.A) (hK : p.K = X.K) (hp : p.ap = some (ad, i)) (hgl : Gl X x) (h0 : PE X (.Name xp pp) (tVar i)) (ha : RA X p O es t m)
    (hs : starEach (.Name xp pp :: es) X.env = (false, eval (.Name xp pp) X.env) :: starEach es X.env := by rfl)
    (hdb : (x == ("__debug__" : Str)) = false := by decide) (hpl : (backTo pos (starEach es X.env)).any (·.1) = false := by rfl) (hkm : k ≤ lv := by first | decide | omega) :
    RE X p O (.Call (.Name x q) (.Name xp pp :: es) [] pos) (tCall (spP p.K mf) [] E0 (tCons (tVar i) t)) (mCallP mf m) := by
  obtain ⟨f, fd, G, h1, h2, h3, _⟩ := F.ex
  exact ⟨hK ▸ pe_callG G hr (hg.le hkm) hgl h1 h2 h3 (pa_cons h0 ha.pa hs) hdb hs hpl, le_callP hp ha.le⟩
section
variable {K : PySem.W.Frag}
theorem oEq (hK : K = X.K) (hu : X.A.units + 64 < cLine) : OpR X (compareOp .Eq) (rEqA K) := hK ▸ o_eq hu
theorem oNe (hK : K = X.K) (hu : X.A.units + 64 < cLine) : OpR X (compareOp .NotEq) (rNeA K) := hK ▸ o_ne hu
theorem oIn (hK : K = X.K) (hu : X.A.units + 65 < cLine) : OpR X (compareOp .In) (rInA K) := hK ▸ o_in hu
theorem oNotIn (hK : K = X.K) (hu : X.A.units + 65 < cLine) : OpR X (compareOp .NotIn) (rNotInA K) := hK ▸ o_notIn hu
theorem oAdd (hK : K = X.K) : OpR X (binaryOp .Add) (rAddA K) := hK ▸ o_add
theorem oIx (hK : K = X.K) (hu : X.A.units + 1 < cLine) : IxR X (rIxA K) := hK ▸ o_ix hu
theorem fnLen (hK : K = X.K) : CallR X (.builtin "len") (rLen K) := hK ▸ call_len_seq
theorem fnList (hK : K = X.K) : CallR X (.type "list") (rListOf K) := hK ▸ call_list_of
theorem fnAll (hK : K = X.K) (hc : X.calm = true) : CallR X (.builtin "all") (rAll K) := hK ▸ cr_all hc
end
theorem gN (i : Nat) (hN : X.N.Nodup) (hi : X.N[i]? = some x) (hx : Loc X.env.scope x) (hO : i ∉ O) (hp : p.off i) (hf : X.fn x = true ∨ X.env.scope.names.lookup x = some .local := by first | exact .inl rfl | exact .inr rfl) : RG X p O [i] (.Name x pos) (gName i) (mgName i) := g_name (pg_name hN hi hx hf) hO hp
theorem gC (h1 : RG X p O is tg g mg) (h2 : RGs X p O js tgs gs mgs) (hs : (assignEach (tg :: tgs) X.env).map (·.2) = assign tg X.env :: (assignEach tgs X.env).map (·.2) := by rfl) : RGs X p O (is ++ js) (tg :: tgs) (gCons g gs) (mgCons mg mgs) := gs_cons h1 h2 (pgs_cons h1.pg h2.pg hs)
theorem gT {k : Nat} (n : Nat) (hK : p.K = X.K) (hc : X.calm = true) (h : RGs X p O is tgs gs mgs) (hn : (assignEach tgs X.env).length = n := by rfl) (hst : (assignEach tgs X.env).findIdx? (·.1) = none := by rfl) : RG X p O is (.Tuple tgs k pos) (gTup p.K n gs) (mgTup n mgs) := g_tup rfl h (hK ▸ pg_tup hc h.pg hn hst)
theorem iR1 (hg : Gl X "range") (hm : X.mg "range" = none) (ha : RA X p O [a] t m) (hs : starEach [a] X.env = [(false, eval a X.env)] := by rfl) : RI X p O tg (.Call (.Name "range" q) [a] [] pos) (iRng1 t) (mIR1 m) := i_range1 ha (pi_range1 hg hm ha.pa hs)
theorem iZi {k : Nat} (hK : p.K = X.K) (hg : Gl X "zip") (hm : X.mg "zip" = none) (ha : RA X p O [a, b] t m) (hs : starEach [a, b] X.env = (false, eval a X.env) :: starEach [b] X.env := by rfl) (hpl : (backTo pos (starEach [b] X.env)).any (·.1) = false := by rfl) : RI X p O (.Tuple tgs k pos') (.Call (.Name "zip" q) [a, b] [] pos) (RZ.iZipA p.K t) (mIZ m) := i_zip hK ha (RZ.pi_zipA hg hm ha.pa hs hpl)
theorem fLc {scope : Scope} {own : List (Str × Nat)} (hc : X.calm = true) (hN : X.N.Nodup) (hi : RI X p O tg iter wi mi) (ok : BlkOk X.N X.env.scope scope own)
    (hg : ∀ (s : Shared) (H : Hp) (C : Addr) (cl : List (Str × Addr)) (fp : List Addr), RG (X.blk s H scope (compEnvC scope cl C X.env) fp) p O is tg g mg) (he : ∀ (s : Shared) (H : Hp) (C : Addr) (cl : List (Str × Addr)) (fp : List Addr), RE (X.blk s H scope (compEnvC scope cl C X.env) fp) p O elt te me)
    (his : ∀ i ∈ is, i ∈ own.map (·.2)) (hp : ∀ v ∈ own.map (·.2), p.off v) (hs : ∀ x, foldedSetIterable iter X.env x = pure x := by intro _; rfl) :
    RF X p O (.ListComp elt [⟨tg, iter, [], 0⟩] scope pos) (tLc wi g tYes te (own.map (·.2))) (mLc mi mg mYes me (own.map (·.2))) :=
  ⟨pe_lc hc hN hi.pi ok (fun s H C cl fp => (hg s H C cl fp).pg) (fun _ _ _ _ _ => pts_nil) (fun s H C cl fp => (he s H C cl fp).pe) hs,
    lf_lc hi.le (hg X.s_0 X.H_0 0 [] []).le lt_yes (he X.s_0 X.H_0 0 [] []).le his hp⟩
theorem fLcIf {scope : Scope} {own : List (Str × Nat)} (hc : X.calm = true) (hN : X.N.Nodup) (hi : RI X p O tg iter wi mi) (ok : BlkOk X.N X.env.scope scope own)
    (hg : ∀ (s : Shared) (H : Hp) (C : Addr) (cl : List (Str × Addr)) (fp : List Addr), RG (X.blk s H scope (compEnvC scope cl C X.env) fp) p O is tg g mg) (ht : ∀ (s : Shared) (H : Hp) (C : Addr) (cl : List (Str × Addr)) (fp : List Addr), RT (X.blk s H scope (compEnvC scope cl C X.env) fp) p O c tT mT)
    (he : ∀ (s : Shared) (H : Hp) (C : Addr) (cl : List (Str × Addr)) (fp : List Addr), RE (X.blk s H scope (compEnvC scope cl C X.env) fp) p O elt te me)
    (his : ∀ i ∈ is, i ∈ own.map (·.2)) (hp : ∀ v ∈ own.map (·.2), p.off v) (hs : ∀ x, foldedSetIterable iter X.env x = pure x := by intro _; rfl) :
    RF X p O (.ListComp elt [⟨tg, iter, [c], 0⟩] scope pos) (tLc wi g tT te (own.map (·.2))) (mLc mi mg mT me (own.map (·.2))) :=
  ⟨pe_lc hc hN hi.pi ok (fun s H C cl fp => (hg s H C cl fp).pg) (fun s H C cl fp => pts_one (ht s H C cl fp).pt) (fun s H C cl fp => (he s H C cl fp).pe) hs,
    lf_lc hi.le (hg X.s_0 X.H_0 0 [] []).le (ht X.s_0 X.H_0 0 [] []).le (he X.s_0 X.H_0 0 [] []).le his hp⟩
theorem sLcIf {scope : Scope} {own : List (Str × Nat)} (y : Nat) {yn : Str} {spos : Pos} (hc : X.calm = true) (hN : X.N.Nodup) (hy : X.N[y]? = some yn) (hyl : X.env.scope.names.lookup yn = some .local) (hsw : swapsWith (.ListComp elt [⟨tg, iter, [c], 0⟩] scope pos) (some (.Name yn q)) spos.line X.env = pure true) (hi : RI X p O tg iter wi mi) (ok : BlkOk X.N X.env.scope scope own)
    (hg : ∀ (s : Shared) (H : Hp) (C : Addr) (cl : List (Str × Addr)) (fp : List Addr), RG (X.blk s H scope (compEnvC scope cl C X.env) fp) p O is tg g mg) (ht : ∀ (s : Shared) (H : Hp) (C : Addr) (cl : List (Str × Addr)) (fp : List Addr), RT (X.blk s H scope (compEnvC scope cl C X.env) fp) p O c tT mT)
    (he : ∀ (s : Shared) (H : Hp) (C : Addr) (cl : List (Str × Addr)) (fp : List Addr), RE (X.blk s H scope (compEnvC scope cl C X.env) fp) p O elt te me)
    (his : ∀ i ∈ is, i ∈ own.map (·.2)) (hp : ∀ v ∈ own.map (·.2), p.off v) (hO : y ∉ O) (hpy : p.off y) (hs : ∀ x, foldedSetIterable iter X.env x = pure x := by intro _; rfl) :
    RS X p Ob O (y :: O) (.Assign [.Name yn q] (.ListComp elt [⟨tg, iter, [c], 0⟩] scope pos) spos) (tAsg (tLc wi g tT te (own.map (·.2))) (gName y)) (mSet y (mLc mi mg mT me (own.map (·.2)))) :=
  s_own (fLcIf hc hN hi ok hg ht he his hp hs) hO hpy (ps_setLc hc hN hy hyl hsw hi.pi ok (fun s H C cl fp => (hg s H C cl fp).pg) (fun s H C cl fp => pts_one (ht s H C cl fp).pt) (fun s H C cl fp => (he s H C cl fp).pe) hs)
theorem sSet (i : Nat) (hN : X.N.Nodup) (hi : X.N[i]? = some x) (hx : Loc X.env.scope x) (he : RE X p O e te me) (hO : i ∉ O) (hp : p.off i) (hs : swapsWith e (some (.Name x q)) pos.line X.env = pure false := by rfl) (hf : X.fn x = true ∨ X.env.scope.names.lookup x = some .local := by first | exact .inl rfl | exact .inr rfl) :
    RS X p Ob O O (.Assign [.Name x q] e pos) (tAsg te (gName i)) (mSet i me) := s_set he hO hp (ps_set hN hi hx he.pe hs hf)
theorem sOwn (i : Nat) (hN : X.N.Nodup) (hi : X.N[i]? = some x) (hx : Loc X.env.scope x) (he : RF X p O e te me) (hO : i ∉ O) (hp : p.off i) (hs : swapsWith e (some (.Name x q)) pos.line X.env = pure false := by rfl) (hf : X.fn x = true ∨ X.env.scope.names.lookup x = some .local := by first | exact .inl rfl | exact .inr rfl) :
    RS X p Ob O (i :: O) (.Assign [.Name x q] e pos) (tAsg te (gName i)) (mSet i me) := s_own he hO hp (ps_set hN hi hx he.pe hs hf)
theorem sAug (i : Nat) {op : Operator} {f : Int → Int → Int} {g : D → D → Option D} (hN : X.N.Nodup) (hi : X.N[i]? = some x) (hx : Loc X.env.scope x) (ho : PIp X op (ipI f)) (hg : ∀ x y d, g x y = some d → ∃ i j, x = .int i ∧ y = .int j ∧ d = .int (f i j)) (he : RE X p O e te me) (hO : i ∉ O) (hp : p.off i) (hf : X.fn x = true ∨ X.env.scope.names.lookup x = some .local := by first | exact .inl rfl | exact .inr rfl) :
    RS X p Ob O O (.AugAssign (.Name x q) op e pos) (tAug i te (ipI f)) (mAug i g me) := s_augI hg he hO hp (ps_aug hN hi hx he.pe ho hf)
theorem aug_add : ∀ x y d, dAddI x y = some d → ∃ i j, x = .int i ∧ y = .int j ∧ d = .int (i + j) := fun x y d h => by
  unfold dAddI at h
  split at h <;> first | (cases h; exact ⟨_, _, rfl, rfl, rfl⟩) | cases h
theorem sExpr (he : RE X p O e te me) (hs : swapsWith e none pos.line X.env = pure false := by rfl) : RS X p Ob O O (.Expr e pos) (tDrop te) (mDrop me) := s_expr he (ps_expr he.pe hs)
theorem sPar2 (i j : Nat) {x y : Str} {px py pt pt2 : Pos} {kt k2 : Nat} (hc : X.calm = true) (hN : X.N.Nodup) (hi : X.N[i]? = some x) (hj : X.N[j]? = some y) (hij : i ≠ j) (hx : X.env.scope.names.lookup x = some .local) (hy : X.env.scope.names.lookup y = some .local) (ha : RX X p O fl [a, b] t m) (ho : ∀ k ∈ [i, j], k ∉ O ∧ p.off k)
    (hw : swappedStores [.Tuple [.Name x px, .Name y py] kt pt] (.Tuple [a, b] k2 pt2) X.env = pure (some [x, y]))
    (hs : swapsWithSole [.Tuple [.Name x px, .Name y py] kt pt] (.Tuple [a, b] k2 pt2) pos.line X.env = pure false := by rfl) :
    RS X p Ob O (owns [i, j] fl O) (.Assign [.Tuple [.Name x px, .Name y py] kt pt] (.Tuple [a, b] k2 pt2) pos) (tPar i j t) (mPar [i, j] m) := s_par2 ha (by simpa using hij) ho (ps_par hc hN hi hj hij hx hy ha.pa hw hs)
theorem sParT (is : List Nat) {tp k2p : Pos} {kt k2 k : Nat} (ha : RX X p O fl es t m) (nd : is.Nodup) (ho : ∀ k ∈ is, k ∉ O ∧ p.off k) (hk : is.length = k ∧ k ≤ lim) (hg : PG X (.Tuple tgs kt tp) (gTup X.K k (gNames is))) (hs : swapsWithSole [.Tuple tgs kt tp] (.Tuple es k2 k2p) pos.line X.env = pure false := by rfl) (hw : swappedStores [.Tuple tgs kt tp] (.Tuple es k2 k2p) X.env = pure none := by rfl) (h1 : (assignEach [.Tuple tgs kt tp] X.env).map (·.2) = [assign (.Tuple tgs kt tp) X.env] := by rfl) :
    RS X p Ob O (owns is fl O) (.Assign [.Tuple tgs kt tp] (.Tuple es k2 k2p) pos) (tAsg (tTup t) (gTup X.K k (gNames is))) (mPar is m) := s_parT ha nd ho hk (ps_asg (pe_tup ha.pa) hg hs hw h1)
theorem sAsg (he : RE X p O e te me) (hg : RG X p O is tg g mg) (hs : swapsWithSole [tg] e pos.line X.env = pure false := by rfl) (hw : swappedStores [tg] e X.env = pure none := by rfl) (h1 : (assignEach [tg] X.env).map (·.2) = [assign tg X.env] := by rfl) : RS X p Ob O O (.Assign [tg] e pos) (tAsg te g) (mAsg me mg) := s_asg he hg (ps_asg he.pe hg.pg hs hw h1)
theorem sFor (hp : PassesOwn (model X.prog X.w) X.A X.env X.xe) (hc : X.calm = true) (hi : RI X p O tg iter wi mi) (hg : RG X p O is tg g mg) (hb : RSs X p O O O' body tS mS) (hO : ∀ i ∈ O, i ∈ O') (hs : ∀ x, foldedSetIterable iter X.env x = pure x := by intro _; rfl) : RS X p Ob O O (.For tg iter body [] pos) (tFor wi g tS) (mFor mi mg mS) := s_for hi hg (hb.weak hO) (ps_for hp hc hi.pi hg.pg hb.ps hs)
theorem sWhile (hp : PassesOwn (model X.prog X.w) X.A X.env X.xe) (hc : RT X p O c tT mT) (hb : RSs X p O O O' body tS mS) (hO : ∀ i ∈ O, i ∈ O') : RS X p Ob O O (.While c body [] pos) (tWhile tT tS) (mWhile mT mS) := s_while hc (hb.weak hO) (ps_while hp hc.pt hb.ps)
theorem sIf {Oa Obx : List Nat} {xs ys : List Stmt} {ta' tb' : TS} {ma' mb' : MS} (hc : RT X p O c tT mT) (ha : RSs X p Ob O Oa xs ta' ma') (hb : RSs X p Ob O Obx ys tb' mb') (k1 : ∀ i ∈ O', i ∈ Oa) (k2 : ∀ i ∈ O', i ∈ Obx) : RS X p Ob O O' (.If c xs ys pos) (tIfS tT ta' tb') (mIfS mT ma' mb') := s_if hc (ha.weak k1) (hb.weak k2)
theorem sApp (i : Nat) {ap : Pos} (hK : p.K = X.K) (hv : PE X (.Name x q) (tVar i)) (he : RE X p O e te me) (hi : i ∈ O)
    (hbase : attributeBase (.Name x q) "append" X.env (eval (.Name x q) X.env) = eval (.Name x q) X.env := by rfl)
    (hfew : ((backTo q2 (starEach [e] X.env)).all (fun x => !x.1) && (backToKw q2 (keywordEach [] X.env)).all (fun x => x.1.isSome) && decide ([e].length + ([] : List Keyword).length + (if ([] : List Keyword).isEmpty then 0 else 1) < 30)) = true := by rfl)
    (hline : (ap.endLine == q2.line) = true := by rfl) (h1 : starEach [e] X.env = (false, eval e X.env) :: starEach [] X.env := by rfl) (hpl : (backTo q2 (starEach [] X.env)).any (·.1) = false := by rfl)
    (hs : swapsWith (.Call (.Attribute (.Name x q) "append" ap) [e] [] q2) none pos.line X.env = pure false := by rfl) :
    RS X p Ob O O (.Expr (.Call (.Attribute (.Name x q) "append" ap) [e] [] q2) pos) (tDrop (tBM p.K "list" rAppend (tVar i) (tCons te tNil))) (mAppend i me) :=
  s_append he hi hK (ps_expr (pe_bm PySem.F.plainAttrs_list PySem.F.slot_list_append PySem.F.type_list_append mt_append hv (pa_cons he.pe pa_nil h1) hbase hfew hline h1 hpl) hs)
end
end RR
end
section
namespace RR
open PySem PySem.Spec L2
open PyProof.Rows hiding St
section
variable {X : Cx} {p : Pm} {O : List Nat} {e : Expr} {te : TE} {me : ME} {tT : TT} {mT : MT}
theorem Rp.flat_any {K : PySem.W.Frag} {F G : Hp} {d : D} {v : V} (f : flatD d = true) (h : Rp K F d v) : Rp K G d v := by
  cases h <;> first | (exfalso; unfold flatD at f; cases f; done) | exact .non | exact .bl _ | exact .int _ | exact .str _
/-- out of a look: the frozen thing is one's own again -/
theorem Sep.unlook {F0 H0 F H F1 F2 H2 : Hp} {σ : St} {Γ : DEnv} {n n2 : Nat} {i : Nat} (s : Sep p F0 H0 O F H σ Γ n) (e1 : Same F F1) (hn : ∀ b o, F1 b = some o → F b = some o ∨ (i ∈ O ∧ σ[i]? = some (some (.ref b)) ∧ ∃ d, Γ[i]? = some (some d)))
    (s2 : Sep p F0 H0 (O.filter (· ≠ i)) F2 H2 σ Γ n2) (g : Gp p F1 H F2 H2) : ∃ F3, Sep p F0 H0 O F3 H2 σ Γ n2 ∧ Gp p F H F3 H2 := by
  by_cases hi : i ∈ O ∧ ∃ d, Γ[i]? = some (some d)
  · obtain ⟨hi, d, ed⟩ := hi
    obtain ⟨a, ea, w, fa, h0a, pa⟩ := s.ow i hi d ed
    have key : ∀ b o, F1 b = some o → b ≠ a → F b = some o := fun b o h hb => by
      rcases hn b o h with z | ⟨_, z, _⟩
      · exact z
      · rw [ea] at z; cases z; exact absurd rfl hb
    have nf : ∀ {b : Addr} {o : HO}, F b = some o → b ≠ a := fun h z => by rw [z, fa] at h; cases h
    have f3 : ∀ b o, F b = some o → (fun b => if b = a then none else F2 b) b = some o := fun b o h => by
      show (if b = a then none else F2 b) = some o
      rw [if_neg (nf h)]
      exact g.f _ _ (e1 _ _ h)
    have f32 : ∀ b o, (fun b => if b = a then none else F2 b) b = some o → b ≠ a ∧ F2 b = some o := fun b o h => by
      have h' : (if b = a then none else F2 b) = some o := h
      by_cases z : b = a
      · rw [if_pos z] at h'; cases h'
      · rw [if_neg z] at h'; exact ⟨z, h'⟩
    obtain ⟨oa, hoa⟩ := w.at
    have ha2 : ∀ {u : HO}, H a = some u → H2 a = some u := fun h => g.h a _ h pa
    refine ⟨fun b => if b = a then none else F2 b, ⟨fun b o h => f3 b o (s.f0 b o h), fun b o h => s2.fh _ _ (f32 b o h).2, s2.stay, fun b o h => s2.newF b o (f32 b o h).2, fun b j h => ?_, s.len, fun j dj hj h => ?_, fun j hj dj h => ?_, s.dj⟩, ⟨fun b o h => f3 b o h, g.h, fun b o h => ?_⟩⟩
    · obtain ⟨h1, h2, ⟨x, l, xs, z1, z2, z3⟩, zt⟩ := s2.pen b j h
      obtain ⟨_, _, ⟨_, _, ys, _, y2, _⟩, _⟩ := s.pen b j h
      have hb : b ≠ a := fun z => pa ⟨b, j, h, .inl z.symm⟩
      have hd : p.dr.ad ≠ a := nf y2
      refine ⟨?_, h2, ⟨x, l, xs, z1, ?_, z3⟩, fun y hy => ?_⟩
      · show (if b = a then none else F2 b) = none
        rw [if_neg hb]; exact h1
      · show (if p.dr.ad = a then none else F2 p.dr.ad) = some _
        rw [if_neg hd]; exact z2
      · obtain ⟨t1, ps, t2, t3, t4⟩ := zt y hy
        refine ⟨?_, ps, t2, t3, fun pos cv hc => ?_⟩
        · show (if y.1 = a then none else F2 y.1) = none
          split
          · rfl
          · exact t1
        · obtain ⟨c, e1, e2⟩ := t4 pos cv hc
          refine ⟨c, e1, ?_⟩
          show (if c = a then none else F2 c) = some _
          rw [if_neg fun z => ?_]
          · exact e2
          · have h3 := s2.fh _ _ e2
            have h4 := g.h a _ hoa pa
            rw [z, h4] at h3
            exact w.notCode hoa _ (Option.some.inj h3)
    · obtain ⟨v, h1, r⟩ := s.sh j dj hj h
      exact ⟨v, h1, r.mono f3⟩
    · obtain ⟨b, h1, r, z1, z2, z3⟩ := s.ow j hj dj h
      have hb3 : (fun b => if b = a then none else F2 b) b = none := by
        show (if b = a then none else F2 b) = none
        by_cases z : b = a
        · rw [if_pos z]
        · rw [if_neg z]
          by_cases hji : j = i
          · subst hji
            rw [ea] at h1
            cases h1
            exact absurd rfl z
          · obtain ⟨b', h1', _, z1', _⟩ := s2.ow j (List.mem_filter.mpr ⟨hj, by simpa using hji⟩) dj h
            rw [h1] at h1'
            cases h1'
            exact z1'
      refine ⟨b, h1, ?_, hb3, z2, z3⟩
      cases r with
      | lst q1 q2 => exact .lst (g.h _ _ q1 z3) (q2.mono f3)
      | dct q1 q2 q3 => exact .dct (g.h _ _ q1 z3) q2 fun i x d a b => (q3 i x d a b).mono f3
    · obtain ⟨h1, h2⟩ := f32 b o h
      rcases g.new b o h2 with z | z | z
      · exact .inl (key b o z h1)
      · exact .inr (.inl z)
      · exact .inr (.inr z)
  · have hF : F1 = F := by
      funext b
      cases h : F1 b with
      | none => cases q : F b with
        | none => rfl
        | some o => rw [e1 _ _ q] at h; cases h
      | some o =>
        rcases hn b o h with z | ⟨z1, _, z2⟩
        · exact z.symm
        · exact absurd ⟨z1, z2⟩ hi
    subst hF
    refine ⟨F2, ⟨s2.f0, s2.fh, s2.stay, s2.newF, s2.pen, s.len, fun j dj hj h => s2.sh j dj (fun z => hj (List.mem_filter.mp z).1) h, fun j hj dj h => ?_, s.dj⟩, g⟩
    exact s2.ow j (List.mem_filter.mpr ⟨hj, by
      simp only [ne_eq, decide_not, Bool.not_eq_eq_eq_not, Bool.not_true, decide_eq_false_iff_not]
      intro z
      subst z
      exact hi ⟨hj, dj, h⟩⟩) dj h
theorem Sep.look {F0 H0 F H : Hp} {σ : St} {Γ : DEnv} {n : Nat} (s : Sep p F0 H0 O F H σ Γ n) (i : Nat) : ∃ F1, Same F F1 ∧ Sep p F0 H0 (O.filter (· ≠ i)) F1 H σ Γ n ∧ ∀ b o, F1 b = some o → F b = some o ∨ (i ∈ O ∧ σ[i]? = some (some (.ref b)) ∧ ∃ d, Γ[i]? = some (some d)) := by
  by_cases hi : i ∈ O ∧ ∃ d, Γ[i]? = some (some d)
  · obtain ⟨hi, d, ed⟩ := hi
    obtain ⟨F1, e1, s1⟩ := s.freeze i
    -- the frozen heap, cut to what is needed
    obtain ⟨a, ea, w, fa, h0a, pa⟩ := s.ow i hi d ed
    obtain ⟨oa, hoa⟩ := w.at
    have hfa : F1 a = some oa := by
      obtain ⟨v, h1, r⟩ := s1.sh i d (by simp) ed
      rw [ea] at h1
      cases h1
      have : ∃ o, F1 a = some o := by
        cases w with
        | lst q1 q2 => obtain ⟨b, xs, e, h, _⟩ := r.lst_inv; cases e; exact ⟨_, h⟩
        | dct q1 q2 q3 =>
          cases r with
          | dct h1 h2 h3 => exact h1.elim (fun z => ⟨_, z⟩) fun ⟨_, z⟩ => ⟨_, z⟩
      obtain ⟨o, ho⟩ := this
      have := s1.fh _ _ ho
      rw [hoa] at this
      cases this
      exact ho
    have e2 : Same F (upd F a oa) := same_up fa
    have e3 : Same (upd F a oa) F1 := fun b o h => by
      by_cases z : b = a
      · subst z; rw [upd_same] at h; cases h; exact hfa
      · rw [upd_ne z] at h; exact e1 _ _ h
    have nw : ∀ b o, (upd F a oa) b = some o → F b = some o ∨ b = a := fun b u q => by
      by_cases hb : b = a
      · exact .inr hb
      · rw [upd_ne hb] at q; exact .inl q
    refine ⟨upd F a oa, e2, ⟨s.f0.trans e2, e3.trans s1.fh, s.stay, fun b o h => s1.newF b o (e3 _ _ h), fun b j h => ?_, s.len, fun j dj hj h => ?_, fun j hj dj h => ?_, s1.dj⟩, fun b o h => ?_⟩
    · obtain ⟨h1, h2, ⟨x, l, xs, z1, z2, z3⟩, zt⟩ := s.pen b j h
      have hb : b ≠ a := fun z => pa ⟨b, j, h, .inl z.symm⟩
      exact ⟨by rw [upd_ne hb]; exact h1, h2, ⟨x, l, xs, z1, e2 _ _ z2, z3⟩, zt.up e2 (fun y hy => by rw [upd_ne fun z => pa ⟨b, j, h, .inr ⟨y, hy, z⟩⟩]; exact (zt y hy).1) (fun _ _ _ h => h)⟩
    · by_cases hji : j = i
      · subst hji
        rw [ed] at h
        cases h
        refine ⟨_, ea, ?_⟩
        cases w with
        | lst q1 q2 =>
          rw [hoa] at q1
          cases q1
          exact .of_lst upd_same (q2.mono e2)
        | dct q1 q2 q3 =>
          rw [hoa] at q1
          cases q1
          exact .dct (.inl upd_same) q2 fun i x d a b => (q3 i x d a b).mono e2
      · obtain ⟨v, h1, r⟩ := s.sh j dj (fun z => hj (List.mem_filter.mpr ⟨z, by simpa using hji⟩)) h
        exact ⟨v, h1, r.mono e2⟩
    · obtain ⟨b, h1, r, z1, z2, z3⟩ := s.ow j (List.mem_filter.mp hj).1 dj h
      have hji : j ≠ i := by simpa using (List.mem_filter.mp hj).2
      have hb : b ≠ a := fun z => s.dj j (List.mem_filter.mp hj).1 i hi hji a dj d h ed (z ▸ h1) ea
      refine ⟨b, h1, ?_, by rw [upd_ne hb]; exact z1, z2, z3⟩
      cases r with
      | lst q1 q2 => exact .lst q1 (q2.mono e2)
      | dct q1 q2 q3 => exact .dct q1 q2 fun i x d a b => (q3 i x d a b).mono e2
    · rcases nw b o h with z | z
      · exact .inl z
      · subst z; exact .inr ⟨hi, ea, d, ed⟩
  · exact ⟨F, .refl _, by
      refine ⟨s.f0, s.fh, s.stay, s.newF, s.pen, s.len, fun j dj hj h => s.sh j dj (fun z => hj (List.mem_filter.mpr ⟨z, ?_⟩)) h, fun j hj => s.ow j (List.mem_filter.mp hj).1, fun j hj k hk => s.dj j (List.mem_filter.mp hj).1 k (List.mem_filter.mp hk).1⟩
      simp only [ne_eq, decide_not, Bool.not_eq_eq_eq_not, Bool.not_true, decide_eq_false_iff_not]
      intro w
      subst w
      exact hi ⟨z, dj, h⟩, fun b o h => .inl h⟩
@[reducible] def mLook (me : ME) : ME := fun Γ n Q => me Γ n fun d n1 => flatD d = true ∧ Q d n1
theorem le_look (i : Nat) (h : LE p (O.filter (· ≠ i)) te me) : LE p O te (mLook me) := fun F0 H0 F H σ Γ n Q s q Q' k => by
  obtain ⟨F1, e1, s1, hn⟩ := s.look i
  refine h F0 H0 F1 H σ Γ n _ s1 q _ fun d v F2 H2 n2 s2 g2 r2 ⟨f, q2⟩ => ?_
  obtain ⟨F3, s3, g3⟩ := s.unlook e1 hn s2 g2
  exact k d v F3 H2 n2 s3 g3 (r2.flat_any f) q2
theorem lt_look (i : Nat) (h : LT p (O.filter (· ≠ i)) tT mT) : LT p O tT mT := fun F0 H0 F H σ Γ n Q s q Q' k => by
  obtain ⟨F1, e1, s1, hn⟩ := s.look i
  refine h F0 H0 F1 H σ Γ n _ s1 q _ fun b F2 H2 n2 s2 g2 q2 => ?_
  obtain ⟨F3, s3, g3⟩ := s.unlook e1 hn s2 g2
  exact k b F3 H2 n2 s3 g3 q2
theorem eLook (i : Nat) {O' : List Nat} (h : RE X p O' e te me) (k : O' = O.filter (· ≠ i)) : RE X p O e te (mLook me) := ⟨h.pe, le_look i (k ▸ h.le)⟩
theorem tLook (i : Nat) {O' : List Nat} (h : RT X p O' e tT mT) (k : O' = O.filter (· ≠ i)) : RT X p O e tT mT := ⟨h.pt, lt_look i (k ▸ h.le)⟩
end
end RR
end
section
namespace RR
open PySem PySem.Spec L2
open PyProof.Rows hiding St
theorem hv_of {A : Around} {k : Nat} (hr : Room k A) : A.units + 65 < cLine := by have := hr.un; omega
theorem hx_of {A : Around} {k : Nat} (hr : Room k A) : A.units + 66 < cLine := by have := hr.un; omega
theorem offs0 {K : PySem.W.Frag} {dr : DrT} {l : List Nat} : ∀ v ∈ l, (Pm.mk K none dr).off v := fun _ _ => off0
theorem offs1 {K : PySem.W.Frag} {a : Addr} {dr : DrT} {l : List Nat} (h : ∀ v ∈ l, 0 ≠ v) : ∀ v ∈ l, (Pm.mk K (some (a, 0)) dr).off v := fun v hv => off1 (h v hv)
theorem offsO1 {K : PySem.W.Frag} {a : Addr} {dr : DrT} {l O : List Nat} (h : ∀ v ∈ l, v ∉ O ∧ 0 ≠ v) : ∀ v ∈ l, v ∉ O ∧ (Pm.mk K (some (a, 0)) dr).off v := fun v hv => ⟨(h v hv).1, off1 (h v hv).2⟩
/-- a constant of the module -/
structure CI (K : PySem.W.Frag) (mg : Str → Option Value) (x : Str) (d : D) (v : V) : Prop where
  ex : ∃ u, mg x = some u ∧ RelV v u
  rp : ∀ F, Rp K F d v
theorem CI.e {X : Cx} {p : Pm} {O : List Nat} {x : Str} {d : D} {v : V} {pos : Pos} (h : CI X.K X.mg x d v) (hg : Gl X x) (hK : p.K = X.K) (hd : (x == ("__debug__" : Str)) = false := by decide) : RE X p O (.Name x pos) (tC v) (mC d) := by
  obtain ⟨u, h1, h2⟩ := h.ex
  exact e_glob hg h1 h2 (fun F => hK ▸ h.rp F) hd
end RR
end
section
namespace RR
open PySem PySem.Spec L2
open PyProof.Rows hiding St
/-- a promise of the law's def -/
abbrev spLaw (K : PySem.W.Frag) : Sp := fun vs H Q _ => ∃ (a : Addr) (ns : List Int), vs = [.ref a] ∧ SqL K H a (ns.map V.int) ∧ ns.length ≤ 63 ∧ ∀ H', Q (.bl true) H'
section
variable {P : Program} {w : World} {K : PySem.W.Frag} {mg mb : Str → Option Value} {k : Nat} {fa a : Addr} {fd : FuncData} {x : Str} {s1 : Shared} {vs : List Value} {ns : List Int}
abbrev Ended (s1 : Shared) : Result → Shared → Prop := fun r s' => r = .ok (.ret (.bool true)) ∧ OldK s1.heap s'.heap ∧ s'.os = s1.os ∧ AllBare s'.gens
/-- .. from an abstract heap that tracks the script at most -/
theorem law_from (KX : K.In s1.heap) (hns : s1.heap.Ns mainGlobals mg) (hb : s1.heap.Ns builtinsNs mb) (hbb : ∀ x : Str, x ≠ "__name__" → mb x = bootBuiltins x) (hlim : s1.heap.NoLimit) (hg : s1.gens = #[])
    (ha : s1.heap.get? a = some { cls := .type "list", data := .seq vs.toArray }) (hl : ns.length ≤ 63) (hr : Room k callerA)
    (hsy : ∃ mm, s1.heap.Ns sysModules mm) (F : ∀ base : Heap, K.In base → base.Ns mainGlobals mg → (∃ mm, base.Ns sysModules mm) → FnG P w K mg base k fa fd [x] (spLaw K)) (hbind : ∀ (s : Shared) (u : Value), BindsTo s fd ⟨[u], []⟩ [(x, u)])
    (H : Hp) (hO : Only H) (hS : SqL K H a (ns.map V.int)) (hok : HOk P w H s1.heap) (hA : ∀ b, H b ≠ none → b = a) (hK : H a ≠ none → K.lookup a = none) :
    codeAny (model P w) callerA (.call (.ref fa) ⟨[.ref a], []⟩) (Ended s1) s1 := by
  have only : ∀ {b : Addr} {u : HO}, H b = some u → b = a := fun e => hA _ fun z => by rw [e] at z; cases z
  have below : ∀ {b : Addr} {m : Str → Option Value}, s1.heap.Ns b m → (hidT s1.heap H).Ns b m := by
    rintro b m ⟨o, es, ep, e, d, r⟩
    refine ⟨o, es, ep, hidT_get e ?_, d, r⟩
    cases q : H b with
    | none => rfl
    | some u =>
      obtain rfl := only q
      rw [ha] at e
      cases e
      exact absurd (show Data.seq vs.toArray _ = Data.dict es ep from d) (by intro z; cases z)
  have kb : K.In (hidT s1.heap H) := by
    intro b o e
    refine hidT_get (KX b o e) ?_
    cases q : H b with
    | none => rfl
    | some u =>
      obtain rfl := only q
      rw [hK (by rw [q]; intro z; cases z)] at e
      cases e
  obtain ⟨mc, c1, c2⟩ := hlim
  have e0 : Env0 P w K mg (hidT s1.heap H) callerA [] s1 H :=
    { frames := rfl, mod := ⟨kb, below hns, ⟨mb, below hb, hbb⟩, ⟨mc, below c1, c2⟩⟩, bs := fun b o e => of_hidT e, bsz := Nat.le_of_eq (hidT_size _ _), funs := trivial, frf := (fun b hb => nomatch hb), hok := hok, bare := .of_eq hg }
  refine codeAny_mono ((F _ kb (below hns) (hsy.elim fun _ z => ⟨_, below z⟩)).run callerA [] s1 H ⟨[.ref a], []⟩ [.ref a] [.ref a] (fun v _ => v = .bl true) (fun _ _ _ => False) hr (fun _ => rfl) e0 (hbind s1 (.ref a)) (.cons rfl .nil) ⟨a, ns, rfl, hS, hl, fun _ => rfl⟩) ?_
  intro r s' h
  match r, h with
  | .ok (.ret u), h =>
    obtain ⟨v, H', os, bare, un, hok', rv, q⟩ := h
    subst q
    cases rv
    refine ⟨rfl, OldK.of_keep fun b o e => ?_, os, bare⟩
    cases q : H b with
    | none => exact un.keep b o e q (fun z => nomatch z) (fun z => nomatch z)
    | some u =>
      rcases hO b with z | ⟨ob, xs, z⟩
      · rw [q] at z; cases z
      · obtain ⟨e1, _⟩ := hok b _ z
        obtain ⟨e2, _⟩ := hok' b _ (un.frzs b ob _ z)
        rw [e] at e1
        cases e1
        exact e2
theorem law_callG (KX : K.In s1.heap) (hns : s1.heap.Ns mainGlobals mg) (hb : s1.heap.Ns builtinsNs mb) (hbb : ∀ x : Str, x ≠ "__name__" → mb x = bootBuiltins x) (hlim : s1.heap.NoLimit) (hg : s1.gens = #[])
    (ha : s1.heap.get? a = some { cls := .type "list", data := .seq vs.toArray }) (hi : IntsAre vs ns) (hl : ns.length ≤ 63) (hr : Room k callerA)
    (hsy : ∃ mm, s1.heap.Ns sysModules mm) (F : ∀ base : Heap, K.In base → base.Ns mainGlobals mg → (∃ mm, base.Ns sysModules mm) → FnG P w K mg base k fa fd [x] (spLaw K)) (hbind : ∀ (s : Shared) (u : Value), BindsTo s fd ⟨[u], []⟩ [(x, u)]) :
    codeAny (model P w) callerA (.call (.ref fa) ⟨[.ref a], []⟩) (Ended s1) s1 := by
  have rv : Vals (ns.map V.int) vs := vals_ints hi
  have ln : (ns.map V.int).length ≤ sizeLine := by rw [List.length_map]; exact lim_line (Nat.le_trans hl (by decide))
  cases hk : K.lookup a with
  | some o =>
    have e := KX a o hk
    rw [ha] at e
    cases e
    refine law_from KX hns hb hbb hlim hg ha hl hr hsy F hbind (fun _ => none) (fun _ => .inl rfl) (.inr ⟨_, vs.toArray, _, hk, rfl, rfl, rfl, ?_, by simpa using rv⟩) (fun b u z => ?_) (fun b z => absurd rfl z) (fun z => absurd rfl z)
    · rw [List.size_toArray, ← rv.length]; exact ln
    · cases (show (none : Option HO) = some u from z)
  | none =>
    let H : Hp := fun b => if b = a then some (.frz { cls := .type "list", data := .seq vs.toArray } (.lst (ns.map V.int))) else none
    have at_a : ∀ {b : Addr} {u : HO}, H b = some u → b = a ∧ u = .frz { cls := .type "list", data := .seq vs.toArray } (.lst (ns.map V.int)) := fun {b u} z => by
      by_cases q : b = a
      · rw [show H b = _ from if_pos q] at z
        cases z
        exact ⟨q, rfl⟩
      · rw [show H b = none from if_neg q] at z
        cases z
    refine law_from KX hns hb hbb hlim hg ha hl hr hsy F hbind H (fun b => ?_) (.inl (.inr ⟨_, if_pos rfl⟩)) (fun b u z => ?_) (fun b z => ?_) (fun _ => hk)
    · by_cases q : b = a
      · exact .inr ⟨_, _, if_pos q⟩
      · exact .inl (if_neg q)
    · obtain ⟨rfl, rfl⟩ := at_a z
      exact ⟨ha, ln, vs, _, rv, ha⟩
    · by_cases q : b = a
      · exact q
      · exact absurd (if_neg q) z
end
theorem walkG {l : PySem.W.OpenLaw} {k : Nat} {q : Program} {loose : List Str} {XP : (Str → Option Value) → Heap → Prop} {YP : World → Heap → Prop} {d : DefRec} {K : Params → PySem.W.Frag} {x : Str}
    (hip : importsNone q = true) (hn : l.most = some 63) (hdf : d.params.defaults = []) (hr : Room k callerA) (hY : ∀ (w : World) (h : Heap), YP w h → (K w.params).In h)
    (F : ∀ (w : World) (mg : Str → Option Value) (fa : Addr) (h : Heap), (K w.params).In h → h.Ns mainGlobals mg → mg d.name = some (.ref fa) →
      ∃ fd : FuncData, (∀ (s : Shared) (u : Value), BindsTo s fd ⟨[u], []⟩ [(x, u)]) ∧ ∀ base : Heap, (K w.params).In base → base.Ns mainGlobals mg → (∃ mm, base.Ns sysModules mm) → FnG l.prog w (K w.params) mg base k fa fd [x] (spLaw (K w.params))) :
    PySem.W.WalkO q loose XP YP l.row.toRowW d [] (fun f vs => PySem.call f vs) :=
  Att.attach_call hn hdf fun w s0 s1 mg mb fa o pm cd doc a vs ns G Y _ _ _ hmg hobj hints hlen hg => by
    obtain ⟨fd, hb, hF⟩ := F w mg fa _ (hY w _ Y) G.T.g hmg
    exact law_callG (hY w _ Y) G.T.g G.T.b G.T.builtins G.T.nolimit hg hobj hints hlen hr (let ⟨mm, z, _⟩ := (G.T.seer hip).mods; ⟨mm, z⟩) hF hb
end RR
end
section
namespace RR
open PySem PySem.Spec L2
open PyProof.Rows hiding St
/-- a draw below an amount -/
def m_take : MF := fun ds n R => ∃ m : Int, ds = [.int m] ∧ 1 ≤ m ∧ m < 1073741824 ∧ n < 1048576 ∧ ∀ x : Int, 0 ≤ x → x < m → R (.int x) (n + 1)
/-- the drawing list is made out of the script -/
def spOpen (K : PySem.W.Frag) : Sp := fun vs H Q _ => ∃ (a : Addr) (ns : List Int), vs = [.ref a] ∧ SqL K H a (ns.map V.int) ∧ ns.length ≤ 63 ∧
  ∀ H' p dr (xs : List Int), H' p = some (.lst [.ref dr, .int 0, .int 0]) → H' dr = some (.lst (xs.map V.int)) → p ≠ dr → Q (.ref p) H'
/-- what a spread cell is: an int from 0 on -/
def SpreadOk (m : MP) : Prop := ∀ (c w : Int) (R : D → Prop), 0 ≤ w → w < 1048576 → (∀ z : Int, 0 ≤ z → R (.int z)) → m [.int c, .int w] R
end RR
end
section
namespace RR
open PySem PySem.Spec L2
open PyProof.Rows hiding St
def compI (g1 : MG) (t1 : MT) (e : ME) (Γ : DEnv) : List D → Nat → List D → (List D → Nat → Prop) → Prop
  | [], n, acc, Q => Q acc n
  | d :: ds, n, acc, Q => g1 d Γ fun Γ2 => t1 Γ2 n fun b n1 => if b = true then e Γ2 n1 fun y n2 => acc.length < lim ∧ compI g1 t1 e Γ ds n2 (acc ++ [y]) Q else compI g1 t1 e Γ ds n1 acc Q
def compO (g : MG) (t : MT) (mi1 : MI) (g1 : MG) (t1 : MT) (e : ME) (vs1 : List Nat) (Γ : DEnv) : List D → Nat → List D → (List D → Nat → Prop) → Prop
  | [], n, acc, Q => Q acc n
  | d :: ds, n, acc, Q => g d Γ fun Γ2 => t Γ2 n fun b n1 => if b = true then mi1 Γ2 n1 fun es n2 => compI g1 t1 e (wipeD Γ2 vs1) es n2 acc fun acc' n3 => compO g t mi1 g1 t1 e vs1 Γ ds n3 acc' Q else compO g t mi1 g1 t1 e vs1 Γ ds n1 acc Q
@[reducible] def mLc2 (mi : MI) (g : MG) (t : MT) (mi1 : MI) (g1 : MG) (t1 : MT) (e : ME) (vs vs1 : List Nat) : ME := fun Γ n Q => mi Γ n fun ds n1 => compO g t mi1 g1 t1 e vs1 (wipeD Γ vs) ds n1 [] fun r n2 => Q (.list r) n2
end RR
end
section
namespace RR
open PySem PySem.Spec L2
open PyProof.Rows hiding St
end RR
end
section
namespace RR
open PySem PySem.Spec L2
open PyProof.Rows hiding St
/-- a promise that is asked nowhere -/
theorem FnG.never {P : Program} {w : World} {K : PySem.W.Frag} {mg : Str → Option Value} {base : Heap} {k : Nat} {f : Addr} {fd : FuncData} {ps : List Str} : FnG P w K mg base k f fd ps (spF K fun _ _ => False) :=
  ⟨fun vs H Q E ⟨_, _, _, _, _, q, _⟩ => q.elim, fun A o s H a us vs Q E _ _ _ _ _ ⟨_, _, _, _, _, q, _⟩ => q.elim⟩
end RR
end
section
namespace RR
open PySem PySem.Spec L2
open PyProof.Rows hiding St
theorem rd_new {H : Hp} {a p : Addr} {o u : HO} (h : Rd H a o) (hp : H p = none) : Rd (upd H p u) a o := by
  have ne : ∀ {x : HO}, H a = some x → a ≠ p := fun e z => by rw [z, hp] at e; cases e
  rcases h with h | ⟨ob, h⟩
  · exact .inl (by rw [upd_ne (ne h)]; exact h)
  · exact .inr ⟨ob, by rw [upd_ne (ne h)]; exact h⟩
theorem sql_new {K : PySem.W.Frag} {H : Hp} {a p : Addr} {xs : List V} {u : HO} (h : SqL K H a xs) (hp : H p = none) : SqL K (upd H p u) a xs := h.imp (fun r => rd_new r hp) id
theorem cut_int (ns : List Int) (lo hi : Option Int) : ∃ ms : List Int, cutV (ns.map V.int) lo hi = ms.map V.int := by
  unfold cutV
  exact ⟨_, by rw [← List.map_drop, ← List.map_take]⟩
theorem cut_low (ns : List Int) : (cutV (ns.map V.int) none (some 12)).length = min 12 ns.length := by
  unfold cutV
  have h1 : HT.sIx (ns.map V.int).length 0 none = 0 := by simp [HT.sIx]
  have h2 : HT.sIx (ns.map V.int).length (ns.map V.int).length (some 12) = min 12 ns.length := by simp [HT.sIx]
  rw [h1, h2]; simp
theorem cut_high (ns : List Int) (h : (cutV (ns.map V.int) (some 12) (some 63)).length ≠ 0) : 12 < ns.length := by
  apply Classical.byContradiction
  intro hn
  apply h
  unfold cutV
  have h1 : HT.sIx (ns.map V.int).length 0 (some 12) = min 12 ns.length := by simp [HT.sIx]
  rw [h1, List.length_take, List.length_drop, List.length_map]
  omega
end RR
end
section
namespace RR
open PySem PySem.Spec L2
open PyProof.Rows hiding St
theorem offp {K : PySem.W.Frag} {a : Addr} {dr : DrT} {s i : Nat} (h : s ≠ i) : (Pm.mk K (some (a, s)) dr).off i := fun _ _ e => by cases e; exact h
theorem offsp {K : PySem.W.Frag} {a : Addr} {dr : DrT} {s : Nat} {l : List Nat} (h : ∀ v ∈ l, s ≠ v) : ∀ v ∈ l, (Pm.mk K (some (a, s)) dr).off v := fun v hv => offp (h v hv)
theorem offsOp {K : PySem.W.Frag} {a : Addr} {dr : DrT} {s : Nat} {l O : List Nat} (h : ∀ v ∈ l, v ∉ O ∧ s ≠ v) : ∀ v ∈ l, v ∉ O ∧ (Pm.mk K (some (a, s)) dr).off v := fun v hv => ⟨(h v hv).1, offp (h v hv).2⟩
theorem pss_ex {X : Cx} {sts : List Stmt} {ι : Type} {t : ι → TS} (h : ∀ x, PSs X sts (t x)) : PSs X sts fun D σ H => ∃ x, t x D σ H := ⟨fun pins s σ H D I ⟨x, q⟩ => (h x).run pins s σ H D I q⟩
/-- the law holds: what it returns is True -/
@[reducible] def mTrue : EndsD := { nx := fun _ _ => False, rt := fun d _ => d = .bool true }
section
variable {P : Program} {w : World} {K : PySem.W.Frag} {mg : Str → Option Value} {base : Heap}
theorem FnG.law {x qual : Str} {st : Stmt} {f : Addr} {fd : FuncData} {N : List Str} {x0 : Str} {k : Nat} {mb : MS} (i : Nat) (F : Fun K x qual st f fd) (S : FnScope N [x0] (defScope st)) (hi : 0 < i ∧ i < N.length) (st1 : Stmt) (rest : List Stmt) (hst : defBody st = st1 :: rest)
    (body : ∀ (cdv : Value) (A : Around) (outer : List Env) (s : Shared) (H : Hp) (E : XK), Room k (A.deeper (envOfC qual (defScope st) s.heap.objs.size f cdv)) → GB (k + 1) A →
      PS (bodyCx P w K mg base N qual (defScope st) f cdv A outer s H E) st1 (tAsg (tCall (spOpen K) [] E0 (tCons (tVar 0) tNil)) (gName i)) ∧
      ∀ a dr, ∃ t O', RSs (bodyCx P w K mg base N qual (defScope st) f cdv A outer s H E) ⟨K, some (a, i), ⟨dr, []⟩⟩ [] [] O' rest t mb)
    (h : mb mTrue (List.replicate N.length none) 0) : FnG P w K mg base (k + 1) f fd [x0] (spLaw K) := by
  refine FnG.mk' F S (fun vs H Q E ⟨a, ns, e, _⟩ => by rw [e]; rfl) fun cdv A outer s H vs Q E hr hg ⟨a, ns, e, hs, hl, fin⟩ => ?_
  subst e
  obtain ⟨h1, h2⟩ := body cdv A outer s H E hr hg
  let t : Addr × Addr → TS := fun q => Classical.choose (h2 q.1 q.2)
  have ht : ∀ q : Addr × Addr, ∃ O', RSs (bodyCx P w K mg base N qual (defScope st) f cdv A outer s H E) ⟨K, some (q.1, i), ⟨q.2, []⟩⟩ [] [] O' rest (t q) mb := fun q => Classical.choose_spec (h2 q.1 q.2)
  refine ⟨_, hst ▸ pss_cons h1 (pss_ex fun q => (ht q).elim fun _ z => z.ps), ?_⟩
  have hlen : (start N [V.ref a]).length = N.length := by unfold L2.start; simp; omega
  refine ⟨.ref a, start_get (vs := [V.ref a]) (i := 0) (show 0 < 1 from Nat.one_pos), a, ns, rfl, hs, hl, fun H' b dr xs hb hdr hne => ⟨(b, dr), ?_⟩⟩
  obtain ⟨O', B⟩ := ht (b, dr)
  let F1 : Hp := fun c => if c = dr then some (.lst (xs.map V.int)) else none
  have f1 : ∀ {c : Addr} {o : HO}, F1 c = some o → c = dr ∧ o = .lst (xs.map V.int) := fun {c o} e => by
    by_cases z : c = dr
    · rw [show F1 c = _ from if_pos z] at e; cases e; exact ⟨z, rfl⟩
    · rw [show F1 c = none from if_neg z] at e; cases e
  have sp : Sep ⟨K, some (b, i), ⟨dr, []⟩⟩ F1 (fun _ => none) [] F1 H' ((start N [V.ref a]).set i (some (.ref b))) (List.replicate N.length none) 0 := by
    refine ⟨.refl _, fun c o e => ?_, fun c o e => (nomatch e), fun c o e => .inl e, fun c j e => ?_, by rw [List.length_set, hlen, List.length_replicate], fun j d _ e => ?_, fun j hj => (nomatch hj), fun j hj => (nomatch hj)⟩
    · obtain ⟨rfl, rfl⟩ := f1 e; exact hdr
    · cases e
      refine ⟨if_neg hne, ?_, ⟨0, 0, xs, hb, if_pos rfl, Int.le_refl _, Int.le_refl _, Int.le_refl _⟩, .nil⟩
      rw [set_at, if_pos rfl, if_pos (by rw [hlen]; exact hi.2)]
    · rw [List.getElem?_replicate] at e
      split at e <;> cases e
  exact B.le F1 (fun _ => none) F1 H' _ _ 0 mTrue sp h _ (fun _ _ _ _ _ _ _ z => z.elim) (fun d v F' H'' n' _ r z => by subst z; cases r; exact fin _) (fun _ _ _ _ _ _ _ z => z.elim) (fun _ _ _ _ _ _ _ z => z.elim)
end
end RR
end
section
namespace RR
open PySem PySem.Spec L2
open PyProof.Rows hiding St
/-- one def as the head finds it -/
theorem fd_mk {K : PySem.W.Frag} {h : Heap} {mg : Str → Option Value} {x : Str} {st : Stmt} {ps : List Str} {f : Addr} {oc : Value} {od an : Option Addr} {sl : Array (Option Value)} {kV doc pm cdv ct : Value} (X : K.In h) (G : h.Ns mainGlobals mg)
    (a : PySem.W.nsIn K mainGlobals x = some (some (.ref f))) (l : K.lookup f = some ⟨oc, od, .func (PySem.W.fnOf x x (defArgs st) (defBody st) (defScope st) .none kV doc pm an cdv ct), sl⟩) (c : PySem.W.codeIn K cdv x = true) (k : PySem.W.keepIn K (.ref f) = true)
    (hb : ∀ (kV doc pm : Value) (an : Option Addr) (cdv ct : Value) (us : List Value), us.length = ps.length → bindArgs (PySem.W.fnOf x x (defArgs st) (defBody st) (defScope st) .none kV doc pm an cdv ct) { pos := us } = pure (ps.zip us)) : FD K mg x st ps :=
  have F := fun_mk (st := st) l c k
  ⟨f, _, F, PySem.W.mg_of X G a, F.binds hb⟩
/-- a number of the module -/
theorem ci_int {K : PySem.W.Frag} {h : Heap} {mg : Str → Option Value} {x : Str} {i : Int} {u : Value} (X : K.In h) (G : h.Ns mainGlobals mg) (a : PySem.W.nsIn K mainGlobals x = some (some u)) (r : RelV (.int i) u) : CI K mg x (.int i) (.int i) :=
  ⟨⟨_, PySem.W.mg_of X G a, r⟩, fun F => .int i⟩
/-- a tuple of the module, as the head finds it, its items told one by one -/
theorem rp_tup {K : PySem.W.Frag} {f : Addr} {ds : List D} {xs : List V} {od : Option Addr} {its : Array Value} {n : Nat} {sl : Array (Option Value)} (l : K.lookup f = some ⟨.type "tuple", od, .seq its n, sl⟩) (z : its.size ≤ sizeLine) (v : Vals xs its.toList) (F : Hp) (r : Rps K F ds xs) : Rp K F (.tuple ds) (.ref f) :=
  .of_tup (.inr ⟨_, its, n, l, rfl, rfl, z, v⟩) r
theorem ci_ref {K : PySem.W.Frag} {h : Heap} {mg : Str → Option Value} {x : Str} {f : Addr} {d : D} (X : K.In h) (G : h.Ns mainGlobals mg) (a : PySem.W.nsIn K mainGlobals x = some (some (.ref f))) (r : ∀ F : Hp, Rp K F d (.ref f)) : CI K mg x d (.ref f) :=
  ⟨⟨_, PySem.W.mg_of X G a, rfl⟩, r⟩
theorem ci_tup {K : PySem.W.Frag} {h : Heap} {mg : Str → Option Value} {x : Str} {f : Addr} {ds : List D} {xs : List V} {od : Option Addr} {its : Array Value} {n : Nat} {sl : Array (Option Value)} (X : K.In h) (G : h.Ns mainGlobals mg) (a : PySem.W.nsIn K mainGlobals x = some (some (.ref f))) (l : K.lookup f = some ⟨.type "tuple", od, .seq its n, sl⟩) (z : its.size ≤ sizeLine) (r : ∀ F : Hp, Rps K F ds xs) (v : Vals xs its.toList) : CI K mg x (.tuple ds) (.ref f) :=
  ci_ref X G a fun F => rp_tup l z v F (r F)
end RR
end
section
namespace RR
open PySem PySem.Spec L2
open PyProof.Rows hiding St
structure DK (K : PySem.W.Frag) (w : World) (mg : Str → Option Value) (x : Str) (kvs : List (D × D)) (a : Addr) : Prop where
  nm : mg x = some (.ref a)
  kd : ∃ es n, KDict K w a es n
  at_ : ∀ z d, dLook kvs (.str z) = some d → ∃ u v, PySem.W.nsIn K a z = some (some u) ∧ RelV v u ∧ ∀ F, Rp K F d v
  no : ∀ z, dLook kvs (.str z) = none → PySem.W.nsIn K a z = some none
def kIn (kvs : List (D × D)) : D → Option D
  | .str z => some (.bool (dLook kvs (.str z)).isSome)
  | _ => none
def kNin (kvs : List (D × D)) : D → Option D
  | .str z => some (.bool (!(dLook kvs (.str z)).isSome))
  | _ => none
def kIx (kvs : List (D × D)) : D → Option D
  | .str z => dLook kvs (.str z)
  | _ => none
section
variable {X : Cx} {p : Pm} {O : List Nat} {e : Expr} {te : TE} {me : ME} {pos q : Pos} {x : Str} {kvs : List (D × D)} {a : Addr}
theorem DK.pe (h : DK X.K X.w X.mg x kvs a) (hg : Gl X x) (hd : (x == ("__debug__" : Str)) = false := by decide) : PE X (.Name x q) (tC (.ref a)) := pe_glob hg h.nm rfl hd
end
end RR
end
section
namespace RR
open PySem PySem.Spec L2
open PyProof.Rows hiding St
inductive EsRel (K : PySem.W.Frag) : List (D × D) → List DictEntry → Prop
  | nil : EsRel K [] []
  | cons {z : Str} {t : Nat} {hs : Int} {u : Value} {v : V} {d : D} {kvs : List (D × D)} {es : List DictEntry} : RelV v u → (∀ F, Rp K F d v) → EsRel K kvs es → EsRel K ((.str z, d) :: kvs) (⟨hs, .str z t, u⟩ :: es)
theorem isStr_str (z y : Str) (t : Nat) : (Value.str z t).isStr y = decide (z = y) := by
  show (z == y) = decide (z = y)
  by_cases e : z = y
  · subst e; simp
  · rw [decide_eq_false e]; simp [e]
theorem eqv_str (z y : Str) : PyData.eqv (.str z) (.str y) = decide (z = y) := by
  simp only [PyData.eqv]
  by_cases e : z = y
  · subst e; simp
  · rw [decide_eq_false e]; simp [e]
theorem EsRel.look {K : PySem.W.Frag} {kvs : List (D × D)} {es : List DictEntry} (h : EsRel K kvs es) (z : Str) :
    (∀ d, dLook kvs (.str z) = some d → ∃ e v, es.find? (fun x => x.key.isStr z) = some e ∧ RelV v e.val ∧ ∀ F, Rp K F d v) ∧ (dLook kvs (.str z) = none → es.find? (fun x => x.key.isStr z) = none) ∧ es.any (fun x => x.refKey) = false := by
  induction h with
  | nil => exact ⟨fun d e => (by cases e), fun _ => rfl, rfl⟩
  | @cons y t hs u v d kvs es r q h ih =>
    obtain ⟨i1, i2, i3⟩ := ih
    unfold dLook at i1 i2 ⊢
    by_cases e : y = z
    · refine ⟨fun d' w => ?_, fun w => ?_, ?_⟩
      · rw [List.find?_cons_of_pos (by rw [eqv_str]; exact decide_eq_true e)] at w
        cases w
        exact ⟨_, v, List.find?_cons_of_pos (by rw [isStr_str]; exact decide_eq_true e), r, q⟩
      · rw [List.find?_cons_of_pos (by rw [eqv_str]; exact decide_eq_true e)] at w
        cases w
      · rw [List.any_cons, i3]; rfl
    · refine ⟨fun d' w => ?_, fun w => ?_, ?_⟩
      · rw [List.find?_cons_of_neg (by rw [eqv_str, decide_eq_false e]; decide)] at w
        rw [List.find?_cons_of_neg (by rw [isStr_str, decide_eq_false e]; decide)]
        exact i1 d' w
      · rw [List.find?_cons_of_neg (by rw [eqv_str, decide_eq_false e]; decide)] at w
        rw [List.find?_cons_of_neg (by rw [isStr_str, decide_eq_false e]; decide)]
        exact i2 w
      · rw [List.any_cons, i3]; rfl
end RR
end
section
namespace RR
open PySem PySem.Spec L2
open PyProof.Rows hiding St
/-- the law's def as the head finds it, its promise told of any base: what walkG asks -/
theorem fin_mk {l : PySem.W.OpenLaw} {w : World} {K : PySem.W.Frag} {h : Heap} {mg : Str → Option Value} {fa f : Addr} {st : Stmt} {k : Nat} {oc : Value} {od an : Option Addr} {sl : Array (Option Value)} {kV doc pm cdv ct : Value} (X : K.In h) (G : h.Ns mainGlobals mg) (hfa : mg "law" = some (.ref fa))
    (a : PySem.W.nsIn K mainGlobals "law" = some (some (.ref f))) (lk : K.lookup f = some ⟨oc, od, .func (PySem.W.fnOf "law" "law" (defArgs st) (defBody st) (defScope st) .none kV doc pm an cdv ct), sl⟩) (c : PySem.W.codeIn K cdv "law" = true) (kp : PySem.W.keepIn K (.ref f) = true)
    (hb : ∀ (s : Shared) (v : Value), BindsTo s (PySem.W.fnOf "law" "law" (defArgs st) (defBody st) (defScope st) .none kV doc pm an cdv ct) ⟨[v], []⟩ [("script", v)])
    (hF : ∀ (base : Heap) (fd : FuncData), (∃ mm, base.Ns sysModules mm) → Fun K "law" "law" st f fd → FnG l.prog w K mg base k f fd ["script"] (spLaw K)) :
    ∃ fd : FuncData, (∀ (s : Shared) (v : Value), BindsTo s fd ⟨[v], []⟩ [("script", v)]) ∧ ∀ base : Heap, K.In base → base.Ns mainGlobals mg → (∃ mm, base.Ns sysModules mm) → FnG l.prog w K mg base k fa fd ["script"] (spLaw K) := by
  have e := hfa.symm.trans (PySem.W.mg_of X G a)
  cases e
  exact ⟨_, hb, fun base _ _ sy => hF base _ sy (fun_mk (st := st) lk c kp)⟩
end RR
end
section
namespace RR
open PySem PySem.Spec L2
open PyProof.Rows hiding St
section
variable {K : PySem.W.Frag} {d : D} {v : V} {ds : List D} {xs : List V}
theorem rq_str {x : Str} : ∀ F : Hp, Rp K F (.str x) (.str x) := fun _ => .str x
theorem rqs_nil : ∀ F : Hp, Rps K F [] [] := fun _ => .nil
theorem rqs_cons (h : ∀ F : Hp, Rp K F d v) (t : ∀ F : Hp, Rps K F ds xs) : ∀ F : Hp, Rps K F (d :: ds) (v :: xs) := fun F => .cons (h F) (t F)
end
end RR
end
section
namespace RR
open PySem PySem.Spec L2
open PyProof.Rows hiding St
open PySem.W (alike dataLt minD maxD)
def permL {α : Type} (is : List Nat) (xs : List α) : List α := is.filterMap fun i => xs[i]?
@[reducible] def mCallK (mf : MP) (is : List Nat) (ma : MA) : ME := fun Γ n Q => ma Γ n fun ds n1 => ds.length = is.length ∧ mf (permL is ds) fun d => Q d n1
theorem ifs' {α : Type} {c : Prop} [Decidable c] {x y : α} (h : (if c then some x else none) = some y) : c ∧ x = y := by
  by_cases k : c
  · rw [if_pos k] at h; cases h; exact ⟨k, rfl⟩
  · rw [if_neg k] at h; cases h
def notNone : D → Bool
  | .none => false
  | _ => true
def alikeB (xs : List D) : Bool := xs.all (fun x => xs.all fun y => alike x y) && xs.all notNone
def okMin (xs : List D) : Bool := alikeB xs && PyData.canLayAll0 xs && decide (PyData.depthAll xs ≤ 60)
def cMinD : List D → Option D
  | [.list (x :: xs)] => if okMin (x :: xs) = true then some (minD x xs) else none
  | _ => none
end RR
end
section
namespace RR
open PySem PySem.Spec L2
open PyProof.Rows hiding St
open PySem.W (alike dataLt minD maxD)
theorem keyOf_D (k : Key) : keyOf (keyD k) = some k := by cases k <;> rfl
def putD (kvs : List (D × D)) (k : Key) (d : D) : List (D × D) :=
  if (kvs.any fun q => decide (keyOf q.1 = some k)) = true then kvs.map (fun q => if keyOf q.1 = some k then (q.1, d) else q) else kvs ++ [(keyD k, d)]
inductive RKs (K : PySem.W.Frag) (F : Hp) : List (D × D) → List (Key × V) → Prop
  | nil : RKs K F [] []
  | cons {k : Key} {d : D} {v : V} {ds : List (D × D)} {kvs : List (Key × V)} : Rp K F d v → RKs K F ds kvs → RKs K F ((keyD k, d) :: ds) ((k, v) :: kvs)
section
variable {K : PySem.W.Frag} {F F' : Hp}
theorem RKs.mono {ds : List (D × D)} {kvs : List (Key × V)} (h : RKs K F ds kvs) (e : Same F F') : RKs K F' ds kvs := by
  induction h with
  | nil => exact .nil
  | cons r _ ih => exact .cons (r.mono e) ih
theorem RKs.keys {ds : List (D × D)} {kvs : List (Key × V)} (h : RKs K F ds kvs) : ds.map (·.1) = kvs.map (fun p => keyD p.1) := by
  induction h with
  | nil => rfl
  | cons r _ ih => rw [List.map_cons, List.map_cons, ih]
theorem RKs.at_ {ds : List (D × D)} {kvs : List (Key × V)} (h : RKs K F ds kvs) : ∀ (i : Nat) x d, kvs[i]? = some x → ds[i]? = some d → Rp K F d.2 x.2 := by
  induction h with
  | nil => intro i x d e; simp at e
  | cons r _ ih =>
    intro i x d e1 e2
    cases i with
    | zero => simp at e1 e2; subst e1 e2; exact r
    | succ i => exact ih i x d (by simpa using e1) (by simpa using e2)
theorem RKs.len {ds : List (D × D)} {kvs : List (Key × V)} (h : RKs K F ds kvs) : ds.length = kvs.length := by
  induction h with
  | nil => rfl
  | cons r _ ih => rw [List.length_cons, List.length_cons, ih]
theorem RKs.append {ds es : List (D × D)} {kvs lvs : List (Key × V)} (h : RKs K F ds kvs) (t : RKs K F es lvs) : RKs K F (ds ++ es) (kvs ++ lvs) := by
  induction h with
  | nil => exact t
  | cons r _ ih => exact .cons r ih
theorem RKs.any {ds : List (D × D)} {kvs : List (Key × V)} (h : RKs K F ds kvs) (k : Key) : (ds.any fun q => decide (keyOf q.1 = some k)) = kvs.any fun kv => decide (kv.1 = k) := by
  induction h with
  | nil => rfl
  | cons r _ ih =>
    rw [List.any_cons, List.any_cons, ih, keyOf_D]
    congr 1
    exact decide_eq_decide.mpr ⟨fun e => Option.some.inj e, fun e => congrArg some e⟩
theorem RKs.map {ds : List (D × D)} {kvs : List (Key × V)} (h : RKs K F ds kvs) (k : Key) {d : D} {v : V} (r : Rp K F d v) : RKs K F (ds.map fun q => if keyOf q.1 = some k then (q.1, d) else q) (kvs.map fun kv => if kv.1 = k then (kv.1, v) else kv) := by
  induction h with
  | nil => exact .nil
  | @cons k' d' v' _ _ r' _ ih =>
    rw [List.map_cons, List.map_cons]
    by_cases e : k' = k
    · rw [if_pos (show keyOf (keyD k') = some k by rw [keyOf_D, e]), if_pos (show k' = k from e)]
      exact .cons r ih
    · rw [if_neg (show ¬ keyOf (keyD k') = some k by rw [keyOf_D]; exact fun z => e (Option.some.inj z)), if_neg (show ¬ k' = k from e)]
      exact .cons r' ih
theorem RKs.put {ds : List (D × D)} {kvs : List (Key × V)} (h : RKs K F ds kvs) (k : Key) {d : D} {v : V} (r : Rp K F d v) : RKs K F (putD ds k d) (putK kvs k v) := by
  unfold putD putK
  rw [h.any k]
  split
  · exact h.map k r
  · exact h.append (.cons r .nil)
end
def dcompW (g : MG) (t : MT) (ek ev : ME) (Γ : DEnv) : List D → Nat → List (D × D) → (List (D × D) → Nat → Prop) → Prop
  | [], n, acc, Q => Q acc n
  | d :: ds, n, acc, Q => g d Γ fun Γ2 => t Γ2 n fun b n1 => if b = true then ek Γ2 n1 fun kd n2 => ev Γ2 n2 fun y n3 => ∃ k, keyOf kd = some k ∧ dcompW g t ek ev Γ ds n3 (putD acc k y) Q else dcompW g t ek ev Γ ds n1 acc Q
@[reducible] def mDc (mi : MI) (g : MG) (t : MT) (ek ev : ME) (vs : List Nat) : ME := fun Γ n Q => mi Γ n fun ds n1 => ds.length ≤ lim ∧ dcompW g t ek ev (wipeD Γ vs) ds n1 [] fun r n2 => Q (.dict r) n2
theorem Rp.key {K : PySem.W.Frag} {F : Hp} {d : D} {v : V} {k : Key} (r : Rp K F d v) (h : keyOf d = some k) : v = kV k := by
  cases r <;> (unfold keyOf at h; first | (cases h; done) | (cases h; rfl))
def scalSame : D → D → Bool
  | .none, .none => true
  | .int _, .int _ => true
  | .str _, .str _ => true
  | .bool _, .bool _ => true
  | _, _ => false
def sameOne (es : List (D × D)) (q : D × D) : Bool := match dLook es q.1 with | some d => PyData.eqv d q.2 && scalSame d q.2 | none => false
def sameDict (ds es : List (D × D)) : Bool := decide (ds.length = es.length) && ds.all (sameOne es)
/-- two dicts that hold the same, also such as are walked -/
def rDR (c : Bool) : R2 := fun x y H Q => ∃ p q l m, x = .ref p ∧ y = .ref q ∧ Rd H p (.dK l) ∧ Rd H q (.dK m) ∧ l.length = m.length ∧ (∀ z ∈ l, valV m z.1 = some z.2 ∧ flatB z.2 = true) ∧ Q (.bl c) H
theorem op_neR {X : Cx} (hu : X.A.units < cLine) : OpR X (compareOp .NotEq) (rDR false) := fun pins s σ H x y v u Q I rx ry w => by
  obtain ⟨p, q, l, m, rfl, rfl, r1, r2, sz, hz, fin⟩ := w
  cases rx
  cases ry
  obtain ⟨-, n1, v1, k1, d1⟩ := dk_rd I.hok r1
  obtain ⟨-, n2, v2, k2, d2⟩ := dk_rd I.hok r2
  have e : v1.length = v2.length := k1.length.symm.trans (sz.trans k2.length)
  exact PySem.W.keq_ne (r := true) n1 n2 d1 d2 hu (fun _ => hits_all k2 k1 hz) (fin_bl I fin (by simp [e]))
def dNeX (x y : D) : Option D := match x, y with
  | .dict ds, .dict es => if sameDict ds es = true then some (.bool false) else none
  | x, y => dNe x y
section
variable {K : PySem.W.Frag} {F : Hp}
theorem scal_same {d e : D} {v u : V} (h : scalSame d e = true) (q : PyData.eqv d e = true) (r : Rp K F d v) (r2 : Rp K F e u) : v = u ∧ flatB u = true := by
  cases d <;> cases e <;> (try (cases h; done)) <;> cases r <;> cases r2
  · exact ⟨rfl, rfl⟩
  · rw [PyData.eqv] at q; rw [eq_of_beq q]; exact ⟨rfl, rfl⟩
  · rw [PyData.eqv] at q; rw [eq_of_beq q]; exact ⟨rfl, rfl⟩
  · rw [PyData.eqv] at q; rw [eq_of_beq q]; exact ⟨rfl, rfl⟩
theorem same_dict {ds es : List (D × D)} {ks ls : List (Key × V)} (h : sameDict ds es = true) (k1 : ds.map (·.1) = ks.map (fun p => keyD p.1)) (r1 : ∀ (i : Nat) x d, ks[i]? = some x → ds[i]? = some d → Rp K F d.2 x.2)
    (k2 : es.map (·.1) = ls.map (fun p => keyD p.1)) (r2 : ∀ (i : Nat) x d, ls[i]? = some x → es[i]? = some d → Rp K F d.2 x.2) : ks.length = ls.length ∧ ∀ p ∈ ks, valV ls p.1 = some p.2 ∧ flatB p.2 = true := by
  unfold sameDict at h
  rw [Bool.and_eq_true, decide_eq_true_eq] at h
  have l1 := congrArg List.length k1
  have l2 := congrArg List.length k2
  rw [List.length_map, List.length_map] at l1 l2
  refine ⟨by omega, fun p hp => ?_⟩
  obtain ⟨i, hi, rfl⟩ := List.getElem_of_mem hp
  have hd : i < ds.length := by omega
  have e1 : ds[i].1 = keyD ks[i].1 := by
    have := congrArg (fun l => l[i]?) k1
    simp only [List.getElem?_map, List.getElem?_eq_getElem hd, List.getElem?_eq_getElem hi, Option.map_some] at this
    exact Option.some.inj this
  have hq := List.all_eq_true.mp h.2 ds[i] (List.getElem_mem hd)
  unfold sameOne at hq
  rw [e1] at hq
  have lk := dct_look ks[i].1 k2 r2
  split at hq
  · rename_i d hd2
    rw [Bool.and_eq_true] at hq
    rw [hd2] at lk
    obtain ⟨v, e2, rv⟩ := lk
    obtain ⟨e3, e4⟩ := scal_same hq.2 hq.1 rv (r1 i _ _ (List.getElem?_eq_getElem hi) (List.getElem?_eq_getElem hd))
    exact ⟨by rw [e2, e3], e4⟩
  · cases hq
theorem l_neX : OpL K (fun x y H Q => rNeA K x y H Q ∨ rDR false x y H Q) dNeX := fun F H x y dx dy d s rx ry fe Q' k => by
  unfold dNeX at fe
  split at fe
  · obtain ⟨h, rfl⟩ := ifs' fe
    cases rx with
    | dct a1 a2 a3 =>
      cases ry with
      | dct b1 b2 b3 =>
        obtain ⟨w1, w2⟩ := same_dict h a2 a3 b2 b3
        exact .inr ⟨_, _, _, _, rfl, rfl, Same.rd s a1, Same.rd s b1, w1, w2, k _ F H (.refl s) (.bl _)⟩
  · exact .inl (l_ne F H x y _ _ d s rx ry fe Q' k)
end
theorem oNeX {X : Cx} {K : PySem.W.Frag} (hK : K = X.K) (hu : X.A.units + 64 < cLine) : OpR X (compareOp .NotEq) (fun x y H Q => rNeA K x y H Q ∨ rDR false x y H Q) := hK ▸ (o_ne hu).or (op_neR (by omega))
end RR
end
section
namespace RR
open PySem PySem.Spec L2
open PyProof.Rows hiding St
section
variable {X : Cx} {K : PySem.W.Frag} {p : Pm} {O : List Nat} {e : Expr} {pos : Pos} {te : TE} {me : ME}
def dRev : D → Option D
  | .list xs => some (.list xs.reverse)
  | .tuple xs => some (.tuple xs.reverse)
  | _ => none
@[reducible] def mRev (me : ME) : ME := fun Γ n Q => me Γ n fun x n1 => ∃ d, dRev x = some d ∧ Q d n1
end
end RR
end
section
namespace RR
open PySem PySem.Spec L2
open PyProof.Rows hiding St
abbrev MPs := DEnv → Nat → (List (D × D) → Nat → Prop) → Prop
@[reducible] def mpNil : MPs := fun _ n Q => Q [] n
@[reducible] def mpCons (mk mv : ME) (r : MPs) : MPs := fun Γ n Q => mk Γ n fun kd n1 => mv Γ n1 fun d n2 => r Γ n2 fun ps n3 => Q ((kd, d) :: ps) n3
section
variable {X : Cx} {p : Pm} {O : List Nat} {pos : Pos} {k v e : Expr} {ks : List (Option Expr)} {vs : List Expr} {tk tv te : TE} {mk mv me : ME} {t : List (TE × TE)} {m : MPs}
def keysD : List (D × D) → Option (List (Key × D))
  | [] => some []
  | (kd, d) :: r => (keyOf kd).bind fun k => (keysD r).bind fun l => some ((k, d) :: l)
def mergeD (acc : List (D × D)) (l : List (Key × D)) : List (D × D) := l.foldl (fun a q => putD a q.1 q.2) acc
def dispD (ps : List (D × D)) : Option D := (keysD ps).bind fun l => if l.length ≤ 15 then some (.dict (mergeD [] l)) else none
@[reducible] def mDisp (m : MPs) : ME := fun Γ n Q => m Γ n fun ps n1 => ∃ d, dispD ps = some d ∧ Q d n1
theorem bnd0 {α β : Type} {x : Option α} {f : α → Option β} {b : β} (h : x.bind f = some b) : ∃ a, x = some a ∧ f a = some b := by
  cases x with
  | none => cases h
  | some a => exact ⟨a, rfl, h⟩
end
end RR
end
section
namespace RR
open PySem PySem.Spec L2
open PyProof.Rows hiding St
open PySem.W (alike dataLt dataLe EachIs)
def fullTup : D → Bool
  | .tuple (_ :: _) => true
  | _ => false
def otherKind : D → Bool
  | .none => false
  | .tuple _ => false
  | _ => true
def okSort (xs : List D) : Bool := xs.all (fun x => xs.all fun y => alike x y) && (xs.all fullTup || xs.all otherKind) && PyData.canLayAll0 xs && decide (PyData.depthAll xs ≤ 60)
def sortD (xs : List D) : List D := xs.mergeSort (dataLe false id)
def cSorted : List D → Option D
  | [.list xs] => if okSort xs = true then some (.list (sortD xs)) else none
  | _ => none
theorem okSort_alike {xs : List D} (h : xs.all (fun x => xs.all fun y => alike x y) = true) : PySem.W.AllAlike xs := by
  rw [List.all_eq_true] at h
  exact fun x hx y hy => List.all_eq_true.mp (h x hx) y hy
theorem okSort_kind {xs : List D} (h : (xs.all fullTup || xs.all otherKind) = true) : PySem.W.Sortable xs := by
  rw [Bool.or_eq_true, List.all_eq_true, List.all_eq_true] at h
  rcases h with h | h
  · refine .inl fun d hd => ?_
    have := h d hd
    cases d <;> try (cases this; done)
    rename_i ys
    cases ys with
    | nil => cases this
    | cons y ys => exact ⟨y, ys, rfl⟩
  · refine .inr fun d hd => ?_
    have := h d hd
    cases d <;> first | (cases this; done) | exact ⟨(fun e => nomatch e), (fun ys e => nomatch e)⟩
theorem depth_at : ∀ {xs : List D} {d : D}, d ∈ xs → d.depth ≤ PyData.depthAll xs
  | x :: xs, d, h => by
    rw [PyData.depthAll]
    rcases List.mem_cons.mp h with rfl | h
    · exact Nat.le_max_left _ _
    · exact Nat.le_trans (depth_at h) (Nat.le_max_right _ _)
theorem zip_snd : ∀ (vs : List V) (xs : List D), vs.length = xs.length → (vs.zip xs).map Prod.snd = xs
  | [], [], _ => rfl
  | v :: vs, x :: xs, h => by
    rw [List.zip_cons_cons, List.map_cons, zip_snd vs xs (by simpa using h)]
  | [], _ :: _, h => by simp at h
  | _ :: _, [], h => by simp at h
theorem each_zip : ∀ {vs : List V} {its : List Value} {xs : List D}, Vals vs its → vs.length = xs.length → EachIs (fun v (b : V × D) => RelV b.1 v) its (vs.zip xs)
  | _, _, [], .nil, _ => .nil
  | _, _, x :: xs, .cons r rs, h => .cons r (each_zip rs (by simpa using h))
  | _, _, _ :: _, .nil, h => by simp at h
  | _, _, [], .cons _ _, h => by simp at h
theorem each_reads {h : Heap} : ∀ {its : List Value} {xs : List D} {as : List Addr} (vs : List V), ReadsAll h its xs as → vs.length = xs.length → EachIs (fun v (b : V × D) => ∃ as, Reads h v b.2 as) its (vs.zip xs)
  | _, _, _, [], .nil, _ => .nil
  | _, _, _, v :: vs, .cons r rs, h => .cons ⟨_, r⟩ (each_reads vs rs (by simpa using h))
  | _, _, _, _ :: _, .nil, h => by simp at h
  | _, _, _, [], .cons _ _, h => by simp at h
section
variable {X : Cx} {K : PySem.W.Frag}
def rSortD (K : PySem.W.Frag) : List V → Hp → VK → Prop := fun args H Q => ∃ (a : Addr) (vs : List V) (xs : List D), args = [.ref a] ∧ SqL K H a vs ∧ DpAll K H vs xs ∧ vs.length = xs.length ∧ okSort xs = true ∧
  ∀ (p : Addr) (bs : List (V × D)), bs.map Prod.snd = sortD xs → (∀ b ∈ bs, b ∈ vs.zip xs) → H p = none → Q (.ref p) (upd H p (.lst (bs.map Prod.fst)))
theorem each_fst : ∀ {out : List Value} {bs : List (V × D)}, EachIs (fun v (b : V × D) => RelV b.1 v) out bs → Vals (bs.map Prod.fst) out
  | _, _, .nil => .nil
  | _, _, .cons r rs => .cons r (each_fst rs)
theorem call_sortD (hc : X.calm = true) (hw : X.A.units + 66 < cLine) : CallR X (.builtin "sorted") (rSortD X.K) := fun pins s σ H args us Q I r h => by
  obtain ⟨a, vs, xs, rfl, hs, hd, hln, ok, q⟩ := h
  obtain ⟨its, rv, hl, hz⟩ := I.list hs
  rw [Vals.ref1 r]
  obtain ⟨as, rd⟩ := Dp.readsAll I _ _ its hd rv
  unfold okSort at ok
  rw [Bool.and_eq_true, Bool.and_eq_true, Bool.and_eq_true, decide_eq_true_eq] at ok
  obtain ⟨⟨⟨o1, o2⟩, o3⟩, o4⟩ := ok
  have ez := zip_snd vs xs hln
  have lz : (vs.zip xs).length = xs.length := by rw [List.length_zip]; omega
  refine PySem.W.sorted_data (bs := vs.zip xs) (enc := Prod.snd) (R := fun v b => RelV b.1 v) hl.isList (each_zip rv hln) (each_reads vs rd hln) (by rw [ez]; exact okSort_alike o1) (by rw [ez]; exact okSort_kind o2) (by omega) (fun b hb => ?_) fun out ho eo => ?_
  · have : b.2 ∈ xs := by rw [← ez]; exact List.mem_map_of_mem hb
    have := depth_at this
    omega
  · obtain ⟨ep, he'⟩ := PyProof.Rows.sortedAll_at s.heap its out.toArray
    have hlen : (((vs.zip xs).mergeSort (dataLe false Prod.snd)).map Prod.fst).length ≤ sizeLine := by
      rw [List.length_map, List.length_mergeSort]
      omega
    refine ⟨.ref _, upd H (s.heap.objs.size + 1) (.lst (((vs.zip xs).mergeSort (dataLe false Prod.snd)).map Prod.fst)), I.laid (t' := s.toks) (fun _ _ => PyProof.Rows.sortedAll_old) (Nat.le_succ _) ⟨hlen, out, ep, each_fst eo, he'⟩, rfl, q _ _ ?_ ?_ (I.hok.fresh (Nat.le_succ _))⟩
    · have hm : ((vs.zip xs).mergeSort (dataLe false Prod.snd)).map Prod.snd = ((vs.zip xs).map Prod.snd).mergeSort (dataLe false id) := List.map_mergeSort (fun a _ b _ => rfl)
      rw [hm, ez]
      rfl
    · intro b hb
      exact List.mem_mergeSort.mp hb
theorem zip_rp {F : Hp} {xs : List D} {vs : List V} (r : Rps K F xs vs) {b : V × D} (h : b ∈ vs.zip xs) : Rp K F b.2 b.1 := by
  obtain ⟨i, hi, rfl⟩ := List.getElem_of_mem h
  rw [List.length_zip] at hi
  rw [List.getElem_zip]
  exact r.at_ i _ _ (List.getElem?_eq_getElem (by omega)) (List.getElem?_eq_getElem (by omega))
theorem rps_of {F : Hp} : ∀ {bs : List (V × D)}, (∀ b ∈ bs, Rp K F b.2 b.1) → Rps K F (bs.map Prod.snd) (bs.map Prod.fst)
  | [], _ => .nil
  | b :: bs, h => .cons (h b (List.mem_cons_self ..)) (rps_of fun c hc => h c (List.mem_cons_of_mem _ hc))
theorem l_sorted : ClL K (rSortD K) cSorted := fun F H args ds d s r fe Q' k => by
  unfold cSorted at fe
  split at fe
  · rename_i xs
    obtain ⟨ok, rfl⟩ := ifs' fe
    obtain ⟨v, w, rfl, r1, r2⟩ := r.uncons
    cases r2.unnil
    obtain ⟨a, vs, rfl, h1, h2⟩ := r1.lst_inv
    have hcl : PyData.canLayAll0 xs = true := by
      unfold okSort at ok
      rw [Bool.and_eq_true, Bool.and_eq_true] at ok
      exact ok.1.2
    refine ⟨a, vs, xs, rfl, .of (s _ _ h1), Rp.dps _ _ hcl (h2.mono s), h2.len, ok, fun p bs e1 e2 hp => ?_⟩
    have rr := rps_of (K := K) (F := F) fun b hb => zip_rp h2 (e2 b hb)
    rw [e1] at rr
    exact k _ _ _ (Gr.new1 s hp _) (Rp.new_lst (H := H) rr (s.free hp))
  · cases fe
end
theorem fnSorted {X : Cx} {K : PySem.W.Frag} (hK : K = X.K) (hc : X.calm = true) (hx : X.A.units + 66 < cLine) : CallR X (.builtin "sorted") (rSortD K) := hK ▸ call_sortD hc hx
end RR
end
section
namespace RR
open PySem PySem.Spec L2
open PyProof.Rows hiding St
section
variable {X : Cx} {K : PySem.W.Frag} {pins : List (Addr × Obj)} {σ : St} {H : Hp} {s : Shared}
/-- repr of any data -/
def repOkD (d : D) : Bool := d.showable && decide (d.depth ≤ 64) && decide (d.shown.length ≤ sizeLine)
end
end RR
end
section
namespace RR
open PySem PySem.Spec L2
open PyProof.Rows hiding St
section
variable {X : Cx} {p : Pm} {O : List Nat} {e : Expr} {te : TE} {me : ME} {tT : TT} {mT : MT}
/-- out of a look: the frozen thing is one's own again -/
theorem Sep.unlookN {F0 H0 F H F1 F2 H2 : Hp} {σ : St} {Γ : DEnv} {n n2 : Nat} {i : Nat} (s : Sep p F0 H0 O F H σ Γ n) (e1 : Same F F1) (hn : ∀ b o, F1 b = some o → F b = some o ∨ (i ∈ O ∧ σ[i]? = some (some (.ref b)) ∧ ∃ d, Γ[i]? = some (some d)))
    (s2 : Sep p F0 H0 (O.filter (· ≠ i)) F2 H2 σ Γ n2) (g : Gp p F1 H F2 H2) : ∃ F3, Sep p F0 H0 O F3 H2 σ Γ n2 ∧ Gp p F H F3 H2 ∧ ∀ b, F2 b = none → F3 b = none := by
  by_cases hi : i ∈ O ∧ ∃ d, Γ[i]? = some (some d)
  · obtain ⟨hi, d, ed⟩ := hi
    obtain ⟨a, ea, w, fa, h0a, pa⟩ := s.ow i hi d ed
    have key : ∀ b o, F1 b = some o → b ≠ a → F b = some o := fun b o h hb => by
      rcases hn b o h with z | ⟨_, z, _⟩
      · exact z
      · rw [ea] at z; cases z; exact absurd rfl hb
    have nf : ∀ {b : Addr} {o : HO}, F b = some o → b ≠ a := fun h z => by rw [z, fa] at h; cases h
    have f3 : ∀ b o, F b = some o → (fun b => if b = a then none else F2 b) b = some o := fun b o h => by
      show (if b = a then none else F2 b) = some o
      rw [if_neg (nf h)]
      exact g.f _ _ (e1 _ _ h)
    have f32 : ∀ b o, (fun b => if b = a then none else F2 b) b = some o → b ≠ a ∧ F2 b = some o := fun b o h => by
      have h' : (if b = a then none else F2 b) = some o := h
      by_cases z : b = a
      · rw [if_pos z] at h'; cases h'
      · rw [if_neg z] at h'; exact ⟨z, h'⟩
    obtain ⟨oa, hoa⟩ := w.at
    have ha2 : ∀ {u : HO}, H a = some u → H2 a = some u := fun h => g.h a _ h pa
    refine ⟨fun b => if b = a then none else F2 b, ⟨fun b o h => f3 b o (s.f0 b o h), fun b o h => s2.fh _ _ (f32 b o h).2, s2.stay, fun b o h => s2.newF b o (f32 b o h).2, fun b j h => ?_, s.len, fun j dj hj h => ?_, fun j hj dj h => ?_, s.dj⟩, ⟨fun b o h => f3 b o h, g.h, fun b o h => ?_⟩, fun b hb => by
      show (if b = a then none else F2 b) = none
      split
      · rfl
      · exact hb⟩
    · obtain ⟨h1, h2, ⟨x, l, xs, z1, z2, z3⟩, zt⟩ := s2.pen b j h
      obtain ⟨_, _, ⟨_, _, ys, _, y2, _⟩, _⟩ := s.pen b j h
      have hb : b ≠ a := fun z => pa ⟨b, j, h, .inl z.symm⟩
      have hd : p.dr.ad ≠ a := nf y2
      refine ⟨?_, h2, ⟨x, l, xs, z1, ?_, z3⟩, fun y hy => ?_⟩
      · show (if b = a then none else F2 b) = none
        rw [if_neg hb]; exact h1
      · show (if p.dr.ad = a then none else F2 p.dr.ad) = some _
        rw [if_neg hd]; exact z2
      · obtain ⟨t1, ps, t2, t3, t4⟩ := zt y hy
        refine ⟨?_, ps, t2, t3, fun pos cv hc => ?_⟩
        · show (if y.1 = a then none else F2 y.1) = none
          split
          · rfl
          · exact t1
        · obtain ⟨c, e1, e2⟩ := t4 pos cv hc
          refine ⟨c, e1, ?_⟩
          show (if c = a then none else F2 c) = some _
          rw [if_neg fun z => ?_]
          · exact e2
          · have h3 := s2.fh _ _ e2
            have h4 := g.h a _ hoa pa
            rw [z, h4] at h3
            exact w.notCode hoa _ (Option.some.inj h3)
    · obtain ⟨v, h1, r⟩ := s.sh j dj hj h
      exact ⟨v, h1, r.mono f3⟩
    · obtain ⟨b, h1, r, z1, z2, z3⟩ := s.ow j hj dj h
      have hb3 : (fun b => if b = a then none else F2 b) b = none := by
        show (if b = a then none else F2 b) = none
        by_cases z : b = a
        · rw [if_pos z]
        · rw [if_neg z]
          by_cases hji : j = i
          · subst hji
            rw [ea] at h1
            cases h1
            exact absurd rfl z
          · obtain ⟨b', h1', _, z1', _⟩ := s2.ow j (List.mem_filter.mpr ⟨hj, by simpa using hji⟩) dj h
            rw [h1] at h1'
            cases h1'
            exact z1'
      refine ⟨b, h1, ?_, hb3, z2, z3⟩
      cases r with
      | lst q1 q2 => exact .lst (g.h _ _ q1 z3) (q2.mono f3)
      | dct q1 q2 q3 => exact .dct (g.h _ _ q1 z3) q2 fun i x d a b => (q3 i x d a b).mono f3
    · obtain ⟨h1, h2⟩ := f32 b o h
      rcases g.new b o h2 with z | z | z
      · exact .inl (key b o z h1)
      · exact .inr (.inl z)
      · exact .inr (.inr z)
  · have hF : F1 = F := by
      funext b
      cases h : F1 b with
      | none => cases q : F b with
        | none => rfl
        | some o => rw [e1 _ _ q] at h; cases h
      | some o =>
        rcases hn b o h with z | ⟨z1, _, z2⟩
        · exact z.symm
        · exact absurd ⟨z1, z2⟩ hi
    subst hF
    refine ⟨F2, ⟨s2.f0, s2.fh, s2.stay, s2.newF, s2.pen, s.len, fun j dj hj h => s2.sh j dj (fun z => hj (List.mem_filter.mp z).1) h, fun j hj dj h => ?_, s.dj⟩, g, fun _ h => h⟩
    exact s2.ow j (List.mem_filter.mpr ⟨hj, by
      simp only [ne_eq, decide_not, Bool.not_eq_eq_eq_not, Bool.not_true, decide_eq_false_iff_not]
      intro z
      subst z
      exact hi ⟨hj, dj, h⟩⟩) dj h
def flatL : D → Bool
  | .list xs => xs.all flatD
  | _ => false
@[reducible] def mLookL (me : ME) : ME := fun Γ n Q => me Γ n fun d n1 => flatL d = true ∧ Q d n1
theorem Rps.flat_any {K : PySem.W.Frag} {F G : Hp} {ds : List D} {xs : List V} (f : ds.all flatD = true) (h : Rps K F ds xs) : Rps K G ds xs :=
  ⟨h.len, fun i x d e1 e2 => Rp.flat_any (List.all_eq_true.mp f d (List.mem_of_getElem? e2)) (h.at_ i x d e1 e2)⟩
theorem lf_look (i : Nat) (h : LF p (O.filter (· ≠ i)) te me) : LF p O te (mLookL me) := fun F0 H0 F H σ Γ n Q s q Q' k => by
  obtain ⟨F1, e1, s1, hn⟩ := s.look i
  refine h F0 H0 F1 H σ Γ n _ s1 q _ fun d a F2 H2 n2 s2 g2 w f ha ⟨fl, q2⟩ => ?_
  obtain ⟨F3, s3, g3, z3⟩ := s.unlookN e1 hn s2 g2
  refine k d a F3 H2 n2 s3 g3 ?_ (z3 a f) ha q2
  cases w with
  | lst w1 w2 => exact .lst w1 (w2.flat_any fl)
  | dct _ _ _ => cases fl
theorem fLook (i : Nat) {O' : List Nat} (h : RF X p O' e te me) (k : O' = O.filter (· ≠ i)) : RF X p O e te (mLookL me) := ⟨h.pe, lf_look i (k ▸ h.le)⟩
end
end RR
end
section
namespace RR
open PySem PySem.Spec L2
open PyProof.Rows hiding St
end RR
end
section
namespace RR
open PySem PySem.Spec L2
open PyProof.Rows hiding St
/-- a dict of ours, locked or not -/
def DkO (u : HO) (kvs : List (Key × V)) : Prop := u = .dK kvs ∨ ∃ o, u = .frz o (.dK kvs)
section
variable {p : Pm} {F0 H0 F H F' H' : Hp} {O O' : List Nat} {σ σ' : St} {Γ Γ' : DEnv} {n n' : Nat} {a : Addr} {u w : HO} {kvs : List (Key × V)}
theorem DkO.ne_lst {xs : List V} (h : DkO u kvs) : u ≠ .lst xs := fun z => by subst z; rcases h with h | ⟨_, h⟩ <;> cases h
theorem DkO.rd (h : DkO w kvs) : Rd (upd F a w) a (.dK kvs) := by
  rcases h with rfl | ⟨o, rfl⟩
  · exact .inl upd_same
  · exact .inr ⟨o, upd_same⟩
theorem Rp.relock {K : PySem.W.Frag} {d : D} {v : V} (r : Rp K F d v) (hu : F a = some u) (h : DkO u kvs) (hw : DkO w kvs) : Rp K (upd F a w) d v := by
  induction r with
  | non => exact .non
  | bl b => exact .bl b
  | int i => exact .int i
  | str x => exact .str x
  | lst h1 h2 _ ih =>
    refine .lst ?_ h2 ih
    rw [upd_ne]
    · exact h1
    · intro z
      rw [z, hu] at h1
      exact h.ne_lst (Option.some.inj h1)
  | tup h1 h2 _ ih =>
    refine .tup ?_ h2 ih
    rcases h1 with (h1 | ⟨o, h1⟩) | h1
    · refine .inl (.inl ?_)
      rw [upd_ne]
      · exact h1
      · intro z
        rw [z, hu] at h1
        cases h1
        rcases h with h | ⟨_, h⟩ <;> cases h
    · refine .inl (.inr ⟨o, ?_⟩)
      rw [upd_ne]
      · exact h1
      · intro z
        rw [z, hu] at h1
        cases h1
        rcases h with h | ⟨_, h⟩ <;> cases h
    · exact .inr h1
  | @dct b l ds h1 h2 _ ih =>
    refine .dct ?_ h2 ih
    by_cases z : b = a
    · subst z
      have e : l = kvs := by
        rcases h1 with h1 | ⟨o, h1⟩
        · rw [hu] at h1; cases h1
          rcases h with h | ⟨_, h⟩ <;> cases h; rfl
        · rw [hu] at h1; cases h1
          rcases h with h | ⟨_, h⟩ <;> cases h; rfl
      subst e
      exact hw.rd
    · rcases h1 with h1 | ⟨o, h1⟩
      · exact .inl (by rw [upd_ne z]; exact h1)
      · exact .inr ⟨o, by rw [upd_ne z]; exact h1⟩
theorem Own.relock {K : PySem.W.Frag} {d : D} {b : Addr} (r : Own K F H d b) (hb : b ≠ a) (hu : F a = some u) (h : DkO u kvs) (hw : DkO w kvs) : Own K (upd F a w) (upd H a w) d b := by
  cases r with
  | lst q1 q2 => exact .lst (by rw [upd_ne hb]; exact q1) ⟨q2.len, fun i x d e1 e2 => (q2.at_ i x d e1 e2).relock hu h hw⟩
  | dct q1 q2 q3 => exact .dct (by rw [upd_ne hb]; exact q1) q2 fun i x d e1 e2 => (q3 i x d e1 e2).relock hu h hw
theorem PenAt.relock {dr b : Addr} (r : PenAt dr F H b n) (hb : b ≠ a) (hu : F a = some u) (h : DkO u kvs) : PenAt dr (upd F a w) (upd H a w) b n := by
  obtain ⟨x, l, xs, z1, z2, z3⟩ := r
  refine ⟨x, l, xs, by rw [upd_ne hb]; exact z1, ?_, z3⟩
  rw [upd_ne]
  · exact z2
  · intro z
    rw [z, hu] at z2
    exact h.ne_lst (Option.some.inj z2)
theorem DkO.ne_code {u : HO} {kvs : List (Key × V)} {c : Addr} {q : Str} (h : DkO u kvs) : u ≠ LamX.CodeO c q := fun z => by
  unfold LamX.CodeO at z
  subst z
  rcases h with h | ⟨_, h⟩ <;> cases h
theorem TabF.relock {T : List (Addr × Str)} (t : TabF T F H) (hu : F a = some u) (h : DkO u kvs) : TabF T (upd F a w) (upd H a w) := fun y hy => by
  obtain ⟨t1, ps, t2, t3, t4⟩ := t y hy
  have ne : y.1 ≠ a := fun z => by rw [z, hu] at t1; cases t1
  refine ⟨by rw [upd_ne ne]; exact t1, ps, by rw [upd_ne ne]; exact t2, t3, fun pos cv hc => ?_⟩
  obtain ⟨c, e1, e2⟩ := t4 pos cv hc
  refine ⟨c, e1, ?_⟩
  rw [upd_ne]
  · exact e2
  · intro z
    rw [z, hu] at e2
    exact h.ne_code (Option.some.inj e2)
/-- seen from within: the walked dict stands there, locked, from the start -/
theorem Sep.lock (s : Sep p F0 H0 O F H σ Γ n) (hu : F a = some u) (h : DkO u kvs) (hw : DkO w kvs) : Sep p (upd F0 a w) (upd H0 a w) O (upd F a w) (upd H a w) σ Γ n := by
  have hH := s.fh _ _ hu
  refine ⟨fun b o e => ?_, fun b o e => ?_, fun b o e q => ?_, fun b o e => ?_, fun b j e => ?_, s.len, fun j d hj e => ?_, fun j hj d e => ?_, s.dj⟩
  · by_cases z : b = a
    · subst z; rw [upd_same] at e ⊢; exact e
    · rw [upd_ne z] at e ⊢; exact s.f0 _ _ e
  · by_cases z : b = a
    · subst z; rw [upd_same] at e ⊢; exact e
    · rw [upd_ne z] at e ⊢; exact s.fh _ _ e
  · by_cases z : b = a
    · subst z; rw [upd_same] at e ⊢; exact e
    · rw [upd_ne z] at e ⊢; exact s.stay _ _ e q
  · by_cases z : b = a
    · subst z; rw [upd_same] at e ⊢; exact .inl e
    · rw [upd_ne z] at e ⊢
      rw [upd_ne z]
      exact s.newF _ _ e
  · obtain ⟨h1, h2, h3, zt⟩ := s.pen b j e
    have z : b ≠ a := fun z => by rw [z, hu] at h1; cases h1
    exact ⟨by rw [upd_ne z]; exact h1, h2, h3.relock z hu h, zt.relock hu h⟩
  · obtain ⟨v, h1, r⟩ := s.sh j d hj e
    exact ⟨v, h1, r.relock hu h hw⟩
  · obtain ⟨b, h1, r, z1, z2, z3⟩ := s.ow j hj d e
    have z : b ≠ a := fun z => by rw [z, hu] at z1; cases z1
    exact ⟨b, h1, r.relock z hu h hw, by rw [upd_ne z]; exact z1, by rw [upd_ne z]; exact z2, z3⟩
theorem old_at (s : Sep p F0 H0 O F H σ Γ n) (hu : F a = some u) {o : HO} : (F0 a = some o → o = u) ∧ (H0 a = some o → o = u) := by
  refine ⟨fun e => ?_, fun e => ?_⟩
  · have := s.f0 _ _ e
    rw [hu] at this; exact (Option.some.inj this).symm
  · have := s.stay _ _ e fun ⟨b, j, q, hb⟩ => by
      rcases hb with rfl | ⟨y, hy, rfl⟩
      · have := (s.pen a j q).1
        rw [hu] at this; cases this
      · have := ((s.pen b j q).2.2.2 y hy).1
        rw [hu] at this; cases this
    have h2 := s.fh _ _ hu
    rw [h2] at this; exact (Option.some.inj this).symm
theorem Fin0.unlock (s : Sep p F0 H0 O F H σ Γ n) (hu : F a = some u) (h : DkO u kvs) (hw : DkO w kvs) (s' : Fin0 p (upd F0 a w) (upd H0 a w) F' H' n') : Fin0 p F0 H0 (upd F' a u) (upd H' a u) n' := by
  have hF' : F' a = some w := s'.f0 _ _ upd_same
  refine ⟨fun b o e => ?_, fun b o e => ?_, fun b o e q => ?_, fun b o e => ?_, fun b j e => ?_⟩
  · by_cases z : b = a
    · subst z; rw [upd_same, (old_at s hu).1 e]
    · rw [upd_ne z]; exact s'.f0 _ _ (by rw [upd_ne z]; exact e)
  · by_cases z : b = a
    · subst z; rw [upd_same] at e ⊢; exact e
    · rw [upd_ne z] at e ⊢; exact s'.fh _ _ e
  · by_cases z : b = a
    · subst z; rw [upd_same, (old_at s hu).2 e]
    · rw [upd_ne z]; exact s'.stay _ _ (by rw [upd_ne z]; exact e) q
  · by_cases z : b = a
    · subst z; rw [upd_same] at e; cases e; exact s.newF _ _ hu
    · rw [upd_ne z] at e
      have := s'.newF _ _ e
      rw [upd_ne z, upd_ne z] at this
      exact this
  · obtain ⟨h1, h2, zt⟩ := s'.pen b j e
    have z : b ≠ a := fun z => by rw [z, hF'] at h1; cases h1
    exact ⟨by rw [upd_ne z]; exact h1, h2.relock z hF' hw, zt.relock hF' hw⟩
theorem Sep.unlock (s : Sep p F0 H0 O F H σ Γ n) (hu : F a = some u) (h : DkO u kvs) (hw : DkO w kvs) (s' : Sep p (upd F0 a w) (upd H0 a w) O' F' H' σ' Γ' n') : Sep p F0 H0 O' (upd F' a u) (upd H' a u) σ' Γ' n' := by
  have hF' : F' a = some w := s'.f0 _ _ upd_same
  have f := Fin0.unlock s hu h hw s'.fin
  refine ⟨f.f0, f.fh, f.stay, f.newF, fun b j e => ?_, s'.len, fun j d hj e => ?_, fun j hj d e => ?_, s'.dj⟩
  · exact ⟨(f.pen b j e).1, (s'.pen b j e).2.1, (f.pen b j e).2⟩
  · obtain ⟨v, h1, r⟩ := s'.sh j d hj e
    exact ⟨v, h1, r.relock hF' hw h⟩
  · obtain ⟨b, h1, r, z1, z2, z3⟩ := s'.ow j hj d e
    have z : b ≠ a := fun z => by rw [z, hF'] at z1; cases z1
    rw [upd_ne z] at z2
    exact ⟨b, h1, r.relock z hF' hw h, by rw [upd_ne z]; exact z1, z2, z3⟩
theorem same_unlock (hu : F a = some u) (e : Same (upd F a w) F') : Same F (upd F' a u) := fun b o h => by
  by_cases z : b = a
  · subst z; rw [upd_same, ← hu]; exact h
  · rw [upd_ne z]; exact e _ _ (by rw [upd_ne z]; exact h)
theorem Gp.unlock (hu : F a = some u) (hH : H a = some u) (g : Gp p (upd F a w) (upd H a w) F' H') : Gp p F H (upd F' a u) (upd H' a u) := by
  refine ⟨same_unlock hu g.f, fun b o e q => ?_, fun b o e => ?_⟩
  · by_cases z : b = a
    · subst z; rw [upd_same, ← hH]; exact e
    · rw [upd_ne z]; exact g.h _ _ (by rw [upd_ne z]; exact e) q
  · by_cases z : b = a
    · subst z; rw [upd_same] at e; rw [hu]; exact .inl e
    · rw [upd_ne z] at e
      have := g.new _ _ e
      rw [upd_ne z, upd_ne z] at this
      exact this
/-- slot i holds a dict that is locked -/
def Lkd (i : Nat) (σ : St) (H : Hp) : Prop := ∃ d o kvs, σ[i]? = some (some (.ref d)) ∧ H d = some (.frz o (.dK kvs))
theorem Sep.dict (s : Sep p F0 H0 O F H σ Γ n) {i : Nat} {ds : List (D × D)} (hi : i ∉ O) (e : Γ[i]? = some (some (.dict ds))) : ∃ d kvs, σ[i]? = some (some (.ref d)) ∧ Rd F d (.dK kvs) ∧ ds.map (·.1) = kvs.map (fun p => keyD p.1) ∧ ∀ (i : Nat) x d, kvs[i]? = some x → ds[i]? = some d → Rp p.K F d.2 x.2 := by
  obtain ⟨v, h1, r⟩ := s.sh i _ hi e
  cases r with
  | dct a1 a2 a3 => exact ⟨_, _, h1, a1, a2, a3⟩
def tOrS (t u : TS) : TS := fun D σ H => t D σ H ∨ u D σ H
def tOrE (t u : TE) : TE := fun σ H Q => t σ H Q ∨ u σ H Q
theorem ls_lock {Ob : List Nat} {t t' : TS} {m : MS} (i : Nat) (h : LS p Ob O O' t m) (hm : ∀ E Γ n, m E Γ n → ∃ ds, Γ[i]? = some (some (.dict ds))) (hi : i ∉ O) (ht : ∀ E σ H, Lkd i σ H → t E σ H → t' E σ H) : LS p Ob O O' (tOrS (tLock t') t') m := fun F0 H0 F H σ Γ n E s q E' hn hr hb hc => by
  obtain ⟨ds, e⟩ := hm _ _ _ q
  obtain ⟨d, kvs, e1, rd, a2, a3⟩ := s.dict hi e
  rcases rd with hu | ⟨o, hu⟩
  · refine .inl ⟨d, .dK kvs, s.fh _ _ hu, trivial, fun od => ?_⟩
    have hw : DkO (.frz od (.dK kvs)) kvs := .inr ⟨_, rfl⟩
    have h0 : DkO (.dK kvs) kvs := .inl rfl
    refine ht _ _ _ ⟨d, od, kvs, e1, upd_same⟩ ?_
    refine h _ _ _ _ σ Γ n E (s.lock hu h0 hw) q _ (fun F1 H1 σ1 Γ1 n1 s1 f1 q1 => ?_) (fun x v F1 H1 n1 s1 r1 q1 => ?_) (fun F1 H1 σ1 Γ1 n1 s1 f1 q1 => ?_) (fun F1 H1 σ1 Γ1 n1 s1 f1 q1 => ?_)
    · exact ⟨s1.fh _ _ (s1.f0 _ _ upd_same), hn _ _ _ _ _ (Sep.unlock s hu h0 hw s1) (same_unlock hu f1) q1⟩
    · exact ⟨s1.fh _ _ (s1.f0 _ _ upd_same), hr _ _ _ _ _ (Fin0.unlock s hu h0 hw s1) (r1.relock (s1.f0 _ _ upd_same) hw h0) q1⟩
    · exact ⟨s1.fh _ _ (s1.f0 _ _ upd_same), hb _ _ _ _ _ (Sep.unlock s hu h0 hw s1) (same_unlock hu f1) q1⟩
    · exact ⟨s1.fh _ _ (s1.f0 _ _ upd_same), hc _ _ _ _ _ (Sep.unlock s hu h0 hw s1) (same_unlock hu f1) q1⟩
  · exact .inr (ht _ _ _ ⟨d, o, kvs, e1, s.fh _ _ hu⟩ (h F0 H0 F H σ Γ n E s q E' hn hr hb hc))
theorem lf_lock {t t' : TE} {m : ME} (i : Nat) (h : LF p O t m) (hm : ∀ Γ n Q, m Γ n Q → ∃ ds, Γ[i]? = some (some (.dict ds))) (hi : i ∉ O) (ht : ∀ σ H Q, Lkd i σ H → t σ H Q → t' σ H Q) : LF p O (tOrE (tLockE t') t') m := fun F0 H0 F H σ Γ n Q s q Q' k => by
  obtain ⟨ds, e⟩ := hm _ _ _ q
  obtain ⟨d, kvs, e1, rd, a2, a3⟩ := s.dict hi e
  rcases rd with hu | ⟨o, hu⟩
  · refine .inl ⟨d, .dK kvs, s.fh _ _ hu, trivial, fun od => ?_⟩
    have hw : DkO (.frz od (.dK kvs)) kvs := .inr ⟨_, rfl⟩
    have h0 : DkO (.dK kvs) kvs := .inl rfl
    have hH := s.fh _ _ hu
    refine ht _ _ _ ⟨d, od, kvs, e1, upd_same⟩ ?_
    refine h _ _ _ _ σ Γ n Q (s.lock hu h0 hw) q _ fun x b F1 H1 n1 s1 g1 w1 f1 hb q1 => ?_
    have hF1 : F1 d = some (.frz od (.dK kvs)) := s1.f0 _ _ upd_same
    have z : b ≠ d := fun z => by rw [z, hF1] at f1; cases f1
    rw [upd_ne z] at hb
    exact ⟨s1.fh _ _ hF1, k x b _ _ n1 (Sep.unlock s hu h0 hw s1) (g1.unlock hu hH) (w1.relock z hF1 hw h0) (by rw [upd_ne z]; exact f1) hb q1⟩
  · exact .inr (ht _ _ _ ⟨d, o, kvs, e1, s.fh _ _ hu⟩ (h F0 H0 F H σ Γ n Q s q Q' k))
theorem ps_or {X : Cx} {st : Stmt} {t u : TS} (h : PS X st t) (k : PS X st u) : PS X st (tOrS t u) := ⟨fun pins s σ H D I q => q.elim (h.run pins s σ H D I) (k.run pins s σ H D I)⟩
theorem pe_or {X : Cx} {e : Expr} {t u : TE} (h : PE X e t) (k : PE X e u) : PE X e (tOrE t u) := ⟨fun pins s σ H D I q => q.elim (h.run pins s σ H D I) (k.run pins s σ H D I)⟩
/-- a walk that wants its dict locked -/
def wiK (i : Nat) (wi : TI) : TI := fun σ H R => Lkd i σ H → wi σ H R
@[reducible] def mIKeys (i : Nat) : MI := fun Γ n Q => ∃ ds, Γ[i]? = some (some (.dict ds)) ∧ Q (ds.map (·.1)) n
@[reducible] def mIVals (i : Nat) : MI := fun Γ n Q => ∃ ds, Γ[i]? = some (some (.dict ds)) ∧ Q (ds.map (·.2)) n
@[reducible] def mIItems (i : Nat) : MI := fun Γ n Q => ∃ ds, Γ[i]? = some (some (.dict ds)) ∧ Q (ds.map fun q => .tuple [q.1, q.2]) n
theorem locked_at (s : Sep p F0 H0 O F H σ Γ n) {i : Nat} {ds : List (D × D)} (hi : i ∉ O) (e : Γ[i]? = some (some (.dict ds))) (l : Lkd i σ H) : ∃ d o kvs, σ[i]? = some (some (.ref d)) ∧ F d = some (.frz o (.dK kvs)) ∧ ds.map (·.1) = kvs.map (fun p => keyD p.1) ∧ ∀ (i : Nat) x d, kvs[i]? = some x → ds[i]? = some d → Rp p.K F d.2 x.2 := by
  obtain ⟨d, kvs, e1, rd, a2, a3⟩ := s.dict hi e
  obtain ⟨d', o', l, e2, h2⟩ := l
  rw [e1] at e2
  cases e2
  rcases rd with hu | ⟨o, hu⟩
  · rw [s.fh _ _ hu] at h2; cases h2
  · exact ⟨d, o, kvs, e1, hu, a2, a3⟩
theorem key_rp {K : PySem.W.Frag} (k : Key) : Rp K F (keyD k) (kV k) := by
  cases k with
  | inl i => exact .int i
  | inr x => exact .str x
theorem keys_len {ds : List (D × D)} (h : ds.map (·.1) = kvs.map (fun p => keyD p.1)) : ds.length = kvs.length := by
  have := congrArg List.length h
  rwa [List.length_map, List.length_map] at this
theorem keys_at {ds : List (D × D)} {i : Nat} {q : D × D} {k : Key} {v : V} (h : ds.map (·.1) = kvs.map (fun p => keyD p.1)) (e : ds[i]? = some q) (e2 : kvs[i]? = some (k, v)) : q.1 = keyD k := by
  have := congrArg (fun l => l[i]?) h
  simp only [List.getElem?_map, e, e2, Option.map_some] at this
  exact Option.some.inj this
theorem feeds_keys {K : PySem.W.Frag} {d : Addr} {o : Obj} {ds : List (D × D)} (hF : F d = some (.frz o (.dK kvs))) (h : ds.map (·.1) = kvs.map (fun p => keyD p.1)) : Feeds K (Itk d o kvs) (ds.map (·.1)) F where
  stop := fun F' H' e e' => ⟨e' _ _ (e _ _ hF), by rw [List.length_map, keys_len h]; exact Nat.le_refl _⟩
  go := fun i x F' H' hx e e' => by
    have hl : i < kvs.length := by
      have := (List.getElem?_eq_some_iff.mp hx).1
      rwa [List.length_map, keys_len h] at this
    refine ⟨⟨e' _ _ (e _ _ hF), hl⟩, fun y H2 ⟨h2, k, v, e3, e4⟩ => ?_⟩
    subst h2 e4
    rw [List.getElem?_map] at hx
    cases q : ds[i]? with
    | none => rw [q] at hx; cases hx
    | some z =>
      rw [q] at hx
      cases hx
      dsimp only
      rw [show z.1 = keyD k from keys_at h q e3]
      exact ⟨F', .refl e', key_rp k⟩
theorem feeds_vals {K : PySem.W.Frag} {d : Addr} {o : Obj} {ds : List (D × D)} (hF : F d = some (.frz o (.dK kvs))) (h : ds.map (·.1) = kvs.map (fun p => keyD p.1)) (r : ∀ (i : Nat) x d, kvs[i]? = some x → ds[i]? = some d → Rp K F d.2 x.2) : Feeds K (Itd d o kvs) (ds.map (·.2)) F where
  stop := fun F' H' e e' => ⟨e' _ _ (e _ _ hF), by rw [List.length_map, keys_len h]; exact Nat.le_refl _⟩
  go := fun i x F' H' hx e e' => by
    have hl : i < kvs.length := by
      have := (List.getElem?_eq_some_iff.mp hx).1
      rwa [List.length_map, keys_len h] at this
    refine ⟨⟨e' _ _ (e _ _ hF), hl⟩, fun y H2 ⟨h2, k, e3⟩ => ?_⟩
    subst h2
    rw [List.getElem?_map] at hx
    cases q : ds[i]? with
    | none => rw [q] at hx; cases hx
    | some z =>
      rw [q] at hx
      cases hx
      exact ⟨F', .refl e', (r i _ z e3 q).mono e⟩
theorem feeds_items {K : PySem.W.Frag} {d : Addr} {o : Obj} {ds : List (D × D)} (hF : F d = some (.frz o (.dK kvs))) (h : ds.map (·.1) = kvs.map (fun p => keyD p.1)) (r : ∀ (i : Nat) x d, kvs[i]? = some x → ds[i]? = some d → Rp K F d.2 x.2) : Feeds K (Iti d o kvs) (ds.map fun q => .tuple [q.1, q.2]) F where
  stop := fun F' H' e e' => ⟨e' _ _ (e _ _ hF), by rw [List.length_map, keys_len h]; exact Nat.le_refl _⟩
  go := fun i x F' H' hx e e' => by
    have hl : i < kvs.length := by
      have := (List.getElem?_eq_some_iff.mp hx).1
      rwa [List.length_map, keys_len h] at this
    refine ⟨⟨e' _ _ (e _ _ hF), hl⟩, fun y H2 ⟨T, k, v, e3, e4, e5, e6⟩ => ?_⟩
    subst e4 e6
    rw [List.getElem?_map] at hx
    cases q : ds[i]? with
    | none => rw [q] at hx; cases hx
    | some z =>
      rw [q] at hx
      cases hx
      dsimp only
      rw [show z.1 = keyD k from keys_at h q e3]
      exact ⟨_, Gr.new1 e' e5 _, Rp.new_tup (H := H') (.cons (key_rp k) (.cons ((r i _ z e3 q).mono e) .nil)) (e'.free e5)⟩
theorem li_keys (i : Nat) (hi : i ∉ O) : LI p O (wiK i (iKeys (tVar i))) (mIKeys i) := fun F0 H0 F H σ Γ n R s ⟨ds, e, q⟩ R' k l => by
  obtain ⟨d, o, kvs, e1, hu, a2, a3⟩ := locked_at s hi e l
  exact ⟨.ref d, e1, d, o, rfl, .inl ⟨kvs, s.fh _ _ hu, k _ _ F H n s .refl (feeds_keys hu a2) q⟩⟩
theorem li_vals (i : Nat) (hi : i ∉ O) : LI p O (wiK i (iVals (tVar i))) (mIVals i) := fun F0 H0 F H σ Γ n R s ⟨ds, e, q⟩ R' k l => by
  obtain ⟨d, o, kvs, e1, hu, a2, a3⟩ := locked_at s hi e l
  exact ⟨.ref d, e1, d, o, kvs, rfl, s.fh _ _ hu, k _ _ F H n s .refl (feeds_vals hu a2 a3) q⟩
theorem li_items (i : Nat) (hi : i ∉ O) : LI p O (wiK i (iItems (tVar i))) (mIItems i) := fun F0 H0 F H σ Γ n R s ⟨ds, e, q⟩ R' k l => by
  obtain ⟨d, o, kvs, e1, hu, a2, a3⟩ := locked_at s hi e l
  exact ⟨.ref d, e1, d, o, kvs, rfl, s.fh _ _ hu, k _ _ F H n s .refl (feeds_items hu a2 a3) q⟩
end
/-- a walk over a dict, as a rule gives it: its reading wants the lock -/
theorem lcK {i : Nat} {wi : TI} {g : TG} {tt : TT} {te : TE} {vs : List Nat} {σ : St} {H : Hp} {Q : VK} (l : Lkd i σ H) (h : tLc (wiK i wi) g tt te vs σ H Q) : tLc wi g tt te vs σ H Q := h l
structure RIK (X : Cx) (p : Pm) (O : List Nat) (tg iter : Expr) (i : Nat) (wi : TI) (mi : MI) : Prop where
  pi : PI X tg iter wi
  le : LI p O (wiK i wi) mi
  no : i ∉ O
  dict : ∀ Γ n Q, mi Γ n Q → ∃ ds, Γ[i]? = some (some (.dict ds))
section
variable {X : Cx} {p : Pm} {Ob O O' is : List Nat} {tg iter elt c : Expr} {body : List Stmt} {pos : Pos} {wi : TI} {mi : MI} {g : TG} {mg : MG} {tS : TS} {mS : MS} {te : TE} {me : ME} {tT : TT} {mT : MT} {x : Str} {q : Pos}
theorem ik_keys (i : Nat) (hv : PE X (.Name x q) (tVar i)) (hi : i ∉ O) : RIK X p O tg (.Name x q) i (iKeys (tVar i)) (mIKeys i) := ⟨pi_keys hv, li_keys i hi, hi, fun _ _ _ ⟨ds, e, _⟩ => ⟨ds, e⟩⟩
theorem ik_vals {apos cpos : Pos} (i : Nat) (hv : PE X (.Name x q) (tVar i)) (hi : i ∉ O) (hbase : attributeBase (.Name x q) "values" X.env (eval (.Name x q) X.env) = eval (.Name x q) X.env := by rfl) (hline : (apos.endLine == cpos.line) = true := by rfl) : RIK X p O tg (.Call (.Attribute (.Name x q) "values" apos) [] [] cpos) i (iVals (tVar i)) (mIVals i) := ⟨pi_values hv hbase hline, li_vals i hi, hi, fun _ _ _ ⟨ds, e, _⟩ => ⟨ds, e⟩⟩
theorem ik_items {elts : List Expr} {kk : Nat} {tpos apos cpos : Pos} (i : Nat) (hv : PE X (.Name x q) (tVar i)) (hi : i ∉ O) (hbase : attributeBase (.Name x q) "items" X.env (eval (.Name x q) X.env) = eval (.Name x q) X.env := by rfl) (hline : (apos.endLine == cpos.line) = true := by rfl) : RIK X p O (.Tuple elts kk tpos) (.Call (.Attribute (.Name x q) "items" apos) [] [] cpos) i (iItems (tVar i)) (mIItems i) := ⟨pi_items hv hbase hline, li_items i hi, hi, fun _ _ _ ⟨ds, e, _⟩ => ⟨ds, e⟩⟩
theorem fLcK {i : Nat} {scope : Scope} {own : List (Str × Nat)} (hc : X.calm = true) (hN : X.N.Nodup) (hi : RIK X p O tg iter i wi mi) (ok : BlkOk X.N X.env.scope scope own)
    (hg : ∀ (s : Shared) (H : Hp) (C : Addr) (cl : List (Str × Addr)) (fp : List Addr), RG (X.blk s H scope (compEnvC scope cl C X.env) fp) p O is tg g mg) (he : ∀ (s : Shared) (H : Hp) (C : Addr) (cl : List (Str × Addr)) (fp : List Addr), RE (X.blk s H scope (compEnvC scope cl C X.env) fp) p O elt te me)
    (his : ∀ i ∈ is, i ∈ own.map (·.2)) (hp : ∀ v ∈ own.map (·.2), p.off v) (hs : ∀ x, foldedSetIterable iter X.env x = pure x := by intro _; rfl) :
    RF X p O (.ListComp elt [⟨tg, iter, [], 0⟩] scope pos) (tOrE (tLockE (tLc wi g tYes te (own.map (·.2)))) (tLc wi g tYes te (own.map (·.2)))) (mLc mi mg mYes me (own.map (·.2))) :=
  have h := pe_lc (pos := pos) hc hN hi.pi ok (fun s H C cl fp => (hg s H C cl fp).pg) (fun _ _ _ _ _ => pts_nil) (fun s H C cl fp => (he s H C cl fp).pe) hs
  ⟨pe_or (pe_lock h) h, lf_lock i (t := tLc (wiK i wi) g tYes te (own.map (·.2))) (lf_lc hi.le (hg X.s_0 X.H_0 0 [] []).le lt_yes (he X.s_0 X.H_0 0 [] []).le his hp) (fun Γ n Q m => hi.dict _ _ _ m) hi.no fun σ H Q l t => lcK l t⟩
end
end RR
end
section
namespace RR
open PySem PySem.Spec L2
open PyProof.Rows hiding St
section
variable {X : Cx} {K : PySem.W.Frag}
variable {p : Pm} {O : List Nat} {o e f : Expr} {to te tf : TE} {mo me mf : ME} {apos cpos : Pos}
theorem Rp.isD {F H : Hp} {kvs : List (D × D)} {v : V} (h : Rp K F (.dict kvs) v) (s : Same F H) : ∃ a, v = .ref a ∧ IsD H a := by
  cases h with
  | dct h1 h2 h3 => exact ⟨_, rfl, .inl ⟨_, Same.rd s h1⟩⟩
end
end RR
end
section
namespace RR
open PySem PySem.Spec L2
open PyProof.Rows hiding St
abbrev VE := DEnv → Option D
abbrev VT := DEnv → Option Bool
abbrev VA := DEnv → Option (List D)
abbrev VP := List D → Option D
abbrev VI := DEnv → Option (List D)
abbrev VO := DEnv → Option (Option Int)
abbrev VG := D → DEnv → Option DEnv
abbrev VGs := List D → DEnv → Option DEnv
inductive Rs
  | nx (Γ : DEnv)
  | rt (d : D)
  | bk (Γ : DEnv)
  | ct (Γ : DEnv)
abbrev VS := DEnv → Option Rs
def Rs.to (E : EndsD) (n : Nat) : Rs → Prop
  | .nx Γ => E.nx Γ n
  | .rt d => E.rt d n
  | .bk Γ => E.bk Γ n
  | .ct Γ => E.ct Γ n
def FE (m : ME) (v : VE) : Prop := ∀ Γ n d (Q : D → Nat → Prop), v Γ = some d → Q d n → m Γ n Q
def FT (m : MT) (v : VT) : Prop := ∀ Γ n d (Q : Bool → Nat → Prop), v Γ = some d → Q d n → m Γ n Q
def FA (m : MA) (v : VA) : Prop := ∀ Γ n d (Q : List D → Nat → Prop), v Γ = some d → Q d n → m Γ n Q
def FO (m : MO) (v : VO) : Prop := ∀ Γ n d (Q : Option Int → Nat → Prop), v Γ = some d → Q d n → m Γ n Q
def FS (m : MS) (v : VS) : Prop := ∀ Γ n r (E : EndsD), v Γ = some r → r.to E n → m E Γ n
def FP (m : MP) (v : VP) : Prop := ∀ ds d (R : D → Prop), v ds = some d → R d → m ds R
def FGt (m : MG) (v : VG) : Prop := ∀ d Γ Γ' (Q : DEnv → Prop), v d Γ = some Γ' → Q Γ' → m d Γ Q
def FGs (m : List D → DEnv → (DEnv → Prop) → Prop) (v : VGs) : Prop := ∀ d Γ Γ' (Q : DEnv → Prop), v d Γ = some Γ' → Q Γ' → m d Γ Q
theorem bnd {α β : Type} {x : Option α} {f : α → Option β} {b : β} (h : x.bind f = some b) : ∃ a, x = some a ∧ f a = some b := by
  cases x with
  | none => cases h
  | some a => exact ⟨a, rfl, h⟩
theorem ifs {α : Type} {c : Prop} [Decidable c] {x y : α} (h : (if c then some x else none) = some y) : c ∧ x = y := by
  by_cases k : c
  · rw [if_pos k] at h; cases h; exact ⟨k, rfl⟩
  · rw [if_neg k] at h; cases h
section
variable {ma mb mc me : ME} {a b c e : VE} {f g : D → D → Option D} {u : D → Option D} {mt mu : MT} {t s : VT} {mA : MA} {vA : VA} {mS nS : MS} {vS wS : VS} {mG : MG} {vG : VG} {mGs : List D → DEnv → (DEnv → Prop) → Prop} {vGs : VGs}
def vC (d : D) : VE := fun _ => some d
def vVar (i : Nat) : VE := fun Γ => match Γ[i]? with | some (some d) => some d | _ => none
theorem f_C {d : D} : FE (mC d) (vC d) := fun Γ n d' Q e q => by cases e; exact q
theorem f_Var {i : Nat} : FE (mVar i) (vVar i) := fun Γ n d' Q e q => by
  unfold vVar at e
  split at e
  · cases e; exact ⟨_, by assumption, q⟩
  · cases e
def vOp (f : D → D → Option D) (a b : VE) : VE := fun Γ => (a Γ).bind fun x => (b Γ).bind fun y => f x y
theorem f_Op (ha : FE ma a) (hb : FE mb b) : FE (mOp f ma mb) (vOp f a b) := fun Γ n d Q e q => by
  obtain ⟨x, h1, e⟩ := bnd e
  obtain ⟨y, h2, e⟩ := bnd e
  exact ha Γ n x _ h1 (hb Γ n y _ h2 ⟨d, e, q⟩)
def vUn (f : D → Option D) (a : VE) : VE := fun Γ => (a Γ).bind f
theorem f_Un (ha : FE ma a) : FE (mUn u ma) (vUn u a) := fun Γ n d Q e q => by
  obtain ⟨x, h1, e⟩ := bnd e
  exact ha Γ n x _ h1 ⟨d, e, q⟩
def asB : D → Option Bool
  | .bool b => some b
  | _ => none
theorem asB_eq {d : D} {k : Bool} (h : asB d = some k) : d = .bool k := by
  unfold asB at h
  split at h
  · cases h; rfl
  · cases h
def vTest (a : VE) : VT := fun Γ => (a Γ).bind asB
theorem f_Test (ha : FE ma a) : FT (mTest ma) (vTest a) := fun Γ n d Q e q => by
  obtain ⟨x, h1, e⟩ := bnd e
  exact ha Γ n x _ h1 ⟨d, asB_eq e, q⟩
def vTru (a : VE) : VT := fun Γ => (a Γ).bind truD
theorem f_Tru (ha : FE ma a) : FT (mTru ma) (vTru a) := fun Γ n d Q e q => by
  obtain ⟨x, h1, e⟩ := bnd e
  exact ha Γ n x _ h1 ⟨d, e, q⟩
def vChain (f g : D → D → Option D) (a b c : VE) : VE := fun Γ => (a Γ).bind fun x => (b Γ).bind fun y => (f x y).bind fun r => (asB r).bind fun k => if k = true then (c Γ).bind fun z => g y z else some (.bool false)
theorem f_Chain (ha : FE ma a) (hb : FE mb b) (hc : FE mc c) : FE (mChain f g ma mb mc) (vChain f g a b c) := fun Γ n d Q e q => by
  obtain ⟨x, h1, e⟩ := bnd e
  obtain ⟨y, h2, e⟩ := bnd e
  obtain ⟨r, h3, e⟩ := bnd e
  obtain ⟨k, h4, e⟩ := bnd e
  refine ha Γ n x _ h1 (hb Γ n y _ h2 ⟨k, by rw [h3, asB_eq h4], ?_⟩)
  cases k with
  | true =>
    rw [if_pos rfl] at e ⊢
    obtain ⟨z, h5, e⟩ := bnd e
    exact hc Γ n z _ h5 ⟨d, e, q⟩
  | false =>
    rw [if_neg (by decide)] at e ⊢
    cases e
    exact q
def vAnd (t s : VT) : VT := fun Γ => (t Γ).bind fun k => if k = true then s Γ else some false
def vOr (t s : VT) : VT := fun Γ => (t Γ).bind fun k => if k = true then some true else s Γ
def vNot (t : VT) : VT := fun Γ => (t Γ).bind fun k => some (!k)
theorem f_And (ha : FT mt t) (hb : FT mu s) : FT (mAnd mt mu) (vAnd t s) := fun Γ n d Q e q => by
  obtain ⟨k, h1, e⟩ := bnd e
  refine ha Γ n k _ h1 ?_
  cases k with
  | true => rw [if_pos rfl] at e ⊢; exact hb Γ n d Q e q
  | false => rw [if_neg (by decide)] at e ⊢; cases e; exact q
theorem f_Or (ha : FT mt t) (hb : FT mu s) : FT (mOr mt mu) (vOr t s) := fun Γ n d Q e q => by
  obtain ⟨k, h1, e⟩ := bnd e
  refine ha Γ n k _ h1 ?_
  cases k with
  | true => rw [if_pos rfl] at e ⊢; cases e; exact q
  | false => rw [if_neg (by decide)] at e ⊢; exact hb Γ n d Q e q
theorem f_Not (ha : FT mt t) : FT (mNot mt) (vNot t) := fun Γ n d Q e q => by
  obtain ⟨k, h1, e⟩ := bnd e
  cases e
  exact ha Γ n k _ h1 q
def vAndV (a b : VE) : VE := fun Γ => (a Γ).bind fun x => (asB x).bind fun k => if k = true then b Γ else some (.bool false)
def vOrV (a b : VE) : VE := fun Γ => (a Γ).bind fun x => (asB x).bind fun k => if k = true then some (.bool true) else b Γ
def vNotV (a : VE) : VE := fun Γ => (a Γ).bind fun x => (asB x).bind fun k => some (.bool (!k))
theorem f_AndV (ha : FE ma a) (hb : FE mb b) : FE (mAndV ma mb) (vAndV a b) := fun Γ n d Q e q => by
  obtain ⟨x, h1, e⟩ := bnd e
  obtain ⟨k, h2, e⟩ := bnd e
  refine ha Γ n x _ h1 ⟨k, asB_eq h2, ?_⟩
  cases k with
  | true => rw [if_pos rfl] at e ⊢; exact hb Γ n d Q e q
  | false => rw [if_neg (by decide)] at e ⊢; cases e; exact q
theorem f_OrV (ha : FE ma a) (hb : FE mb b) : FE (mOrV ma mb) (vOrV a b) := fun Γ n d Q e q => by
  obtain ⟨x, h1, e⟩ := bnd e
  obtain ⟨k, h2, e⟩ := bnd e
  refine ha Γ n x _ h1 ⟨k, asB_eq h2, ?_⟩
  cases k with
  | true => rw [if_pos rfl] at e ⊢; cases e; exact q
  | false => rw [if_neg (by decide)] at e ⊢; exact hb Γ n d Q e q
theorem f_NotV (ha : FE ma a) : FE (mNotV ma) (vNotV a) := fun Γ n d Q e q => by
  obtain ⟨x, h1, e⟩ := bnd e
  obtain ⟨k, h2, e⟩ := bnd e
  cases e
  exact ha Γ n x _ h1 ⟨k, asB_eq h2, q⟩
def vIf (t : VT) (a b : VE) : VE := fun Γ => (t Γ).bind fun k => if k = true then a Γ else b Γ
theorem f_If (ht : FT mt t) (ha : FE ma a) (hb : FE mb b) : FE (mIf mt ma mb) (vIf t a b) := fun Γ n d Q e q => by
  obtain ⟨k, h1, e⟩ := bnd e
  refine ht Γ n k _ h1 ?_
  cases k with
  | true => rw [if_pos rfl] at e ⊢; exact ha Γ n d Q e q
  | false => rw [if_neg (by decide)] at e ⊢; exact hb Γ n d Q e q
def vNil : VA := fun _ => some []
def vCons (a : VE) (r : VA) : VA := fun Γ => (a Γ).bind fun x => (r Γ).bind fun xs => some (x :: xs)
theorem f_Nil : FA mNil vNil := fun Γ n d Q e q => by cases e; exact q
theorem f_Cons (ha : FE ma a) (hr : FA mA vA) : FA (mCons ma mA) (vCons a vA) := fun Γ n d Q e q => by
  obtain ⟨x, h1, e⟩ := bnd e
  obtain ⟨xs, h2, e⟩ := bnd e
  cases e
  exact ha Γ n x _ h1 (hr Γ n xs _ h2 q)
def vTup (r : VA) : VE := fun Γ => (r Γ).bind fun xs => if xs.length ≤ lim then some (.tuple xs) else none
def vLst (r : VA) : VE := fun Γ => (r Γ).bind fun xs => if xs.length ≤ lim then some (.list xs) else none
theorem f_Tup (h : FA mA vA) : FE (mTup mA) (vTup vA) := fun Γ n d Q e q => by
  obtain ⟨xs, h1, e⟩ := bnd e
  obtain ⟨h2, rfl⟩ := ifs e
  exact h Γ n xs _ h1 ⟨h2, q⟩
theorem f_Lst (h : FA mA vA) : FE (mLst mA) (vLst vA) := fun Γ n d Q e q => by
  obtain ⟨xs, h1, e⟩ := bnd e
  obtain ⟨h2, rfl⟩ := ifs e
  exact h Γ n xs _ h1 ⟨h2, q⟩
def vDict0 : VE := fun _ => some (.dict [])
theorem f_Dict0 : FE mDict0 vDict0 := fun Γ n d Q e q => by cases e; exact q
def vCl (k : List D → Option D) (r : VA) : VE := fun Γ => (r Γ).bind k
theorem f_Cl {k : List D → Option D} (h : FA mA vA) : FE (mCl k mA) (vCl k vA) := fun Γ n d Q e q => by
  obtain ⟨xs, h1, e⟩ := bnd e
  exact h Γ n xs _ h1 ⟨d, e, q⟩
def vIsi (T : String) (a : VE) : VE := fun Γ => (a Γ).bind fun x => some (.bool (isiB x T))
def vIsi2 (T U : String) (a : VE) : VE := fun Γ => (a Γ).bind fun x => some (.bool (isiB x T || isiB x U))
theorem f_Isi {T : String} (h : FE ma a) : FE (mIsi T ma) (vIsi T a) := fun Γ n d Q e q => by
  obtain ⟨x, h1, e⟩ := bnd e
  cases e
  exact h Γ n x _ h1 q
theorem f_Isi2 {T U : String} (h : FE ma a) : FE (mIsi2 T U ma) (vIsi2 T U a) := fun Γ n d Q e q => by
  obtain ⟨x, h1, e⟩ := bnd e
  cases e
  exact h Γ n x _ h1 q
def vNoPart : VO := fun _ => some none
def asI : D → Option Int
  | .int i => some i
  | _ => none
theorem asI_eq {d : D} {k : Int} (h : asI d = some k) : d = .int k := by
  unfold asI at h
  split at h
  · cases h; rfl
  · cases h
def vPart (a : VE) : VO := fun Γ => (a Γ).bind fun x => (asI x).bind fun i => some (some i)
theorem f_NoPart : FO mNoPart vNoPart := fun Γ n d Q e q => by cases e; exact q
theorem f_Part (h : FE ma a) : FO (mPart ma) (vPart a) := fun Γ n d Q e q => by
  obtain ⟨x, h1, e⟩ := bnd e
  obtain ⟨i, h2, e⟩ := bnd e
  cases e
  exact h Γ n x _ h1 ⟨i, asI_eq h2, q⟩
def vSl (a : VE) (lo hi : VO) : VE := fun Γ => (a Γ).bind fun x => (lo Γ).bind fun l => (hi Γ).bind fun h => dSl l h x
theorem f_Sl {ml mh : MO} {lo hi : VO} (h : FE ma a) (hl : FO ml lo) (hh : FO mh hi) : FE (mSl ma ml mh) (vSl a lo hi) := fun Γ n d Q e q => by
  obtain ⟨x, h1, e⟩ := bnd e
  obtain ⟨l, h2, e⟩ := bnd e
  obtain ⟨k, h3, e⟩ := bnd e
  exact h Γ n x _ h1 (hl Γ n l _ h2 (hh Γ n k _ h3 ⟨d, e, q⟩))
def vCall (f : VP) (r : VA) : VE := fun Γ => (r Γ).bind f
theorem f_Call {mf : MP} {f : VP} (hf : FP mf f) (h : FA mA vA) : FE (mCall mf mA) (vCall f vA) := fun Γ n d Q e q => by
  obtain ⟨xs, h1, e⟩ := bnd e
  exact h Γ n xs _ h1 (hf xs d _ e q)
def vLook (a : VE) : VE := fun Γ => (a Γ).bind fun x => if flatD x = true then some x else none
theorem f_Look (h : FE ma a) : FE (mLook ma) (vLook a) := fun Γ n d Q e q => by
  obtain ⟨x, h1, e⟩ := bnd e
  obtain ⟨h2, rfl⟩ := ifs e
  exact h Γ n x _ h1 ⟨h2, q⟩
def vgName (i : Nat) : VG := fun d Γ => some (Γ.set i (some d))
def vgNil : VGs := fun ds Γ => match ds with | [] => some Γ | _ => none
def vgCons (g : VG) (r : VGs) : VGs := fun ds Γ => match ds with | d :: ds => (g d Γ).bind fun Γ1 => r ds Γ1 | _ => none
def vgTup (k : Nat) (r : VGs) : VG := fun d Γ => match d with | .tuple ds => if ds.length = k then r ds Γ else none | _ => none
theorem f_gName {i : Nat} : FGt (mgName i) (vgName i) := fun d Γ Γ' Q e q => by cases e; exact q
theorem f_gNil : FGs mgNil vgNil := fun d Γ Γ' Q e q => by
  unfold vgNil at e
  split at e
  · cases e; exact ⟨rfl, q⟩
  · cases e
theorem f_gCons (h : FGt mG vG) (hr : FGs mGs vGs) : FGs (mgCons mG mGs) (vgCons vG vGs) := fun d Γ Γ' Q e q => by
  unfold vgCons at e
  split at e
  · obtain ⟨Γ1, h1, e⟩ := bnd e
    exact ⟨_, _, rfl, h _ _ _ _ h1 (hr _ _ _ _ e q)⟩
  · cases e
theorem f_gTup {k : Nat} (hr : FGs mGs vGs) : FGt (mgTup k mGs) (vgTup k vGs) := fun d Γ Γ' Q e q => by
  unfold vgTup at e
  split at e
  · split at e
    · exact ⟨_, rfl, by assumption, hr _ _ _ _ e q⟩
    · cases e
  · cases e
def FI' (m : MI) (v : VI) : Prop := ∀ Γ n d (Q : List D → Nat → Prop), v Γ = some d → Q d n → m Γ n Q
def vISeq (a : VE) : VI := fun Γ => (a Γ).bind seqD
theorem f_ISeq (h : FE ma a) : FI' (mISeq ma) (vISeq a) := fun Γ n d Q e q => by
  obtain ⟨x, h1, e⟩ := bnd e
  exact h Γ n x _ h1 ⟨d, e, q⟩
def enum1 : List D → Option (List D)
  | [d] => (seqD d).bind fun xs => some (enumD 0 xs)
  | _ => none
def vIEn (r : VA) : VI := fun Γ => (r Γ).bind enum1
theorem f_IEn (h : FA mA vA) : FI' (mIEn mA) (vIEn vA) := fun Γ n d Q e q => by
  obtain ⟨xs, h1, e⟩ := bnd e
  unfold enum1 at e
  split at e
  · obtain ⟨ys, h2, e⟩ := bnd e
    cases e
    exact h Γ n _ _ h1 ⟨_, ys, rfl, h2, q⟩
  · cases e
def zip2 : List D → Option (List D)
  | [.list xs, .list ys] => some (zipD xs ys)
  | [.tuple xs, .tuple ys] => some (zipD xs ys)
  | _ => none
def vIZ (r : VA) : VI := fun Γ => (r Γ).bind zip2
theorem f_IZ (h : FA mA vA) : FI' (mIZ mA) (vIZ vA) := fun Γ n d Q e q => by
  obtain ⟨xs, h1, e⟩ := bnd e
  unfold zip2 at e
  split at e
  · cases e; exact h Γ n _ _ h1 (.inl ⟨_, _, rfl, q⟩)
  · cases e; exact h Γ n _ _ h1 (.inr ⟨_, _, rfl, q⟩)
  · cases e
instance (i : Int) : Decidable (okR i) := inferInstanceAs (Decidable (_ ∧ _))
def range1 : List D → Option (List D)
  | [.int j] => if okR j then some (rangeD 0 j.toNat) else none
  | _ => none
def range2 : List D → Option (List D)
  | [.int i, .int j] => if okR i ∧ okR j then some (rangeD i (j - i).toNat) else none
  | _ => none
def vIR1 (r : VA) : VI := fun Γ => (r Γ).bind range1
def vIR2 (r : VA) : VI := fun Γ => (r Γ).bind range2
theorem f_IR1 (h : FA mA vA) : FI' (mIR1 mA) (vIR1 vA) := fun Γ n d Q e q => by
  obtain ⟨xs, h1, e⟩ := bnd e
  unfold range1 at e
  split at e
  · obtain ⟨h2, rfl⟩ := ifs e
    exact h Γ n _ _ h1 ⟨_, rfl, h2, q⟩
  · cases e
theorem f_IR2 (h : FA mA vA) : FI' (mIR2 mA) (vIR2 vA) := fun Γ n d Q e q => by
  obtain ⟨xs, h1, e⟩ := bnd e
  unfold range2 at e
  split at e
  · obtain ⟨h2, rfl⟩ := ifs e
    exact h Γ n _ _ h1 ⟨_, _, rfl, h2.1, h2.2, q⟩
  · cases e
def vcomp (g : VG) (t : VT) (e : VE) (Γ : DEnv) : List D → Option (List D)
  | [] => some []
  | d :: ds => (g d Γ).bind fun Γ2 => (t Γ2).bind fun b => if b = true then (e Γ2).bind fun y => (vcomp g t e Γ ds).bind fun r => some (y :: r) else vcomp g t e Γ ds
def vYes : VT := fun _ => some true
theorem f_Yes : FT mYes vYes := fun Γ n d Q e q => by cases e; exact q
theorem f_comp (hg : FGt mG vG) (ht : FT mt t) (he : FE me e) {Γ : DEnv} : ∀ (ds r : List D) (n : Nat) (Q : List D → Nat → Prop), vcomp vG t e Γ ds = some r → Q r n → compW mG mt me Γ ds n Q
  | [], r, n, Q, h, q => by cases h; exact q
  | d :: ds, r, n, Q, h, q => by
    obtain ⟨Γ2, h1, h⟩ := bnd h
    obtain ⟨k, h2, h⟩ := bnd h
    refine hg _ _ _ _ h1 (ht _ _ _ _ h2 ?_)
    cases k with
    | true =>
      rw [if_pos rfl] at h ⊢
      obtain ⟨y, h3, h⟩ := bnd h
      obtain ⟨r', h4, h⟩ := bnd h
      cases h
      exact he _ _ _ _ h3 (f_comp hg ht he ds r' n _ h4 q)
    | false =>
      rw [if_neg (by decide)] at h ⊢
      exact f_comp hg ht he ds r n _ h q
def vLc (i : VI) (g : VG) (t : VT) (e : VE) (vs : List Nat) : VE := fun Γ => (i Γ).bind fun ds => if ds.length ≤ lim then (vcomp g t e (wipeD Γ vs) ds).bind fun r => some (.list r) else none
theorem f_Lc {mi : MI} {i : VI} {vs : List Nat} (hi : FI' mi i) (hg : FGt mG vG) (ht : FT mt t) (he : FE me e) : FE (mLc mi mG mt me vs) (vLc i vG t e vs) := fun Γ n d Q h q => by
  obtain ⟨ds, h1, h⟩ := bnd h
  split at h
  · obtain ⟨r, h2, h⟩ := bnd h
    cases h
    exact hi _ _ _ _ h1 ⟨by assumption, f_comp hg ht he ds r n _ h2 q⟩
  · cases h
def vcompI (g : VG) (t : VT) (e : VE) (Γ : DEnv) : List D → List D → Option (List D)
  | [], acc => some acc
  | d :: ds, acc => (g d Γ).bind fun Γ2 => (t Γ2).bind fun b => if b = true then (e Γ2).bind fun y => if acc.length < lim then vcompI g t e Γ ds (acc ++ [y]) else none else vcompI g t e Γ ds acc
def vcompO (g : VG) (t : VT) (i1 : VI) (g1 : VG) (t1 : VT) (e : VE) (vs1 : List Nat) (Γ : DEnv) : List D → List D → Option (List D)
  | [], acc => some acc
  | d :: ds, acc => (g d Γ).bind fun Γ2 => (t Γ2).bind fun b => if b = true then (i1 Γ2).bind fun es => (vcompI g1 t1 e (wipeD Γ2 vs1) es acc).bind fun acc' => vcompO g t i1 g1 t1 e vs1 Γ ds acc' else vcompO g t i1 g1 t1 e vs1 Γ ds acc
theorem f_compI (hg : FGt mG vG) (ht : FT mt t) (he : FE me e) {Γ : DEnv} : ∀ (ds acc r : List D) (n : Nat) (Q : List D → Nat → Prop), vcompI vG t e Γ ds acc = some r → Q r n → compI mG mt me Γ ds n acc Q
  | [], acc, r, n, Q, h, q => by cases h; exact q
  | d :: ds, acc, r, n, Q, h, q => by
    obtain ⟨Γ2, h1, h⟩ := bnd h
    obtain ⟨k, h2, h⟩ := bnd h
    refine hg _ _ _ _ h1 (ht _ _ _ _ h2 ?_)
    cases k with
    | true =>
      rw [if_pos rfl] at h ⊢
      obtain ⟨y, h3, h⟩ := bnd h
      refine he _ _ _ _ h3 ?_
      split at h
      · exact ⟨by assumption, f_compI hg ht he ds _ r n _ h q⟩
      · cases h
    | false =>
      rw [if_neg (by decide)] at h ⊢
      exact f_compI hg ht he ds acc r n _ h q
theorem f_compO {mi1 : MI} {i1 : VI} {mG1 : MG} {vG1 : VG} {vs1 : List Nat} (hg : FGt mG vG) (ht : FT mt t) (hi : FI' mi1 i1) (hg1 : FGt mG1 vG1) (ht1 : FT mu s) (he : FE me e) {Γ : DEnv} : ∀ (ds acc r : List D) (n : Nat) (Q : List D → Nat → Prop), vcompO vG t i1 vG1 s e vs1 Γ ds acc = some r → Q r n → compO mG mt mi1 mG1 mu me vs1 Γ ds n acc Q
  | [], acc, r, n, Q, h, q => by cases h; exact q
  | d :: ds, acc, r, n, Q, h, q => by
    obtain ⟨Γ2, h1, h⟩ := bnd h
    obtain ⟨k, h2, h⟩ := bnd h
    refine hg _ _ _ _ h1 (ht _ _ _ _ h2 ?_)
    cases k with
    | true =>
      rw [if_pos rfl] at h ⊢
      obtain ⟨es, h3, h⟩ := bnd h
      obtain ⟨acc', h4, h⟩ := bnd h
      exact hi _ _ _ _ h3 (f_compI hg1 ht1 he es acc acc' n _ h4 (f_compO hg ht hi hg1 ht1 he ds acc' r n Q h q))
    | false =>
      rw [if_neg (by decide)] at h ⊢
      exact f_compO hg ht hi hg1 ht1 he ds acc r n _ h q
def vLc2 (i : VI) (g : VG) (t : VT) (i1 : VI) (g1 : VG) (t1 : VT) (e : VE) (vs vs1 : List Nat) : VE := fun Γ => (i Γ).bind fun ds => (vcompO g t i1 g1 t1 e vs1 (wipeD Γ vs) ds []).bind fun r => some (.list r)
theorem f_Lc2 {mi mi1 : MI} {i i1 : VI} {mG1 : MG} {vG1 : VG} {vs vs1 : List Nat} (hi : FI' mi i) (hg : FGt mG vG) (ht : FT mt t) (hi1 : FI' mi1 i1) (hg1 : FGt mG1 vG1) (ht1 : FT mu s) (he : FE me e) : FE (mLc2 mi mG mt mi1 mG1 mu me vs vs1) (vLc2 i vG t i1 vG1 s e vs vs1) := fun Γ n d Q h q => by
  obtain ⟨ds, h1, h⟩ := bnd h
  obtain ⟨r, h2, h⟩ := bnd h
  cases h
  exact hi _ _ _ _ h1 (f_compO hg ht hi1 hg1 ht1 he ds [] r n _ h2 q)
def vNext : VS := fun Γ => some (.nx Γ)
def vSeqS (t u : VS) : VS := fun Γ => (t Γ).bind fun r => match r with | .nx Γ1 => u Γ1 | r => some r
theorem f_Next : FS mNext vNext := fun Γ n r E e q => by cases e; exact q
theorem f_Seq (h : FS mS vS) (k : FS nS wS) : FS (mSeq mS nS) (vSeqS vS wS) := fun Γ n r E e q => by
  obtain ⟨r1, h1, e⟩ := bnd e
  refine h Γ n r1 _ h1 ?_
  cases r1 with
  | nx Γ1 => exact k Γ1 n r E e q
  | rt d => cases e; exact q
  | bk Γ1 => cases e; exact q
  | ct Γ1 => cases e; exact q
def vNever : VS := fun _ => none
theorem f_Never : FS mNever vNever := fun Γ n r E e q => by cases e
def vDrop (a : VE) : VS := fun Γ => (a Γ).bind fun _ => some (.nx Γ)
theorem f_Drop (h : FE ma a) : FS (mDrop ma) (vDrop a) := fun Γ n r E e q => by
  obtain ⟨x, h1, e⟩ := bnd e
  cases e
  exact h Γ n x _ h1 q
def vRet (a : VE) : VS := fun Γ => (a Γ).bind fun x => some (.rt x)
theorem f_Ret (h : FE ma a) : FS (mRet ma) (vRet a) := fun Γ n r E e q => by
  obtain ⟨x, h1, e⟩ := bnd e
  cases e
  exact h Γ n x _ h1 q
def vIfS (t : VT) (x y : VS) : VS := fun Γ => (t Γ).bind fun k => if k = true then x Γ else y Γ
theorem f_IfS (ht : FT mt t) (h : FS mS vS) (k : FS nS wS) : FS (mIfS mt mS nS) (vIfS t vS wS) := fun Γ n r E e q => by
  obtain ⟨b, h1, e⟩ := bnd e
  refine ht Γ n b _ h1 ?_
  cases b with
  | true => rw [if_pos rfl] at e ⊢; exact h Γ n r E e q
  | false => rw [if_neg (by decide)] at e ⊢; exact k Γ n r E e q
def vSet (i : Nat) (a : VE) : VS := fun Γ => (a Γ).bind fun x => some (.nx (Γ.set i (some x)))
theorem f_Set {i : Nat} (h : FE ma a) : FS (mSet i ma) (vSet i a) := fun Γ n r E e q => by
  obtain ⟨x, h1, e⟩ := bnd e
  cases e
  exact h Γ n x _ h1 q
def vAug (i : Nat) (f : D → D → Option D) (a : VE) : VS := fun Γ => (vVar i Γ).bind fun x => (a Γ).bind fun y => (f x y).bind fun z => some (.nx (Γ.set i (some z)))
theorem f_Aug {i : Nat} (h : FE ma a) : FS (mAug i f ma) (vAug i f a) := fun Γ n r E e q => by
  obtain ⟨x, h1, e⟩ := bnd e
  obtain ⟨y, h2, e⟩ := bnd e
  obtain ⟨z, h3, e⟩ := bnd e
  cases e
  unfold vVar at h1
  split at h1
  · cases h1
    exact ⟨_, by assumption, h Γ n y _ h2 ⟨z, h3, q⟩⟩
  · cases h1
def vPar (is : List Nat) (r : VA) : VS := fun Γ => (r Γ).bind fun ds => if ds.length = is.length then some (.nx (setsD Γ is ds)) else none
theorem f_Par {is : List Nat} (h : FA mA vA) : FS (mPar is mA) (vPar is vA) := fun Γ n r E e q => by
  obtain ⟨ds, h1, e⟩ := bnd e
  obtain ⟨h2, rfl⟩ := ifs e
  exact h Γ n ds _ h1 ⟨h2, q⟩
def vAsg (a : VE) (g : VG) : VS := fun Γ => (a Γ).bind fun x => (g x Γ).bind fun Γ1 => some (.nx Γ1)
theorem f_Asg (h : FE ma a) (hg : FGt mG vG) : FS (mAsg ma mG) (vAsg a vG) := fun Γ n r E e q => by
  obtain ⟨x, h1, e⟩ := bnd e
  obtain ⟨Γ1, h2, e⟩ := bnd e
  cases e
  exact h Γ n x _ h1 (hg _ _ _ _ h2 q)
def asL : D → Option (List D)
  | .list xs => some xs
  | _ => none
def vAppend (i : Nat) (a : VE) : VS := fun Γ => (vVar i Γ).bind fun x => (asL x).bind fun ds => (a Γ).bind fun d => if ds.length < lim then some (.nx (Γ.set i (some (.list (ds ++ [d]))))) else none
theorem f_Append {i : Nat} (h : FE ma a) : FS (mAppend i ma) (vAppend i a) := fun Γ n r E e q => by
  obtain ⟨x, h1, e⟩ := bnd e
  obtain ⟨ds, h2, e⟩ := bnd e
  obtain ⟨d, h3, e⟩ := bnd e
  obtain ⟨h4, rfl⟩ := ifs e
  unfold vVar at h1
  split at h1
  · cases h1
    unfold asL at h2
    split at h2
    · cases h2
      exact ⟨_, by assumption, h Γ n d _ h3 ⟨h4, q⟩⟩
    · cases h2
  · cases h1
def vfor (g : VG) (b : VS) : List D → DEnv → Option Rs
  | [], Γ => some (.nx Γ)
  | d :: ds, Γ => (g d Γ).bind fun Γ1 => (b Γ1).bind fun r => match r with | .nx Γ2 => vfor g b ds Γ2 | .ct Γ2 => vfor g b ds Γ2 | .bk Γ2 => some (.nx Γ2) | .rt x => some (.rt x)
def vFor (i : VI) (g : VG) (b : VS) : VS := fun Γ => (i Γ).bind fun ds => vfor g b ds Γ
theorem f_for (hg : FGt mG vG) (h : FS mS vS) {E : EndsD} {n : Nat} : ∀ (ds : List D) (Γ : DEnv) (r : Rs), vfor vG vS ds Γ = some r → r.to E n → forW mG mS E ds Γ n
  | [], Γ, r, e, q => by cases e; exact q
  | d :: ds, Γ, r, e, q => by
    obtain ⟨Γ1, h1, e⟩ := bnd e
    obtain ⟨r1, h2, e⟩ := bnd e
    refine hg _ _ _ _ h1 (h Γ1 n r1 _ h2 ?_)
    cases r1 with
    | nx Γ2 => exact f_for hg h ds Γ2 r e q
    | ct Γ2 => exact f_for hg h ds Γ2 r e q
    | bk Γ2 => cases e; exact q
    | rt x => cases e; exact q
theorem f_For {mi : MI} {i : VI} (hi : FI' mi i) (hg : FGt mG vG) (h : FS mS vS) : FS (mFor mi mG mS) (vFor i vG vS) := fun Γ n r E e q => by
  obtain ⟨ds, h1, e⟩ := bnd e
  exact hi _ _ _ _ h1 (f_for hg h ds Γ r e q)
def vwhile (t : VT) (b : VS) : Nat → DEnv → Option Rs
  | 0, _ => none
  | m + 1, Γ => (t Γ).bind fun k => if k = true then (b Γ).bind fun r => match r with | .nx Γ2 => vwhile t b m Γ2 | .ct Γ2 => vwhile t b m Γ2 | .bk Γ2 => some (.nx Γ2) | .rt x => some (.rt x) else some (.nx Γ)
def fuel : Nat := 100000
def vWhile (t : VT) (b : VS) : VS := fun Γ => vwhile t b fuel Γ
theorem f_While (ht : FT mt t) (h : FS mS vS) : FS (mWhile mt mS) (vWhile t vS) := fun Γ n r E e q => by
  refine ⟨fun m Γ n' => n' = n ∧ ∃ r, vwhile t vS m Γ = some r ∧ r.to E n, ⟨fuel, rfl, r, e, q⟩, ?_⟩
  rintro m Γ n' ⟨rfl, r, e, q⟩
  cases m with
  | zero => cases e
  | succ m =>
    obtain ⟨k, h1, e⟩ := bnd e
    refine ht Γ n' k _ h1 ?_
    cases k with
    | true =>
      rw [if_pos rfl] at e ⊢
      obtain ⟨r1, h2, e⟩ := bnd e
      refine h Γ n' r1 _ h2 ?_
      cases r1 with
      | nx Γ2 => exact ⟨m, Nat.lt_succ_self m, rfl, r, e, q⟩
      | ct Γ2 => exact ⟨m, Nat.lt_succ_self m, rfl, r, e, q⟩
      | bk Γ2 => cases e; exact q
      | rt x => cases e; exact q
    | false =>
      rw [if_neg (by decide)] at e ⊢
      cases e
      exact q
def outD : Rs → Option D
  | .nx _ => some .none
  | .rt d => some d
  | _ => none
def vFun (N : List Str) (np : Nat) (b : VS) : VP := fun ds => if ds.length = np then (b (startD N (ds.map some))).bind outD else none
theorem f_Fun {N : List Str} {np : Nat} (h : FS mS vS) : FP (mFun N np mS) (vFun N np vS) := fun ds d R e q => by
  unfold vFun at e
  split at e
  · obtain ⟨r, h1, e⟩ := bnd e
    refine ⟨by assumption, h _ _ r _ h1 ?_⟩
    cases r with
    | nx Γ => cases e; exact q
    | rt x => cases e; exact q
    | bk Γ => cases e
    | ct Γ => cases e
  · cases e
def vCallK (f : VP) (is : List Nat) (r : VA) : VE := fun Γ => (r Γ).bind fun ds => if ds.length = is.length then f (permL is ds) else none
theorem f_CallK {mf : MP} {f : VP} {is : List Nat} (hf : FP mf f) (h : FA mA vA) : FE (mCallK mf is mA) (vCallK f is vA) := fun Γ n d Q e q => by
  obtain ⟨xs, h1, e⟩ := bnd e
  split at e
  · exact h Γ n xs _ h1 ⟨by assumption, hf _ d _ e q⟩
  · cases e
def vdcomp (g : VG) (t : VT) (ek ev : VE) (Γ : DEnv) : List D → List (D × D) → Option (List (D × D))
  | [], acc => some acc
  | d :: ds, acc => (g d Γ).bind fun Γ2 => (t Γ2).bind fun b => if b = true then (ek Γ2).bind fun kd => (ev Γ2).bind fun y => (keyOf kd).bind fun k => vdcomp g t ek ev Γ ds (putD acc k y) else vdcomp g t ek ev Γ ds acc
theorem f_dcomp {mk : ME} {ek : VE} (hg : FGt mG vG) (ht : FT mt t) (hk : FE mk ek) (he : FE me e) {Γ : DEnv} : ∀ (ds : List D) (acc r : List (D × D)) (n : Nat) (Q : List (D × D) → Nat → Prop), vdcomp vG t ek e Γ ds acc = some r → Q r n → dcompW mG mt mk me Γ ds n acc Q
  | [], acc, r, n, Q, h, q => by cases h; exact q
  | d :: ds, acc, r, n, Q, h, q => by
    obtain ⟨Γ2, h1, h⟩ := bnd h
    obtain ⟨k, h2, h⟩ := bnd h
    refine hg _ _ _ _ h1 (ht _ _ _ _ h2 ?_)
    cases k with
    | true =>
      rw [if_pos rfl] at h ⊢
      obtain ⟨kd, h3, h⟩ := bnd h
      obtain ⟨y, h4, h⟩ := bnd h
      obtain ⟨k, h5, h⟩ := bnd h
      exact hk _ _ _ _ h3 (he _ _ _ _ h4 ⟨k, h5, f_dcomp hg ht hk he ds _ r n _ h q⟩)
    | false =>
      rw [if_neg (by decide)] at h ⊢
      exact f_dcomp hg ht hk he ds acc r n _ h q
def vDc (i : VI) (g : VG) (t : VT) (ek ev : VE) (vs : List Nat) : VE := fun Γ => (i Γ).bind fun ds => if ds.length ≤ lim then (vdcomp g t ek ev (wipeD Γ vs) ds []).bind fun r => some (.dict r) else none
theorem f_Dc {mi : MI} {i : VI} {mk : ME} {ek : VE} {vs : List Nat} (hi : FI' mi i) (hg : FGt mG vG) (ht : FT mt t) (hk : FE mk ek) (he : FE me e) : FE (mDc mi mG mt mk me vs) (vDc i vG t ek e vs) := fun Γ n d Q h q => by
  obtain ⟨ds, h1, h⟩ := bnd h
  split at h
  · obtain ⟨r, h2, h⟩ := bnd h
    cases h
    exact hi _ _ _ _ h1 ⟨by assumption, f_dcomp hg ht hk he ds [] r n _ h2 q⟩
  · cases h
def vRev (a : VE) : VE := fun Γ => (a Γ).bind dRev
theorem f_Rev (h : FE ma a) : FE (mRev ma) (vRev a) := fun Γ n d Q e q => by
  obtain ⟨x, h1, e⟩ := bnd e
  exact h Γ n x _ h1 ⟨d, e, q⟩
abbrev VPs := DEnv → Option (List (D × D))
def FPs (m : MPs) (v : VPs) : Prop := ∀ Γ n d (Q : List (D × D) → Nat → Prop), v Γ = some d → Q d n → m Γ n Q
def vpNil : VPs := fun _ => some []
def vpCons (a b : VE) (r : VPs) : VPs := fun Γ => (a Γ).bind fun x => (b Γ).bind fun y => (r Γ).bind fun l => some ((x, y) :: l)
def vDisp (r : VPs) : VE := fun Γ => (r Γ).bind dispD
theorem f_pNil : FPs mpNil vpNil := fun Γ n d Q e q => by cases e; exact q
theorem f_pCons {mP : MPs} {vP : VPs} (ha : FE ma a) (hb : FE mb b) (hr : FPs mP vP) : FPs (mpCons ma mb mP) (vpCons a b vP) := fun Γ n d Q e q => by
  obtain ⟨x, h1, e⟩ := bnd e
  obtain ⟨y, h2, e⟩ := bnd e
  obtain ⟨l, h3, e⟩ := bnd e
  cases e
  exact ha Γ n x _ h1 (hb Γ n y _ h2 (hr Γ n l _ h3 q))
theorem f_Disp {mP : MPs} {vP : VPs} (h : FPs mP vP) : FE (mDisp mP) (vDisp vP) := fun Γ n d Q e q => by
  obtain ⟨l, h1, e⟩ := bnd e
  exact h Γ n l _ h1 ⟨d, e, q⟩
def vLookL (a : VE) : VE := fun Γ => (a Γ).bind fun x => if flatL x = true then some x else none
theorem f_LookL (h : FE ma a) : FE (mLookL ma) (vLookL a) := fun Γ n d Q e q => by
  obtain ⟨x, h1, e⟩ := bnd e
  obtain ⟨h2, rfl⟩ := ifs e
  exact h Γ n x _ h1 ⟨h2, q⟩
def dictAt (i : Nat) (Γ : DEnv) : Option (List (D × D)) := match Γ[i]? with | some (some (.dict ds)) => some ds | _ => none
theorem dictAt_eq {i : Nat} {Γ : DEnv} {ds : List (D × D)} (h : dictAt i Γ = some ds) : Γ[i]? = some (some (.dict ds)) := by
  unfold dictAt at h
  split at h
  · cases h; assumption
  · cases h
def vIKeys (i : Nat) : VI := fun Γ => (dictAt i Γ).bind fun ds => some (ds.map (·.1))
def vIVals (i : Nat) : VI := fun Γ => (dictAt i Γ).bind fun ds => some (ds.map (·.2))
def vIItems (i : Nat) : VI := fun Γ => (dictAt i Γ).bind fun ds => some (ds.map fun q => .tuple [q.1, q.2])
theorem f_IKeys {i : Nat} : FI' (mIKeys i) (vIKeys i) := fun Γ n d Q e q => by
  obtain ⟨ds, h, e⟩ := bnd e
  cases e
  exact ⟨ds, dictAt_eq h, q⟩
theorem f_IVals {i : Nat} : FI' (mIVals i) (vIVals i) := fun Γ n d Q e q => by
  obtain ⟨ds, h, e⟩ := bnd e
  cases e
  exact ⟨ds, dictAt_eq h, q⟩
theorem f_IItems {i : Nat} : FI' (mIItems i) (vIItems i) := fun Γ n d Q e q => by
  obtain ⟨ds, h, e⟩ := bnd e
  cases e
  exact ⟨ds, dictAt_eq h, q⟩
theorem asL_eq {d : D} {xs : List D} (h : asL d = some xs) : d = .list xs := by
  unfold asL at h
  split at h
  · cases h; rfl
  · cases h
def asDict : D → Option (List (D × D))
  | .dict kvs => some kvs
  | _ => none
theorem asDict_eq {d : D} {xs : List (D × D)} (h : asDict d = some xs) : d = .dict xs := by
  unfold asDict at h
  split at h
  · cases h; rfl
  · cases h
end
end RR
end
section
namespace RC
open PySem PySem.Spec L2 RR
open PyProof.Rows hiding St
def c_ROW_BOUNDS : List (D × D) := [((.str "plain"), (.tuple [(.tuple [(.int 1), (.int 99)]), (.tuple [(.int 0), (.int 999)])])), ((.str "stop"), (.tuple [(.tuple [(.int 1), (.int 99)])])), ((.str "jump"), (.tuple [(.tuple [(.int 0), (.int 19)])])), ((.str "branch"), (.tuple [(.tuple [(.int 0), (.int 19)])])), ((.str "far"), (.tuple [(.tuple [(.int 0), (.int 4)])])), ((.str "load"), (.tuple [(.tuple [(.int 0), (.int 65535)])])), ((.str "word"), (.tuple [(.tuple [(.int 0), (.int 65535)])])), ((.str "align"), (.tuple [(.tuple [(.int 2), (.int 16)])]))]
def c_HIGHEST : D := (.int 65535)
def c_MOST_STEPS : D := (.int 1000)
def c_MOST_ROWS : D := (.int 20)
def c_MOST_PARTS : D := (.int 5)
def c_MOST_JUMPS_BESIDE_ALIGN : D := (.int 6)
def c_MULTIPLES : D := (.tuple [(.int 2), (.int 4), (.int 8), (.int 16)])
def c_JUMPS : D := (.tuple [(.str "jump"), (.str "branch")])
def c_GOING_ON : D := (.tuple [(.str "plain"), (.str "branch"), (.str "load"), (.str "align")])
def b_is_within : MS := (mRet (mAndV (mIsi "int" (mVar 0)) (mAndV (mNotV (mIsi "bool" (mVar 0))) (mChain dLe dLe (mVar 1) (mVar 0) (mVar 2)))))
def m_is_within : MP := mFun ["thing", "low", "high"] 3 b_is_within
def vb_is_within : VS := (vRet (vAndV (vIsi "int" (vVar 0)) (vAndV (vNotV (vIsi "bool" (vVar 0))) (vChain dLe dLe (vVar 1) (vVar 0) (vVar 2)))))
def v_is_within : VP := vFun ["thing", "low", "high"] 3 vb_is_within
theorem fp_is_within : FP m_is_within v_is_within := by
  unfold m_is_within v_is_within b_is_within vb_is_within
  exact f_Fun (f_Ret (f_AndV (f_Isi f_Var) (f_AndV (f_NotV (f_Isi f_Var)) (f_Chain f_Var f_Var f_Var))))
def b_are_within : MS := (mSeq (mIfS (mTest (mOp dNe (mCl cLen (mCons (mVar 0) mNil)) (mCl cLen (mCons (mVar 1) mNil)))) (mRet (mC (.bool false))) mNext) (mRet (mCl cAll (mCons (mLc (mIZ (mCons (mVar 0) (mCons (mVar 1) mNil))) (mgTup 2 (mgCons (mgName 2) (mgCons (mgTup 2 (mgCons (mgName 3) (mgCons (mgName 4) mgNil))) mgNil))) mYes (mCall m_is_within (mCons (mVar 2) (mCons (mVar 3) (mCons (mVar 4) mNil)))) [2, 3, 4]) mNil))))
def m_are_within : MP := mFun ["things", "bounds", "thing", "low", "high"] 2 b_are_within
def vb_are_within : VS := (vSeqS (vIfS (vTest (vOp dNe (vCl cLen (vCons (vVar 0) vNil)) (vCl cLen (vCons (vVar 1) vNil)))) (vRet (vC (.bool false))) vNext) (vRet (vCl cAll (vCons (vLc (vIZ (vCons (vVar 0) (vCons (vVar 1) vNil))) (vgTup 2 (vgCons (vgName 2) (vgCons (vgTup 2 (vgCons (vgName 3) (vgCons (vgName 4) vgNil))) vgNil))) vYes (vCall v_is_within (vCons (vVar 2) (vCons (vVar 3) (vCons (vVar 4) vNil)))) [2, 3, 4]) vNil))))
def v_are_within : VP := vFun ["things", "bounds", "thing", "low", "high"] 2 vb_are_within
theorem fp_are_within : FP m_are_within v_are_within := by
  unfold m_are_within v_are_within b_are_within vb_are_within
  exact f_Fun (f_Seq (f_IfS (f_Test (f_Op (f_Cl (f_Cons f_Var f_Nil)) (f_Cl (f_Cons f_Var f_Nil)))) (f_Ret f_C) f_Next) (f_Ret (f_Cl (f_Cons (f_Lc (f_IZ (f_Cons f_Var (f_Cons f_Var f_Nil))) (f_gTup (f_gCons f_gName (f_gCons (f_gTup (f_gCons f_gName (f_gCons f_gName f_gNil))) f_gNil))) f_Yes (f_Call fp_is_within (f_Cons f_Var (f_Cons f_Var (f_Cons f_Var f_Nil))))) f_Nil))))
def b_is_row : MS := (mSeq (mIfS (mOr (mNot (mTest (mIsi "tuple" (mVar 0)))) (mTest (mOp dEq (mCl cLen (mCons (mVar 0) mNil)) (mC (.int 0))))) (mRet (mC (.bool false))) mNext) (mSeq (mIfS (mOr (mNot (mTest (mIsi "str" (mOp dIx (mVar 0) (mC (.int 0)))))) (mTest (mUn (kNin c_ROW_BOUNDS) (mOp dIx (mVar 0) (mC (.int 0)))))) (mRet (mC (.bool false))) mNext) (mSeq (mIfS (mNot (mTest (mCall m_are_within (mCons (mSl (mVar 0) (mPart (mC (.int 1))) mNoPart) (mCons (mUn (kIx c_ROW_BOUNDS) (mOp dIx (mVar 0) (mC (.int 0)))) mNil))))) (mRet (mC (.bool false))) mNext) (mRet (mOrV (mOp dNe (mOp dIx (mVar 0) (mC (.int 0))) (mC (.str "align"))) (mOp dIn (mOp dIx (mVar 0) (mC (.int 1))) (mC c_MULTIPLES)))))))
def m_is_row : MP := mFun ["thing"] 1 b_is_row
def vb_is_row : VS := (vSeqS (vIfS (vOr (vNot (vTest (vIsi "tuple" (vVar 0)))) (vTest (vOp dEq (vCl cLen (vCons (vVar 0) vNil)) (vC (.int 0))))) (vRet (vC (.bool false))) vNext) (vSeqS (vIfS (vOr (vNot (vTest (vIsi "str" (vOp dIx (vVar 0) (vC (.int 0)))))) (vTest (vUn (kNin c_ROW_BOUNDS) (vOp dIx (vVar 0) (vC (.int 0)))))) (vRet (vC (.bool false))) vNext) (vSeqS (vIfS (vNot (vTest (vCall v_are_within (vCons (vSl (vVar 0) (vPart (vC (.int 1))) vNoPart) (vCons (vUn (kIx c_ROW_BOUNDS) (vOp dIx (vVar 0) (vC (.int 0)))) vNil))))) (vRet (vC (.bool false))) vNext) (vRet (vOrV (vOp dNe (vOp dIx (vVar 0) (vC (.int 0))) (vC (.str "align"))) (vOp dIn (vOp dIx (vVar 0) (vC (.int 1))) (vC c_MULTIPLES)))))))
def v_is_row : VP := vFun ["thing"] 1 vb_is_row
theorem fp_is_row : FP m_is_row v_is_row := by
  unfold m_is_row v_is_row b_is_row vb_is_row
  exact f_Fun (f_Seq (f_IfS (f_Or (f_Not (f_Test (f_Isi f_Var))) (f_Test (f_Op (f_Cl (f_Cons f_Var f_Nil)) f_C))) (f_Ret f_C) f_Next) (f_Seq (f_IfS (f_Or (f_Not (f_Test (f_Isi (f_Op f_Var f_C)))) (f_Test (f_Un (f_Op f_Var f_C)))) (f_Ret f_C) f_Next) (f_Seq (f_IfS (f_Not (f_Test (f_Call fp_are_within (f_Cons (f_Sl f_Var (f_Part f_C) f_NoPart) (f_Cons (f_Un (f_Op f_Var f_C)) f_Nil))))) (f_Ret f_C) f_Next) (f_Ret (f_OrV (f_Op (f_Op f_Var f_C) f_C) (f_Op (f_Op f_Var f_C) f_C))))))
def b_jump_rows : MS := (mRet (mLc (mIEn (mCons (mVar 0) mNil)) (mgTup 2 (mgCons (mgName 1) (mgCons (mgName 2) mgNil))) (mTest (mOp dIn (mOp dIx (mVar 2) (mC (.int 0))) (mC c_JUMPS))) (mVar 1) [1, 2]))
def m_jump_rows : MP := mFun ["part", "number", "row"] 1 b_jump_rows
def vb_jump_rows : VS := (vRet (vLc (vIEn (vCons (vVar 0) vNil)) (vgTup 2 (vgCons (vgName 1) (vgCons (vgName 2) vgNil))) (vTest (vOp dIn (vOp dIx (vVar 2) (vC (.int 0))) (vC c_JUMPS))) (vVar 1) [1, 2]))
def v_jump_rows : VP := vFun ["part", "number", "row"] 1 vb_jump_rows
theorem fp_jump_rows : FP m_jump_rows v_jump_rows := by
  unfold m_jump_rows v_jump_rows b_jump_rows vb_jump_rows
  exact f_Fun (f_Ret (f_Lc (f_IEn (f_Cons f_Var f_Nil)) (f_gTup (f_gCons f_gName (f_gCons f_gName f_gNil))) (f_Test (f_Op (f_Op f_Var f_C) f_C)) f_Var))
def b_is_even : MS := (mRet (mCl cAll (mCons (mLc (mISeq (mVar 0)) (mgName 1) mYes (mOp dNe (mOp dIx (mVar 1) (mC (.int 0))) (mC (.str "align"))) [1]) mNil)))
def m_is_even : MP := mFun ["part", "row"] 1 b_is_even
def vb_is_even : VS := (vRet (vCl cAll (vCons (vLc (vISeq (vVar 0)) (vgName 1) vYes (vOp dNe (vOp dIx (vVar 1) (vC (.int 0))) (vC (.str "align"))) [1]) vNil)))
def v_is_even : VP := vFun ["part", "row"] 1 vb_is_even
theorem fp_is_even : FP m_is_even v_is_even := by
  unfold m_is_even v_is_even b_is_even vb_is_even
  exact f_Fun (f_Ret (f_Cl (f_Cons (f_Lc (f_ISeq f_Var) f_gName f_Yes (f_Op (f_Op f_Var f_C) f_C)) f_Nil)))
def b_goals_stand : MS := (mSeq (mSet 1 (mLc (mISeq (mCall m_jump_rows (mCons (mVar 0) mNil))) (mgName 2) mYes (mOp dIx (mOp dIx (mVar 0) (mVar 2)) (mC (.int 1))) [2])) (mRet (mCl cAll (mCons (mLc (mISeq (mVar 1)) (mgName 3) mYes (mAndV (mOp dLt (mVar 3) (mCl cLen (mCons (mVar 0) mNil))) (mOp dNe (mOp dIx (mOp dIx (mVar 0) (mVar 3)) (mC (.int 0))) (mC (.str "word")))) [3]) mNil))))
def m_goals_stand : MP := mFun ["rows", "goals", "number", "goal"] 1 b_goals_stand
def vb_goals_stand : VS := (vSeqS (vSet 1 (vLc (vISeq (vCall v_jump_rows (vCons (vVar 0) vNil))) (vgName 2) vYes (vOp dIx (vOp dIx (vVar 0) (vVar 2)) (vC (.int 1))) [2])) (vRet (vCl cAll (vCons (vLc (vISeq (vVar 1)) (vgName 3) vYes (vAndV (vOp dLt (vVar 3) (vCl cLen (vCons (vVar 0) vNil))) (vOp dNe (vOp dIx (vOp dIx (vVar 0) (vVar 3)) (vC (.int 0))) (vC (.str "word")))) [3]) vNil))))
def v_goals_stand : VP := vFun ["rows", "goals", "number", "goal"] 1 vb_goals_stand
theorem fp_goals_stand : FP m_goals_stand v_goals_stand := by
  unfold m_goals_stand v_goals_stand b_goals_stand vb_goals_stand
  exact f_Fun (f_Seq (f_Set (f_Lc (f_ISeq (f_Call fp_jump_rows (f_Cons f_Var f_Nil))) f_gName f_Yes (f_Op (f_Op f_Var f_Var) f_C))) (f_Ret (f_Cl (f_Cons (f_Lc (f_ISeq f_Var) f_gName f_Yes (f_AndV (f_Op f_Var (f_Cl (f_Cons f_Var f_Nil))) (f_Op (f_Op (f_Op f_Var f_Var) f_C) f_C))) f_Nil))))
def b_words_are_shunned : MS := (mSeq (mIfS (mOr (mTest (mOp dEq (mOp dIx (mOp dIx (mVar 0) (mC (.int 0))) (mC (.int 0))) (mC (.str "word")))) (mTest (mOp dIn (mOp dIx (mOp dIx (mVar 0) (mUn dNeg (mC (.int 1)))) (mC (.int 0))) (mC c_GOING_ON)))) (mRet (mC (.bool false))) mNext) (mRet (mCl cAll (mCons (mLc (mIZ (mCons (mVar 0) (mCons (mSl (mVar 0) (mPart (mC (.int 1))) mNoPart) mNil))) (mgTup 2 (mgCons (mgName 1) (mgCons (mgName 2) mgNil))) mYes (mOrV (mOp dNotIn (mOp dIx (mVar 1) (mC (.int 0))) (mC c_GOING_ON)) (mOp dNe (mOp dIx (mVar 2) (mC (.int 0))) (mC (.str "word")))) [1, 2]) mNil))))
def m_words_are_shunned : MP := mFun ["rows", "row", "behind"] 1 b_words_are_shunned
def vb_words_are_shunned : VS := (vSeqS (vIfS (vOr (vTest (vOp dEq (vOp dIx (vOp dIx (vVar 0) (vC (.int 0))) (vC (.int 0))) (vC (.str "word")))) (vTest (vOp dIn (vOp dIx (vOp dIx (vVar 0) (vUn dNeg (vC (.int 1)))) (vC (.int 0))) (vC c_GOING_ON)))) (vRet (vC (.bool false))) vNext) (vRet (vCl cAll (vCons (vLc (vIZ (vCons (vVar 0) (vCons (vSl (vVar 0) (vPart (vC (.int 1))) vNoPart) vNil))) (vgTup 2 (vgCons (vgName 1) (vgCons (vgName 2) vgNil))) vYes (vOrV (vOp dNotIn (vOp dIx (vVar 1) (vC (.int 0))) (vC c_GOING_ON)) (vOp dNe (vOp dIx (vVar 2) (vC (.int 0))) (vC (.str "word")))) [1, 2]) vNil))))
def v_words_are_shunned : VP := vFun ["rows", "row", "behind"] 1 vb_words_are_shunned
theorem fp_words_are_shunned : FP m_words_are_shunned v_words_are_shunned := by
  unfold m_words_are_shunned v_words_are_shunned b_words_are_shunned vb_words_are_shunned
  exact f_Fun (f_Seq (f_IfS (f_Or (f_Test (f_Op (f_Op (f_Op f_Var f_C) f_C) f_C)) (f_Test (f_Op (f_Op (f_Op f_Var (f_Un f_C)) f_C) f_C))) (f_Ret f_C) f_Next) (f_Ret (f_Cl (f_Cons (f_Lc (f_IZ (f_Cons f_Var (f_Cons (f_Sl f_Var (f_Part f_C) f_NoPart) f_Nil))) (f_gTup (f_gCons f_gName (f_gCons f_gName f_gNil))) f_Yes (f_OrV (f_Op (f_Op f_Var f_C) f_C) (f_Op (f_Op f_Var f_C) f_C))) f_Nil))))
def b_is_part : MS := (mSeq (mIfS (mOr (mNot (mTest (mIsi "tuple" (mVar 0)))) (mNot (mTest (mChain dLe dLe (mC (.int 1)) (mCl cLen (mCons (mVar 0) mNil)) (mC c_MOST_ROWS))))) (mRet (mC (.bool false))) mNext) (mSeq (mIfS (mNot (mTest (mCl cAll (mCons (mLc (mISeq (mVar 0)) (mgName 1) mYes (mCall m_is_row (mCons (mVar 1) mNil)) [1]) mNil)))) (mRet (mC (.bool false))) mNext) (mSeq (mIfS (mAnd (mNot (mTest (mCall m_is_even (mCons (mVar 0) mNil)))) (mTest (mOp dGt (mCl cLen (mCons (mCall m_jump_rows (mCons (mVar 0) mNil)) mNil)) (mC c_MOST_JUMPS_BESIDE_ALIGN)))) (mRet (mC (.bool false))) mNext) (mRet (mAndV (mCall m_goals_stand (mCons (mVar 0) mNil)) (mCall m_words_are_shunned (mCons (mVar 0) mNil)))))))
def m_is_part : MP := mFun ["thing", "row"] 1 b_is_part
def vb_is_part : VS := (vSeqS (vIfS (vOr (vNot (vTest (vIsi "tuple" (vVar 0)))) (vNot (vTest (vChain dLe dLe (vC (.int 1)) (vCl cLen (vCons (vVar 0) vNil)) (vC c_MOST_ROWS))))) (vRet (vC (.bool false))) vNext) (vSeqS (vIfS (vNot (vTest (vCl cAll (vCons (vLc (vISeq (vVar 0)) (vgName 1) vYes (vCall v_is_row (vCons (vVar 1) vNil)) [1]) vNil)))) (vRet (vC (.bool false))) vNext) (vSeqS (vIfS (vAnd (vNot (vTest (vCall v_is_even (vCons (vVar 0) vNil)))) (vTest (vOp dGt (vCl cLen (vCons (vCall v_jump_rows (vCons (vVar 0) vNil)) vNil)) (vC c_MOST_JUMPS_BESIDE_ALIGN)))) (vRet (vC (.bool false))) vNext) (vRet (vAndV (vCall v_goals_stand (vCons (vVar 0) vNil)) (vCall v_words_are_shunned (vCons (vVar 0) vNil)))))))
def v_is_part : VP := vFun ["thing", "row"] 1 vb_is_part
theorem fp_is_part : FP m_is_part v_is_part := by
  unfold m_is_part v_is_part b_is_part vb_is_part
  exact f_Fun (f_Seq (f_IfS (f_Or (f_Not (f_Test (f_Isi f_Var))) (f_Not (f_Test (f_Chain f_C (f_Cl (f_Cons f_Var f_Nil)) f_C)))) (f_Ret f_C) f_Next) (f_Seq (f_IfS (f_Not (f_Test (f_Cl (f_Cons (f_Lc (f_ISeq f_Var) f_gName f_Yes (f_Call fp_is_row (f_Cons f_Var f_Nil))) f_Nil)))) (f_Ret f_C) f_Next) (f_Seq (f_IfS (f_And (f_Not (f_Test (f_Call fp_is_even (f_Cons f_Var f_Nil)))) (f_Test (f_Op (f_Cl (f_Cons (f_Call fp_jump_rows (f_Cons f_Var f_Nil)) f_Nil)) f_C))) (f_Ret f_C) f_Next) (f_Ret (f_AndV (f_Call fp_goals_stand (f_Cons f_Var f_Nil)) (f_Call fp_words_are_shunned (f_Cons f_Var f_Nil)))))))
def b_far_goals : MS := (mRet (mLc (mISeq (mVar 0)) (mgName 1) (mTest (mOp dEq (mOp dIx (mVar 1) (mC (.int 0))) (mC (.str "far")))) (mOp dIx (mVar 1) (mC (.int 1))) [1]))
def m_far_goals : MP := mFun ["part", "row"] 1 b_far_goals
def vb_far_goals : VS := (vRet (vLc (vISeq (vVar 0)) (vgName 1) (vTest (vOp dEq (vOp dIx (vVar 1) (vC (.int 0))) (vC (.str "far")))) (vOp dIx (vVar 1) (vC (.int 1))) [1]))
def v_far_goals : VP := vFun ["part", "row"] 1 vb_far_goals
theorem fp_far_goals : FP m_far_goals v_far_goals := by
  unfold m_far_goals v_far_goals b_far_goals vb_far_goals
  exact f_Fun (f_Ret (f_Lc (f_ISeq f_Var) f_gName (f_Test (f_Op (f_Op f_Var f_C) f_C)) (f_Op f_Var f_C)))
def b_is_book : MS := (mSeq (mIfS (mOr (mNot (mTest (mIsi "tuple" (mVar 0)))) (mNot (mTest (mChain dLe dLe (mC (.int 1)) (mCl cLen (mCons (mVar 0) mNil)) (mC c_MOST_PARTS))))) (mRet (mC (.bool false))) mNext) (mSeq (mIfS (mNot (mTest (mCl cAll (mCons (mLc (mISeq (mVar 0)) (mgName 1) mYes (mCall m_is_part (mCons (mVar 1) mNil)) [1]) mNil)))) (mRet (mC (.bool false))) mNext) (mRet (mCl cAll (mCons (mLc2 (mISeq (mVar 0)) (mgName 1) mYes (mISeq (mCall m_far_goals (mCons (mVar 1) mNil))) (mgName 2) mYes (mOp dLt (mVar 2) (mCl cLen (mCons (mVar 0) mNil))) [1, 2] [2]) mNil)))))
def m_is_book : MP := mFun ["thing", "part", "goal"] 1 b_is_book
def vb_is_book : VS := (vSeqS (vIfS (vOr (vNot (vTest (vIsi "tuple" (vVar 0)))) (vNot (vTest (vChain dLe dLe (vC (.int 1)) (vCl cLen (vCons (vVar 0) vNil)) (vC c_MOST_PARTS))))) (vRet (vC (.bool false))) vNext) (vSeqS (vIfS (vNot (vTest (vCl cAll (vCons (vLc (vISeq (vVar 0)) (vgName 1) vYes (vCall v_is_part (vCons (vVar 1) vNil)) [1]) vNil)))) (vRet (vC (.bool false))) vNext) (vRet (vCl cAll (vCons (vLc2 (vISeq (vVar 0)) (vgName 1) vYes (vISeq (vCall v_far_goals (vCons (vVar 1) vNil))) (vgName 2) vYes (vOp dLt (vVar 2) (vCl cLen (vCons (vVar 0) vNil))) [1, 2] [2]) vNil)))))
def v_is_book : VP := vFun ["thing", "part", "goal"] 1 vb_is_book
theorem fp_is_book : FP m_is_book v_is_book := by
  unfold m_is_book v_is_book b_is_book vb_is_book
  exact f_Fun (f_Seq (f_IfS (f_Or (f_Not (f_Test (f_Isi f_Var))) (f_Not (f_Test (f_Chain f_C (f_Cl (f_Cons f_Var f_Nil)) f_C)))) (f_Ret f_C) f_Next) (f_Seq (f_IfS (f_Not (f_Test (f_Cl (f_Cons (f_Lc (f_ISeq f_Var) f_gName f_Yes (f_Call fp_is_part (f_Cons f_Var f_Nil))) f_Nil)))) (f_Ret f_C) f_Next) (f_Ret (f_Cl (f_Cons (f_Lc2 (f_ISeq f_Var) f_gName f_Yes (f_ISeq (f_Call fp_far_goals (f_Cons f_Var f_Nil))) f_gName f_Yes (f_Op f_Var (f_Cl (f_Cons f_Var f_Nil)))) f_Nil)))))
def b_check_book : MS := (mIfS (mNot (mTest (mCall m_is_book (mCons (mVar 0) mNil)))) mNever mNext)
def m_check_book : MP := mFun ["book"] 1 b_check_book
def vb_check_book : VS := (vIfS (vNot (vTest (vCall v_is_book (vCons (vVar 0) vNil)))) vNever vNext)
def v_check_book : VP := vFun ["book"] 1 vb_check_book
theorem fp_check_book : FP m_check_book v_check_book := by
  unfold m_check_book v_check_book b_check_book vb_check_book
  exact f_Fun (f_IfS (f_Not (f_Test (f_Call fp_is_book (f_Cons f_Var f_Nil)))) f_Never f_Next)
def b_check_number : MS := (mIfS (mNot (mTest (mCall m_is_within (mCons (mVar 0) (mCons (mC (.int 0)) (mCons (mVar 1) mNil)))))) mNever mNext)
def m_check_number : MP := mFun ["number", "highest"] 2 b_check_number
def vb_check_number : VS := (vIfS (vNot (vTest (vCall v_is_within (vCons (vVar 0) (vCons (vC (.int 0)) (vCons (vVar 1) vNil)))))) vNever vNext)
def v_check_number : VP := vFun ["number", "highest"] 2 vb_check_number
theorem fp_check_number : FP m_check_number v_check_number := by
  unfold m_check_number v_check_number b_check_number vb_check_number
  exact f_Fun (f_IfS (f_Not (f_Test (f_Call fp_is_within (f_Cons f_Var (f_Cons f_C (f_Cons f_Var f_Nil)))))) f_Never f_Next)
def b_added : MS := (mSeq (mIfS (mTest (mOp dEq (mOp dIx (mVar 0) (mC (.int 0))) (mC (.str "plain")))) (mRet (mOp dMod (mOp dAdd (mVar 1) (mOp dIx (mVar 0) (mC (.int 2)))) (mOp dAdd (mC c_HIGHEST) (mC (.int 1))))) mNext) (mSeq (mIfS (mTest (mOp dEq (mOp dIx (mVar 0) (mC (.int 0))) (mC (.str "load")))) (mRet (mOp dMod (mOp dAdd (mVar 1) (mOp dIx (mVar 0) (mC (.int 1)))) (mOp dAdd (mC c_HIGHEST) (mC (.int 1))))) mNext) (mRet (mVar 1))))
def m_added : MP := mFun ["row", "total"] 2 b_added
def vb_added : VS := (vSeqS (vIfS (vTest (vOp dEq (vOp dIx (vVar 0) (vC (.int 0))) (vC (.str "plain")))) (vRet (vOp dMod (vOp dAdd (vVar 1) (vOp dIx (vVar 0) (vC (.int 2)))) (vOp dAdd (vC c_HIGHEST) (vC (.int 1))))) vNext) (vSeqS (vIfS (vTest (vOp dEq (vOp dIx (vVar 0) (vC (.int 0))) (vC (.str "load")))) (vRet (vOp dMod (vOp dAdd (vVar 1) (vOp dIx (vVar 0) (vC (.int 1)))) (vOp dAdd (vC c_HIGHEST) (vC (.int 1))))) vNext) (vRet (vVar 1))))
def v_added : VP := vFun ["row", "total"] 2 vb_added
theorem fp_added : FP m_added v_added := by
  unfold m_added v_added b_added vb_added
  exact f_Fun (f_Seq (f_IfS (f_Test (f_Op (f_Op f_Var f_C) f_C)) (f_Ret (f_Op (f_Op f_Var (f_Op f_Var f_C)) (f_Op f_C f_C))) f_Next) (f_Seq (f_IfS (f_Test (f_Op (f_Op f_Var f_C) f_C)) (f_Ret (f_Op (f_Op f_Var (f_Op f_Var f_C)) (f_Op f_C f_C))) f_Next) (f_Ret f_Var)))
def b_next_place : MS := (mSeq (mAsg (mVar 1) (mgTup 2 (mgCons (mgName 3) (mgCons (mgName 4) mgNil)))) (mSeq (mSet 5 (mOp dIx (mOp dIx (mVar 0) (mVar 3)) (mVar 4))) (mSeq (mIfS (mTest (mOp dEq (mOp dIx (mVar 5) (mC (.int 0))) (mC (.str "far")))) (mRet (mTup (mCons (mOp dIx (mVar 5) (mC (.int 1))) (mCons (mC (.int 0)) mNil)))) mNext) (mSeq (mIfS (mOr (mTest (mOp dEq (mOp dIx (mVar 5) (mC (.int 0))) (mC (.str "jump")))) (mAnd (mTest (mOp dEq (mOp dIx (mVar 5) (mC (.int 0))) (mC (.str "branch")))) (mTest (mOp dEq (mOp dMod (mVar 2) (mC (.int 2))) (mC (.int 1)))))) (mRet (mTup (mCons (mVar 3) (mCons (mOp dIx (mVar 5) (mC (.int 1))) mNil)))) mNext) (mRet (mTup (mCons (mVar 3) (mCons (mOp dAdd (mVar 4) (mC (.int 1))) mNil))))))))
def m_next_place : MP := mFun ["book", "place", "total", "part", "number", "row"] 3 b_next_place
def vb_next_place : VS := (vSeqS (vAsg (vVar 1) (vgTup 2 (vgCons (vgName 3) (vgCons (vgName 4) vgNil)))) (vSeqS (vSet 5 (vOp dIx (vOp dIx (vVar 0) (vVar 3)) (vVar 4))) (vSeqS (vIfS (vTest (vOp dEq (vOp dIx (vVar 5) (vC (.int 0))) (vC (.str "far")))) (vRet (vTup (vCons (vOp dIx (vVar 5) (vC (.int 1))) (vCons (vC (.int 0)) vNil)))) vNext) (vSeqS (vIfS (vOr (vTest (vOp dEq (vOp dIx (vVar 5) (vC (.int 0))) (vC (.str "jump")))) (vAnd (vTest (vOp dEq (vOp dIx (vVar 5) (vC (.int 0))) (vC (.str "branch")))) (vTest (vOp dEq (vOp dMod (vVar 2) (vC (.int 2))) (vC (.int 1)))))) (vRet (vTup (vCons (vVar 3) (vCons (vOp dIx (vVar 5) (vC (.int 1))) vNil)))) vNext) (vRet (vTup (vCons (vVar 3) (vCons (vOp dAdd (vVar 4) (vC (.int 1))) vNil))))))))
def v_next_place : VP := vFun ["book", "place", "total", "part", "number", "row"] 3 vb_next_place
theorem fp_next_place : FP m_next_place v_next_place := by
  unfold m_next_place v_next_place b_next_place vb_next_place
  exact f_Fun (f_Seq (f_Asg f_Var (f_gTup (f_gCons f_gName (f_gCons f_gName f_gNil)))) (f_Seq (f_Set (f_Op (f_Op f_Var f_Var) f_Var)) (f_Seq (f_IfS (f_Test (f_Op (f_Op f_Var f_C) f_C)) (f_Ret (f_Tup (f_Cons (f_Op f_Var f_C) (f_Cons f_C f_Nil)))) f_Next) (f_Seq (f_IfS (f_Or (f_Test (f_Op (f_Op f_Var f_C) f_C)) (f_And (f_Test (f_Op (f_Op f_Var f_C) f_C)) (f_Test (f_Op (f_Op f_Var f_C) f_C)))) (f_Ret (f_Tup (f_Cons f_Var (f_Cons (f_Op f_Var f_C) f_Nil)))) f_Next) (f_Ret (f_Tup (f_Cons f_Var (f_Cons (f_Op f_Var f_C) f_Nil))))))))
def b_run_book : MS := (mSeq (mDrop (mCall m_check_book (mCons (mVar 0) mNil))) (mSeq (mDrop (mCall m_check_number (mCons (mVar 1) (mCons (mC c_HIGHEST) mNil)))) (mSeq (mDrop (mCall m_check_number (mCons (mVar 2) (mCons (mC c_MOST_STEPS) mNil)))) (mSeq (mSet 3 (mTup (mCons (mC (.int 0)) (mCons (mC (.int 0)) mNil)))) (mSeq (mSet 4 (mC (.int 0))) (mSeq (mWhile (mTest (mOp dLt (mVar 4) (mVar 2))) (mSeq (mSet 5 (mOp dIx (mOp dIx (mVar 0) (mOp dIx (mVar 3) (mC (.int 0)))) (mOp dIx (mVar 3) (mC (.int 1))))) (mSeq (mIfS (mTest (mOp dNe (mOp dIx (mVar 5) (mC (.int 0))) (mC (.str "align")))) (mAug 4 dAddI (mC (.int 1))) mNext) (mSeq (mIfS (mTest (mOp dEq (mOp dIx (mVar 5) (mC (.int 0))) (mC (.str "stop")))) (mRet (mTup (mCons (mC (.str "stop")) (mCons (mVar 1) (mCons (mVar 4) mNil))))) mNext) (mSeq (mSet 1 (mCall m_added (mCons (mVar 5) (mCons (mVar 1) mNil)))) (mSet 3 (mCall m_next_place (mCons (mVar 0) (mCons (mVar 3) (mCons (mVar 1) mNil)))))))))) (mRet (mTup (mCons (mC (.str "limit")) (mCons (mVar 1) (mCons (mVar 4) mNil)))))))))))
def m_run_book : MP := mFun ["book", "total", "limit", "place", "steps", "row"] 3 b_run_book
def vb_run_book : VS := (vSeqS (vDrop (vCall v_check_book (vCons (vVar 0) vNil))) (vSeqS (vDrop (vCall v_check_number (vCons (vVar 1) (vCons (vC c_HIGHEST) vNil)))) (vSeqS (vDrop (vCall v_check_number (vCons (vVar 2) (vCons (vC c_MOST_STEPS) vNil)))) (vSeqS (vSet 3 (vTup (vCons (vC (.int 0)) (vCons (vC (.int 0)) vNil)))) (vSeqS (vSet 4 (vC (.int 0))) (vSeqS (vWhile (vTest (vOp dLt (vVar 4) (vVar 2))) (vSeqS (vSet 5 (vOp dIx (vOp dIx (vVar 0) (vOp dIx (vVar 3) (vC (.int 0)))) (vOp dIx (vVar 3) (vC (.int 1))))) (vSeqS (vIfS (vTest (vOp dNe (vOp dIx (vVar 5) (vC (.int 0))) (vC (.str "align")))) (vAug 4 dAddI (vC (.int 1))) vNext) (vSeqS (vIfS (vTest (vOp dEq (vOp dIx (vVar 5) (vC (.int 0))) (vC (.str "stop")))) (vRet (vTup (vCons (vC (.str "stop")) (vCons (vVar 1) (vCons (vVar 4) vNil))))) vNext) (vSeqS (vSet 1 (vCall v_added (vCons (vVar 5) (vCons (vVar 1) vNil)))) (vSet 3 (vCall v_next_place (vCons (vVar 0) (vCons (vVar 3) (vCons (vVar 1) vNil)))))))))) (vRet (vTup (vCons (vC (.str "limit")) (vCons (vVar 1) (vCons (vVar 4) vNil)))))))))))
def v_run_book : VP := vFun ["book", "total", "limit", "place", "steps", "row"] 3 vb_run_book
theorem fp_run_book : FP m_run_book v_run_book := by
  unfold m_run_book v_run_book b_run_book vb_run_book
  exact f_Fun (f_Seq (f_Drop (f_Call fp_check_book (f_Cons f_Var f_Nil))) (f_Seq (f_Drop (f_Call fp_check_number (f_Cons f_Var (f_Cons f_C f_Nil)))) (f_Seq (f_Drop (f_Call fp_check_number (f_Cons f_Var (f_Cons f_C f_Nil)))) (f_Seq (f_Set (f_Tup (f_Cons f_C (f_Cons f_C f_Nil)))) (f_Seq (f_Set f_C) (f_Seq (f_While (f_Test (f_Op f_Var f_Var)) (f_Seq (f_Set (f_Op (f_Op f_Var (f_Op f_Var f_C)) (f_Op f_Var f_C))) (f_Seq (f_IfS (f_Test (f_Op (f_Op f_Var f_C) f_C)) (f_Aug f_C) f_Next) (f_Seq (f_IfS (f_Test (f_Op (f_Op f_Var f_C) f_C)) (f_Ret (f_Tup (f_Cons f_C (f_Cons f_Var (f_Cons f_Var f_Nil))))) f_Next) (f_Seq (f_Set (f_Call fp_added (f_Cons f_Var (f_Cons f_Var f_Nil)))) (f_Set (f_Call fp_next_place (f_Cons f_Var (f_Cons f_Var (f_Cons f_Var f_Nil)))))))))) (f_Ret (f_Tup (f_Cons f_C (f_Cons f_Var (f_Cons f_Var f_Nil)))))))))))
def b__law_spread : MS := (mSeq (mIfS (mTest (mOp dGe (mVar 0) (mOp dPow (mC (.int 10)) (mC (.int 18))))) (mRet (mVar 0)) mNext) (mSeq (mSet 2 (mLst (mCons (mC (.int 2147483629)) (mCons (mC (.int 2147483587)) (mCons (mC (.int 2147483579)) (mCons (mC (.int 2147483563)) (mCons (mC (.int 2147483549)) (mCons (mC (.int 2147483543)) (mCons (mC (.int 2147483497)) (mCons (mC (.int 2147483489)) mNil)))))))))) (mSeq (mSet 2 (mOp dAdd (mVar 2) (mLst (mCons (mC (.int 2147483477)) (mCons (mC (.int 2147483423)) (mCons (mC (.int 2147483399)) (mCons (mC (.int 2147483353)) (mCons (mC (.int 2147483323)) mNil)))))))) (mSeq (mSet 3 (mOp dAdd (mOp dAdd (mOp dMul (mOp dMod (mCl cInt (mCons (mVar 0) mNil)) (mC (.int 1000000007))) (mOp dAdd (mOp dMul (mC (.int 2)) (mVar 1)) (mC (.int 69069)))) (mOp dMul (mVar 1) (mC (.int 40503)))) (mC (.int 977)))) (mSeq (mSet 3 (mOp dMod (mCl cInt (mCons (mOp dPow (mVar 3) (mC (.int 3))) mNil)) (mOp dIx (mVar 2) (mOp dMod (mCl cInt (mCons (mVar 1) mNil)) (mC (.int 13)))))) (mSeq (mSet 4 (mOp dMod (mCl cInt (mCons (mOp dPow (mOp dAdd (mOp dAdd (mOp dMul (mVar 3) (mOp dAdd (mVar 1) (mC (.int 3)))) (mOp dMod (mCl cInt (mCons (mVar 0) mNil)) (mC (.int 65537)))) (mC (.int 5))) (mC (.int 5))) mNil)) (mOp dIx (mVar 2) (mOp dMod (mCl cInt (mCons (mOp dAdd (mVar 1) (mC (.int 5))) mNil)) (mC (.int 13)))))) (mSeq (mSet 5 (mOp dMod (mCl cInt (mCons (mOp dPow (mOp dAdd (mOp dAdd (mVar 4) (mOp dMod (mCl cInt (mCons (mVar 3) mNil)) (mC (.int 1009)))) (mVar 1)) (mC (.int 3))) mNil)) (mOp dIx (mVar 2) (mOp dMod (mCl cInt (mCons (mOp dAdd (mVar 1) (mC (.int 7))) mNil)) (mC (.int 13)))))) (mRet (mOp dAdd (mOp dMul (mOp dAdd (mOp dMul (mVar 3) (mC (.int 2147483647))) (mVar 4)) (mC (.int 2147483647))) (mVar 5))))))))))
def m__law_spread : MP := mFun ["cell", "where", "primes", "u", "v", "w"] 2 b__law_spread
theorem mulb {x y a b : Int} (h1 : 0 ≤ x) (h2 : x ≤ a) (h3 : 0 ≤ y) (h4 : y ≤ b) : 0 ≤ x * y ∧ x * y ≤ a * b :=
  ⟨Int.mul_nonneg h1 h3, Int.mul_le_mul h2 h4 h3 (Int.le_trans h1 h2)⟩
theorem primes_at (j : Int) (h0 : 0 ≤ j) (h1 : j < 13) : ∃ p : Int, atI [PyData.int 2147483629, PyData.int 2147483587, PyData.int 2147483579, PyData.int 2147483563, PyData.int 2147483549, PyData.int 2147483543, PyData.int 2147483497, PyData.int 2147483489, PyData.int 2147483477, PyData.int 2147483423, PyData.int 2147483399, PyData.int 2147483353, PyData.int 2147483323] j = some (.int p) ∧ 0 < p ∧ p < 2147483648 := by
  have : j = 0 ∨ j = 1 ∨ j = 2 ∨ j = 3 ∨ j = 4 ∨ j = 5 ∨ j = 6 ∨ j = 7 ∨ j = 8 ∨ j = 9 ∨ j = 10 ∨ j = 11 ∨ j = 12 := by omega
  rcases this with h | h | h | h | h | h | h | h | h | h | h | h | h <;> subst h <;> exact ⟨_, rfl, by decide, by decide⟩
local macro_rules | `(tactic| walk_at "st") => `(tactic| first
  | refine ⟨_, rfl, ?_⟩
  | refine ⟨rfl, ?_⟩
  | refine ⟨by decide, ?_⟩)
theorem iteB {p A B : Prop} [Decidable p] (h1 : p → A) (h2 : ¬ p → B) : if decide p = true then A else B := by
  by_cases h : p
  · rw [if_pos (decide_eq_true h)]; exact h1 h
  · rw [if_neg (by rw [decide_eq_false h]; decide)]; exact h2 h
theorem if_some {c : Prop} [Decidable c] {d : D} (h : c) : (if c then some d else none) = some d := if_pos h
theorem spread_ok : SpreadOk m__law_spread := by
  intro c w R h0 h1 q
  obtain ⟨p1, e1, a1, b1⟩ := primes_at (w % 13) (Int.emod_nonneg _ (by decide)) (Int.emod_lt_of_pos _ (by decide))
  obtain ⟨p2, e2, a2, b2⟩ := primes_at ((w + 5) % 13) (Int.emod_nonneg _ (by decide)) (Int.emod_lt_of_pos _ (by decide))
  obtain ⟨p3, e3, a3, b3⟩ := primes_at ((w + 7) % 13) (Int.emod_nonneg _ (by decide)) (Int.emod_lt_of_pos _ (by decide))
  unfold m__law_spread b__law_spread
  have hx0 : 0 ≤ c % 1000000007 := Int.emod_nonneg _ (by decide)
  have hx1 : c % 1000000007 < 1000000007 := Int.emod_lt_of_pos _ (by decide)
  have hy0 : 0 ≤ c % 65537 := Int.emod_nonneg _ (by decide)
  have hy1 : c % 65537 < 65537 := Int.emod_lt_of_pos _ (by decide)
  have m1 := mulb hx0 (show c % 1000000007 ≤ 1000000007 by omega) (show 0 ≤ 2 * w + 69069 by omega) (show 2 * w + 69069 ≤ 3000000 by omega)
  repeat walk_at "st"
  refine iteB (fun h => ?_) (fun h => ?_)
  · repeat walk_at "st"
    exact q c (Int.le_trans (by decide) h)
  · repeat walk_at "st"
    refine ⟨_, if_some (.inl ⟨by omega, by omega⟩), ?_⟩
    repeat walk_at "st"
    generalize c % 1000000007 * (2 * w + 69069) = z at m1 ⊢
    refine ⟨_, if_some (.inr ⟨by decide, by decide⟩), ?_⟩
    repeat walk_at "st"
    refine ⟨_, if_some ⟨by decide, by decide, by omega⟩, ?_⟩
    repeat walk_at "st"
    refine ⟨_, e1, ?_⟩
    refine ⟨_, if_some a1, ?_⟩
    repeat walk_at "st"
    have hu0 : 0 ≤ (z + w * 40503 + 977) ^ (3 : Int).toNat % p1 := Int.emod_nonneg _ (by omega)
    have hu1 : (z + w * 40503 + 977) ^ (3 : Int).toNat % p1 < p1 := Int.emod_lt_of_pos _ a1
    generalize (z + w * 40503 + 977) ^ (3 : Int).toNat % p1 = u at hu0 hu1 ⊢
    refine ⟨_, if_some (.inl ⟨by omega, by omega⟩), ?_⟩
    repeat walk_at "st"
    have m2 := mulb hu0 (show u ≤ 2147483648 by omega) (show 0 ≤ w + 3 by omega) (show w + 3 ≤ 1048579 by omega)
    generalize u * (w + 3) = z2 at m2 ⊢
    refine ⟨_, if_some ⟨by decide, by decide, by omega⟩, ?_⟩
    repeat walk_at "st"
    refine ⟨_, e2, ?_⟩
    refine ⟨_, if_some a2, ?_⟩
    repeat walk_at "st"
    generalize hv : (z2 + c % 65537 + 5) ^ (5 : Int).toNat % p2 = v
    have hv0 : 0 ≤ v := by rw [← hv]; exact Int.emod_nonneg _ (by omega)
    have hv1 : v < p2 := by rw [← hv]; exact Int.emod_lt_of_pos _ a2
    have hr0 : 0 ≤ u % 1009 := Int.emod_nonneg _ (by decide)
    have hr1 : u % 1009 < 1009 := Int.emod_lt_of_pos _ (by decide)
    refine ⟨_, if_some ⟨by decide, by decide, by omega⟩, ?_⟩
    repeat walk_at "st"
    refine ⟨_, e3, ?_⟩
    refine ⟨_, if_some a3, ?_⟩
    repeat walk_at "st"
    refine ⟨_, if_some (.inr ⟨by decide, by decide⟩), ?_⟩
    repeat walk_at "st"
    refine ⟨_, if_some (.inr ⟨by decide, by decide⟩), ?_⟩
    repeat walk_at "st"
    have ht0 : 0 ≤ (v + u % 1009 + w) ^ (3 : Int).toNat % p3 := Int.emod_nonneg _ (by omega)
    exact q _ (by omega)
abbrev m__law_take : MF := m_take
def b__law_one_of : MS := (mRet (mOp dIx (mVar 1) (mCallP m__law_take (mCons (mCl cLen (mCons (mVar 1) mNil)) mNil))))
def m__law_one_of : MF := mFunP ["pen", "some"] 1 b__law_one_of
end RC
end
section
namespace RC
open PySem PySem.Spec L2 RR
open PyProof.Rows hiding St
def c_SHORT : D := (.int 0)
def c_REACH : D := (.int 1)
def c_LONG : D := (.int 2)
def c_FAR : D := (.int 3)
def c_LOAD : D := (.int 5)
def c_SPAN : D := (.int 6)
def c_WORD : D := (.int 7)
def c_MACHINE_BOUNDS : D := (.tuple [(.tuple [(.int 1), (.int 9)]), (.tuple [(.int 0), (.int 999)]), (.tuple [(.int 2), (.int 20)]), (.tuple [(.int 1), (.int 20)]), (.tuple [(.int 0), (.int 9999)]), (.tuple [(.int 1), (.int 9)]), (.tuple [(.int 0), (.int 999)]), (.tuple [(.int 1), (.int 16)])])
def b_is_machine : MS := (mSeq (mIfS (mOr (mNot (mTest (mIsi "tuple" (mVar 0)))) (mNot (mTest (mCall m_are_within (mCons (mVar 0) (mCons (mC c_MACHINE_BOUNDS) mNil)))))) (mRet (mC (.bool false))) mNext) (mRet (mOp dLt (mOp dIx (mVar 0) (mC c_SHORT)) (mOp dIx (mVar 0) (mC c_LONG)))))
def m_is_machine : MP := mFun ["thing"] 1 b_is_machine
def vb_is_machine : VS := (vSeqS (vIfS (vOr (vNot (vTest (vIsi "tuple" (vVar 0)))) (vNot (vTest (vCall v_are_within (vCons (vVar 0) (vCons (vC c_MACHINE_BOUNDS) vNil)))))) (vRet (vC (.bool false))) vNext) (vRet (vOp dLt (vOp dIx (vVar 0) (vC c_SHORT)) (vOp dIx (vVar 0) (vC c_LONG)))))
def v_is_machine : VP := vFun ["thing"] 1 vb_is_machine
theorem fp_is_machine : FP m_is_machine v_is_machine := by
  unfold m_is_machine v_is_machine b_is_machine vb_is_machine
  exact f_Fun (f_Seq (f_IfS (f_Or (f_Not (f_Test (f_Isi f_Var))) (f_Not (f_Test (f_Call fp_are_within (f_Cons f_Var (f_Cons f_C f_Nil)))))) (f_Ret f_C) f_Next) (f_Ret (f_Op (f_Op f_Var f_C) (f_Op f_Var f_C))))
def b_is_jump_row : MS := (mRet (mAndV (mCall m_is_within (mCons (mVar 1) (mCons (mC (.int 0)) (mCons (mOp dSub (mCl cLen (mCons (mVar 0) mNil)) (mC (.int 1))) mNil)))) (mOp dIn (mOp dIx (mOp dIx (mVar 0) (mVar 1)) (mC (.int 0))) (mC c_JUMPS))))
def m_is_jump_row : MP := mFun ["part", "thing"] 2 b_is_jump_row
def vb_is_jump_row : VS := (vRet (vAndV (vCall v_is_within (vCons (vVar 1) (vCons (vC (.int 0)) (vCons (vOp dSub (vCl cLen (vCons (vVar 0) vNil)) (vC (.int 1))) vNil)))) (vOp dIn (vOp dIx (vOp dIx (vVar 0) (vVar 1)) (vC (.int 0))) (vC c_JUMPS))))
def v_is_jump_row : VP := vFun ["part", "thing"] 2 vb_is_jump_row
theorem fp_is_jump_row : FP m_is_jump_row v_is_jump_row := by
  unfold m_is_jump_row v_is_jump_row b_is_jump_row vb_is_jump_row
  exact f_Fun (f_Ret (f_AndV (f_Call fp_is_within (f_Cons f_Var (f_Cons f_C (f_Cons (f_Op (f_Cl (f_Cons f_Var f_Nil)) f_C) f_Nil)))) (f_Op (f_Op (f_Op f_Var f_Var) f_C) f_C)))
def b_is_ascending : MS := (mRet (mCl cAll (mCons (mLc (mIZ (mCons (mVar 0) (mCons (mSl (mVar 0) (mPart (mC (.int 1))) mNoPart) mNil))) (mgTup 2 (mgCons (mgName 1) (mgCons (mgName 2) mgNil))) mYes (mOp dLt (mVar 1) (mVar 2)) [1, 2]) mNil)))
def m_is_ascending : MP := mFun ["members", "member", "behind"] 1 b_is_ascending
def vb_is_ascending : VS := (vRet (vCl cAll (vCons (vLc (vIZ (vCons (vVar 0) (vCons (vSl (vVar 0) (vPart (vC (.int 1))) vNoPart) vNil))) (vgTup 2 (vgCons (vgName 1) (vgCons (vgName 2) vgNil))) vYes (vOp dLt (vVar 1) (vVar 2)) [1, 2]) vNil)))
def v_is_ascending : VP := vFun ["members", "member", "behind"] 1 vb_is_ascending
theorem fp_is_ascending : FP m_is_ascending v_is_ascending := by
  unfold m_is_ascending v_is_ascending b_is_ascending vb_is_ascending
  exact f_Fun (f_Ret (f_Cl (f_Cons (f_Lc (f_IZ (f_Cons f_Var (f_Cons (f_Sl f_Var (f_Part f_C) f_NoPart) f_Nil))) (f_gTup (f_gCons f_gName (f_gCons f_gName f_gNil))) f_Yes (f_Op f_Var f_Var)) f_Nil)))
def b_check_part : MS := (mIfS (mNot (mTest (mCall m_is_part (mCons (mVar 0) mNil)))) mNever mNext)
def m_check_part : MP := mFun ["part"] 1 b_check_part
def vb_check_part : VS := (vIfS (vNot (vTest (vCall v_is_part (vCons (vVar 0) vNil)))) vNever vNext)
def v_check_part : VP := vFun ["part"] 1 vb_check_part
theorem fp_check_part : FP m_check_part v_check_part := by
  unfold m_check_part v_check_part b_check_part vb_check_part
  exact f_Fun (f_IfS (f_Not (f_Test (f_Call fp_is_part (f_Cons f_Var f_Nil)))) f_Never f_Next)
def b_check_machine : MS := (mIfS (mNot (mTest (mCall m_is_machine (mCons (mVar 0) mNil)))) mNever mNext)
def m_check_machine : MP := mFun ["machine"] 1 b_check_machine
def vb_check_machine : VS := (vIfS (vNot (vTest (vCall v_is_machine (vCons (vVar 0) vNil)))) vNever vNext)
def v_check_machine : VP := vFun ["machine"] 1 vb_check_machine
theorem fp_check_machine : FP m_check_machine v_check_machine := by
  unfold m_check_machine v_check_machine b_check_machine vb_check_machine
  exact f_Fun (f_IfS (f_Not (f_Test (f_Call fp_is_machine (f_Cons f_Var f_Nil)))) f_Never f_Next)
def b_is_forms : MS := (mSeq (mIfS (mOr (mNot (mTest (mIsi "list" (mVar 1)))) (mNot (mTest (mCl cAll (mCons (mLc (mISeq (mVar 1)) (mgName 2) mYes (mCall m_is_jump_row (mCons (mVar 0) (mCons (mVar 2) mNil))) [2]) mNil))))) (mRet (mC (.bool false))) mNext) (mRet (mCall m_is_ascending (mCons (mVar 1) mNil))))
def m_is_forms : MP := mFun ["part", "thing", "row"] 2 b_is_forms
def vb_is_forms : VS := (vSeqS (vIfS (vOr (vNot (vTest (vIsi "list" (vVar 1)))) (vNot (vTest (vCl cAll (vCons (vLc (vISeq (vVar 1)) (vgName 2) vYes (vCall v_is_jump_row (vCons (vVar 0) (vCons (vVar 2) vNil))) [2]) vNil))))) (vRet (vC (.bool false))) vNext) (vRet (vCall v_is_ascending (vCons (vVar 1) vNil))))
def v_is_forms : VP := vFun ["part", "thing", "row"] 2 vb_is_forms
theorem fp_is_forms : FP m_is_forms v_is_forms := by
  unfold m_is_forms v_is_forms b_is_forms vb_is_forms
  exact f_Fun (f_Seq (f_IfS (f_Or (f_Not (f_Test (f_Isi f_Var))) (f_Not (f_Test (f_Cl (f_Cons (f_Lc (f_ISeq f_Var) f_gName f_Yes (f_Call fp_is_jump_row (f_Cons f_Var (f_Cons f_Var f_Nil)))) f_Nil))))) (f_Ret f_C) f_Next) (f_Ret (f_Call fp_is_ascending (f_Cons f_Var f_Nil))))
def b_check_forms : MS := (mIfS (mNot (mTest (mCall m_is_forms (mCons (mVar 0) (mCons (mVar 1) mNil))))) mNever mNext)
def m_check_forms : MP := mFun ["part", "forms"] 2 b_check_forms
def vb_check_forms : VS := (vIfS (vNot (vTest (vCall v_is_forms (vCons (vVar 0) (vCons (vVar 1) vNil))))) vNever vNext)
def v_check_forms : VP := vFun ["part", "forms"] 2 vb_check_forms
theorem fp_check_forms : FP m_check_forms v_check_forms := by
  unfold m_check_forms v_check_forms b_check_forms vb_check_forms
  exact f_Fun (f_IfS (f_Not (f_Test (f_Call fp_is_forms (f_Cons f_Var (f_Cons f_Var f_Nil))))) f_Never f_Next)
def b_check_formed : MS := (mSeq (mDrop (mCall m_check_part (mCons (mVar 0) mNil))) (mSeq (mDrop (mCall m_check_machine (mCons (mVar 1) mNil))) (mDrop (mCall m_check_forms (mCons (mVar 0) (mCons (mVar 2) mNil))))))
def m_check_formed : MP := mFun ["part", "machine", "forms"] 3 b_check_formed
def vb_check_formed : VS := (vSeqS (vDrop (vCall v_check_part (vCons (vVar 0) vNil))) (vSeqS (vDrop (vCall v_check_machine (vCons (vVar 1) vNil))) (vDrop (vCall v_check_forms (vCons (vVar 0) (vCons (vVar 2) vNil))))))
def v_check_formed : VP := vFun ["part", "machine", "forms"] 3 vb_check_formed
theorem fp_check_formed : FP m_check_formed v_check_formed := by
  unfold m_check_formed v_check_formed b_check_formed vb_check_formed
  exact f_Fun (f_Seq (f_Drop (f_Call fp_check_part (f_Cons f_Var f_Nil))) (f_Seq (f_Drop (f_Call fp_check_machine (f_Cons f_Var f_Nil))) (f_Drop (f_Call fp_check_forms (f_Cons f_Var (f_Cons f_Var f_Nil))))))
def b_row_size : MS := (mSeq (mIfS (mTest (mOp dIn (mOp dIx (mVar 0) (mC (.int 0))) (mC c_JUMPS))) (mRet (mIf (mTest (mVar 3)) (mOp dIx (mVar 1) (mC c_SHORT)) (mOp dIx (mVar 1) (mC c_LONG)))) mNext) (mSeq (mIfS (mTest (mOp dEq (mOp dIx (mVar 0) (mC (.int 0))) (mC (.str "far")))) (mRet (mOp dIx (mVar 1) (mC c_FAR))) mNext) (mSeq (mIfS (mTest (mOp dEq (mOp dIx (mVar 0) (mC (.int 0))) (mC (.str "load")))) (mRet (mOp dIx (mVar 1) (mC c_LOAD))) mNext) (mSeq (mIfS (mTest (mOp dEq (mOp dIx (mVar 0) (mC (.int 0))) (mC (.str "word")))) (mRet (mOp dIx (mVar 1) (mC c_WORD))) mNext) (mSeq (mIfS (mTest (mOp dEq (mOp dIx (mVar 0) (mC (.int 0))) (mC (.str "align")))) (mRet (mOp dMod (mUn dNeg (mVar 2)) (mOp dIx (mVar 0) (mC (.int 1))))) mNext) (mRet (mOp dIx (mVar 0) (mC (.int 1)))))))))
def m_row_size : MP := mFun ["row", "machine", "address", "is_short"] 4 b_row_size
def vb_row_size : VS := (vSeqS (vIfS (vTest (vOp dIn (vOp dIx (vVar 0) (vC (.int 0))) (vC c_JUMPS))) (vRet (vIf (vTest (vVar 3)) (vOp dIx (vVar 1) (vC c_SHORT)) (vOp dIx (vVar 1) (vC c_LONG)))) vNext) (vSeqS (vIfS (vTest (vOp dEq (vOp dIx (vVar 0) (vC (.int 0))) (vC (.str "far")))) (vRet (vOp dIx (vVar 1) (vC c_FAR))) vNext) (vSeqS (vIfS (vTest (vOp dEq (vOp dIx (vVar 0) (vC (.int 0))) (vC (.str "load")))) (vRet (vOp dIx (vVar 1) (vC c_LOAD))) vNext) (vSeqS (vIfS (vTest (vOp dEq (vOp dIx (vVar 0) (vC (.int 0))) (vC (.str "word")))) (vRet (vOp dIx (vVar 1) (vC c_WORD))) vNext) (vSeqS (vIfS (vTest (vOp dEq (vOp dIx (vVar 0) (vC (.int 0))) (vC (.str "align")))) (vRet (vOp dMod (vUn dNeg (vVar 2)) (vOp dIx (vVar 0) (vC (.int 1))))) vNext) (vRet (vOp dIx (vVar 0) (vC (.int 1)))))))))
def v_row_size : VP := vFun ["row", "machine", "address", "is_short"] 4 vb_row_size
theorem fp_row_size : FP m_row_size v_row_size := by
  unfold m_row_size v_row_size b_row_size vb_row_size
  exact f_Fun (f_Seq (f_IfS (f_Test (f_Op (f_Op f_Var f_C) f_C)) (f_Ret (f_If (f_Test f_Var) (f_Op f_Var f_C) (f_Op f_Var f_C))) f_Next) (f_Seq (f_IfS (f_Test (f_Op (f_Op f_Var f_C) f_C)) (f_Ret (f_Op f_Var f_C)) f_Next) (f_Seq (f_IfS (f_Test (f_Op (f_Op f_Var f_C) f_C)) (f_Ret (f_Op f_Var f_C)) f_Next) (f_Seq (f_IfS (f_Test (f_Op (f_Op f_Var f_C) f_C)) (f_Ret (f_Op f_Var f_C)) f_Next) (f_Seq (f_IfS (f_Test (f_Op (f_Op f_Var f_C) f_C)) (f_Ret (f_Op (f_Un f_Var) (f_Op f_Var f_C))) f_Next) (f_Ret (f_Op f_Var f_C)))))))
def b_addresses_of : MS := (mSeq (mSet 3 (mLst (mCons (mC (.int 0)) mNil))) (mSeq (mFor (mIEn (mCons (mVar 0) mNil)) (mgTup 2 (mgCons (mgName 4) (mgCons (mgName 5) mgNil))) (mSeq (mSet 6 (mLook (mOp dIx (mVar 3) (mUn dNeg (mC (.int 1)))))) (mAppend 3 (mOp dAdd (mVar 6) (mCall m_row_size (mCons (mVar 5) (mCons (mVar 1) (mCons (mVar 6) (mCons (mOp dIn (mVar 4) (mVar 2)) mNil))))))))) (mRet (mVar 3))))
def m_addresses_of : MP := mFun ["part", "machine", "forms", "addresses", "number", "row", "address"] 3 b_addresses_of
def vb_addresses_of : VS := (vSeqS (vSet 3 (vLst (vCons (vC (.int 0)) vNil))) (vSeqS (vFor (vIEn (vCons (vVar 0) vNil)) (vgTup 2 (vgCons (vgName 4) (vgCons (vgName 5) vgNil))) (vSeqS (vSet 6 (vLook (vOp dIx (vVar 3) (vUn dNeg (vC (.int 1)))))) (vAppend 3 (vOp dAdd (vVar 6) (vCall v_row_size (vCons (vVar 5) (vCons (vVar 1) (vCons (vVar 6) (vCons (vOp dIn (vVar 4) (vVar 2)) vNil))))))))) (vRet (vVar 3))))
def v_addresses_of : VP := vFun ["part", "machine", "forms", "addresses", "number", "row", "address"] 3 vb_addresses_of
theorem fp_addresses_of : FP m_addresses_of v_addresses_of := by
  unfold m_addresses_of v_addresses_of b_addresses_of vb_addresses_of
  exact f_Fun (f_Seq (f_Set (f_Lst (f_Cons f_C f_Nil))) (f_Seq (f_For (f_IEn (f_Cons f_Var f_Nil)) (f_gTup (f_gCons f_gName (f_gCons f_gName f_gNil))) (f_Seq (f_Set (f_Look (f_Op f_Var (f_Un f_C)))) (f_Append (f_Op f_Var (f_Call fp_row_size (f_Cons f_Var (f_Cons f_Var (f_Cons f_Var (f_Cons (f_Op f_Var f_Var) f_Nil))))))))) (f_Ret f_Var)))
def b_distance : MS := (mRet (mCl cAbs (mCons (mOp dSub (mOp dIx (mVar 0) (mVar 1)) (mOp dIx (mVar 0) (mVar 2))) mNil)))
def m_distance : MP := mFun ["addresses", "row", "other"] 3 b_distance
def vb_distance : VS := (vRet (vCl cAbs (vCons (vOp dSub (vOp dIx (vVar 0) (vVar 1)) (vOp dIx (vVar 0) (vVar 2))) vNil)))
def v_distance : VP := vFun ["addresses", "row", "other"] 3 vb_distance
theorem fp_distance : FP m_distance v_distance := by
  unfold m_distance v_distance b_distance vb_distance
  exact f_Fun (f_Ret (f_Cl (f_Cons (f_Op (f_Op f_Var f_Var) (f_Op f_Var f_Var)) f_Nil)))
def b_server : MS := (mSeq (mSet 4 (mTup (mCons (mC (.str "word")) (mCons (mOp dIx (mOp dIx (mVar 0) (mVar 3)) (mC (.int 1))) mNil)))) (mSeq (mSet 5 (mLc (mIEn (mCons (mVar 0) mNil)) (mgTup 2 (mgCons (mgName 6) (mgCons (mgName 7) mgNil))) (mTest (mOp dEq (mVar 7) (mVar 4))) (mVar 6) [6, 7])) (mSeq (mSet 8 (mLc (mISeq (mVar 5)) (mgName 9) mYes (mTup (mCons (mCall m_distance (mCons (mVar 1) (mCons (mVar 3) (mCons (mVar 9) mNil)))) (mCons (mVar 9) mNil))) [9])) (mSeq (mSet 10 (mLc (mISeq (mVar 8)) (mgName 11) (mTest (mOp dLe (mOp dIx (mVar 11) (mC (.int 0))) (mVar 2))) (mVar 11) [11])) (mRet (mIf (mTru (mVar 10)) (mOp dIx (mCl cMinD (mCons (mVar 10) mNil)) (mC (.int 1))) (mC .none)))))))
def m_server : MP := mFun ["part", "addresses", "span", "load", "wanted", "words", "number", "row", "away", "word", "near", "pair"] 4 b_server
def vb_server : VS := (vSeqS (vSet 4 (vTup (vCons (vC (.str "word")) (vCons (vOp dIx (vOp dIx (vVar 0) (vVar 3)) (vC (.int 1))) vNil)))) (vSeqS (vSet 5 (vLc (vIEn (vCons (vVar 0) vNil)) (vgTup 2 (vgCons (vgName 6) (vgCons (vgName 7) vgNil))) (vTest (vOp dEq (vVar 7) (vVar 4))) (vVar 6) [6, 7])) (vSeqS (vSet 8 (vLc (vISeq (vVar 5)) (vgName 9) vYes (vTup (vCons (vCall v_distance (vCons (vVar 1) (vCons (vVar 3) (vCons (vVar 9) vNil)))) (vCons (vVar 9) vNil))) [9])) (vSeqS (vSet 10 (vLc (vISeq (vVar 8)) (vgName 11) (vTest (vOp dLe (vOp dIx (vVar 11) (vC (.int 0))) (vVar 2))) (vVar 11) [11])) (vRet (vIf (vTru (vVar 10)) (vOp dIx (vCl cMinD (vCons (vVar 10) vNil)) (vC (.int 1))) (vC .none)))))))
def v_server : VP := vFun ["part", "addresses", "span", "load", "wanted", "words", "number", "row", "away", "word", "near", "pair"] 4 vb_server
theorem fp_server : FP m_server v_server := by
  unfold m_server v_server b_server vb_server
  exact f_Fun (f_Seq (f_Set (f_Tup (f_Cons f_C (f_Cons (f_Op (f_Op f_Var f_Var) f_C) f_Nil)))) (f_Seq (f_Set (f_Lc (f_IEn (f_Cons f_Var f_Nil)) (f_gTup (f_gCons f_gName (f_gCons f_gName f_gNil))) (f_Test (f_Op f_Var f_Var)) f_Var)) (f_Seq (f_Set (f_Lc (f_ISeq f_Var) f_gName f_Yes (f_Tup (f_Cons (f_Call fp_distance (f_Cons f_Var (f_Cons f_Var (f_Cons f_Var f_Nil)))) (f_Cons f_Var f_Nil))))) (f_Seq (f_Set (f_Lc (f_ISeq f_Var) f_gName (f_Test (f_Op (f_Op f_Var f_C) f_Var)) f_Var)) (f_Ret (f_If (f_Tru f_Var) (f_Op (f_Cl (f_Cons f_Var f_Nil)) f_C) f_C))))))
def b_unfit_rows : MS := (mSeq (mSet 3 (mCall m_addresses_of (mCons (mVar 0) (mCons (mVar 1) (mCons (mVar 2) mNil))))) (mRet (mLc (mISeq (mVar 2)) (mgName 4) (mTest (mOp dGt (mCall m_distance (mCons (mVar 3) (mCons (mVar 4) (mCons (mOp dIx (mOp dIx (mVar 0) (mVar 4)) (mC (.int 1))) mNil)))) (mOp dIx (mVar 1) (mC c_REACH)))) (mVar 4) [4])))
def m_unfit_rows : MP := mFun ["part", "machine", "forms", "addresses", "row"] 3 b_unfit_rows
def vb_unfit_rows : VS := (vSeqS (vSet 3 (vCall v_addresses_of (vCons (vVar 0) (vCons (vVar 1) (vCons (vVar 2) vNil))))) (vRet (vLc (vISeq (vVar 2)) (vgName 4) (vTest (vOp dGt (vCall v_distance (vCons (vVar 3) (vCons (vVar 4) (vCons (vOp dIx (vOp dIx (vVar 0) (vVar 4)) (vC (.int 1))) vNil)))) (vOp dIx (vVar 1) (vC c_REACH)))) (vVar 4) [4])))
def v_unfit_rows : VP := vFun ["part", "machine", "forms", "addresses", "row"] 3 vb_unfit_rows
theorem fp_unfit_rows : FP m_unfit_rows v_unfit_rows := by
  unfold m_unfit_rows v_unfit_rows b_unfit_rows vb_unfit_rows
  exact f_Fun (f_Seq (f_Set (f_Call fp_addresses_of (f_Cons f_Var (f_Cons f_Var (f_Cons f_Var f_Nil))))) (f_Ret (f_Lc (f_ISeq f_Var) f_gName (f_Test (f_Op (f_Call fp_distance (f_Cons f_Var (f_Cons f_Var (f_Cons (f_Op (f_Op f_Var f_Var) f_C) f_Nil)))) (f_Op f_Var f_C))) f_Var)))
def b_servers : MS := (mSeq (mSet 3 (mCall m_addresses_of (mCons (mVar 0) (mCons (mVar 1) (mCons (mVar 2) mNil))))) (mSeq (mSet 4 (mLc (mIEn (mCons (mVar 0) mNil)) (mgTup 2 (mgCons (mgName 5) (mgCons (mgName 6) mgNil))) (mTest (mOp dEq (mOp dIx (mVar 6) (mC (.int 0))) (mC (.str "load")))) (mVar 5) [5, 6])) (mRet (mDc (mISeq (mVar 4)) (mgName 7) mYes (mVar 7) (mCall m_server (mCons (mVar 0) (mCons (mVar 3) (mCons (mOp dIx (mVar 1) (mC c_SPAN)) (mCons (mVar 7) mNil))))) [7]))))
def m_servers : MP := mFun ["part", "machine", "forms", "addresses", "loads", "number", "row", "load"] 3 b_servers
def vb_servers : VS := (vSeqS (vSet 3 (vCall v_addresses_of (vCons (vVar 0) (vCons (vVar 1) (vCons (vVar 2) vNil))))) (vSeqS (vSet 4 (vLc (vIEn (vCons (vVar 0) vNil)) (vgTup 2 (vgCons (vgName 5) (vgCons (vgName 6) vgNil))) (vTest (vOp dEq (vOp dIx (vVar 6) (vC (.int 0))) (vC (.str "load")))) (vVar 5) [5, 6])) (vRet (vDc (vISeq (vVar 4)) (vgName 7) vYes (vVar 7) (vCall v_server (vCons (vVar 0) (vCons (vVar 3) (vCons (vOp dIx (vVar 1) (vC c_SPAN)) (vCons (vVar 7) vNil))))) [7]))))
def v_servers : VP := vFun ["part", "machine", "forms", "addresses", "loads", "number", "row", "load"] 3 vb_servers
theorem fp_servers : FP m_servers v_servers := by
  unfold m_servers v_servers b_servers vb_servers
  exact f_Fun (f_Seq (f_Set (f_Call fp_addresses_of (f_Cons f_Var (f_Cons f_Var (f_Cons f_Var f_Nil))))) (f_Seq (f_Set (f_Lc (f_IEn (f_Cons f_Var f_Nil)) (f_gTup (f_gCons f_gName (f_gCons f_gName f_gNil))) (f_Test (f_Op (f_Op f_Var f_C) f_C)) f_Var)) (f_Ret (f_Dc (f_ISeq f_Var) f_gName f_Yes f_Var (f_Call fp_server (f_Cons f_Var (f_Cons f_Var (f_Cons (f_Op f_Var f_C) (f_Cons f_Var f_Nil)))))))))
def b_places : MS := (mSeq (mDrop (mCall m_check_formed (mCons (mVar 0) (mCons (mVar 1) (mCons (mVar 2) mNil))))) (mRet (mCall m_addresses_of (mCons (mVar 0) (mCons (mVar 1) (mCons (mVar 2) mNil))))))
def m_places : MP := mFun ["part", "machine", "forms"] 3 b_places
def vb_places : VS := (vSeqS (vDrop (vCall v_check_formed (vCons (vVar 0) (vCons (vVar 1) (vCons (vVar 2) vNil))))) (vRet (vCall v_addresses_of (vCons (vVar 0) (vCons (vVar 1) (vCons (vVar 2) vNil))))))
def v_places : VP := vFun ["part", "machine", "forms"] 3 vb_places
theorem fp_places : FP m_places v_places := by
  unfold m_places v_places b_places vb_places
  exact f_Fun (f_Seq (f_Drop (f_Call fp_check_formed (f_Cons f_Var (f_Cons f_Var (f_Cons f_Var f_Nil))))) (f_Ret (f_Call fp_addresses_of (f_Cons f_Var (f_Cons f_Var (f_Cons f_Var f_Nil))))))
def b_misfits : MS := (mSeq (mDrop (mCall m_check_formed (mCons (mVar 0) (mCons (mVar 1) (mCons (mVar 2) mNil))))) (mRet (mCall m_unfit_rows (mCons (mVar 0) (mCons (mVar 1) (mCons (mVar 2) mNil))))))
def m_misfits : MP := mFun ["part", "machine", "forms"] 3 b_misfits
def vb_misfits : VS := (vSeqS (vDrop (vCall v_check_formed (vCons (vVar 0) (vCons (vVar 1) (vCons (vVar 2) vNil))))) (vRet (vCall v_unfit_rows (vCons (vVar 0) (vCons (vVar 1) (vCons (vVar 2) vNil))))))
def v_misfits : VP := vFun ["part", "machine", "forms"] 3 vb_misfits
theorem fp_misfits : FP m_misfits v_misfits := by
  unfold m_misfits v_misfits b_misfits vb_misfits
  exact f_Fun (f_Seq (f_Drop (f_Call fp_check_formed (f_Cons f_Var (f_Cons f_Var (f_Cons f_Var f_Nil))))) (f_Ret (f_Call fp_unfit_rows (f_Cons f_Var (f_Cons f_Var (f_Cons f_Var f_Nil))))))
def b_served : MS := (mSeq (mDrop (mCall m_check_formed (mCons (mVar 0) (mCons (mVar 1) (mCons (mVar 2) mNil))))) (mRet (mCall m_servers (mCons (mVar 0) (mCons (mVar 1) (mCons (mVar 2) mNil))))))
def m_served : MP := mFun ["part", "machine", "forms"] 3 b_served
def vb_served : VS := (vSeqS (vDrop (vCall v_check_formed (vCons (vVar 0) (vCons (vVar 1) (vCons (vVar 2) vNil))))) (vRet (vCall v_servers (vCons (vVar 0) (vCons (vVar 1) (vCons (vVar 2) vNil))))))
def v_served : VP := vFun ["part", "machine", "forms"] 3 vb_served
theorem fp_served : FP m_served v_served := by
  unfold m_served v_served b_served vb_served
  exact f_Fun (f_Seq (f_Drop (f_Call fp_check_formed (f_Cons f_Var (f_Cons f_Var (f_Cons f_Var f_Nil))))) (f_Ret (f_Call fp_servers (f_Cons f_Var (f_Cons f_Var (f_Cons f_Var f_Nil))))))
def b_check_even_part : MS := (mSeq (mDrop (mCall m_check_part (mCons (mVar 0) mNil))) (mIfS (mNot (mTest (mCall m_is_even (mCons (mVar 0) mNil)))) mNever mNext))
def m_check_even_part : MP := mFun ["part"] 1 b_check_even_part
def vb_check_even_part : VS := (vSeqS (vDrop (vCall v_check_part (vCons (vVar 0) vNil))) (vIfS (vNot (vTest (vCall v_is_even (vCons (vVar 0) vNil)))) vNever vNext))
def v_check_even_part : VP := vFun ["part"] 1 vb_check_even_part
theorem fp_check_even_part : FP m_check_even_part v_check_even_part := by
  unfold m_check_even_part v_check_even_part b_check_even_part vb_check_even_part
  exact f_Fun (f_Seq (f_Drop (f_Call fp_check_part (f_Cons f_Var f_Nil))) (f_IfS (f_Not (f_Test (f_Call fp_is_even (f_Cons f_Var f_Nil)))) f_Never f_Next))
def b_without : MS := (mRet (mLc (mISeq (mVar 0)) (mgName 2) (mTest (mOp dNe (mVar 2) (mVar 1))) (mVar 2) [2]))
def m_without : MP := mFun ["rows", "row", "other"] 2 b_without
def vb_without : VS := (vRet (vLc (vISeq (vVar 0)) (vgName 2) (vTest (vOp dNe (vVar 2) (vVar 1))) (vVar 2) [2]))
def v_without : VP := vFun ["rows", "row", "other"] 2 vb_without
theorem fp_without : FP m_without v_without := by
  unfold m_without v_without b_without vb_without
  exact f_Fun (f_Ret (f_Lc (f_ISeq f_Var) f_gName (f_Test (f_Op f_Var f_Var)) f_Var))
def b_growth : MS := (mSeq (mSet 2 (mCall m_jump_rows (mCons (mVar 0) mNil))) (mSeq (mSet 3 (mLst mNil)) (mSeq (mSet 4 (mCall m_unfit_rows (mCons (mVar 0) (mCons (mVar 1) (mCons (mVar 2) mNil))))) (mSeq (mWhile (mTru (mVar 4)) (mSeq (mAppend 3 (mOp dIx (mVar 4) (mC (.int 0)))) (mSeq (mSet 2 (mCall m_without (mCons (mVar 2) (mCons (mOp dIx (mVar 4) (mC (.int 0))) mNil)))) (mSet 4 (mCall m_unfit_rows (mCons (mVar 0) (mCons (mVar 1) (mCons (mVar 2) mNil)))))))) (mRet (mTup (mCons (mVar 2) (mCons (mVar 3) mNil))))))))
def m_growth : MP := mFun ["part", "machine", "forms", "chain", "unfit"] 2 b_growth
def vb_growth : VS := (vSeqS (vSet 2 (vCall v_jump_rows (vCons (vVar 0) vNil))) (vSeqS (vSet 3 (vLst vNil)) (vSeqS (vSet 4 (vCall v_unfit_rows (vCons (vVar 0) (vCons (vVar 1) (vCons (vVar 2) vNil))))) (vSeqS (vWhile (vTru (vVar 4)) (vSeqS (vAppend 3 (vOp dIx (vVar 4) (vC (.int 0)))) (vSeqS (vSet 2 (vCall v_without (vCons (vVar 2) (vCons (vOp dIx (vVar 4) (vC (.int 0))) vNil)))) (vSet 4 (vCall v_unfit_rows (vCons (vVar 0) (vCons (vVar 1) (vCons (vVar 2) vNil)))))))) (vRet (vTup (vCons (vVar 2) (vCons (vVar 3) vNil))))))))
def v_growth : VP := vFun ["part", "machine", "forms", "chain", "unfit"] 2 vb_growth
theorem fp_growth : FP m_growth v_growth := by
  unfold m_growth v_growth b_growth vb_growth
  exact f_Fun (f_Seq (f_Set (f_Call fp_jump_rows (f_Cons f_Var f_Nil))) (f_Seq (f_Set (f_Lst f_Nil)) (f_Seq (f_Set (f_Call fp_unfit_rows (f_Cons f_Var (f_Cons f_Var (f_Cons f_Var f_Nil))))) (f_Seq (f_While (f_Tru f_Var) (f_Seq (f_Append (f_Op f_Var f_C)) (f_Seq (f_Set (f_Call fp_without (f_Cons f_Var (f_Cons (f_Op f_Var f_C) f_Nil)))) (f_Set (f_Call fp_unfit_rows (f_Cons f_Var (f_Cons f_Var (f_Cons f_Var f_Nil)))))))) (f_Ret (f_Tup (f_Cons f_Var (f_Cons f_Var f_Nil))))))))
def b_is_chain : MS := (mSeq (mIfS (mNot (mTest (mIsi "list" (mVar 2)))) (mRet (mC (.bool false))) mNext) (mSeq (mSet 3 (mCall m_jump_rows (mCons (mVar 0) mNil))) (mSeq (mFor (mISeq (mVar 2)) (mgName 4) (mSeq (mIfS (mOr (mNot (mTest (mCall m_is_jump_row (mCons (mVar 0) (mCons (mVar 4) mNil))))) (mTest (mOp dNotIn (mVar 4) (mCall m_unfit_rows (mCons (mVar 0) (mCons (mVar 1) (mCons (mVar 3) mNil))))))) (mRet (mC (.bool false))) mNext) (mSet 3 (mCall m_without (mCons (mVar 3) (mCons (mVar 4) mNil)))))) (mRet (mC (.bool true))))))
def m_is_chain : MP := mFun ["part", "machine", "thing", "forms", "row"] 3 b_is_chain
def vb_is_chain : VS := (vSeqS (vIfS (vNot (vTest (vIsi "list" (vVar 2)))) (vRet (vC (.bool false))) vNext) (vSeqS (vSet 3 (vCall v_jump_rows (vCons (vVar 0) vNil))) (vSeqS (vFor (vISeq (vVar 2)) (vgName 4) (vSeqS (vIfS (vOr (vNot (vTest (vCall v_is_jump_row (vCons (vVar 0) (vCons (vVar 4) vNil))))) (vTest (vOp dNotIn (vVar 4) (vCall v_unfit_rows (vCons (vVar 0) (vCons (vVar 1) (vCons (vVar 3) vNil))))))) (vRet (vC (.bool false))) vNext) (vSet 3 (vCall v_without (vCons (vVar 3) (vCons (vVar 4) vNil)))))) (vRet (vC (.bool true))))))
def v_is_chain : VP := vFun ["part", "machine", "thing", "forms", "row"] 3 vb_is_chain
theorem fp_is_chain : FP m_is_chain v_is_chain := by
  unfold m_is_chain v_is_chain b_is_chain vb_is_chain
  exact f_Fun (f_Seq (f_IfS (f_Not (f_Test (f_Isi f_Var))) (f_Ret f_C) f_Next) (f_Seq (f_Set (f_Call fp_jump_rows (f_Cons f_Var f_Nil))) (f_Seq (f_For (f_ISeq f_Var) f_gName (f_Seq (f_IfS (f_Or (f_Not (f_Test (f_Call fp_is_jump_row (f_Cons f_Var (f_Cons f_Var f_Nil))))) (f_Test (f_Op f_Var (f_Call fp_unfit_rows (f_Cons f_Var (f_Cons f_Var (f_Cons f_Var f_Nil))))))) (f_Ret f_C) f_Next) (f_Set (f_Call fp_without (f_Cons f_Var (f_Cons f_Var f_Nil)))))) (f_Ret f_C))))
def b_grown : MS := (mSeq (mDrop (mCall m_check_even_part (mCons (mVar 0) mNil))) (mSeq (mDrop (mCall m_check_machine (mCons (mVar 1) mNil))) (mRet (mCall m_growth (mCons (mVar 0) (mCons (mVar 1) mNil))))))
def m_grown : MP := mFun ["part", "machine"] 2 b_grown
def vb_grown : VS := (vSeqS (vDrop (vCall v_check_even_part (vCons (vVar 0) vNil))) (vSeqS (vDrop (vCall v_check_machine (vCons (vVar 1) vNil))) (vRet (vCall v_growth (vCons (vVar 0) (vCons (vVar 1) vNil))))))
def v_grown : VP := vFun ["part", "machine"] 2 vb_grown
theorem fp_grown : FP m_grown v_grown := by
  unfold m_grown v_grown b_grown vb_grown
  exact f_Fun (f_Seq (f_Drop (f_Call fp_check_even_part (f_Cons f_Var f_Nil))) (f_Seq (f_Drop (f_Call fp_check_machine (f_Cons f_Var f_Nil))) (f_Ret (f_Call fp_growth (f_Cons f_Var (f_Cons f_Var f_Nil))))))
def b_shows_chain : MS := (mSeq (mDrop (mCall m_check_even_part (mCons (mVar 0) mNil))) (mSeq (mDrop (mCall m_check_machine (mCons (mVar 1) mNil))) (mRet (mCall m_is_chain (mCons (mVar 0) (mCons (mVar 1) (mCons (mVar 2) mNil)))))))
def m_shows_chain : MP := mFun ["part", "machine", "thing"] 3 b_shows_chain
def vb_shows_chain : VS := (vSeqS (vDrop (vCall v_check_even_part (vCons (vVar 0) vNil))) (vSeqS (vDrop (vCall v_check_machine (vCons (vVar 1) vNil))) (vRet (vCall v_is_chain (vCons (vVar 0) (vCons (vVar 1) (vCons (vVar 2) vNil)))))))
def v_shows_chain : VP := vFun ["part", "machine", "thing"] 3 vb_shows_chain
theorem fp_shows_chain : FP m_shows_chain v_shows_chain := by
  unfold m_shows_chain v_shows_chain b_shows_chain vb_shows_chain
  exact f_Fun (f_Seq (f_Drop (f_Call fp_check_even_part (f_Cons f_Var f_Nil))) (f_Seq (f_Drop (f_Call fp_check_machine (f_Cons f_Var f_Nil))) (f_Ret (f_Call fp_is_chain (f_Cons f_Var (f_Cons f_Var (f_Cons f_Var f_Nil)))))))
end RC
end
section
namespace RC
open PySem PySem.Spec L2 RR
open PyProof.Rows hiding St
def b__law_size : MS := (mSeq (mIfS (mTest (mOp dIn (mOp dIx (mVar 0) (mC (.int 0))) (mTup (mCons (mC (.str "plain")) (mCons (mC (.str "stop")) mNil))))) (mRet (mOp dIx (mVar 0) (mC (.int 1)))) mNext) (mSeq (mIfS (mTest (mOp dIn (mOp dIx (mVar 0) (mC (.int 0))) (mTup (mCons (mC (.str "jump")) (mCons (mC (.str "branch")) mNil))))) (mRet (mIf (mTest (mVar 2)) (mOp dIx (mVar 1) (mC (.int 0))) (mOp dIx (mVar 1) (mC (.int 2))))) mNext) (mSeq (mIfS (mTest (mOp dEq (mOp dIx (mVar 0) (mC (.int 0))) (mC (.str "align")))) (mRet (mOp dMod (mCl cInt (mCons (mOp dSub (mC (.int 0)) (mVar 3)) mNil)) (mOp dIx (mVar 0) (mC (.int 1))))) mNext) (mRet (mOp dIx (mVar 1) (mOp dIx (mDisp (mpCons (mC (.str "far")) (mC (.int 3)) (mpCons (mC (.str "load")) (mC (.int 5)) (mpCons (mC (.str "word")) (mC (.int 7)) mpNil)))) (mOp dIx (mVar 0) (mC (.int 0)))))))))
def m__law_size : MP := mFun ["row", "machine", "is_short", "at"] 4 b__law_size
def vb__law_size : VS := (vSeqS (vIfS (vTest (vOp dIn (vOp dIx (vVar 0) (vC (.int 0))) (vTup (vCons (vC (.str "plain")) (vCons (vC (.str "stop")) vNil))))) (vRet (vOp dIx (vVar 0) (vC (.int 1)))) vNext) (vSeqS (vIfS (vTest (vOp dIn (vOp dIx (vVar 0) (vC (.int 0))) (vTup (vCons (vC (.str "jump")) (vCons (vC (.str "branch")) vNil))))) (vRet (vIf (vTest (vVar 2)) (vOp dIx (vVar 1) (vC (.int 0))) (vOp dIx (vVar 1) (vC (.int 2))))) vNext) (vSeqS (vIfS (vTest (vOp dEq (vOp dIx (vVar 0) (vC (.int 0))) (vC (.str "align")))) (vRet (vOp dMod (vCl cInt (vCons (vOp dSub (vC (.int 0)) (vVar 3)) vNil)) (vOp dIx (vVar 0) (vC (.int 1))))) vNext) (vRet (vOp dIx (vVar 1) (vOp dIx (vDisp (vpCons (vC (.str "far")) (vC (.int 3)) (vpCons (vC (.str "load")) (vC (.int 5)) (vpCons (vC (.str "word")) (vC (.int 7)) vpNil)))) (vOp dIx (vVar 0) (vC (.int 0)))))))))
def v__law_size : VP := vFun ["row", "machine", "is_short", "at"] 4 vb__law_size
theorem fp__law_size : FP m__law_size v__law_size := by
  unfold m__law_size v__law_size b__law_size vb__law_size
  exact f_Fun (f_Seq (f_IfS (f_Test (f_Op (f_Op f_Var f_C) (f_Tup (f_Cons f_C (f_Cons f_C f_Nil))))) (f_Ret (f_Op f_Var f_C)) f_Next) (f_Seq (f_IfS (f_Test (f_Op (f_Op f_Var f_C) (f_Tup (f_Cons f_C (f_Cons f_C f_Nil))))) (f_Ret (f_If (f_Test f_Var) (f_Op f_Var f_C) (f_Op f_Var f_C))) f_Next) (f_Seq (f_IfS (f_Test (f_Op (f_Op f_Var f_C) f_C)) (f_Ret (f_Op (f_Cl (f_Cons (f_Op f_C f_Var) f_Nil)) (f_Op f_Var f_C))) f_Next) (f_Ret (f_Op f_Var (f_Op (f_Disp (f_pCons f_C f_C (f_pCons f_C f_C (f_pCons f_C f_C f_pNil)))) (f_Op f_Var f_C)))))))
def b__law_places : MS := (mSeq (mPar [3, 4] (mCons (mLst mNil) (mCons (mC (.int 0)) mNil))) (mSeq (mFor (mIEn (mCons (mVar 0) mNil)) (mgTup 2 (mgCons (mgName 5) (mgCons (mgName 6) mgNil))) (mSeq (mAppend 3 (mVar 4)) (mSet 4 (mOp dAdd (mVar 4) (mCall m__law_size (mCons (mVar 6) (mCons (mVar 1) (mCons (mOp dIn (mVar 5) (mVar 2)) (mCons (mVar 4) mNil))))))))) (mRet (mOp dAdd (mVar 3) (mLst (mCons (mVar 4) mNil))))))
def m__law_places : MP := mFun ["part", "machine", "forms", "found", "at", "number", "row"] 3 b__law_places
def vb__law_places : VS := (vSeqS (vPar [3, 4] (vCons (vLst vNil) (vCons (vC (.int 0)) vNil))) (vSeqS (vFor (vIEn (vCons (vVar 0) vNil)) (vgTup 2 (vgCons (vgName 5) (vgCons (vgName 6) vgNil))) (vSeqS (vAppend 3 (vVar 4)) (vSet 4 (vOp dAdd (vVar 4) (vCall v__law_size (vCons (vVar 6) (vCons (vVar 1) (vCons (vOp dIn (vVar 5) (vVar 2)) (vCons (vVar 4) vNil))))))))) (vRet (vOp dAdd (vVar 3) (vLst (vCons (vVar 4) vNil))))))
def v__law_places : VP := vFun ["part", "machine", "forms", "found", "at", "number", "row"] 3 vb__law_places
theorem fp__law_places : FP m__law_places v__law_places := by
  unfold m__law_places v__law_places b__law_places vb__law_places
  exact f_Fun (f_Seq (f_Par (f_Cons (f_Lst f_Nil) (f_Cons f_C f_Nil))) (f_Seq (f_For (f_IEn (f_Cons f_Var f_Nil)) (f_gTup (f_gCons f_gName (f_gCons f_gName f_gNil))) (f_Seq (f_Append f_Var) (f_Set (f_Op f_Var (f_Call fp__law_size (f_Cons f_Var (f_Cons f_Var (f_Cons (f_Op f_Var f_Var) (f_Cons f_Var f_Nil))))))))) (f_Ret (f_Op f_Var (f_Lst (f_Cons f_Var f_Nil))))))
def b__law_misfits : MS := (mSeq (mSet 3 (mCall m__law_places (mCons (mVar 0) (mCons (mVar 1) (mCons (mVar 2) mNil))))) (mRet (mLc (mISeq (mVar 2)) (mgName 4) (mTest (mOp dGt (mCl cAbs (mCons (mOp dSub (mOp dIx (mVar 3) (mOp dIx (mOp dIx (mVar 0) (mVar 4)) (mC (.int 1)))) (mOp dIx (mVar 3) (mVar 4))) mNil)) (mOp dIx (mVar 1) (mC (.int 1))))) (mVar 4) [4])))
def m__law_misfits : MP := mFun ["part", "machine", "forms", "found", "row"] 3 b__law_misfits
def vb__law_misfits : VS := (vSeqS (vSet 3 (vCall v__law_places (vCons (vVar 0) (vCons (vVar 1) (vCons (vVar 2) vNil))))) (vRet (vLc (vISeq (vVar 2)) (vgName 4) (vTest (vOp dGt (vCl cAbs (vCons (vOp dSub (vOp dIx (vVar 3) (vOp dIx (vOp dIx (vVar 0) (vVar 4)) (vC (.int 1)))) (vOp dIx (vVar 3) (vVar 4))) vNil)) (vOp dIx (vVar 1) (vC (.int 1))))) (vVar 4) [4])))
def v__law_misfits : VP := vFun ["part", "machine", "forms", "found", "row"] 3 vb__law_misfits
theorem fp__law_misfits : FP m__law_misfits v__law_misfits := by
  unfold m__law_misfits v__law_misfits b__law_misfits vb__law_misfits
  exact f_Fun (f_Seq (f_Set (f_Call fp__law_places (f_Cons f_Var (f_Cons f_Var (f_Cons f_Var f_Nil))))) (f_Ret (f_Lc (f_ISeq f_Var) f_gName (f_Test (f_Op (f_Cl (f_Cons (f_Op (f_Op f_Var (f_Op (f_Op f_Var f_Var) f_C)) (f_Op f_Var f_Var)) f_Nil)) (f_Op f_Var f_C))) f_Var)))
def b__law_jumps : MS := (mRet (mLc (mIEn (mCons (mVar 0) mNil)) (mgTup 2 (mgCons (mgName 1) (mgCons (mgName 2) mgNil))) (mTest (mOp dIn (mOp dIx (mVar 2) (mC (.int 0))) (mTup (mCons (mC (.str "jump")) (mCons (mC (.str "branch")) mNil))))) (mVar 1) [1, 2]))
def m__law_jumps : MP := mFun ["part", "number", "row"] 1 b__law_jumps
def vb__law_jumps : VS := (vRet (vLc (vIEn (vCons (vVar 0) vNil)) (vgTup 2 (vgCons (vgName 1) (vgCons (vgName 2) vgNil))) (vTest (vOp dIn (vOp dIx (vVar 2) (vC (.int 0))) (vTup (vCons (vC (.str "jump")) (vCons (vC (.str "branch")) vNil))))) (vVar 1) [1, 2]))
def v__law_jumps : VP := vFun ["part", "number", "row"] 1 vb__law_jumps
theorem fp__law_jumps : FP m__law_jumps v__law_jumps := by
  unfold m__law_jumps v__law_jumps b__law_jumps vb__law_jumps
  exact f_Fun (f_Ret (f_Lc (f_IEn (f_Cons f_Var f_Nil)) (f_gTup (f_gCons f_gName (f_gCons f_gName f_gNil))) (f_Test (f_Op (f_Op f_Var f_C) (f_Tup (f_Cons f_C (f_Cons f_C f_Nil))))) f_Var))
end RC
end
section
namespace RC
open PySem PySem.Spec L2 RR
open PyProof.Rows hiding St
end RC
end
section
namespace RC
open PySem PySem.Spec L2 RR
open PyProof.Rows hiding St
local macro_rules | `(tactic| walk_at "st") => `(tactic| first
  | refine ⟨_, rfl, ?_⟩
  | refine ⟨rfl, ?_⟩
  | refine ⟨by decide, ?_⟩)
def b__law_w_shifted : MS := (mRet (mCl cTuple (mCons (mLc (mISeq (mVar 0)) (mgName 1) mYes (mIf (mTest (mOp dIn (mOp dIx (mVar 1) (mC (.int 0))) (mTup (mCons (mC (.str "jump")) (mCons (mC (.str "branch")) mNil))))) (mTup (mCons (mOp dIx (mVar 1) (mC (.int 0))) (mCons (mOp dAdd (mOp dIx (mVar 1) (mC (.int 1))) (mC (.int 1))) mNil))) (mVar 1)) [1]) mNil)))
def m__law_w_shifted : MP := mFun ["part", "row"] 1 b__law_w_shifted
def vb__law_w_shifted : VS := (vRet (vCl cTuple (vCons (vLc (vISeq (vVar 0)) (vgName 1) vYes (vIf (vTest (vOp dIn (vOp dIx (vVar 1) (vC (.int 0))) (vTup (vCons (vC (.str "jump")) (vCons (vC (.str "branch")) vNil))))) (vTup (vCons (vOp dIx (vVar 1) (vC (.int 0))) (vCons (vOp dAdd (vOp dIx (vVar 1) (vC (.int 1))) (vC (.int 1))) vNil))) (vVar 1)) [1]) vNil)))
def v__law_w_shifted : VP := vFun ["part", "row"] 1 vb__law_w_shifted
theorem fp__law_w_shifted : FP m__law_w_shifted v__law_w_shifted := by
  unfold m__law_w_shifted v__law_w_shifted b__law_w_shifted vb__law_w_shifted
  exact f_Fun (f_Ret (f_Cl (f_Cons (f_Lc (f_ISeq f_Var) f_gName f_Yes (f_If (f_Test (f_Op (f_Op f_Var f_C) (f_Tup (f_Cons f_C (f_Cons f_C f_Nil))))) (f_Tup (f_Cons (f_Op f_Var f_C) (f_Cons (f_Op (f_Op f_Var f_C) f_C) f_Nil))) f_Var)) f_Nil)))
def b_opens : MS := (mRet (mOp dEq (mOp dIx (mVar 0) (mC (.int 0))) (mTup (mCons (mC (.str "plain")) (mCons (mOp dIx (mVar 1) (mC c_FAR)) (mCons (mC (.int 0)) mNil))))))
def m_opens : MP := mFun ["part", "machine"] 2 b_opens
def vb_opens : VS := (vRet (vOp dEq (vOp dIx (vVar 0) (vC (.int 0))) (vTup (vCons (vC (.str "plain")) (vCons (vOp dIx (vVar 1) (vC c_FAR)) (vCons (vC (.int 0)) vNil))))))
def v_opens : VP := vFun ["part", "machine"] 2 vb_opens
theorem fp_opens : FP m_opens v_opens := by
  unfold m_opens v_opens b_opens vb_opens
  exact f_Fun (f_Ret (f_Op (f_Op f_Var f_C) (f_Tup (f_Cons f_C (f_Cons (f_Op f_Var f_C) (f_Cons f_C f_Nil))))))
def b_has_door : MS := (mSeq (mDrop (mCall m_check_part (mCons (mVar 0) mNil))) (mSeq (mDrop (mCall m_check_machine (mCons (mVar 1) mNil))) (mRet (mCall m_opens (mCons (mVar 0) (mCons (mVar 1) mNil))))))
def m_has_door : MP := mFun ["part", "machine"] 2 b_has_door
def vb_has_door : VS := (vSeqS (vDrop (vCall v_check_part (vCons (vVar 0) vNil))) (vSeqS (vDrop (vCall v_check_machine (vCons (vVar 1) vNil))) (vRet (vCall v_opens (vCons (vVar 0) (vCons (vVar 1) vNil))))))
def v_has_door : VP := vFun ["part", "machine"] 2 vb_has_door
theorem fp_has_door : FP m_has_door v_has_door := by
  unfold m_has_door v_has_door b_has_door vb_has_door
  exact f_Fun (f_Seq (f_Drop (f_Call fp_check_part (f_Cons f_Var f_Nil))) (f_Seq (f_Drop (f_Call fp_check_machine (f_Cons f_Var f_Nil))) (f_Ret (f_Call fp_opens (f_Cons f_Var (f_Cons f_Var f_Nil))))))
def b_is_part_number : MS := (mRet (mCall m_is_within (mCons (mVar 1) (mCons (mC (.int 0)) (mCons (mOp dSub (mCl cLen (mCons (mVar 0) mNil)) (mC (.int 1))) mNil)))))
def m_is_part_number : MP := mFun ["book", "thing"] 2 b_is_part_number
def vb_is_part_number : VS := (vRet (vCall v_is_within (vCons (vVar 1) (vCons (vC (.int 0)) (vCons (vOp dSub (vCl cLen (vCons (vVar 0) vNil)) (vC (.int 1))) vNil)))))
def v_is_part_number : VP := vFun ["book", "thing"] 2 vb_is_part_number
theorem fp_is_part_number : FP m_is_part_number v_is_part_number := by
  unfold m_is_part_number v_is_part_number b_is_part_number vb_is_part_number
  exact f_Fun (f_Ret (f_Call fp_is_within (f_Cons f_Var (f_Cons f_C (f_Cons (f_Op (f_Cl (f_Cons f_Var f_Nil)) f_C) f_Nil)))))
def b_with_part : MS := (mRet (mOp dAdd (mOp dAdd (mSl (mVar 0) mNoPart (mPart (mVar 1))) (mTup (mCons (mVar 2) mNil))) (mSl (mVar 0) (mPart (mOp dAdd (mVar 1) (mC (.int 1)))) mNoPart)))
def m_with_part : MP := mFun ["book", "p", "part"] 3 b_with_part
def vb_with_part : VS := (vRet (vOp dAdd (vOp dAdd (vSl (vVar 0) vNoPart (vPart (vVar 1))) (vTup (vCons (vVar 2) vNil))) (vSl (vVar 0) (vPart (vOp dAdd (vVar 1) (vC (.int 1)))) vNoPart)))
def v_with_part : VP := vFun ["book", "p", "part"] 3 vb_with_part
theorem fp_with_part : FP m_with_part v_with_part := by
  unfold m_with_part v_with_part b_with_part vb_with_part
  exact f_Fun (f_Ret (f_Op (f_Op (f_Sl f_Var f_NoPart (f_Part f_Var)) (f_Tup (f_Cons f_Var f_Nil))) (f_Sl f_Var (f_Part (f_Op f_Var f_C)) f_NoPart)))
def b_twin_of : MS := (mSeq (mSet 3 (mOp dAdd (mTup (mCons (mTup (mCons (mC (.str "far")) (mCons (mCl cLen (mCons (mVar 0) mNil)) mNil))) mNil)) (mSl (mOp dIx (mVar 0) (mVar 1)) (mPart (mC (.int 1))) mNoPart))) (mRet (mOp dAdd (mCall m_with_part (mCons (mVar 0) (mCons (mVar 1) (mCons (mVar 3) mNil)))) (mTup (mCons (mVar 2) mNil)))))
def m_twin_of : MP := mFun ["book", "p", "part", "through"] 3 b_twin_of
def vb_twin_of : VS := (vSeqS (vSet 3 (vOp dAdd (vTup (vCons (vTup (vCons (vC (.str "far")) (vCons (vCl cLen (vCons (vVar 0) vNil)) vNil))) vNil)) (vSl (vOp dIx (vVar 0) (vVar 1)) (vPart (vC (.int 1))) vNoPart))) (vRet (vOp dAdd (vCall v_with_part (vCons (vVar 0) (vCons (vVar 1) (vCons (vVar 3) vNil)))) (vTup (vCons (vVar 2) vNil)))))
def v_twin_of : VP := vFun ["book", "p", "part", "through"] 3 vb_twin_of
theorem fp_twin_of : FP m_twin_of v_twin_of := by
  unfold m_twin_of v_twin_of b_twin_of vb_twin_of
  exact f_Fun (f_Seq (f_Set (f_Op (f_Tup (f_Cons (f_Tup (f_Cons f_C (f_Cons (f_Cl (f_Cons f_Var f_Nil)) f_Nil))) f_Nil)) (f_Sl (f_Op f_Var f_Var) (f_Part f_C) f_NoPart))) (f_Ret (f_Op (f_Call fp_with_part (f_Cons f_Var (f_Cons f_Var (f_Cons f_Var f_Nil)))) (f_Tup (f_Cons f_Var f_Nil)))))
def b_check_twin : MS := (mSeq (mIfS (mOr (mNot (mTest (mCall m_is_part_number (mCons (mVar 0) (mCons (mVar 2) mNil))))) (mNot (mTest (mCall m_opens (mCons (mOp dIx (mVar 0) (mVar 2)) (mCons (mVar 1) mNil)))))) mNever mNext) (mIfS (mNot (mTest (mCall m_is_book (mCons (mCall m_twin_of (mCons (mVar 0) (mCons (mVar 2) (mCons (mVar 3) mNil)))) mNil)))) mNever mNext))
def m_check_twin : MP := mFun ["book", "machine", "p", "part"] 4 b_check_twin
def vb_check_twin : VS := (vSeqS (vIfS (vOr (vNot (vTest (vCall v_is_part_number (vCons (vVar 0) (vCons (vVar 2) vNil))))) (vNot (vTest (vCall v_opens (vCons (vOp dIx (vVar 0) (vVar 2)) (vCons (vVar 1) vNil)))))) vNever vNext) (vIfS (vNot (vTest (vCall v_is_book (vCons (vCall v_twin_of (vCons (vVar 0) (vCons (vVar 2) (vCons (vVar 3) vNil)))) vNil)))) vNever vNext))
def v_check_twin : VP := vFun ["book", "machine", "p", "part"] 4 vb_check_twin
theorem fp_check_twin : FP m_check_twin v_check_twin := by
  unfold m_check_twin v_check_twin b_check_twin vb_check_twin
  exact f_Fun (f_Seq (f_IfS (f_Or (f_Not (f_Test (f_Call fp_is_part_number (f_Cons f_Var (f_Cons f_Var f_Nil))))) (f_Not (f_Test (f_Call fp_opens (f_Cons (f_Op f_Var f_Var) (f_Cons f_Var f_Nil)))))) f_Never f_Next) (f_IfS (f_Not (f_Test (f_Call fp_is_book (f_Cons (f_Call fp_twin_of (f_Cons f_Var (f_Cons f_Var (f_Cons f_Var f_Nil)))) f_Nil)))) f_Never f_Next))
def b_twin : MS := (mSeq (mDrop (mCall m_check_book (mCons (mVar 0) mNil))) (mSeq (mDrop (mCall m_check_machine (mCons (mVar 1) mNil))) (mSeq (mDrop (mCall m_check_twin (mCons (mVar 0) (mCons (mVar 1) (mCons (mVar 2) (mCons (mVar 3) mNil)))))) (mRet (mCall m_twin_of (mCons (mVar 0) (mCons (mVar 2) (mCons (mVar 3) mNil))))))))
def m_twin : MP := mFun ["book", "machine", "p", "part"] 4 b_twin
def vb_twin : VS := (vSeqS (vDrop (vCall v_check_book (vCons (vVar 0) vNil))) (vSeqS (vDrop (vCall v_check_machine (vCons (vVar 1) vNil))) (vSeqS (vDrop (vCall v_check_twin (vCons (vVar 0) (vCons (vVar 1) (vCons (vVar 2) (vCons (vVar 3) vNil)))))) (vRet (vCall v_twin_of (vCons (vVar 0) (vCons (vVar 2) (vCons (vVar 3) vNil))))))))
def v_twin : VP := vFun ["book", "machine", "p", "part"] 4 vb_twin
theorem fp_twin : FP m_twin v_twin := by
  unfold m_twin v_twin b_twin vb_twin
  exact f_Fun (f_Seq (f_Drop (f_Call fp_check_book (f_Cons f_Var f_Nil))) (f_Seq (f_Drop (f_Call fp_check_machine (f_Cons f_Var f_Nil))) (f_Seq (f_Drop (f_Call fp_check_twin (f_Cons f_Var (f_Cons f_Var (f_Cons f_Var (f_Cons f_Var f_Nil)))))) (f_Ret (f_Call fp_twin_of (f_Cons f_Var (f_Cons f_Var (f_Cons f_Var f_Nil))))))))
end RC
end
section
namespace RR
open PySem PySem.Spec L2
open PyProof.Rows hiding St
/-- a statement that never returns: what a return would mean is nothing to it -/
def NRt (m : MS) : Prop := ∀ (E : EndsD) (R : D → Nat → Prop), m E = m { E with rt := R }
theorem nr_set {i : Nat} {me : ME} : NRt (mSet i me) := fun E R => rfl
theorem nr_asg {me : ME} {mg : MG} : NRt (mAsg me mg) := fun E R => rfl
theorem nr_drop {me : ME} : NRt (mDrop me) := fun E R => rfl
theorem nr_append {i : Nat} {me : ME} : NRt (mAppend i me) := fun E R => rfl
theorem nr_next : NRt mNext := fun E R => rfl
theorem nr_seq {t u : MS} (h : NRt t) (k : NRt u) : NRt (mSeq t u) := fun E R => by
  show t { E with nx := u E } = t { nx := u { E with rt := R }, rt := R, bk := E.bk, ct := E.ct }
  rw [h { E with nx := u E } R, k E R]
theorem nr_if {c : MT} {t u : MS} (h : NRt t) (k : NRt u) : NRt (mIfS c t u) := fun E R => by
  show (fun Γ n => c Γ n fun b n1 => if b = true then t E Γ n1 else u E Γ n1) = fun Γ n => c Γ n fun b n1 => if b = true then t { E with rt := R } Γ n1 else u { E with rt := R } Γ n1
  rw [h E R, k E R]
theorem nr_forW {g : MG} {tb : MS} (h : NRt tb) (E : EndsD) (R : D → Nat → Prop) : ∀ ds, forW g tb E ds = forW g tb { E with rt := R } ds
  | [] => rfl
  | d :: ds => by
    funext Γ n
    unfold forW
    rw [nr_forW h E R ds, h { E with nx := forW g tb { E with rt := R } ds, ct := forW g tb { E with rt := R } ds, bk := E.nx } R]
theorem nr_for {mi : MI} {g : MG} {tb : MS} (h : NRt tb) : NRt (mFor mi g tb) := fun E R => by
  show (fun Γ n => mi Γ n fun ds n1 => forW g tb E ds Γ n1) = fun Γ n => mi Γ n fun ds n1 => forW g tb { E with rt := R } ds Γ n1
  have : forW g tb E = forW g tb { E with rt := R } := funext fun ds => nr_forW h E R ds
  rw [this]
theorem nr_while {c : MT} {tb : MS} (h : NRt tb) : NRt (mWhile c tb) := fun E R => by
  funext Γ n
  unfold mWhile
  have e : ∀ (W : Nat → DEnv → Nat → Prop) (m : Nat), tb { E with nx := fun Γ' n' => ∃ m', m' < m ∧ W m' Γ' n', ct := fun Γ' n' => ∃ m', m' < m ∧ W m' Γ' n', bk := E.nx } = tb { nx := fun Γ' n' => ∃ m', m' < m ∧ W m' Γ' n', rt := R, ct := fun Γ' n' => ∃ m', m' < m ∧ W m' Γ' n', bk := E.nx } := fun W m => h _ R
  simp only [e]
section
variable {X : Cx} {p : Pm} {O O1 Ob : List Nat} {st : Stmt} {sts : List Stmt} {t u : TS} {m mu : MS} {e : Expr} {te : TE} {me : ME} {pos : Pos} {c : Expr} {tA : TT} {mA : MT}
/-- a block that ends with a return of something new -/
def LSF (p : Pm) (O : List Nat) (t : TS) (m : MS) : Prop :=
  ∀ F0 H0 F H σ Γ n (N : DEnv → Nat → Prop) (R : D → Nat → Prop), Sep p F0 H0 O F H σ Γ n → m { nx := N, rt := R } Γ n → ∀ E' : Ends,
    (∀ d a F' H' n', Fin0 p F0 H0 F' H' n' → Own p.K F' H' d a → F' a = none → H0 a = none → R d n' → E'.rt (.ref a) H') → t E' σ H
structure RSF (X : Cx) (p : Pm) (O : List Nat) (sts : List Stmt) (t : TS) (m : MS) : Prop where
  ps : PSs X sts t
  le : LSF p O t m
theorem rsf_ret (he : RF X p O e te me) : RSF X p O [.Return (some e) pos] (tRet te) (mRet me) := ⟨pss_one (ps_ret he.pe), fun F0 H0 F H σ Γ n N R s q E' hr =>
  he.le F0 H0 F H σ Γ n _ s q _ fun d a F1 H1 n1 s1 g1 w f ha q1 => hr d a F1 H1 n1 s1.fin w f (s.h0 ha).1 q1⟩
theorem rsf_own (i : Nat) (hi : i ∈ O) (he : PE X e (tVar i)) : RSF X p O [.Return (some e) pos] (tRet (tVar i)) (mRet (mVar i)) := ⟨pss_one (ps_ret he), fun F0 H0 F H σ Γ n N R s ⟨d, ed, q⟩ E' hr => by
  obtain ⟨a, ea, w, fa, h0, _⟩ := s.ow i hi d ed
  exact ⟨_, ea, hr d a F H n s.fin w fa h0 q⟩⟩
theorem rsf_cons (h1 : RS X p [] O O1 st t m) (hn : NRt m) (h2 : RSF X p O1 sts u mu) : RSF X p O (st :: sts) (tSeq t u) (mSeq m mu) := ⟨pss_cons h1.ps h2.ps, fun F0 H0 F H σ Γ n N R s q E' hr => by
  have q' : m { nx := mu { nx := N, rt := R }, rt := fun _ _ => False } Γ n := by
    rw [← hn { nx := mu { nx := N, rt := R }, rt := R } fun _ _ => False]; exact q
  exact h1.le F0 H0 F H σ Γ n _ s q' _ (fun F1 H1 σ1 Γ1 n1 s1 e1 q1 => h2.le F0 H0 F1 H1 σ1 Γ1 n1 N R s1 q1 E' hr) (fun _ _ _ _ _ _ _ z => z.elim) (fun _ _ _ _ _ _ _ z => z.elim) (fun _ _ _ _ _ _ _ z => z.elim)⟩
/-- a def that leaves all as it is, and whose result is new -/
def spFr (K : PySem.W.Frag) (m : MP) : Sp := fun vs H Q _ => ∃ (F : Hp) (ds : List D) (R : D → Prop), Same F H ∧ Rps K F ds vs ∧ m ds R ∧ ∀ d a F' H', Gr F H F' H' → Own K F' H' d a → F' a = none → H a = none → R d → Q (.ref a) H'
theorem spF_fr {K : PySem.W.Frag} {m : MP} (vs : List V) (H : Hp) (Q : VK) (E : XK) (h : spF K m vs H Q E) : spFr K m vs H Q E := by
  obtain ⟨F, ds, R, s, r, q, k⟩ := h
  refine ⟨F, ds, R, s, r, q, fun d a F' H' g w f ha rd => ?_⟩
  have up : ∀ {o : HO}, H' a = some o → Gr F H (upd F' a o) H' := fun {o} e => ⟨g.f.trans (same_up f), fun b u z => by
      by_cases hb : b = a
      · subst hb; rw [upd_same] at z; cases z; exact e
      · rw [upd_ne hb] at z; exact g.fh _ _ z, g.h, fun b u z => by
      by_cases hb : b = a
      · subst hb; exact .inr ha
      · rw [upd_ne hb] at z; exact g.new b u z⟩
  cases w with
  | lst e1 e2 => exact k _ _ _ H' (up e1) (.of_lst upd_same (e2.mono (same_up f))) rd
  | dct e1 e2 e3 => exact k _ _ _ H' (up e1) (.dct (.inl upd_same) e2 fun i x d a b => (e3 i x d a b).mono (same_up f)) rd
theorem FI.plain {P : Program} {w : World} {K : PySem.W.Frag} {mg : Str → Option Value} {base : Heap} {k : Nat} {x : Str} {ps : List Str} {mf : MP} (F : FI P w K mg base k x ps (spFr K mf)) : FI P w K mg base k x ps (spF K mf) := by
  obtain ⟨f, fd, G, h⟩ := F.ex
  exact ⟨f, fd, G.imp spF_fr, h⟩
theorem lf_call {t : TA} {ma : MA} {mf : MP} (h : LA p O t ma) : LF p O (tCall (spFr p.K mf) [] E0 t) (mCall mf ma) := fun F0 H0 F H σ Γ n Q s q Q' k =>
  h F0 H0 F H σ Γ n _ s q _ fun ds vs F1 H1 n1 s1 g1 r1 q1 =>
    ⟨F1, ds, _, s1.fh, by rw [List.append_nil]; exact r1, q1, fun d a F2 H2 g2 w f ha q2 => k d a F2 H2 n1 (s1.gr g2) (g1.trans g2.gp) w f (by
      cases z : H a with
      | none => rfl
      | some o => rw [g1.h a o z (s1.h0 ha).2] at ha; cases ha) q2⟩
theorem fF {k : Nat} {ps : List Str} {mf : MP} {x : Str} {q : Pos} {es : List Expr} {t : TA} {ma : MA} (F : FI X.prog X.w X.K X.mg X.base k x ps (spFr X.K mf)) {lv : Nat} (hr : Room k X.A) (hg : GB lv X.A) (hK : p.K = X.K) (hgl : Gl X x) (ha : RA X p O (e :: es) t ma)
    (hdb : (x == ("__debug__" : Str)) = false := by decide) (he : starEach (e :: es) X.env = (false, eval e X.env) :: starEach es X.env := by rfl) (hpl : (backTo pos (starEach es X.env)).any (·.1) = false := by rfl) (hkm : k ≤ lv := by first | decide | omega) :
    RF X p O (.Call (.Name x q) (e :: es) [] pos) (tCall (spFr p.K mf) [] E0 t) (mCall mf ma) := by
  obtain ⟨f, fd, G, h1, h2, h3, _⟩ := F.ex
  exact ⟨hK ▸ pe_callG G hr (hg.le hkm) hgl h1 h2 h3 ha.pa hdb he hpl, lf_call ha.le⟩
end
theorem FnG.fresh {P : Program} {w : World} {K : PySem.W.Frag} {mg : Str → Option Value} {base : Heap} {x qual : Str} {st : Stmt} {f : Addr} {fd : FuncData} {N ps : List Str} {k : Nat} {mb : MS} (F : Fun K x qual st f fd) (S : FnScope N ps (defScope st))
    (body : ∀ (cdv : Value) (A : Around) (outer : List Env) (s : Shared) (H : Hp) (E : XK), Room k (A.deeper (envOfC qual (defScope st) s.heap.objs.size f cdv)) → GB (k + 1) A →
      ∃ t, RSF (bodyCx P w K mg base N qual (defScope st) f cdv A outer s H E) ⟨K, none, 0⟩ [] (defBody st) t mb) : FnG P w K mg base (k + 1) f fd ps (spFr K (mFun N ps.length mb)) := by
  refine FnG.mk' F S (fun vs H Q E ⟨Fz, ds, R, s, r, ⟨hl, _⟩, _⟩ => r.len.trans hl) fun cdv A outer s H vs Q E hr hg ⟨Fz, ds, R, sm, r, ⟨hl, q⟩, fin⟩ => ?_
  obtain ⟨t, B⟩ := body cdv A outer s H E hr hg
  have hN : vs.length ≤ N.length := by
    rw [r.len, hl]
    have := congrArg List.length S.pre
    rw [List.length_take] at this
    omega
  refine ⟨t, B.ps, B.le Fz H Fz H _ _ 0 _ _ (sep_start sm r hN) q _ fun d a F' H' n' s' w f ha q' => ?_⟩
  exact fin d a F' H' ⟨s'.f0, s'.fh, fun b o e => s'.stay b o e (fun ⟨_, _, z, _⟩ => nomatch z), s'.newF⟩ w f ha q'
end RR
end
section
namespace RR
open PySem PySem.Spec L2
open PyProof.Rows hiding St
section
variable {X : Cx} {p : Pm} {O Ob : List Nat} {i : Nat} {o e ke value : Expr} {pos pos' cpos : Pos} {kt : Option Str} {td ty tv te tk : TE} {me mk : ME}
/-- a slot that is no longer looked at -/
theorem Sep.forget {F0 H0 F H : Hp} {σ : St} {Γ : DEnv} {n : Nat} (s : Sep p F0 H0 O F H σ Γ n) (i : Nat) : Sep p F0 H0 (O.filter (· ≠ i)) F H σ (Γ.set i none) n := by
  have gd : ∀ {j : Nat} {d : D}, (Γ.set i none)[j]? = some (some d) → j ≠ i ∧ Γ[j]? = some (some d) := fun {j d} e => by
    by_cases h : i = j
    · subst h
      rw [set_at, if_pos rfl] at e
      split at e <;> cases e
    · rw [List.getElem?_set_ne h] at e
      exact ⟨Ne.symm h, e⟩
  have of : ∀ {j : Nat}, j ∈ O.filter (· ≠ i) → j ∈ O := fun h => (List.mem_filter.mp h).1
  refine ⟨s.f0, s.fh, s.stay, s.newF, s.pen, by rw [List.length_set]; exact s.len, fun j d hj e => ?_, fun j hj d e => s.ow j (of hj) d (gd e).2, fun j hj k hk hjk a dj dk h1 h2 h3 h4 => s.dj j (of hj) k (of hk) hjk a dj dk (gd h1).2 (gd h2).2 h3 h4⟩
  obtain ⟨h1, h2⟩ := gd e
  exact s.sh j d (fun z => hj (List.mem_filter.mpr ⟨z, by simpa using h1⟩)) h2
theorem RKs.of {K : PySem.W.Frag} {F : Hp} : ∀ {ds : List (D × D)} {kvs : List (Key × V)}, ds.map (·.1) = kvs.map (fun p => keyD p.1) → (∀ (i : Nat) x d, kvs[i]? = some x → ds[i]? = some d → Rp K F d.2 x.2) → RKs K F ds kvs
  | [], [], _, _ => .nil
  | [], _ :: _, h, _ => by cases h
  | _ :: _, [], h, _ => by cases h
  | (kd, d) :: ds, (k, v) :: kvs, h, r => by
    rw [List.map_cons, List.map_cons] at h
    obtain ⟨h1, h2⟩ := List.cons.inj h
    cases (show kd = keyD k from h1)
    exact .cons (r 0 _ _ rfl rfl) (RKs.of h2 fun i x d e1 e2 => r (i + 1) x d (by simpa using e1) (by simpa using e2))
@[reducible] def mPutK (i : Nat) (mk mv : ME) : MS := fun E Γ n => mv Γ n fun d n1 => ∃ ds, Γ[i]? = some (some (.dict ds)) ∧ mk Γ n1 fun kd n2 => ∃ k, keyOf kd = some k ∧ ds.length < lim ∧ E.nx (Γ.set i (some (.dict (putD ds k d)))) n2
theorem nr_putK {mv : ME} : NRt (mPutK i mk mv) := fun E R => rfl
theorem set_same {α : Type} {xs : List α} {i : Nat} {x : α} (h : xs[i]? = some x) : xs.set i x = xs := by
  apply List.ext_getElem?
  intro j
  by_cases e : i = j
  · subst e
    rw [set_at, if_pos rfl, h, if_pos (List.getElem?_eq_some_iff.mp h).1]
  · rw [List.getElem?_set_ne e]
theorem keyOf_rel {K : PySem.W.Frag} {F : Hp} {kd : D} {k : Key} {v : V} (e : keyOf kd = some k) (r : Rp K F kd v) : v = kV k := by
  unfold keyOf at e
  split at e <;> cases e
  · rw [r.int_inv]; rfl
  · rw [r.str_inv]; rfl
/-- what the slot's thing becomes -/
theorem Sep.rewrite {F0 H0 F H : Hp} {σ : St} {Γ : DEnv} {n : Nat} {a : Addr} {d0 d : D} {u : HO} (s : Sep p F0 H0 O F H σ Γ n) (hi : i ∈ O) (hp : p.off i) (ei : Γ[i]? = some (some d0)) (e1 : σ[i]? = some (some (.ref a))) (f : F a = none) (h0 : H0 a = none) (np : ¬ p.isPen a) (w : Own p.K F (upd H a u) d a) :
    ∃ F', Same F F' ∧ Sep p F0 H0 O F' (upd H a u) σ (Γ.set i (some d)) n := by
  have sl : ∀ j ∈ O.filter (· ≠ i), ∀ dj, (Γ.set i none)[j]? = some (some dj) → σ[j]? ≠ some (some (.ref a)) := fun j hj dj e z => by
    obtain ⟨j1, j2⟩ := List.mem_filter.mp hj
    have hji : j ≠ i := by simpa using j2
    rw [List.getElem?_set_ne (Ne.symm hji)] at e
    exact s.dj i hi j j1 (Ne.symm hji) a d0 dj ei e e1 z
  have s4 := (s.forget i).poke (o := u) f h0 np sl
  have s5 := s4.putOwn hp ⟨w, f, h0, np, sl⟩
  rw [set_same e1, List.set_set] at s5
  obtain ⟨F3, e3, s6⟩ := s5.weak (O' := O) fun j hj => by
    by_cases h : j = i
    · subst h; exact List.mem_cons_self ..
    · exact List.mem_cons_of_mem _ (List.mem_filter.mpr ⟨hj, by simpa using h⟩)
  exact ⟨F3, e3, s6⟩
theorem ls_putK (hv : LE p O tv me) (hk : LE p O tk mk) (hi : i ∈ O) (hp : p.off i) : LS p Ob O O (sDPut (tVar i) tk tv) (mPutK i mk me) := fun F0 H0 F H σ Γ n E s q E' hn _ _ _ => by
  refine hv F0 H0 F H σ Γ n _ s q _ fun d v F1 H1 n1 s1 g1 r1 ⟨ds, ei, q1⟩ => ?_
  obtain ⟨a, e1, w, z1, z2, z3⟩ := s1.ow i hi _ ei
  refine ⟨.ref a, e1, ?_⟩
  refine hk F0 H0 F1 H1 σ Γ n1 _ s1 q1 _ fun kd x F2 H2 n2 s2 g2 r2 ⟨k, ek, hl, q2⟩ => ?_
  obtain ⟨a', e1', w2, y1, y2, y3⟩ := s2.ow i hi _ ei
  rw [e1] at e1'
  cases e1'
  cases w2 with
  | dct u1 u2 u3 =>
    have rk := RKs.of u2 u3
    have rp := rk.put k (r1.mono g2.f)
    obtain ⟨F3, e3, s6⟩ := s2.rewrite (u := .dK (putK _ k v)) (d := .dict (putD ds k d)) hi hp ei e1 y1 y2 y3 (.dct upd_same rp.keys rp.at_)
    refine ⟨a, _, rfl, (keyOf_rel ek r2) ▸ DPut.k u1 (by rw [← rk.len]; exact lim_lt (Nat.le_of_lt hl)), hn F3 _ σ _ n2 s6 ((g1.f.trans g2.f).trans e3) q2⟩
theorem sPutK (i : Nat) {x : Str} {q : Pos} (hu : X.A.units + 1 < cLine) (hN : PE X (.Name x q) (tVar i)) (hk : RE X p O ke tk mk) (hv : RE X p O value tv me) (hi : i ∈ O) (hp : p.off i) (hs : swapsWith value (some (.Subscript (.Name x q) ke pos')) pos.line X.env = pure false := by rfl) :
    RS X p Ob O O (.Assign [.Subscript (.Name x q) ke pos'] value pos) (sDPut (tVar i) tk tv) (mPutK i mk me) := ⟨ps_dput hu hN hk.pe hv.pe hs, ls_putK hv.le hk.le hi hp⟩
end
end RR
end
section
namespace RR
open PySem PySem.Spec L2
open PyProof.Rows hiding St
open PySem.W (alike dataLt dataLe EachIs)
def keyV : D → V
  | .int i => .int i
  | .str x => .str x
  | _ => .non
theorem keyV_k (k : Key) : keyV (keyD k) = kV k := by cases k <;> rfl
theorem each_at {α β : Type} {R : α → β → Prop} : ∀ {vs : List α} {bs : List β}, vs.length = bs.length → (∀ (j : Nat) v b, vs[j]? = some v → bs[j]? = some b → R v b) → EachIs R vs bs
  | [], [], _, _ => .nil
  | [], _ :: _, h, _ => by simp at h
  | _ :: _, [], h, _ => by simp at h
  | v :: vs, b :: bs, h, k => .cons (k 0 v b rfl rfl) (each_at (by simpa using h) fun j v' b' e1 e2 => k (j + 1) v' b' (by simpa using e1) (by simpa using e2))
def rSortK : List V → Hp → VK → Prop := fun args H Q => ∃ (a : Addr) (kvs : List (Key × V)), args = [.ref a] ∧ Rd H a (.dK kvs) ∧ okSort (kvs.map fun q => keyD q.1) = true ∧
  ∀ p, H p = none → Q (.ref p) (upd H p (.lst ((sortD (kvs.map fun q => keyD q.1)).map keyV)))
theorem call_sortK {X : Cx} (hc : X.calm = true) (hw : X.A.units + 66 < cLine) : CallR X (.builtin "sorted") rSortK := fun pins s σ H args us Q I r h => by
  obtain ⟨a, kvs, rfl, hs, ok, q⟩ := h
  rw [Vals.ref1 r]
  obtain ⟨z, hd, vs, rel, dd⟩ := dk_rd I.hok hs
  obtain ⟨ep, hat⟩ := dd.dictAt
  have hln : kvs.length = vs.length := rel.length
  have kk : kvs.map (·.1) = vs.map (·.1) := rel.keys
  unfold okSort at ok
  rw [Bool.and_eq_true, Bool.and_eq_true, Bool.and_eq_true, decide_eq_true_eq] at ok
  obtain ⟨⟨⟨o1, o2⟩, o3⟩, o4⟩ := ok
  have hbs : (kvs.map fun q : Key × V => (kV q.1, keyD q.1)).map Prod.snd = kvs.map fun q => keyD q.1 := by rw [List.map_map]; rfl
  refine PySem.Calls.call_function_entry PyProof.Rows.kind_sorted PyProof.Rows.plain_sorted PyProof.Rows.entry_sorted (PyProof.Rows.args_sorted1 _) ?_
  unfold Builtin.«sorted»
  refine wpAny_bind (m := checkCount "sorted" 1 1 _) (wpAny_pure ?_)
  refine wpAny_bind (PySem.W.kdu_collect (A := X.A.in1) (PySem.W.kdl_dict (knd := mixKind X.prog X.w) (kvs := vs) (ep := ep) hd) (I.ok.hd hc) hat (by rw [← hln]; exact z) fun h' tk acc hk hacc => ?_)
  have hl : acc.toList.length = vs.length := by rw [Array.length_toList]; exact hacc.1
  refine wpAny_bind (wpAny_newList ?_ (by rw [hl, ← hln]; exact z))
  have ho : (h'.push { cls := .type "list", data := .seq acc.toList.toArray }).get? h'.objs.size = some (seqObj "list" acc.toList.toArray 0) := Heap.get?_push_size _ rfl
  have at_ : ∀ (j : Nat) (v : Value) (b : V × D), acc.toList[j]? = some v → (kvs.map fun q : Key × V => (kV q.1, keyD q.1))[j]? = some b → ∃ k, keyIs k v = true ∧ b = (kV k, keyD k) := fun j v b e1 e2 => by
    obtain ⟨k, x, e3, e4⟩ := hacc.2 j v (by rw [← Array.getElem?_toList]; exact e1)
    rw [List.getElem?_map] at e2
    cases e5 : kvs[j]? with
    | none => rw [e5] at e2; cases e2
    | some kv =>
      rw [e5] at e2
      cases e2
      have e6 := congrArg (fun l => l[j]?) kk
      simp only [List.getElem?_map, e5, e3, Option.map_some] at e6
      have : kv.1 = k := Option.some.inj e6
      exact ⟨k, e4, by show (kV kv.1, keyD kv.1) = _; rw [this]⟩
  have er : EachIs (fun v (b : V × D) => RelV b.1 v) acc.toList (kvs.map fun q : Key × V => (kV q.1, keyD q.1)) := each_at (by rw [hl, List.length_map, hln]) fun j v b e1 e2 => by
    obtain ⟨k, e3, rfl⟩ := at_ j v b e1 e2
    rcases keyIs_shape e3 with ⟨i, t, rfl, rfl⟩ | ⟨x, t, rfl, rfl⟩
    · exact ⟨t, rfl⟩
    · exact ⟨t, rfl⟩
  have ed : EachIs (fun v (b : V × D) => ∃ as, Reads (h'.push { cls := .type "list", data := .seq acc.toList.toArray }) v b.2 as ∧ h'.objs.size ∉ as) acc.toList (kvs.map fun q : Key × V => (kV q.1, keyD q.1)) := each_at (by rw [hl, List.length_map, hln]) fun j v b e1 e2 => by
    obtain ⟨k, e3, rfl⟩ := at_ j v b e1 e2
    rcases keyIs_shape e3 with ⟨i, t, rfl, rfl⟩ | ⟨x, t, rfl, rfl⟩
    · exact ⟨[], .int _ _, by simp⟩
    · exact ⟨[], .str _ _, by simp⟩
  refine wpAny_bind (wpAny_holding ?_)
  refine PySem.W.list_sort_data (enc := Prod.snd) ho er ed (by rw [hbs]; exact okSort_alike o1) (by rw [hbs]; exact okSort_kind o2) (by rw [List.length_map]; exact z) (fun b hb => ?_) fun out ho2 eo => ?_
  · obtain ⟨kv, _, rfl⟩ := List.mem_map.mp hb
    have : (keyD kv.1).depth ≤ 0 := by cases kv.1 <;> simp [keyD, PyData.depth]
    show X.A.in1.units + 1 + (keyD kv.1).depth < cLine
    have hu : X.A.in1.units ≤ X.A.units + 1 := by first | exact Nat.le_refl _ | exact Nat.le_succ _
    omega
  · refine wpAny_pure ?_
    obtain ⟨c, hc2⟩ := PyProof.Rows.sortedHeap_at (vs := acc.toList) (out := out.toArray) ho
    have hb : ∀ b ∈ (kvs.map fun q : Key × V => (kV q.1, keyD q.1)).mergeSort (dataLe false Prod.snd), b.1 = keyV b.2 := fun b hb => by
      obtain ⟨kv, _, rfl⟩ := List.mem_map.mp (List.mem_mergeSort.mp hb)
      exact (keyV_k kv.1).symm
    have em : ((kvs.map fun q : Key × V => (kV q.1, keyD q.1)).mergeSort (dataLe false Prod.snd)).map Prod.fst = (sortD (kvs.map fun q => keyD q.1)).map keyV := by
      have e1 : ((kvs.map fun q : Key × V => (kV q.1, keyD q.1)).mergeSort (dataLe false Prod.snd)).map Prod.snd = ((kvs.map fun q : Key × V => (kV q.1, keyD q.1)).map Prod.snd).mergeSort (dataLe false id) := List.map_mergeSort (fun a _ b _ => rfl)
      rw [hbs] at e1
      rw [show sortD (kvs.map fun q => keyD q.1) = _ from e1.symm, List.map_map]
      exact List.map_congr_left hb
    have vo := each_fst eo
    rw [em] at vo
    have hlen : ((sortD (kvs.map fun q => keyD q.1)).map keyV).length ≤ sizeLine := by
      unfold sortD
      rw [List.length_map, List.length_mergeSort, List.length_map]; exact z
    have hlt : ∀ b o, s.heap.get? b = some o → b < h'.objs.size := fun b o e => Heap.lt_size (hk b o e)
    have hn0 : H h'.objs.size = none := (I.hok.kept hk).fresh (Nat.le_refl _)
    have hp0 : s.heap.get? h'.objs.size = none := by
      cases e : s.heap.get? h'.objs.size with
      | none => rfl
      | some o => exact absurd (Heap.lt_size (hk _ _ e)) (Nat.lt_irrefl _)
    refine ⟨_, rfl, .ref h'.objs.size, _, I.laidN (a := h'.objs.size) (o := .lst ((sortD (kvs.map fun q => keyD q.1)).map keyV)) (fun b u e => ?_) hp0 hn0 ⟨hlen, out, c, vo, hc2⟩, rfl, q _ hn0⟩
    have hb2 := hlt b u e
    rw [PyProof.Rows.sortedHeap_old (Nat.ne_of_lt hb2) (by rw [size_push']; exact Nat.lt_succ_of_lt hb2)]
    exact Heap.get?_push_of_some _ (hk b u e)
def cSortedK : List D → Option D
  | [.dict kvs] => if (kvs.all fun q => isKey q.1) = true ∧ okSort (kvs.map (·.1)) = true then some (.list (sortD (kvs.map (·.1)))) else none
  | _ => none
theorem rps_keyV {K : PySem.W.Frag} {F : Hp} : ∀ {ds : List D}, (∀ d ∈ ds, isKey d = true) → Rps K F ds (ds.map keyV)
  | [], _ => .nil
  | d :: ds, h => by
    refine .cons ?_ (rps_keyV fun x hx => h x (List.mem_cons_of_mem _ hx))
    have := h d (List.mem_cons_self ..)
    cases d <;> first | exact .int _ | exact .str _ | cases this
theorem l_sortedK {K : PySem.W.Frag} : ClL K rSortK cSortedK := fun F H args ds d s r fe Q' k => by
  unfold cSortedK at fe
  split at fe
  · rename_i kvs
    obtain ⟨⟨kk, ok⟩, rfl⟩ := ifs' fe
    obtain ⟨v, w, rfl, r1, r2⟩ := r.uncons
    cases r2.unnil
    cases r1 with
    | dct h1 h2 h3 =>
      refine ⟨_, _, rfl, Same.rd s h1, h2 ▸ ok, fun p hp => ?_⟩
      have hr : Rps K F (sortD (kvs.map (·.1))) ((sortD (kvs.map (·.1))).map keyV) := rps_keyV fun d hd => by
        obtain ⟨q, hq, rfl⟩ := List.mem_map.mp (List.mem_mergeSort.mp hd)
        exact List.all_eq_true.mp kk q hq
      rw [← h2]
      exact k _ _ _ (Gr.new1 s hp _) (Rp.new_lst (H := H) hr (s.free hp))
  · cases fe
theorem fnSortedK {X : Cx} (hc : X.calm = true) (hx : X.A.units + 66 < cLine) : CallR X (.builtin "sorted") rSortK := call_sortK hc hx
end RR
namespace RR
open PySem PySem.Spec L2
open PyProof.Rows hiding St
/-- what a slot holds is its own no more -/
theorem RSF.pre {X : Cx} {p : Pm} {O O2 : List Nat} {sts : List Stmt} {t : TS} {m : MS} (h : RSF X p O2 sts t m) (k : ∀ i ∈ O2, i ∈ O) : RSF X p O sts t m := ⟨h.ps, fun F0 H0 F H σ Γ n N R s q E' hr => by
  obtain ⟨F2, e2, s2⟩ := s.weak k
  exact h.le F0 H0 F2 H σ Γ n N R s2 q E' hr⟩
end RR
end
section
namespace RR
open PySem PySem.Spec L2
open PyProof.Rows hiding St
section
variable {mk mv : ME} {ek ev : VE} {i : Nat}
def vPutK (i : Nat) (ek ev : VE) : VS := fun Γ => (ev Γ).bind fun d => (dictAt i Γ).bind fun ds => (ek Γ).bind fun kd => (keyOf kd).bind fun k => if ds.length < lim then some (.nx (Γ.set i (some (.dict (putD ds k d))))) else none
theorem f_PutK (hk : FE mk ek) (hv : FE mv ev) : FS (mPutK i mk mv) (vPutK i ek ev) := fun Γ n r E e q => by
  obtain ⟨d, h1, e⟩ := bnd e
  obtain ⟨ds, h2, e⟩ := bnd e
  obtain ⟨kd, h3, e⟩ := bnd e
  obtain ⟨k, h4, e⟩ := bnd e
  obtain ⟨h5, rfl⟩ := ifs e
  exact hv Γ n d _ h1 ⟨ds, dictAt_eq h2, hk Γ n kd _ h3 ⟨k, h4, h5, q⟩⟩
end
end RR
end
section
namespace RC
open PySem PySem.Spec L2 RR
open PyProof.Rows hiding St
end RC
end
section
namespace RR
open PySem PySem.Spec L2
open PyProof.Rows hiding St
section
variable {X : Cx} {p : Pm} {O Ob : List Nat} {i j : Nat} {e : Expr} {te : TE} {me : ME} {x y : Str} {q q2 pos ap : Pos}
@[reducible] def mExtend (i : Nat) (me : ME) : MS := fun E Γ n => ∃ ds, Γ[i]? = some (some (.list ds)) ∧ me Γ n fun d n1 => ∃ ys, d = .list ys ∧ ds.length + ys.length ≤ lim ∧ E.nx (Γ.set i (some (.list (ds ++ ys)))) n1
/-- slot j gets the last of slot i's list -/
@[reducible] def mPop (j i : Nat) : MS := fun E Γ n => ∃ ds d, Γ[i]? = some (some (.list (ds ++ [d]))) ∧ E.nx ((Γ.set i (some (.list ds))).set j (some d)) n
theorem nr_extend : NRt (mExtend i me) := fun E R => rfl
theorem nr_pop : NRt (mPop j i) := fun E R => rfl
theorem lim_le {k : Nat} (h : k ≤ lim) : k ≤ sizeLine := Nat.le_of_lt (lim_lt h)
theorem ls_extend (he : LE p O te me) (hi : i ∈ O) (hp : p.off i) : LS p Ob O O (tDrop (tBM p.K "list" rExtend (tVar i) (tCons te tNil))) (mExtend i me) := fun F0 H0 F H σ Γ n E s ⟨ds, ei, q⟩ E' hn _ _ _ => by
  obtain ⟨a, e1, w, z1, z2, z3⟩ := s.ow i hi _ ei
  cases w with
  | lst w1 w2 =>
    rename_i xs
    refine ⟨.ref a, e1, .inl ⟨rfl, xs, .of w1⟩, ?_⟩
    refine he F0 H0 F H σ Γ n _ s q _ fun d v F1 H1 n1 s1 g1 r1 ⟨ys, ed, l, q1⟩ => ?_
    subst ed
    obtain ⟨b, vs, rfl, hb, rb⟩ := r1.lst_inv
    have w1' := g1.h _ _ w1 z3
    have f1 := g1.none z1 w1 z3
    have rr := (w2.mono g1.f).append rb
    obtain ⟨F3, e3, s6⟩ := s1.rewrite (u := .lst (xs ++ vs)) (d := .list (ds ++ ys)) hi hp ei e1 f1 z2 z3 (.lst upd_same rr)
    exact ⟨a, b, xs, vs, rfl, rfl, w1', s1.fh _ _ hb, by rw [w2.len, rb.len]; exact lim_le l, hn F3 _ σ _ n1 s6 (g1.f.trans e3) q1⟩
theorem sExt (i : Nat) (hK : p.K = X.K) (hv : PE X (.Name x q) (tVar i)) (he : RE X p O e te me) (hi : i ∈ O) (hp : p.off i)
    (hbase : attributeBase (.Name x q) "extend" X.env (eval (.Name x q) X.env) = eval (.Name x q) X.env := by rfl)
    (hfew : ((backTo q2 (starEach [e] X.env)).all (fun x => !x.1) && (backToKw q2 (keywordEach [] X.env)).all (fun x => x.1.isSome) && decide ([e].length + ([] : List Keyword).length + (if ([] : List Keyword).isEmpty then 0 else 1) < 30)) = true := by rfl)
    (hline : (ap.endLine == q2.line) = true := by rfl) (h1 : starEach [e] X.env = (false, eval e X.env) :: starEach [] X.env := by rfl) (hpl : (backTo q2 (starEach [] X.env)).any (·.1) = false := by rfl)
    (hs : swapsWith (.Call (.Attribute (.Name x q) "extend" ap) [e] [] q2) none pos.line X.env = pure false := by rfl) :
    RS X p Ob O O (.Expr (.Call (.Attribute (.Name x q) "extend" ap) [e] [] q2) pos) (tDrop (tBM p.K "list" rExtend (tVar i) (tCons te tNil))) (mExtend i me) :=
  ⟨hK ▸ ps_expr (pe_bm PySem.F.plainAttrs_list PySem.F.slot_list_extend PySem.F.type_list_extend mt_extend hv (pa_cons he.pe pa_nil h1) hbase hfew hline h1 hpl) hs, ls_extend he.le hi hp⟩
theorem ls_pop (hi : i ∈ O) (hj : j ∉ O) (hp : p.off i) (hpj : p.off j) : LS p Ob O O (tAsg (tBM0 p.K "list" rPop (tVar i)) (gName j)) (mPop j i) := fun F0 H0 F H σ Γ n E s ⟨ds, d, ei, q⟩ E' hn _ _ _ => by
  obtain ⟨a, e1, w, z1, z2, z3⟩ := s.ow i hi _ ei
  cases w with
  | lst w1 w2 =>
    rename_i xs
    have hl := w2.len
    rw [List.length_append, List.length_singleton] at hl
    obtain ⟨v, hv, rv⟩ := w2.get (i := ds.length) (d := d) (by simp)
    have hx : xs.take ds.length = xs.dropLast := by rw [List.dropLast_eq_take, hl]; rfl
    have rt := w2.take ds.length
    rw [List.take_left' rfl, hx] at rt
    obtain ⟨F3, e3, s6⟩ := s.rewrite (u := .lst xs.dropLast) (d := .list ds) hi hp ei e1 z1 z2 z3 (.lst upd_same rt)
    refine ⟨.ref a, e1, .inl ⟨rfl, xs, .of w1⟩, a, xs, v, rfl, rfl, w1, by rw [hl]; exact hv, ?_⟩
    exact hn F3 _ _ _ n (s6.put hj hpj (rv.mono e3)) e3 q
theorem sPop (j i : Nat) (hK : p.K = X.K) (hN : X.N.Nodup) (hyj : X.N[j]? = some y) (hyl : Loc X.env.scope y) (hv : PE X (.Name x q) (tVar i)) (hi : i ∈ O) (hj : j ∉ O) (hp : p.off i) (hpj : p.off j)
    (hbase : attributeBase (.Name x q) "pop" X.env (eval (.Name x q) X.env) = eval (.Name x q) X.env := by rfl) (hline : (ap.endLine == q2.line) = true := by rfl) {q3 : Pos}
    (hs : swapsWith (.Call (.Attribute (.Name x q) "pop" ap) [] [] q2) (some (.Name y q3)) pos.line X.env = pure false := by rfl) (hf : X.fn y = true ∨ X.env.scope.names.lookup y = some .local := by first | exact .inl rfl | exact .inr rfl) :
    RS X p Ob O O (.Assign [.Name y q3] (.Call (.Attribute (.Name x q) "pop" ap) [] [] q2) pos) (tAsg (tBM0 p.K "list" rPop (tVar i)) (gName j)) (mPop j i) :=
  ⟨hK ▸ ps_set hN hyj hyl (pe_bm0 PySem.F.plainAttrs_list PySem.F.slot_list_pop PySem.F.type_list_pop mt_pop hv hbase hline) hs hf, ls_pop hi hj hp hpj⟩
end
end RR
end
section
namespace RR
open PySem PySem.Spec L2
open PyProof.Rows hiding St
section
variable {ma : ME} {a : VE} {i j : Nat}
def listAt (i : Nat) (Γ : DEnv) : Option (List D) := match Γ[i]? with | some (some (.list ds)) => some ds | _ => none
theorem listAt_eq {i : Nat} {Γ : DEnv} {ds : List D} (h : listAt i Γ = some ds) : Γ[i]? = some (some (.list ds)) := by
  unfold listAt at h
  split at h
  · rename_i e; cases h; exact e
  · cases h
def vExtend (i : Nat) (a : VE) : VS := fun Γ => (listAt i Γ).bind fun ds => (a Γ).bind fun d => (asL d).bind fun ys => if ds.length + ys.length ≤ lim then some (.nx (Γ.set i (some (.list (ds ++ ys))))) else none
theorem f_Extend (h : FE ma a) : FS (mExtend i ma) (vExtend i a) := fun Γ n r E e q => by
  obtain ⟨ds, h1, e⟩ := bnd e
  obtain ⟨d, h2, e⟩ := bnd e
  obtain ⟨ys, h3, e⟩ := bnd e
  obtain ⟨h4, rfl⟩ := ifs e
  exact ⟨ds, listAt_eq h1, h Γ n d _ h2 ⟨ys, asL_eq h3, h4, q⟩⟩
def vPop (j i : Nat) : VS := fun Γ => (listAt i Γ).bind fun ds => (ds.getLast?).bind fun d => some (.nx ((Γ.set i (some (.list ds.dropLast))).set j (some d)))
theorem f_Pop : FS (mPop j i) (vPop j i) := fun Γ n r E e q => by
  obtain ⟨ds, h1, e⟩ := bnd e
  obtain ⟨d, h2, e⟩ := bnd e
  cases e
  have h1' := listAt_eq h1
  obtain ⟨ys, hy⟩ := List.getLast?_eq_some_iff.mp h2
  subst hy
  rw [List.dropLast_concat] at q
  exact ⟨ys, d, h1', q⟩
end
end RR
end
section
namespace RR
open PySem PySem.Spec L2
open PyProof.Rows hiding St
end RR
end
section
namespace RR
open PySem PySem.Spec L2
open PyProof.Rows hiding St
end RR
namespace RR
open PySem PySem.Spec L2
open PyProof.Rows hiding St
end RR
namespace RR
open PySem PySem.Spec L2
open PyProof.Rows hiding St
end RR
end
section
namespace RC
open PySem PySem.Spec L2 RR
open PyProof.Rows hiding St
def b__law_chain : MS := (mSeq (mPar [2, 3] (mCons (mCall m__law_jumps (mCons (mVar 0) mNil)) (mCons (mLst mNil) mNil))) (mSeq (mWhile (mTest (mOp dNe (mCall m__law_misfits (mCons (mVar 0) (mCons (mVar 1) (mCons (mVar 2) mNil)))) (mLst mNil))) (mSeq (mAppend 3 (mOp dIx (mCall m__law_misfits (mCons (mVar 0) (mCons (mVar 1) (mCons (mVar 2) mNil)))) (mC (.int 0)))) (mSet 2 (mLookL (mLc (mISeq (mVar 2)) (mgName 4) (mTest (mOp dNe (mVar 4) (mOp dIx (mVar 3) (mUn dNeg (mC (.int 1)))))) (mVar 4) [4]))))) (mRet (mVar 3))))
def m__law_chain : MP := mFun ["part", "machine", "forms", "chain", "row"] 2 b__law_chain
def vb__law_chain : VS := (vSeqS (vPar [2, 3] (vCons (vCall v__law_jumps (vCons (vVar 0) vNil)) (vCons (vLst vNil) vNil))) (vSeqS (vWhile (vTest (vOp dNe (vCall v__law_misfits (vCons (vVar 0) (vCons (vVar 1) (vCons (vVar 2) vNil)))) (vLst vNil))) (vSeqS (vAppend 3 (vOp dIx (vCall v__law_misfits (vCons (vVar 0) (vCons (vVar 1) (vCons (vVar 2) vNil)))) (vC (.int 0)))) (vSet 2 (vLookL (vLc (vISeq (vVar 2)) (vgName 4) (vTest (vOp dNe (vVar 4) (vOp dIx (vVar 3) (vUn dNeg (vC (.int 1)))))) (vVar 4) [4]))))) (vRet (vVar 3))))
def v__law_chain : VP := vFun ["part", "machine", "forms", "chain", "row"] 2 vb__law_chain
theorem fp__law_chain : FP m__law_chain v__law_chain := by
  unfold m__law_chain v__law_chain b__law_chain vb__law_chain
  exact f_Fun (f_Seq (f_Par (f_Cons (f_Call fp__law_jumps (f_Cons f_Var f_Nil)) (f_Cons (f_Lst f_Nil) f_Nil))) (f_Seq (f_While (f_Test (f_Op (f_Call fp__law_misfits (f_Cons f_Var (f_Cons f_Var (f_Cons f_Var f_Nil)))) (f_Lst f_Nil))) (f_Seq (f_Append (f_Op (f_Call fp__law_misfits (f_Cons f_Var (f_Cons f_Var (f_Cons f_Var f_Nil)))) f_C)) (f_Set (f_LookL (f_Lc (f_ISeq f_Var) f_gName (f_Test (f_Op f_Var (f_Op f_Var (f_Un f_C)))) f_Var))))) (f_Ret f_Var)))
def b__law_greatest : MS := (mSeq (mPar [2, 3] (mCons (mLst (mCons (mLst mNil) mNil)) (mCons (mLst mNil) mNil))) (mSeq (mFor (mISeq (mCall m__law_jumps (mCons (mVar 0) mNil))) (mgName 4) (mSet 2 (mOp dAdd (mVar 2) (mLc (mISeq (mVar 2)) (mgName 5) mYes (mOp dAdd (mVar 5) (mLst (mCons (mVar 4) mNil))) [5])))) (mSeq (mFor (mISeq (mVar 2)) (mgName 6) (mIfS (mTest (mOp dEq (mCall m__law_misfits (mCons (mVar 0) (mCons (mVar 1) (mCons (mVar 6) mNil)))) (mLst mNil))) (mSet 3 (mOp dAdd (mVar 3) (mLc (mISeq (mVar 6)) (mgName 4) (mTest (mOp dNotIn (mVar 4) (mVar 3))) (mVar 4) [4]))) mNext)) (mRet (mCl cSorted (mCons (mVar 3) mNil))))))
def m__law_greatest : MP := mFun ["part", "machine", "lists", "found", "row", "some", "forms"] 2 b__law_greatest
def vb__law_greatest : VS := (vSeqS (vPar [2, 3] (vCons (vLst (vCons (vLst vNil) vNil)) (vCons (vLst vNil) vNil))) (vSeqS (vFor (vISeq (vCall v__law_jumps (vCons (vVar 0) vNil))) (vgName 4) (vSet 2 (vOp dAdd (vVar 2) (vLc (vISeq (vVar 2)) (vgName 5) vYes (vOp dAdd (vVar 5) (vLst (vCons (vVar 4) vNil))) [5])))) (vSeqS (vFor (vISeq (vVar 2)) (vgName 6) (vIfS (vTest (vOp dEq (vCall v__law_misfits (vCons (vVar 0) (vCons (vVar 1) (vCons (vVar 6) vNil)))) (vLst vNil))) (vSet 3 (vOp dAdd (vVar 3) (vLc (vISeq (vVar 6)) (vgName 4) (vTest (vOp dNotIn (vVar 4) (vVar 3))) (vVar 4) [4]))) vNext)) (vRet (vCl cSorted (vCons (vVar 3) vNil))))))
def v__law_greatest : VP := vFun ["part", "machine", "lists", "found", "row", "some", "forms"] 2 vb__law_greatest
theorem fp__law_greatest : FP m__law_greatest v__law_greatest := by
  unfold m__law_greatest v__law_greatest b__law_greatest vb__law_greatest
  exact f_Fun (f_Seq (f_Par (f_Cons (f_Lst (f_Cons (f_Lst f_Nil) f_Nil)) (f_Cons (f_Lst f_Nil) f_Nil))) (f_Seq (f_For (f_ISeq (f_Call fp__law_jumps (f_Cons f_Var f_Nil))) f_gName (f_Set (f_Op f_Var (f_Lc (f_ISeq f_Var) f_gName f_Yes (f_Op f_Var (f_Lst (f_Cons f_Var f_Nil))))))) (f_Seq (f_For (f_ISeq f_Var) f_gName (f_IfS (f_Test (f_Op (f_Call fp__law_misfits (f_Cons f_Var (f_Cons f_Var (f_Cons f_Var f_Nil)))) (f_Lst f_Nil))) (f_Set (f_Op f_Var (f_Lc (f_ISeq f_Var) f_gName (f_Test (f_Op f_Var f_Var)) f_Var))) f_Next)) (f_Ret (f_Cl (f_Cons f_Var f_Nil))))))
end RC
end
section
namespace RR
open PySem PySem.Spec L2
open PyProof.Rows hiding St
section
variable {X : Cx} {p : Pm} {Ob O is : List Nat} {tg iter elt c : Expr} {pos q : Pos} {wi : TI} {mi : MI} {g : TG} {mg : MG} {te : TE} {me : ME} {tT : TT} {mT : MT}
theorem ls_own {i : Nat} (he : LF p O te me) (hi : i ∉ O) (hp : p.off i) : LS p Ob O (i :: O) (tAsg te (gName i)) (mSet i me) := fun F0 H0 F H σ Γ n E s q E' hn _ _ _ =>
  he F0 H0 F H σ Γ n _ s q _ fun d a F1 H1 n1 s1 g1 w f ha q1 => hn F1 H1 _ _ n1 (s1.putOwn hp (s.isFree ha w f)) g1.f q1
theorem sLcK {i : Nat} {scope : Scope} {own : List (Str × Nat)} (y : Nat) {yn : Str} {spos : Pos} (hc : X.calm = true) (hN : X.N.Nodup) (hy : X.N[y]? = some yn) (hyl : X.env.scope.names.lookup yn = some .local) (hsw : swapsWith (.ListComp elt [⟨tg, iter, [], 0⟩] scope pos) (some (.Name yn q)) spos.line X.env = pure true) (hi : RIK X p O tg iter i wi mi) (ok : BlkOk X.N X.env.scope scope own)
    (hg : ∀ (s : Shared) (H : Hp) (C : Addr) (cl : List (Str × Addr)) (fp : List Addr), RG (X.blk s H scope (compEnvC scope cl C X.env) fp) p O is tg g mg) (he : ∀ (s : Shared) (H : Hp) (C : Addr) (cl : List (Str × Addr)) (fp : List Addr), RE (X.blk s H scope (compEnvC scope cl C X.env) fp) p O elt te me)
    (his : ∀ i ∈ is, i ∈ own.map (·.2)) (hp : ∀ v ∈ own.map (·.2), p.off v) (hO : y ∉ O) (hpy : p.off y) (hs : ∀ x, foldedSetIterable iter X.env x = pure x := by intro _; rfl) :
    RS X p Ob O (y :: O) (.Assign [.Name yn q] (.ListComp elt [⟨tg, iter, [], 0⟩] scope pos) spos) (tOrS (tLock (tAsg (tLc wi g tYes te (own.map (·.2))) (gName y))) (tAsg (tLc wi g tYes te (own.map (·.2))) (gName y))) (mSet y (mLc mi mg mYes me (own.map (·.2)))) :=
  have h := ps_setLc hc hN hy hyl hsw hi.pi ok (fun s H C cl fp => (hg s H C cl fp).pg) (fun _ _ _ _ _ => pts_nil) (fun s H C cl fp => (he s H C cl fp).pe) hs
  ⟨ps_or (ps_lock h) h, ls_lock i (t := tAsg (tLc (wiK i wi) g tYes te (own.map (·.2))) (gName y)) (ls_own (lf_lc hi.le (hg X.s_0 X.H_0 0 [] []).le lt_yes (he X.s_0 X.H_0 0 [] []).le his hp) hO hpy) (fun _ _ _ m => hi.dict _ _ _ m) hi.no fun _ _ _ l t => by unfold tAsg at t ⊢; exact lcK l t⟩
theorem sLcKIf {i : Nat} {scope : Scope} {own : List (Str × Nat)} (y : Nat) {yn : Str} {spos : Pos} (hc : X.calm = true) (hN : X.N.Nodup) (hy : X.N[y]? = some yn) (hyl : X.env.scope.names.lookup yn = some .local) (hsw : swapsWith (.ListComp elt [⟨tg, iter, [c], 0⟩] scope pos) (some (.Name yn q)) spos.line X.env = pure true) (hi : RIK X p O tg iter i wi mi) (ok : BlkOk X.N X.env.scope scope own)
    (hg : ∀ (s : Shared) (H : Hp) (C : Addr) (cl : List (Str × Addr)) (fp : List Addr), RG (X.blk s H scope (compEnvC scope cl C X.env) fp) p O is tg g mg) (ht : ∀ (s : Shared) (H : Hp) (C : Addr) (cl : List (Str × Addr)) (fp : List Addr), RT (X.blk s H scope (compEnvC scope cl C X.env) fp) p O c tT mT)
    (he : ∀ (s : Shared) (H : Hp) (C : Addr) (cl : List (Str × Addr)) (fp : List Addr), RE (X.blk s H scope (compEnvC scope cl C X.env) fp) p O elt te me)
    (his : ∀ i ∈ is, i ∈ own.map (·.2)) (hp : ∀ v ∈ own.map (·.2), p.off v) (hO : y ∉ O) (hpy : p.off y) (hs : ∀ x, foldedSetIterable iter X.env x = pure x := by intro _; rfl) :
    RS X p Ob O (y :: O) (.Assign [.Name yn q] (.ListComp elt [⟨tg, iter, [c], 0⟩] scope pos) spos) (tOrS (tLock (tAsg (tLc wi g tT te (own.map (·.2))) (gName y))) (tAsg (tLc wi g tT te (own.map (·.2))) (gName y))) (mSet y (mLc mi mg mT me (own.map (·.2)))) :=
  have h := ps_setLc hc hN hy hyl hsw hi.pi ok (fun s H C cl fp => (hg s H C cl fp).pg) (fun s H C cl fp => pts_one (ht s H C cl fp).pt) (fun s H C cl fp => (he s H C cl fp).pe) hs
  ⟨ps_or (ps_lock h) h, ls_lock i (t := tAsg (tLc (wiK i wi) g tT te (own.map (·.2))) (gName y)) (ls_own (lf_lc hi.le (hg X.s_0 X.H_0 0 [] []).le (ht X.s_0 X.H_0 0 [] []).le (he X.s_0 X.H_0 0 [] []).le his hp) hO hpy) (fun _ _ _ m => hi.dict _ _ _ m) hi.no fun _ _ _ l t => by unfold tAsg at t ⊢; exact lcK l t⟩
end
end RR
end
section
namespace RR
open PySem PySem.Spec L2
open PyProof.Rows hiding St
def rDictCopy : List V → Hp → VK → Prop := fun xs H Q => ∃ (a : Addr) (kvs : List (Key × V)), xs = [.ref a] ∧ Rd H a (.dK kvs) ∧ ∀ p, H p = none → Q (.ref p) (upd H p (.dK kvs))
theorem call_dictCopy {X : Cx} : CallR X (.type "dict") rDictCopy := fun pins s σ H xs us Q I r h => by
  obtain ⟨a, kvs, rfl, hs, q⟩ := h
  rw [Vals.ref1 r]
  exact d_copyOf I hs fun p s' hp I' => ⟨.ref p, _, I', rfl, q p hp⟩
@[reducible] def mDictOf (me : ME) : ME := fun Γ n Q => me Γ n fun d n1 => ∃ kvs, d = .dict kvs ∧ Q d n1
def dropD (ds : List (D × D)) (k : Key) : List (D × D) := ds.filter fun q => decide (keyOf q.1 ≠ some k)
@[reducible] def mDPop (i : Nat) (mk mx : ME) : MS := fun E Γ n => ∃ ds, Γ[i]? = some (some (.dict ds)) ∧ mk Γ n fun kd n1 => mx Γ n1 fun _ n2 => ∃ k, keyOf kd = some k ∧ E.nx (Γ.set i (some (.dict (dropD ds k)))) n2
theorem RKs.drop {K : PySem.W.Frag} {F : Hp} {ds : List (D × D)} {kvs : List (Key × V)} (h : RKs K F ds kvs) (k : Key) : RKs K F (dropD ds k) (dropK kvs k) := by
  induction h with
  | nil => exact .nil
  | @cons k' d v ds kvs r _ ih =>
    unfold dropD dropK at ih ⊢
    rw [List.filter_cons, List.filter_cons]
    by_cases e : k' = k
    · rw [if_neg (by show ¬ decide (keyOf (keyD k') ≠ some k) = true; rw [keyOf_D, e]; simp), if_neg (by show ¬ decide (k' ≠ k) = true; rw [e]; simp)]
      exact ih
    · rw [if_pos (by show decide (keyOf (keyD k') ≠ some k) = true; rw [keyOf_D]; exact decide_eq_true fun z => e (Option.some.inj z)), if_pos (by show decide (k' ≠ k) = true; exact decide_eq_true e)]
      exact .cons r ih
theorem drop_none {kvs : List (Key × V)} {k : Key} (h : valV kvs k = none) : dropK kvs k = kvs := by
  induction kvs with
  | nil => rfl
  | cons q r ih =>
    unfold dropK
    by_cases e : q.1 = k
    · rw [valV_pos e] at h; cases h
    · rw [valV_neg e] at h
      rw [List.filter_cons, if_pos (decide_eq_true e)]
      congr 1
      exact ih h
section
variable {X : Cx} {p : Pm} {O Ob : List Nat} {i : Nat} {e f ke : Expr} {te tk tx : TE} {me mk mx : ME} {x : Str} {q pos cpos apos : Pos}
theorem lf_dictOf (h : LE p O te me) : LF p O (tCB rDictCopy (tCons te tNil)) (mDictOf me) := fun F0 H0 F H σ Γ n Q s q Q' k =>
  h F0 H0 F H σ Γ n _ s q _ fun d v F1 H1 n1 s1 g1 r1 ⟨kvs, ed, q1⟩ => by
    subst ed
    cases r1 with
    | dct h1 h2 h3 =>
      rename_i kvsV
      refine ⟨_, kvsV, rfl, Same.rd s1.fh h1, fun a ha => ?_⟩
      have g := Gr.new0 s1.fh ha (.dK kvsV)
      refine k _ a F1 _ n1 (s1.gr g) (g1.trans g.gp) (.dct upd_same h2 h3) (s1.fh.free ha) ?_ q1
      cases z : H a with
      | none => rfl
      | some o => rw [g1.h a o z (s1.h0 ha).2] at ha; cases ha
theorem fDictOf (hc : X.calm = true) (hg : Gl X "dict") (hm : X.mg "dict" = none) (he : RE X p O e te me)
    (h1 : starEach [e] X.env = (false, eval e X.env) :: starEach [] X.env := by rfl) (hpl : (backTo pos (starEach [] X.env)).any (·.1) = false := by rfl) :
    RF X p O (.Call (.Name "dict" q) [e] [] pos) (tCB rDictCopy (tCons te tNil)) (mDictOf me) :=
  ⟨pe_callTy call_dictCopy hg hm (by decide +kernel) (pa_cons he.pe pa_nil h1) (by decide) (by decide) h1 hpl, lf_dictOf he.le⟩
theorem ls_dpop (hk : LE p O tk mk) (hx : LE p O tx mx) (hi : i ∈ O) (hp : p.off i) : LS p Ob O O (tDrop (tDPop2 (tVar i) tk tx)) (mDPop i mk mx) := fun F0 H0 F H σ Γ n E s ⟨ds, ei, q⟩ E' hn _ _ _ => by
  obtain ⟨a, e1, w, z1, z2, z3⟩ := s.ow i hi _ ei
  cases w with
  | dct u1 u2 u3 =>
    refine ⟨.ref a, e1, a, rfl, .inl ⟨_, .inl u1⟩, ?_⟩
    refine hk F0 H0 F H σ Γ n _ s q _ fun kd y F1 H1 n1 s1 g1 r1 q1 => ?_
    refine hx F0 H0 F1 H1 σ Γ n1 _ s1 q1 _ fun xd v F2 H2 n2 s2 g2 r2 ⟨k, ek, q2⟩ => ?_
    obtain ⟨a', e1', w2, y1, y2, y3⟩ := s2.ow i hi _ ei
    rw [e1] at e1'
    cases e1'
    cases w2 with
    | dct v1 v2 v3 =>
      rename_i kvs2
      have rk := RKs.of v2 v3
      have rd := rk.drop k
      refine ⟨kvs2, k, v1, keyOf_rel ek r1, fun w hw => ?_, fun hw => ?_⟩
      · obtain ⟨F3, e3, s6⟩ := s2.rewrite (u := .dK (dropK kvs2 k)) (d := .dict (dropD ds k)) hi hp ei e1 y1 y2 y3 (.dct upd_same rd.keys rd.at_)
        exact hn F3 _ σ _ n2 s6 ((g1.f.trans g2.f).trans e3) q2
      · have hd : dropD ds k = ds := by
          rw [drop_none hw] at rd
          have hl := rd.len
          rw [← rk.len] at hl
          exact (List.filter_sublist : (dropD ds k).Sublist ds).eq_of_length hl
        rw [hd, set_same ei] at q2
        exact hn F2 H2 σ Γ n2 s2 (g1.f.trans g2.f) q2
theorem sDPop (i : Nat) (hv : PE X (.Name x q) (tVar i)) (hk : RE X p O ke tk mk) (hx : RE X p O f tx mx) (hi : i ∈ O) (hp : p.off i) (m : M2 X (.Name x q) "pop" apos ke f cpos) (hs : swapsWith (.Call (.Attribute (.Name x q) "pop" apos) [ke, f] [] cpos) none pos.line X.env = pure false := by rfl) :
    RS X p Ob O O (.Expr (.Call (.Attribute (.Name x q) "pop" apos) [ke, f] [] cpos) pos) (tDrop (tDPop2 (tVar i) tk tx)) (mDPop i mk mx) := ⟨ps_expr (pe_dpop2 hv hk.pe hx.pe m) hs, ls_dpop hk.le hx.le hi hp⟩
theorem nr_dpop : NRt (mDPop i mk mx) := fun E R => rfl
end
end RR
end
section
namespace RR
open PySem PySem.Spec L2
open PyProof.Rows hiding St
section
variable {ma mk mx : ME} {a ek ex : VE} {i : Nat}
def vDictOf (a : VE) : VE := fun Γ => (a Γ).bind fun d => (asDict d).bind fun kvs => some (.dict kvs)
theorem f_DictOf (h : FE ma a) : FE (mDictOf ma) (vDictOf a) := fun Γ n d Q e q => by
  obtain ⟨x, h1, e⟩ := bnd e
  obtain ⟨kvs, h2, e⟩ := bnd e
  cases e
  exact h Γ n x _ h1 ⟨kvs, asDict_eq h2, (asDict_eq h2) ▸ q⟩
def vDPop (i : Nat) (ek ex : VE) : VS := fun Γ => (dictAt i Γ).bind fun ds => (ek Γ).bind fun kd => (ex Γ).bind fun _ => (keyOf kd).bind fun k => some (.nx (Γ.set i (some (.dict (dropD ds k)))))
theorem f_DPop (hk : FE mk ek) (hx : FE mx ex) : FS (mDPop i mk mx) (vDPop i ek ex) := fun Γ n r E e q => by
  obtain ⟨ds, h1, e⟩ := bnd e
  obtain ⟨kd, h2, e⟩ := bnd e
  obtain ⟨x, h3, e⟩ := bnd e
  obtain ⟨k, h4, e⟩ := bnd e
  cases e
  exact ⟨ds, dictAt_eq h1, hk Γ n kd _ h2 (hx Γ n x _ h3 ⟨k, h4, q⟩)⟩
end
end RR
end
section
namespace RR
open PySem PySem.Spec L2
open PyProof.Rows hiding St
theorem rsf_if {X : Cx} {p : Pm} {O : List Nat} {c : Expr} {xs sts : List Stmt} {pos : Pos} {tA : TT} {mA : MT} {t u : TS} {m mu : MS} (hc : RT X p O c tA mA) (hx : RSF X p O xs t m) (hr : RSF X p O sts u mu) : RSF X p O (.If c xs [] pos :: sts) (tSeq (tIfS tA t tNext) u) (mSeq (mIfS mA m mNext) mu) := ⟨pss_cons (ps_if hc.pt hx.ps pss_nil) hr.ps, fun F0 H0 F H σ Γ n N R s q E' k =>
  hc.le F0 H0 F H σ Γ n _ s q _ fun b F1 H1 n1 s1 g1 q1 => by
    cases b with
    | true =>
      rw [if_pos rfl] at q1 ⊢
      exact hx.le F0 H0 F1 H1 σ Γ n1 _ R s1 q1 _ k
    | false =>
      rw [if_neg (by decide)] at q1 ⊢
      exact hr.le F0 H0 F1 H1 σ Γ n1 N R s1 q1 E' k⟩
end RR
end
section
namespace RR
open PySem PySem.Spec L2
open PyProof.Rows hiding St
end RR
end
section
namespace RR
open PySem PySem.Spec L2
open PyProof.Rows hiding St
end RR
end
section
namespace RR
open PySem PySem.Spec L2
open PyProof.Rows hiding St
open PySem.W (alike dataLt)
variable {K : PySem.W.Frag} {X : Cx}
def notNon : D → Bool
  | .none => false
  | _ => true
def dLtA : D → D → Option D := fun x y => if alike x y = true ∧ notNon x = true ∧ x.canLay0 = true ∧ y.canLay0 = true ∧ x.depth ≤ 60 then some (.bool (dataLt x y)) else none
end RR
end
section
namespace RR
open PySem PySem.Spec L2
open PyProof.Rows hiding St
end RR
end
section
namespace RC
open PySem PySem.Spec L2 RR
open PyProof.Rows hiding St
local macro_rules | `(tactic| walk_at "st") => `(tactic| first
  | refine ⟨_, rfl, ?_⟩
  | refine ⟨rfl, ?_⟩
  | refine ⟨by decide, ?_⟩)
def b__law_jumps_v2 : MS := (mRet (mLc (mIEn (mCons (mVar 0) mNil)) (mgTup 2 (mgCons (mgName 1) (mgCons (mgName 2) mgNil))) (mTest (mOp dIn (mOp dIx (mVar 2) (mC (.int 0))) (mTup (mCons (mC (.str "jump")) (mCons (mC (.str "branch")) mNil))))) (mVar 1) [1, 2]))
def m__law_jumps_v2 : MP := mFun ["part", "k", "row"] 1 b__law_jumps_v2
def vb__law_jumps_v2 : VS := (vRet (vLc (vIEn (vCons (vVar 0) vNil)) (vgTup 2 (vgCons (vgName 1) (vgCons (vgName 2) vgNil))) (vTest (vOp dIn (vOp dIx (vVar 2) (vC (.int 0))) (vTup (vCons (vC (.str "jump")) (vCons (vC (.str "branch")) vNil))))) (vVar 1) [1, 2]))
def v__law_jumps_v2 : VP := vFun ["part", "k", "row"] 1 vb__law_jumps_v2
theorem fp__law_jumps_v2 : FP m__law_jumps_v2 v__law_jumps_v2 := by
  unfold m__law_jumps_v2 v__law_jumps_v2 b__law_jumps_v2 vb__law_jumps_v2
  exact f_Fun (f_Ret (f_Lc (f_IEn (f_Cons f_Var f_Nil)) (f_gTup (f_gCons f_gName (f_gCons f_gName f_gNil))) (f_Test (f_Op (f_Op f_Var f_C) (f_Tup (f_Cons f_C (f_Cons f_C f_Nil))))) f_Var))
def b__law_places_v2 : MS := (mSeq (mSet 3 (mLst (mCons (mC (.int 0)) mNil))) (mSeq (mFor (mIEn (mCons (mVar 0) mNil)) (mgTup 2 (mgCons (mgName 4) (mgCons (mgName 5) mgNil))) (mSeq (mPar [6, 7] (mCons (mLook (mOp dIx (mVar 3) (mUn dNeg (mC (.int 1))))) (mCons (mOp dIx (mVar 5) (mC (.int 1))) mNil))) (mSeq (mIfS (mTest (mOp dIn (mOp dIx (mVar 5) (mC (.int 0))) (mTup (mCons (mC (.str "jump")) (mCons (mC (.str "branch")) mNil))))) (mSet 7 (mIf (mTest (mOp dIn (mVar 4) (mVar 2))) (mOp dIx (mVar 1) (mC (.int 0))) (mOp dIx (mVar 1) (mC (.int 2))))) (mIfS (mTest (mOp dEq (mOp dIx (mVar 5) (mC (.int 0))) (mC (.str "align")))) (mSet 7 (mOp dMod (mCl cInt (mCons (mOp dSub (mOp dIx (mVar 5) (mC (.int 1))) (mOp dMod (mCl cInt (mCons (mVar 6) mNil)) (mOp dIx (mVar 5) (mC (.int 1))))) mNil)) (mOp dIx (mVar 5) (mC (.int 1))))) (mIfS (mTest (mOp dIn (mOp dIx (mVar 5) (mC (.int 0))) (mTup (mCons (mC (.str "far")) (mCons (mC (.str "load")) (mCons (mC (.str "word")) mNil)))))) (mSet 7 (mOp dIx (mDisp (mpCons (mC (.str "far")) (mOp dIx (mVar 1) (mC (.int 3))) (mpCons (mC (.str "load")) (mOp dIx (mVar 1) (mC (.int 5))) (mpCons (mC (.str "word")) (mOp dIx (mVar 1) (mC (.int 7))) mpNil)))) (mOp dIx (mVar 5) (mC (.int 0))))) mNext))) (mAppend 3 (mOp dAdd (mVar 6) (mVar 7)))))) (mRet (mVar 3))))
def m__law_places_v2 : MP := mFun ["part", "machine", "forms", "found", "k", "row", "at", "size"] 3 b__law_places_v2
def vb__law_places_v2 : VS := (vSeqS (vSet 3 (vLst (vCons (vC (.int 0)) vNil))) (vSeqS (vFor (vIEn (vCons (vVar 0) vNil)) (vgTup 2 (vgCons (vgName 4) (vgCons (vgName 5) vgNil))) (vSeqS (vPar [6, 7] (vCons (vLook (vOp dIx (vVar 3) (vUn dNeg (vC (.int 1))))) (vCons (vOp dIx (vVar 5) (vC (.int 1))) vNil))) (vSeqS (vIfS (vTest (vOp dIn (vOp dIx (vVar 5) (vC (.int 0))) (vTup (vCons (vC (.str "jump")) (vCons (vC (.str "branch")) vNil))))) (vSet 7 (vIf (vTest (vOp dIn (vVar 4) (vVar 2))) (vOp dIx (vVar 1) (vC (.int 0))) (vOp dIx (vVar 1) (vC (.int 2))))) (vIfS (vTest (vOp dEq (vOp dIx (vVar 5) (vC (.int 0))) (vC (.str "align")))) (vSet 7 (vOp dMod (vCl cInt (vCons (vOp dSub (vOp dIx (vVar 5) (vC (.int 1))) (vOp dMod (vCl cInt (vCons (vVar 6) vNil)) (vOp dIx (vVar 5) (vC (.int 1))))) vNil)) (vOp dIx (vVar 5) (vC (.int 1))))) (vIfS (vTest (vOp dIn (vOp dIx (vVar 5) (vC (.int 0))) (vTup (vCons (vC (.str "far")) (vCons (vC (.str "load")) (vCons (vC (.str "word")) vNil)))))) (vSet 7 (vOp dIx (vDisp (vpCons (vC (.str "far")) (vOp dIx (vVar 1) (vC (.int 3))) (vpCons (vC (.str "load")) (vOp dIx (vVar 1) (vC (.int 5))) (vpCons (vC (.str "word")) (vOp dIx (vVar 1) (vC (.int 7))) vpNil)))) (vOp dIx (vVar 5) (vC (.int 0))))) vNext))) (vAppend 3 (vOp dAdd (vVar 6) (vVar 7)))))) (vRet (vVar 3))))
def v__law_places_v2 : VP := vFun ["part", "machine", "forms", "found", "k", "row", "at", "size"] 3 vb__law_places_v2
theorem fp__law_places_v2 : FP m__law_places_v2 v__law_places_v2 := by
  unfold m__law_places_v2 v__law_places_v2 b__law_places_v2 vb__law_places_v2
  exact f_Fun (f_Seq (f_Set (f_Lst (f_Cons f_C f_Nil))) (f_Seq (f_For (f_IEn (f_Cons f_Var f_Nil)) (f_gTup (f_gCons f_gName (f_gCons f_gName f_gNil))) (f_Seq (f_Par (f_Cons (f_Look (f_Op f_Var (f_Un f_C))) (f_Cons (f_Op f_Var f_C) f_Nil))) (f_Seq (f_IfS (f_Test (f_Op (f_Op f_Var f_C) (f_Tup (f_Cons f_C (f_Cons f_C f_Nil))))) (f_Set (f_If (f_Test (f_Op f_Var f_Var)) (f_Op f_Var f_C) (f_Op f_Var f_C))) (f_IfS (f_Test (f_Op (f_Op f_Var f_C) f_C)) (f_Set (f_Op (f_Cl (f_Cons (f_Op (f_Op f_Var f_C) (f_Op (f_Cl (f_Cons f_Var f_Nil)) (f_Op f_Var f_C))) f_Nil)) (f_Op f_Var f_C))) (f_IfS (f_Test (f_Op (f_Op f_Var f_C) (f_Tup (f_Cons f_C (f_Cons f_C (f_Cons f_C f_Nil)))))) (f_Set (f_Op (f_Disp (f_pCons f_C (f_Op f_Var f_C) (f_pCons f_C (f_Op f_Var f_C) (f_pCons f_C (f_Op f_Var f_C) f_pNil)))) (f_Op f_Var f_C))) f_Next))) (f_Append (f_Op f_Var f_Var))))) (f_Ret f_Var)))
def b__law_misfits_v2 : MS := (mSeq (mSet 3 (mCall m__law_places_v2 (mCons (mVar 0) (mCons (mVar 1) (mCons (mVar 2) mNil))))) (mRet (mLc (mISeq (mVar 2)) (mgName 4) (mTest (mOp dGt (mCl cAbs (mCons (mOp dSub (mOp dIx (mVar 3) (mOp dIx (mOp dIx (mVar 0) (mVar 4)) (mC (.int 1)))) (mOp dIx (mVar 3) (mVar 4))) mNil)) (mOp dIx (mVar 1) (mC (.int 1))))) (mVar 4) [4])))
def m__law_misfits_v2 : MP := mFun ["part", "machine", "forms", "found", "k"] 3 b__law_misfits_v2
def vb__law_misfits_v2 : VS := (vSeqS (vSet 3 (vCall v__law_places_v2 (vCons (vVar 0) (vCons (vVar 1) (vCons (vVar 2) vNil))))) (vRet (vLc (vISeq (vVar 2)) (vgName 4) (vTest (vOp dGt (vCl cAbs (vCons (vOp dSub (vOp dIx (vVar 3) (vOp dIx (vOp dIx (vVar 0) (vVar 4)) (vC (.int 1)))) (vOp dIx (vVar 3) (vVar 4))) vNil)) (vOp dIx (vVar 1) (vC (.int 1))))) (vVar 4) [4])))
def v__law_misfits_v2 : VP := vFun ["part", "machine", "forms", "found", "k"] 3 vb__law_misfits_v2
theorem fp__law_misfits_v2 : FP m__law_misfits_v2 v__law_misfits_v2 := by
  unfold m__law_misfits_v2 v__law_misfits_v2 b__law_misfits_v2 vb__law_misfits_v2
  exact f_Fun (f_Seq (f_Set (f_Call fp__law_places_v2 (f_Cons f_Var (f_Cons f_Var (f_Cons f_Var f_Nil))))) (f_Ret (f_Lc (f_ISeq f_Var) f_gName (f_Test (f_Op (f_Cl (f_Cons (f_Op (f_Op f_Var (f_Op (f_Op f_Var f_Var) f_C)) (f_Op f_Var f_Var)) f_Nil)) (f_Op f_Var f_C))) f_Var)))
def b_is_ascending_v2 : MS := (mRet (mCl cAll (mCons (mLc (mIZ (mCons (mVar 0) (mCons (mSl (mVar 0) (mPart (mC (.int 1))) mNoPart) mNil))) (mgTup 2 (mgCons (mgName 1) (mgCons (mgName 2) mgNil))) mYes (mOp dLtA (mVar 1) (mVar 2)) [1, 2]) mNil)))
def m_is_ascending_v2 : MP := mFun ["members", "member", "behind"] 1 b_is_ascending_v2
def vb_is_ascending_v2 : VS := (vRet (vCl cAll (vCons (vLc (vIZ (vCons (vVar 0) (vCons (vSl (vVar 0) (vPart (vC (.int 1))) vNoPart) vNil))) (vgTup 2 (vgCons (vgName 1) (vgCons (vgName 2) vgNil))) vYes (vOp dLtA (vVar 1) (vVar 2)) [1, 2]) vNil)))
def v_is_ascending_v2 : VP := vFun ["members", "member", "behind"] 1 vb_is_ascending_v2
theorem fp_is_ascending_v2 : FP m_is_ascending_v2 v_is_ascending_v2 := by
  unfold m_is_ascending_v2 v_is_ascending_v2 b_is_ascending_v2 vb_is_ascending_v2
  exact f_Fun (f_Ret (f_Cl (f_Cons (f_Lc (f_IZ (f_Cons f_Var (f_Cons (f_Sl f_Var (f_Part f_C) f_NoPart) f_Nil))) (f_gTup (f_gCons f_gName (f_gCons f_gName f_gNil))) f_Yes (f_Op f_Var f_Var)) f_Nil)))
def b_size_of : MS := (mRet (mOp dIx (mCall m_addresses_of (mCons (mVar 0) (mCons (mVar 1) (mCons (mVar 2) mNil)))) (mUn dNeg (mC (.int 1)))))
def m_size_of : MP := mFun ["part", "machine", "forms"] 3 b_size_of
def vb_size_of : VS := (vRet (vOp dIx (vCall v_addresses_of (vCons (vVar 0) (vCons (vVar 1) (vCons (vVar 2) vNil)))) (vUn dNeg (vC (.int 1)))))
def v_size_of : VP := vFun ["part", "machine", "forms"] 3 vb_size_of
theorem fp_size_of : FP m_size_of v_size_of := by
  unfold m_size_of v_size_of b_size_of vb_size_of
  exact f_Fun (f_Ret (f_Op (f_Call fp_addresses_of (f_Cons f_Var (f_Cons f_Var (f_Cons f_Var f_Nil)))) (f_Un f_C)))
end RC
end
section
namespace RR
open PySem PySem.Spec L2
open PyProof.Rows hiding St
structure EX where
  nx : DEnv → Nat → Prop
  rt : D → Nat → Prop
  xc : Str → Prop
/-- a class of errors: made with a text, known by its name -/
structure XC (K : PySem.W.Frag) (mg : Str → Option Value) (x : Str) (C : Addr) : Prop where
  g : mg x = some (.ref C)
  k : PySem.W.keepIn K (.ref C) = true
  q : ∃ bm n, PySem.W.excIn K C bm n = true ∧ ∃ B i, ExcBaseFacts B n i bm
  b : PySem.W.subIn K (.ref C) (.type "BaseException") = some true
  t : PySem.W.typeIn K (.ref C) = some (.type "type")
end RR
end
section
namespace RR
open PySem PySem.Spec L2
open PyProof.Rows hiding St
end RR
end
section
namespace RR
open PySem PySem.Spec L2
open PyProof.Rows hiding St
end RR
end
section
namespace RR
open PySem PySem.Spec L2
open PyProof.Rows hiding St
end RR
end
section
namespace RR
open PySem PySem.Spec L2
open PyProof.Rows hiding St
/-- empty tables stay -/
def TbS (H H' : Hp) : Prop := ∀ T, H T = some (.tbl #[]) → H' T = some (.tbl #[])
theorem TbS.refl {H : Hp} : TbS H H := fun _ h => h
theorem TbS.new {H H1 : Hp} {b : Addr} {o : HO} (t : TbS H H1) (n : H1 b = none) : TbS H (upd H1 b o) := fun T h => by
  rw [upd_ne (ne_of_none (t T h) n)]; exact t T h
theorem TbS.lst {H H1 : Hp} {b : Addr} {o : HO} {xs : List V} (t : TbS H H1) (n : H1 b = some (.lst xs)) : TbS H (upd H1 b o) := fun T h => by
  have z : T ≠ b := fun z => by have := t T h; rw [z, n] at this; cases this
  rw [upd_ne z]; exact t T h
end RR
end
section
namespace RR
open PySem PySem.Spec L2
open PyProof.Rows hiding St
/-- which of these classes an error of the class C is of -/
def KitL (K : PySem.W.Frag) (mg : Str → Option Value) (C : Addr) : List (Str × Bool) → Prop
  | [] => True
  | (y, b) :: r => (∃ c, mg y = some (.ref c) ∧ PySem.W.kitOne K (.ref C) (.ref c) = some b) ∧ KitL K mg C r
/-- a class under the class top that is caught -/
def XK (K : PySem.W.Frag) (mg : Str → Option Value) (top : Str) (ys : List (Str × Bool)) (x : Str) : Prop :=
  ∃ C, XC K mg x C ∧ ExcC K C ∧ (∃ CR, mg top = some (.ref CR) ∧ PySem.W.exmOne K (.ref C) (.ref CR) = some true) ∧ KitL K mg C ys
theorem XK.at {K : PySem.W.Frag} {mg : Str → Option Value} {top x : Str} {ys : List (Str × Bool)} {C CR : Addr} (h : XK K mg top ys x) (hC : mg x = some (.ref C)) (hR : mg top = some (.ref CR)) : ExcC K C ∧ PySem.W.exmOne K (.ref C) (.ref CR) = some true ∧ KitL K mg C ys := by
  obtain ⟨C', h1, h2, ⟨R', h3, h4⟩, h5⟩ := h
  rw [h1.g] at hC
  rw [h3] at hR
  cases hC
  cases hR
  exact ⟨h2, h4, h5⟩
end RR
end
section
namespace RC
open PySem PySem.Spec L2 RR
open PyProof.Rows hiding St
end RC
end
section
namespace RR
open PySem PySem.Spec L2
open PyProof.Rows hiding St
end RR
end
section
namespace RR
open PySem PySem.Spec L2
open PyProof.Rows hiding St
end RR
end
section
namespace Cmb
open PySem PySem.Spec
open Sem (wp)
section
variable {prog : Program} {w : World} {A : Around} {E : Value → Shared → Prop} {s : Shared}
/-- one index list behind another, as the model steps -/
def nextC (n : Nat) (ix : List Nat) : Option (List Nat) :=
  match (List.range ix.length).reverse.find? fun i => ix.getD i 0 != i + n - ix.length with
  | none => none
  | some i => some (ix.take i ++ (List.range (ix.length - i)).map (ix.getD i 0 + 1 + ·))
end
end Cmb
end
section
namespace RR
open PySem PySem.Spec L2
open PyProof.Rows hiding St
def chainGo (n : Nat) : Nat → List Nat → Option (List (List Nat))
  | 0, _ => none
  | f + 1, ix => match Cmb.nextC n ix with
    | none => some [ix]
    | some ix' => (chainGo n f ix').map fun r => ix :: r
/-- the index lists, as the model steps from one to the next -/
def combL (n r : Nat) : Option (List (List Nat)) := if r > n then some [] else chainGo n 100000 (List.range r)
def pickD (xs : List D) (ix : List Nat) : D := .tuple (ix.map fun j => xs.getD j .none)
@[reducible] def mICb (ma : MA) : MI := fun Γ n Q => ma Γ n fun ds n1 => ∃ (xs : List D) (r : Nat) (cs : List (List Nat)), ds = [.list xs, .int (r : Int)] ∧ xs.length ≤ 1000 ∧ r ≤ 1000 ∧ combL xs.length r = some cs ∧ Q (cs.map (pickD xs)) n1
def asN : D → Option Nat
  | .int i => if 0 ≤ i then some i.toNat else none
  | _ => none
def vICb (a : VA) : VI := fun Γ => (a Γ).bind fun ds => match ds with
  | [.list xs, d] => (asN d).bind fun r => if xs.length ≤ 1000 ∧ r ≤ 1000 then (combL xs.length r).map fun cs => cs.map (pickD xs) else none
  | _ => none
theorem asN_eq {d : D} {r : Nat} (h : asN d = some r) : d = .int (r : Int) := by
  unfold asN at h
  split at h
  · split at h
    · cases h; congr 1; omega
    · cases h
  · cases h
theorem f_ICb {mA : MA} {vA : VA} (h : FA mA vA) : FI' (mICb mA) (vICb vA) := fun Γ n d Q e q => by
  obtain ⟨ds, h1, e⟩ := bnd e
  split at e
  · obtain ⟨r, h2, e⟩ := bnd e
    split at e
    · rename_i hh
      obtain ⟨cs, hc, rfl⟩ := Option.map_eq_some_iff.mp e
      rw [asN_eq h2] at h1
      exact h Γ n _ _ h1 ⟨_, r, cs, rfl, hh.1, hh.2, hc, q⟩
    · cases e
  · cases e
end RR
end
section
namespace RR
open PySem PySem.Spec L2
open PyProof.Rows hiding St
end RR
end
section
namespace RR
open PySem PySem.Spec L2
open PyProof.Rows hiding St
end RR
end
section
namespace RC
open PySem PySem.Spec L2 RR
open PyProof.Rows hiding St
end RC
end
section
namespace RR
open PySem PySem.Spec L2
open PyProof.Rows hiding St
section
variable {P : Program} {w : World} {A : Around} {Z : Result → Shared → Prop} {u : Shared} {el a0 b0 a1 b1 : Expr} {c0 c1 : List Expr} {sc : Scope} {ps : Pos} {jt ac : Value} {en : Env}
abbrev NF (P : Program) (w : World) (A : Around) {α : Type} (t : Sem α) (Q : α → Shared → Prop) (u : Shared) : Prop := wpAny (model P w) A t Q (fun _ _ => False) u
abbrev setE (el a0 b0 a1 b1 : Expr) (c0 c1 : List Expr) (sc : Scope) (ps : Pos) : Expr := .SetComp el [⟨a0, b0, c0, 0⟩, ⟨a1, b1, c1, 0⟩] sc ps
abbrev goodOf (cs : List Expr) (en : Env) : Sem Bool := forIn cs true fun c g => if g = true then (isTrue c en (eval c en) >>= fun k => pure (ForInStep.yield k)) else pure (ForInStep.yield g)
theorem set_turn0 : compTurn (setE el a0 b0 a1 b1 c0 c1 sc ps) 0 jt ac en = (do
      standAt b0.pos
      match ← pyNext jt with
      | none => pure (.done .next)
      | some x =>
        letOwnedTupleGo a0 jt x
        assign a0 en x
        let mut good := true
        for c in c0 do
          if good then good ← isTrue c en (eval c en)
        if good then
          let l ← eval b1 en
          standAt b1.pos
          let l ← foldedSetIterable b1 en l
          let _ ← runOwn (.compStart (setE el a0 b0 a1 b1 c0 c1 sc ps) 1 (← holding [l] (pyIter l)) ac en) en
        again (.compLoop (setE el a0 b0 a1 b1 c0 c1 sc ps) 0 jt ac en)) := by rfl
theorem set_turn1 : compTurn (setE el a0 b0 a1 b1 c0 c1 sc ps) 1 jt ac en = (do
      standAt b1.pos
      match ← pyNext jt with
      | none => pure (.done .next)
      | some x =>
        letOwnedTupleGo a1 jt x
        assign a1 en x
        let mut good := true
        for c in c1 do
          if good then good ← isTrue c en (eval c en)
        if good then
          (do let y ← eval el en; standAt el.pos; let _ ← call (.builtin "set.add") [ac, y])
        again (.compLoop (setE el a0 b0 a1 b1 c0 c1 sc ps) 1 jt ac en)) := by rfl
/-- the outer clause's loop -/
theorem set_loop0 (hf : ∀ l, foldedSetIterable b1 en l = pure l) (I : Nat → Shared → Prop)
    (turn : ∀ n u, I n u → NF P w A (pyNext jt) (fun o u1 => match o with
      | none => Z (.ok .next) u1
      | some x => NF P w A (letOwnedTupleGo a0 jt x) (fun _ u2 => NF P w A (assign a0 en x) (fun _ u3 => NF P w A (goodOf c0 en) (fun g u4 =>
          if g = true then NF P w A (eval b1 en) (fun l u5 => NF P w A (pyIter l) (fun j1 u6 => codeAny (model P w) A (.compStart (setE el a0 b0 a1 b1 c0 c1 sc ps) 1 j1 ac en) (fun o u7 => (∃ f, o = .ok f) ∧ ∃ m, m < n ∧ I m u7) u6) u5) u4
          else ∃ m, m < n ∧ I m u4) u3) u2) u1) u)
    (n : Nat) (h : I n u) : codeAny (model P w) A (.compLoop (setE el a0 b0 a1 b1 c0 c1 sc ps) 0 jt ac en) Z u := by
  refine codeAny_loop rfl I (fun n u hI => ?_) n h
  show wpAny _ A ((compTurn (setE el a0 b0 a1 b1 c0 c1 sc ps) 0 jt ac en).onRaise (fun x => do noteFrame x en; theTreesLotGoes x)) _ _ u
  refine wpAny_noted ?_
  rw [set_turn0]
  refine wpAny_bind (wpAny_standAt (wpAny_bind (thnF (turn n u hI) fun o u1 h1 => ?_)))
  cases o with
  | none => exact wpAny_pure h1
  | some x =>
    refine wpAny_bind (thnF h1 fun _ u2 h2 => wpAny_bind (thnF h2 fun _ u3 h3 => wpAny_bind (thnF h3 fun g u4 h4 => ?_)))
    cases g with
    | false => exact wpAny_pure ⟨rfl, h4⟩
    | true =>
      refine wpAny_bind (thnF h4 fun l u5 h5 => wpAny_bind (wpAny_standAt (wpAny_bind (wpAny_of_eq (hf l) (wpAny_bind (wpAny_holding (thnF h5 fun j1 u6 h6 => ?_)))))))
      refine wpAny_bind (wpAny_runOwn ?_)
      rw [Around.mark_none]
      refine codeAny_mono h6 fun o u7 ⟨⟨f, ho⟩, hm⟩ => ?_
      subst ho
      first
        | exact wpAny_pure ⟨rfl, hm⟩
        | exact wpAny_bind (wpAny_pure (wpAny_pure ⟨rfl, hm⟩))
/-- the inner clause's loop -/
theorem set_loop1 (I : Nat → Shared → Prop)
    (turn : ∀ n u, I n u → NF P w A (pyNext jt) (fun o u1 => match o with
      | none => Z (.ok .next) u1
      | some x => NF P w A (letOwnedTupleGo a1 jt x) (fun _ u2 => NF P w A (assign a1 en x) (fun _ u3 => NF P w A (goodOf c1 en) (fun g u4 =>
          if g = true then NF P w A (eval el en) (fun y u5 => NF P w A (call (.builtin "set.add") [ac, y]) (fun _ u6 => ∃ m, m < n ∧ I m u6) u5) u4
          else ∃ m, m < n ∧ I m u4) u3) u2) u1) u)
    (n : Nat) (h : I n u) : codeAny (model P w) A (.compLoop (setE el a0 b0 a1 b1 c0 c1 sc ps) 1 jt ac en) Z u := by
  refine codeAny_loop rfl I (fun n u hI => ?_) n h
  show wpAny _ A ((compTurn (setE el a0 b0 a1 b1 c0 c1 sc ps) 1 jt ac en).onRaise (fun x => do noteFrame x en; theTreesLotGoes x)) _ _ u
  refine wpAny_noted ?_
  rw [set_turn1]
  refine wpAny_bind (wpAny_standAt (wpAny_bind (thnF (turn n u hI) fun o u1 h1 => ?_)))
  cases o with
  | none => exact wpAny_pure h1
  | some x =>
    refine wpAny_bind (thnF h1 fun _ u2 h2 => wpAny_bind (thnF h2 fun _ u3 h3 => wpAny_bind (thnF h3 fun g u4 h4 => ?_)))
    cases g with
    | false => exact wpAny_pure ⟨rfl, h4⟩
    | true =>
      exact wpAny_bind (wpAny_bind (thnF h4 fun y u5 h5 => wpAny_bind (wpAny_standAt (wpAny_bind (thnF h5 fun _ u6 h6 => wpAny_pure (wpAny_pure ⟨rfl, h6⟩))))))
theorem set_start1 (h0 : codeAny (model P w) A (.compLoop (setE el a0 b0 a1 b1 c0 c1 sc ps) 1 jt ac en) Z u)
    (h : NF P w A (pyIter jt) (fun j u1 => codeAny (model P w) A (.compLoop (setE el a0 b0 a1 b1 c0 c1 sc ps) 1 j ac en) Z u1) u) :
    codeAny (model P w) A (.compStart (setE el a0 b0 a1 b1 c0 c1 sc ps) 1 jt ac en) Z u := by
  refine codeAny_of_tree ?_
  show wpAny _ _ ((compStart (setE el a0 b0 a1 b1 c0 c1 sc ps) 1 jt ac en).onRaise (fun x => do noteFrame x en; standAt theWindowsPlace)) _ _ u
  refine wpAny_notedAt ?_
  unfold compStart
  show wpAny _ _ (ask >>= _) _ _ u
  refine wpAny_bind (wpAny_askSetting (wpAny_ite ?_))
  split
  · first
      | exact wpAny_bind (wpAny_pure (wpAny_pure (And.intro rfl h0)))
      | exact wpAny_pure (And.intro rfl h0)
  · first
      | exact wpAny_bind (wpAny_rule (wpAny_bind (wpAny_standAt (wpAny_bind (thnF h fun j u1 h1 => wpAny_pure (And.intro rfl h1))))))
      | (refine wpAny_bind (wpAny_rule ?_); show wpAny _ _ (standAt b1.pos >>= _) _ _ u; exact wpAny_bind (wpAny_standAt (wpAny_bind (thnF h fun j u1 h1 => wpAny_pure (And.intro rfl h1)))))
end
end RR
end
section
namespace RR
open PySem PySem.Spec L2
open PyProof.Rows hiding St
def tSc2 (zo : Addr → HO) (r : V → List V → Hp → VK → Prop) (wi : TI) (g : TG) (tt : TT) (wj : TI) (gj : TG) (tj : TT) (te : TE) (vs vj : List Nat) : TE := fun σ H Q => wi σ H fun J H1 => ∀ D, H1 D = none → ∃ W : Nat → Nat → Hp → Prop, (∃ m, W 0 m (upd H1 D (zo D))) ∧ ∀ i m H, W i m H →
  (J.stop i H ∧ Q (.ref D) H) ∨ (J.go i H ∧ ∃ Nx : Hp → Prop, (∀ H', Nx H' → ∃ m', m' < m ∧ W (i + 1) m' H') ∧ ∀ x H', J.yld i H x H' → g x (wipe σ vs) H' fun σ2 H2 => wipe σ2 vs = wipe σ vs ∧ tt σ2 H2 fun b H3 =>
    if b = true then wj σ2 H3 fun J1 H4 => ∃ W1 : Nat → Nat → Hp → Prop, (∃ m, W1 0 m H4) ∧ ∀ j k H, W1 j k H →
      (J1.stop j H ∧ Nx H) ∨ (J1.go j H ∧ ∃ Nx1 : Hp → Prop, (∀ H', Nx1 H' → ∃ k', k' < k ∧ W1 (j + 1) k' H') ∧ ∀ x H', J1.yld j H x H' → gj x (wipe σ2 vj) H' fun σ3 H5 => wipe σ3 vj = wipe σ2 vj ∧ tj σ3 H5 fun b H6 =>
        if b = true then te σ3 H6 fun y H7 => r (.ref D) [y] H7 fun _ H8 => Nx1 H8 else Nx1 H6)
    else Nx H3)
section
variable {X : Cx}
theorem pe_sc2 {el a0 b0 a1 b1 : Expr} {c0 c1 : List Expr} {sc : Scope} {own : List (Str × Nat)} {vj : List Nat} {ps : Pos} {zo : Addr → HO} {r : V → List V → Hp → VK → Prop} {wi wj : TI} {g gj : TG} {tt tj : TT} {te : TE}
    (hZ : ∀ {pins : List (Addr × Obj)} {σ : St} {H : Hp} {s : Shared}, Inv X pins σ H s → Inv X pins σ (upd H s.heap.objs.size (zo s.heap.objs.size)) { s with heap := s.heap.push { cls := .type "set", dict := none, data := .set #[] 0 (.fresh 0 0 (!(X.w.params.followText "set-order"))) } })
    (hr : ∀ (s : Shared) (H : Hp) (en : Env) (fp : List Addr), MtR (X.blk s H sc en fp) "set.add" r)
    (hc : X.calm = true) (hN : X.N.Nodup) (hi : PI X a0 b0 wi) (ok : BlkOk X.N X.env.scope sc own) (hv : ∀ i ∈ vj, i ∈ own.map (·.2))
    (hg : ∀ (s : Shared) (H : Hp) (C : Addr) (cl : List (Str × Addr)) (fp : List Addr), PG (X.blk s H sc (compEnvC sc cl C X.env) fp) a0 g) (ht : ∀ (s : Shared) (H : Hp) (C : Addr) (cl : List (Str × Addr)) (fp : List Addr), PTs (X.blk s H sc (compEnvC sc cl C X.env) fp) c0 tt)
    (hj : ∀ (s : Shared) (H : Hp) (C : Addr) (cl : List (Str × Addr)) (fp : List Addr), PI (X.blk s H sc (compEnvC sc cl C X.env) fp) a1 b1 wj)
    (hgj : ∀ (s : Shared) (H : Hp) (C : Addr) (cl : List (Str × Addr)) (fp : List Addr), PG (X.blk s H sc (compEnvC sc cl C X.env) fp) a1 gj)
    (htj : ∀ (s : Shared) (H : Hp) (C : Addr) (cl : List (Str × Addr)) (fp : List Addr), PTs (X.blk s H sc (compEnvC sc cl C X.env) fp) c1 tj)
    (he : ∀ (s : Shared) (H : Hp) (C : Addr) (cl : List (Str × Addr)) (fp : List Addr), PE (X.blk s H sc (compEnvC sc cl C X.env) fp) el te) (hs : ∀ x, foldedSetIterable b0 X.env x = pure x := by intro _; rfl) (hs1 : ∀ (en : Env) x, foldedSetIterable b1 en x = pure x := by intro _ _; rfl) :
    PE X (setE el a0 b0 a1 b1 c0 c1 sc ps) (tSc2 zo r wi g tt wj gj tj te (own.map (·.2)) vj) := by
  refine ⟨fun pins s0 σ H Q I h => ?_⟩
  rw [arm_eval_SetComp]
  have cells : ∀ y ∈ sc.names, y.2 = .free → ∃ c, X.env.cells.lookup y.1 = some c := fun y hy e => (ok.free y hy e).elim (fun k => I.ok.has _ (.inl k)) fun k => I.ok.has _ (.inr k)
  refine wpAny_comprehension_free (use := none) rfl hs (closure_ok cells) ok.kind (fun y hy e => by rw [ok.uniq y hy, e]) (thn (hi.run pins s0 σ H _ I h) fun xv s1 hx => thn hx fun jv s2 ⟨jt, fp, tn, J, H2, ej, I2, T, st2, f2, q⟩ => ?_)
  subst ej
  refine wpAny_newSet_raw fun led eled => newEnv_comp ?_
  subst eled
  have I3 := hZ I2
  have dn : H2 s2.heap.objs.size = none := I2.hok.fresh (Nat.le_refl _)
  obtain ⟨W, ⟨m0, w0⟩, turn⟩ := q _ dn
  have lt2 : ∀ b ∈ fp, b < s2.heap.objs.size := fun b hb => let ⟨o, e, _⟩ := T.obj _ _ st2 b hb; Heap.lt_size e
  generalize eD : s2.heap.objs.size = D at I3 dn w0 turn lt2 ⊢
  generalize hs3 : ({ s2 with heap := s2.heap.push { cls := .type "set", dict := none, data := .set #[] 0 (.fresh 0 0 (!(X.w.params.followText "set-order"))) } } : Shared) = s3 at I3
  have e3 : s3.heap = s2.heap.push { cls := .type "set", dict := none, data := .set #[] 0 (.fresh 0 0 (!(X.w.params.followText "set-order"))) } := by rw [← hs3]
  have z3 : s3.heap.objs.size = D + 1 := by rw [e3, Heap.size_push, eD]
  have f3 : ∀ b ∈ fp, FpOk X pins (upd H2 D (zo D)) b ∧ b < s3.heap.objs.size := fun b hb => ⟨⟨by rw [upd_ne (Nat.ne_of_lt (lt2 b hb))]; exact (f2 b hb).1, (f2 b hb).2⟩, by rw [z3]; exact Nat.lt_succ_of_lt (lt2 b hb)⟩
  have st3 : tn 0 s3.heap := T.keep _ _ _ st2 fun b _ o e => by rw [e3]; exact Heap.get?_push_of_some _ e
  have I4 := block_start I3 ok hN f3
  generalize eC : s3.heap.objs.size = C at I4 f3
  generalize ecl : cellsFrom (C + 1) sc.names (cloFrom X.env.cells sc.names []) = cl at I4
  show codeAny _ _ (.compStart (setE el a0 b0 a1 b1 c0 c1 sc ps) 0 (.ref jt) (.ref D) (compEnvC sc cl C X.env)) (compPost (model X.prog X.w) X.A X.xe none (EP X pins σ Q) (.ref D) C) { s3 with heap := pushCells (s3.heap.push { cls := .type "dict", data := .dict #[] }) sc.names }
  generalize hs4 : ({ s3 with heap := pushCells (s3.heap.push { cls := .type "dict", data := .dict #[] }) sc.names } : Shared) = s4 at I4 ⊢
  have st4 : tn 0 s4.heap := T.keep _ _ _ st3 fun b _ o e => by rw [← hs4]; exact pushCells_keeps _ _ _ _ (Heap.get?_push_of_some _ e)
  generalize hH3 : upd H2 D (zo D) = H3 at I3 I4 w0 f3
  have pg := hg s3 H3 C cl fp
  have pt := ht s3 H3 C cl fp
  have pj := hj s3 H3 C cl fp
  have pgj := hgj s3 H3 C cl fp
  have ptj := htj s3 H3 C cl fp
  have pe := he s3 H3 C cl fp
  have ma := hr s3 H3 (compEnvC sc cl C X.env) fp
  have nfp : ∀ b ∈ fp, H3 b = none := fun b hb => (f3 b hb).1.1
  generalize hce : compEnvC sc cl C X.env = ce at I4 pg pt pj pgj ptj pe ma ⊢
  have cL : ce.locals = C := by rw [← hce]; rfl
  -- what an iterator's own objects are for the block
  have own0 : ∀ {σ' : St} {H' : Hp} {s' : Shared}, Inv (X.blk s3 H3 sc ce fp) [] σ' H' s' → (∀ b ∈ fp, H' b = none) → ∀ b ∈ fp, FpOk (X.blk s3 H3 sc ce fp) [] H' b := fun I' hn b hb =>
    ⟨hn b hb, (I'.ok.exf b hb).1, I'.ok.exfs b hb, .inl hb, fun x c e => (I'.ok.exf b hb).2 x c e, fun p hp => absurd (show p ∈ ([] : List (Addr × Obj)) ++ [] from hp) (by simp)⟩
  have loop : codeAny (model X.prog X.w) X.A (.compLoop (setE el a0 b0 a1 b1 c0 c1 sc ps) 0 (.ref jt) (.ref D) ce) (compPost (model X.prog X.w) X.A X.xe none (EP X pins σ Q) (.ref D) C) s4 := by
    refine set_loop0 (hs1 ce) (fun n u => ∃ i H', Inv (X.blk s3 H3 sc ce fp) [] (wipe σ (own.map (·.2))) H' u ∧ tn i u.heap ∧ (∀ b ∈ fp, H' b = none) ∧ W i n H') ?_ m0 ⟨0, H3, I4, st4, nfp, w0⟩
    rintro n s5 ⟨i, H5, I5, st5, n5, w5⟩
    rcases turn i n H5 w5 with ⟨stop, qq⟩ | ⟨go, Nx, hNx, step⟩
    · refine thn (T.done (X.blk s3 H3 sc ce fp) rfl rfl rfl hc i [] s5 _ H5 (fun _ _ => False) I5 (own0 I5 n5) st5 stop) fun o s6 ⟨ho, I6⟩ => ?_
      subst ho
      have I7 : Inv X pins σ H5 s6 := I3.call' (ch := fp) I6.os I6.base I6.hok I6.bare fun b hb => ⟨(f3 b hb).1.2.2.2.1, (f3 b hb).1.2.1, (f3 b hb).1.2.2.2.2.1, (f3 b hb).1.2.2.2.2.2⟩
      have nC : H5 C = none := by rw [← cL]; exact I6.free
      obtain ⟨m, hn, _⟩ := I6.loc
      refine ⟨m, cL ▸ hn, fun h' sb => ?_⟩
      obtain ⟨g0, g1, g2, g3, g4, g5⟩ := I3.fpOk (Nat.le_of_eq eC) nC
      exact ⟨.ref D, H5, I7.turned (t' := s6.toks) (fun b o hb e => (sb.2 b hb).trans e) g0 g1 g3 g4 g5, rfl, qq⟩
    · refine thn (T.item (X.blk s3 H3 sc ce fp) rfl rfl rfl hc i [] s5 _ H5 (fun _ _ => False) I5 (own0 I5 n5) st5 go) fun o s6 ⟨x, ho, h6⟩ => ?_
      subst ho
      refine thn h6 fun _ s7 ⟨xv, H7, I7, r7, y7, st7, n7⟩ => ?_
      refine thn (pg.run _ s7 _ H7 xv x _ (I7.pinned (own0 I7 n7) (T.obj _ _ st7)) r7 (step xv H7 y7)) fun _ s8 ⟨σ8, H8, I8, hw8, q8⟩ => ?_
      refine thn (pt.run _ s8 σ8 H8 _ I8 q8) fun b s9 ⟨H9, I9, q9⟩ => ?_
      have fin : ∀ {σ' : St} {u : Shared} {H' : Hp}, Inv (X.blk s3 H3 sc ce fp) ([] ++ pinsAt fp s7.heap) σ' H' u → (wipe σ (own.map (·.2))).length = σ'.length → (∀ (j : Nat) v, (wipe σ (own.map (·.2)))[j]? = some (some v) → σ'[j]? = some (some v)) → Nx H' →
          ∃ m, m < n ∧ ∃ i H', Inv (X.blk s3 H3 sc ce fp) [] (wipe σ (own.map (·.2))) H' u ∧ tn i u.heap ∧ (∀ b ∈ fp, H' b = none) ∧ W i m H' := fun {σ' u H'} I' hl hk nx => by
        obtain ⟨m', hm, w'⟩ := hNx H' nx
        have pin' : ∀ b ∈ fp, ∀ o, s7.heap.get? b = some o → u.heap.get? b = some o ∧ H' b = none := fun b hb o e =>
          let z := I'.pin (b, o) (List.mem_append_right _ (List.mem_append_right _ (mem_pinsAt hb e)))
          ⟨z.1, z.2.1⟩
        refine ⟨m', hm, i + 1, H', (I'.unpinned (pins := [])).weak hl hk, T.keep _ _ _ st7 fun b hb o e => (pin' b hb o e).1, fun b hb => ?_, w'⟩
        obtain ⟨o, e, _⟩ := T.obj _ _ st7 b hb
        exact (pin' b hb o e).2
      have hl8 : (wipe σ (own.map (·.2))).length = σ8.length := by rw [← hw8, wipe_length]
      have hk8 : ∀ (j : Nat) v, (wipe σ (own.map (·.2)))[j]? = some (some v) → σ8[j]? = some (some v) ∧ (wipe σ8 vj)[j]? = some (some v) := fun j v e => by
        rw [← hw8] at e
        obtain ⟨e1, e2⟩ := wipe_some e
        exact ⟨e1, by rw [wipe_out fun z => e2 (hv j z)]; exact e1⟩
      cases b with
      | false => exact fin I9 hl8 (fun j v e => (hk8 j v e).1) q9
      | true =>
        refine thn (pj.run _ s9 σ8 H9 _ I9 q9) fun lv s10 hl => thn hl fun jv1 s11 ⟨j1, fp1, tn1, J1, H11, e1, I11, T1, st11, f11, W1, ⟨m1, w1⟩, turn1⟩ => ?_
        subst e1
        have own1 : ∀ {H' : Hp}, (∀ b ∈ fp1, H' b = none) → ∀ b ∈ fp1, FpOk (X.blk s3 H3 sc ce fp) ([] ++ pinsAt fp s7.heap) H' b := fun hn b hb => ⟨hn b hb, (f11 b hb).2⟩
        have loop1 : codeAny (model X.prog X.w) X.A (.compLoop (setE el a0 b0 a1 b1 c0 c1 sc ps) 1 (.ref j1) (.ref D) ce) (fun o u7 => (∃ f, o = .ok f) ∧ ∃ m, m < n ∧ ∃ i H', Inv (X.blk s3 H3 sc ce fp) [] (wipe σ (own.map (·.2))) H' u7 ∧ tn i u7.heap ∧ (∀ b ∈ fp, H' b = none) ∧ W i m H') s11 := by
          refine set_loop1 (fun k u => ∃ j H', Inv (X.blk s3 H3 sc ce fp) ([] ++ pinsAt fp s7.heap) (wipe σ8 vj) H' u ∧ tn1 j u.heap ∧ (∀ b ∈ fp1, H' b = none) ∧ W1 j k H') ?_ m1 ⟨0, H11, I11.weak (wipe_length _ _) (fun j v e => (wipe_some e).1), st11, fun b hb => (f11 b hb).1, w1⟩
          rintro k s12 ⟨j, H12, I12, st12, n12, w12⟩
          rcases turn1 j k H12 w12 with ⟨stop1, nx1⟩ | ⟨go1, Nx1, hNx1, step1⟩
          · refine thn (T1.done (X.blk s3 H3 sc ce fp) rfl rfl rfl hc j _ s12 (wipe σ8 vj) H12 (fun _ _ => False) I12 (own1 n12) st12 stop1) fun o s13 ⟨ho, I13⟩ => ?_
            subst ho
            exact ⟨⟨_, rfl⟩, fin I13 (hl8.trans (wipe_length σ8 vj).symm) (fun j v e => (hk8 j v e).2) nx1⟩
          · refine thn (T1.item (X.blk s3 H3 sc ce fp) rfl rfl rfl hc j _ s12 (wipe σ8 vj) H12 (fun _ _ => False) I12 (own1 n12) st12 go1) fun o s13 ⟨x1, ho, h13⟩ => ?_
            subst ho
            refine thn h13 fun _ s14 ⟨xv1, H14, I14, r14, y14, st14, n14⟩ => ?_
            refine thn (pgj.run _ s14 (wipe σ8 vj) H14 xv1 x1 _ (I14.pinned (own1 n14) (T1.obj _ _ st14)) r14 (step1 xv1 H14 y14)) fun _ s15 ⟨σ15, H15, I15, hw15, q15⟩ => ?_
            refine thn (ptj.run _ s15 σ15 H15 _ I15 q15) fun b1 s16 ⟨H16, I16, q16⟩ => ?_
            have fin1 : ∀ {u : Shared} {H' : Hp}, Inv (X.blk s3 H3 sc ce fp) (([] ++ pinsAt fp s7.heap) ++ pinsAt fp1 s14.heap) σ15 H' u → Nx1 H' → ∃ m, m < k ∧ ∃ j H', Inv (X.blk s3 H3 sc ce fp) ([] ++ pinsAt fp s7.heap) (wipe σ8 vj) H' u ∧ tn1 j u.heap ∧ (∀ b ∈ fp1, H' b = none) ∧ W1 j m H' := fun {u H'} I' nx => by
              obtain ⟨m', hm, w'⟩ := hNx1 H' nx
              have pin' : ∀ b ∈ fp1, ∀ o, s14.heap.get? b = some o → u.heap.get? b = some o ∧ H' b = none := fun b hb o e =>
                let z := I'.pin (b, o) (List.mem_append_right _ (List.mem_append_right _ (mem_pinsAt hb e)))
                ⟨z.1, z.2.1⟩
              refine ⟨m', hm, j + 1, H', I'.unpinned.weak (by rw [← hw15, wipe_length]) (fun j v e => by rw [← hw15] at e; exact (wipe_some e).1), T1.keep _ _ _ st14 fun b hb o e => (pin' b hb o e).1, fun b hb => ?_, w'⟩
              obtain ⟨o, e, _⟩ := T1.obj _ _ st14 b hb
              exact (pin' b hb o e).2
            cases b1 with
            | false => exact fin1 I16 q16
            | true =>
              refine thn (pe.run _ s16 σ15 H16 _ I16 q16) fun z s17 ⟨yv, H17, I17, r17, qa⟩ => ?_
              exact thn (ma _ s17 σ15 H17 (.ref D) [yv] (.ref D) [z] _ I17 rfl (.cons r17 .nil) qa) fun _ s18 ⟨_, H18, I18, _, nx⟩ => fin1 I18 nx
        exact set_start1 loop1 (T1.self X.A 0 _ _ _ st11 loop1)
  exact codeAny_compStart_set loop (T.self X.A 0 _ _ _ st4 loop)
end
end RR
end
section
namespace RR
open PySem PySem.Spec L2
open PyProof.Rows hiding St
/-- what may be members, told by their data; how one more gets among them -/
structure SetD where
  κ : Type
  dec : D → Option κ
  enc : κ → D
  ins : κ → List κ → List κ
  hdec : ∀ {y k}, dec y = some k → y = enc k
  len : ∀ k xs, (ins k xs).length ≤ xs.length + 1
/-- what stands for such a set -/
structure SKind (K : PySem.W.Frag) (S : SetD) where
  zo : Addr → HO
  ob : Hp → Addr → List S.κ → HO → Prop
  r : V → List V → Hp → VK → Prop
  rs : List V → Hp → VK → Prop
  new : ∀ F D, ob F D [] (zo D)
  mono : ∀ {F F' D xs o}, Same F F' → ob F D xs o → ob F' D xs o
  add : ∀ {F H D k v xs o} {Q : VK}, Rp K F (S.enc k) v → Same F H → ob F D xs o → H D = some o → xs.length < 60 → (∀ o', ob F D (S.ins k xs) o' → Q .non (upd H D o')) → r (.ref D) [v] H Q
  sort : ∀ {F H D xs o} {Q : VK}, ob F D xs o → Same F H → H D = some o → xs.length ≤ 60 → (∀ vs, Rps K F (xs.map S.enc) vs → ∀ p, H p = none → Q (.ref p) (upd H p (.lst vs))) → rs [.ref D] H Q
def insI (k : Int) : List Int → List Int
  | [] => [k]
  | x :: xs => if k < x then k :: x :: xs else if k = x then x :: xs else x :: insI k xs
theorem insI_len (k : Int) : ∀ xs, (insI k xs).length ≤ xs.length + 1
  | [] => Nat.le_refl _
  | x :: xs => by
    unfold insI
    split
    · exact Nat.le_refl _
    · split
      · exact Nat.le_succ _
      · exact Nat.succ_le_succ (insI_len k xs)
theorem insI_mem (k : Int) : ∀ {xs : List Int} {j : Int}, j ∈ insI k xs ↔ j = k ∨ j ∈ xs
  | [], j => by simp [insI]
  | x :: xs, j => by
    unfold insI
    split
    · simp
    · split
      · rename_i h
        subst h
        simp
      · rw [List.mem_cons, insI_mem k, List.mem_cons]
        constructor
        · rintro (h | h | h)
          · exact .inr (.inl h)
          · exact .inl h
          · exact .inr (.inr h)
        · rintro (h | h | h)
          · exact .inr (.inl h)
          · exact .inl h
          · exact .inr (.inr h)
theorem insI_asc (k : Int) : ∀ {xs : List Int}, xs.Pairwise (· < ·) → (insI k xs).Pairwise (· < ·)
  | [], _ => by simp [insI]
  | x :: xs, h => by
    obtain ⟨h1, h2⟩ := List.pairwise_cons.mp h
    unfold insI
    split
    · rename_i hk
      refine List.pairwise_cons.mpr ⟨fun y hy => ?_, h⟩
      rcases List.mem_cons.mp hy with rfl | hy
      · exact hk
      · exact Int.lt_trans hk (h1 y hy)
    · split
      · exact h
      · refine List.pairwise_cons.mpr ⟨fun y hy => ?_, insI_asc k h2⟩
        rcases (insI_mem k).mp hy with rfl | hy
        · omega
        · exact h1 y hy
theorem insI_in (k : Int) : ∀ {xs : List Int}, xs.Pairwise (· < ·) → k ∈ xs → insI k xs = xs
  | [], _, h => by cases h
  | x :: xs, h, hk => by
    obtain ⟨h1, h2⟩ := List.pairwise_cons.mp h
    unfold insI
    rcases List.mem_cons.mp hk with rfl | hk
    · rw [if_neg (Int.lt_irrefl _), if_pos rfl]
    · have := h1 k hk
      rw [if_neg (by omega), if_neg (by omega), insI_in k h2 hk]
theorem insI_out (k : Int) : ∀ {xs : List Int}, k ∉ xs → (insI k xs).length = xs.length + 1
  | [], _ => rfl
  | x :: xs, h => by
    unfold insI
    split
    · rfl
    · split
      · rename_i e
        exact absurd (e ▸ List.mem_cons_self ..) h
      · exact congrArg Nat.succ (insI_out k fun z => h (List.mem_cons_of_mem _ z))
/-- two ascending lists with the same members -/
theorem asc_same : ∀ {xs ys : List Int}, xs.Pairwise (· < ·) → ys.Pairwise (· < ·) → (∀ k, k ∈ xs ↔ k ∈ ys) → xs = ys
  | [], [], _, _, _ => rfl
  | [], y :: ys, _, _, h => absurd ((h y).mpr (List.mem_cons_self ..)) (by simp)
  | x :: xs, [], _, _, h => absurd ((h x).mp (List.mem_cons_self ..)) (by simp)
  | x :: xs, y :: ys, hx, hy, h => by
    obtain ⟨x1, x2⟩ := List.pairwise_cons.mp hx
    obtain ⟨y1, y2⟩ := List.pairwise_cons.mp hy
    have e : x = y := by
      rcases List.mem_cons.mp ((h x).mp (List.mem_cons_self ..)) with e | e
      · exact e
      · rcases List.mem_cons.mp ((h y).mpr (List.mem_cons_self ..)) with q | q
        · exact q.symm
        · have := x1 y q
          have := y1 x e
          omega
    subst e
    congr 1
    refine asc_same x2 y2 fun k => ⟨fun z => ?_, fun z => ?_⟩
    · rcases List.mem_cons.mp ((h k).mp (List.mem_cons_of_mem _ z)) with rfl | q
      · exact absurd (x1 k z) (Int.lt_irrefl _)
      · exact q
    · rcases List.mem_cons.mp ((h k).mpr (List.mem_cons_of_mem _ z)) with rfl | q
      · exact absurd (y1 k z) (Int.lt_irrefl _)
      · exact q
def setDI : SetD where
  κ := Int
  dec := fun | .int i => some i | _ => none
  enc := .int
  ins := insI
  hdec := fun {y k} h => by
    split at h
    · cases h; rfl
    · cases h
  len := insI_len
theorem rps_ints {K : PySem.W.Frag} {F : Hp} : ∀ xs : List Int, Rps K F (xs.map PyData.int) (xs.map V.int)
  | [] => .nil
  | x :: xs => .cons (.int x) (rps_ints xs)
def obI (w : World) (D : Addr) (xs : List Int) (o : HO) : Prop := xs.Pairwise (· < ·) ∧ o = SetO w D (fun k => decide (k ∈ xs)) xs.length
theorem obI_add {K : PySem.W.Frag} {w : World} {F H : Hp} {D : Addr} {k : Int} {v : V} {xs : List Int} {o : HO} {Q : VK} (rv : Rp K F (.int k) v) (h : obI w D xs o) (hd : H D = some o) (hl : xs.length < 60) (q : ∀ o', obI w D (insI k xs) o' → Q .non (upd H D o')) : rSAdd w (.ref D) [v] H Q := by
  obtain ⟨h1, h2⟩ := h
  have e := rv.int_inv
  subst e h2
  refine ⟨D, k, _, _, rfl, rfl, hd, Nat.lt_of_lt_of_le (show xs.length + 1 < 64 by omega) (by decide), q _ ⟨insI_asc k h1, ?_⟩⟩
  have hS : (fun j : Int => decide (j ∈ xs) || decide (j = k)) = fun j => decide (j ∈ insI k xs) := by
    funext j
    rw [Bool.eq_iff_iff, Bool.or_eq_true, decide_eq_true_eq, decide_eq_true_eq, decide_eq_true_eq, insI_mem]
    exact Or.comm
  rw [hS]
  congr 1
  by_cases hk : k ∈ xs
  · rw [if_pos (decide_eq_true hk)]
    exact (congrArg List.length (insI_in k h1 hk)).symm
  · rw [if_neg (by rw [decide_eq_true_eq]; exact hk)]
    exact (insI_out k hk).symm
theorem obI_sort {K : PySem.W.Frag} {w : World} {F H : Hp} {D : Addr} {xs : List Int} {o : HO} {Q : VK} (h : obI w D xs o) (hd : H D = some o) (hl : xs.length ≤ 60) (q : ∀ vs, Rps K F (xs.map PyData.int) vs → ∀ p, H p = none → Q (.ref p) (upd H p (.lst vs))) : rSortedSet w [.ref D] H Q := by
  obtain ⟨h1, h2⟩ := h
  subst h2
  refine ⟨D, _, _, rfl, hd, Nat.lt_of_le_of_lt hl (by decide), fun ns a hn hm _ ha => ?_⟩
  have e : ns = xs := asc_same hn h1 fun k => (hm k).trans (by rw [decide_eq_true_eq])
  subst e
  exact q _ (rps_ints _) a ha
def skI (K : PySem.W.Frag) (w : World) : SKind K setDI where
  zo := fun D => SetO w D (fun _ => false) 0
  ob := fun _ D xs o => obI w D xs o
  r := rSAdd w
  rs := rSortedSet w
  new := fun F D => ⟨.nil, by
    show SetO w D _ 0 = SetO w D _ 0
    congr 1⟩
  mono := fun _ h => h
  add := fun rv _ h hd hl q => obI_add rv h hd hl q
  sort := fun h _ hd hl q => obI_sort h hd hl q
theorem skI_new {X : Cx} {pins : List (Addr × Obj)} {σ : St} {H : Hp} {s : Shared} (I : Inv X pins σ H s) : Inv X pins σ (upd H s.heap.objs.size ((skI X.K X.w).zo s.heap.objs.size)) { s with heap := s.heap.push { cls := .type "set", dict := none, data := .set #[] 0 (.fresh 0 0 (!(X.w.params.followText "set-order"))) } } :=
  I.laid (t' := s.toks) (fun b u e => Heap.get?_push_of_some _ e) (Nat.le_refl _) (show ObjOk X.prog X.w _ _ _ (SetO X.w s.heap.objs.size (fun _ => false) 0) from setO_new (setR_fresh X.w))
end RR
end
section
namespace RR
open PySem PySem.Spec L2
open PyProof.Rows hiding St
@[reducible] def mPutI (i : Nat) (mk mv : ME) : MS := fun E Γ n => mv Γ n fun d n1 => ∃ ds, Γ[i]? = some (some (.list ds)) ∧ mk Γ n1 fun kd n2 => ∃ k j, kd = .int k ∧ ixN ds.length k = some j ∧ E.nx (Γ.set i (some (.list (ds.set j d)))) n2
section
variable {X : Cx} {p : Pm} {O Ob : List Nat} {i : Nat} {ke value : Expr} {pos pos' q : Pos} {tv tk : TE} {me mk mv : ME} {x : Str}
theorem nr_putI : NRt (mPutI i mk mv) := fun E R => rfl
theorem ls_putI (hv : LE p O tv mv) (hk : LE p O tk mk) (hi : i ∈ O) (hp : p.off i) : LS p Ob O O (tAsg tv (gSub (tVar i) tk rSetL)) (mPutI i mk mv) := fun F0 H0 F H σ Γ n E s q E' hn _ _ _ => by
  refine hv F0 H0 F H σ Γ n _ s q _ fun d v F1 H1 n1 s1 g1 r1 ⟨ds, ei, q1⟩ => ?_
  obtain ⟨a, e1, w, z1, z2, z3⟩ := s1.ow i hi _ ei
  refine ⟨.ref a, e1, ?_⟩
  refine hk F0 H0 F1 H1 σ Γ n1 _ s1 q1 _ fun kd y F2 H2 n2 s2 g2 r2 ⟨k, j, ek, hj, q2⟩ => ?_
  subst ek
  obtain ⟨a', e1', w2, y1, y2, y3⟩ := s2.ow i hi _ ei
  rw [e1] at e1'
  cases e1'
  cases w2 with
  | lst u1 u2 =>
    rename_i xs
    obtain ⟨F3, e3, s6⟩ := s2.rewrite (u := .lst (xs.set j v)) (d := .list (ds.set j d)) hi hp ei e1 y1 y2 y3 (.lst upd_same (u2.set j (r1.mono g2.f)))
    exact ⟨a, xs, k, j, rfl, r2.int_inv, u1, by rw [u2.len]; exact hj, hn F3 _ σ _ n2 s6 ((g1.f.trans g2.f).trans e3) q2⟩
theorem sPutI (i : Nat) (hN : PE X (.Name x q) (tVar i)) (hk : RE X p O ke tk mk) (hv : RE X p O value tv mv) (hi : i ∈ O) (hp : p.off i)
    (ha : ∀ v, assign (.Subscript (.Name x q) ke pos') X.env v = (do
      let ov ← holding [v] (eval (.Name x q) X.env)
      let iv ← holding [v, ov] (eval ke X.env)
      standAt pos'
      holding [v, ov, iv] (setItem ov iv v)
      release [v, ov, iv] []) := by intro _; rfl)
    (hs : swapsWithSole [.Subscript (.Name x q) ke pos'] value pos.line X.env = pure false := by rfl) (hw : swappedStores [.Subscript (.Name x q) ke pos'] value X.env = pure none := by rfl)
    (h1 : (assignEach [.Subscript (.Name x q) ke pos'] X.env).map (·.2) = [assign (.Subscript (.Name x q) ke pos') X.env] := by rfl) :
    RS X p Ob O O (.Assign [.Subscript (.Name x q) ke pos'] value pos) (tAsg tv (gSub (tVar i) tk rSetL)) (mPutI i mk mv) := ⟨ps_asg hv.pe (pg_sub hN hk.pe set_list ha) hs hw h1, ls_putI hv.le hk.le hi hp⟩
end
end RR
end
section
namespace RR
open PySem PySem.Spec L2
open PyProof.Rows hiding St
def foI (ks : List Int) : List Int := ks.foldl (fun a k => insI k a) []
theorem foI_snoc (ks : List Int) (k : Int) : foI (ks ++ [k]) = insI k (foI ks) := by unfold foI; rw [List.foldl_append]; rfl
theorem foI_len : ∀ ks : List Int, (foI ks).length ≤ ks.length := fun ks => by
  have go : ∀ (ks acc : List Int), (ks.foldl (fun a k => insI k a) acc).length ≤ acc.length + ks.length := fun ks => by
    induction ks with
    | nil => intro acc; exact Nat.le_refl _
    | cons k ks ih => intro acc; exact Nat.le_trans (ih _) (by have := insI_len k acc; show (insI k acc).length + ks.length ≤ _; rw [List.length_cons]; omega)
  have := go ks []
  simpa [foI] using this
def mKeys2 (i j t a : Nat) : ME := fun Γ n Q => ∃ ds es ks, Γ[i]? = some (some (.dict ds)) ∧ Γ[j]? = some (some (.dict es)) ∧ t < Γ.length ∧ a < Γ.length ∧ ds.map (·.1) ++ es.map (·.1) = (show List Int from ks).map PyData.int ∧ ks.length < 60 ∧ Q (.list ((foI ks).map PyData.int)) n
theorem keyD_int {k : Key} {z : Int} (h : keyD k = .int z) : kV k = .int z := by
  cases k with
  | inl i => cases h; rfl
  | inr x => cases h
section
variable {p : Pm} {O : List Nat} {w : World} {i j t a : Nat} {F0 H0 F H T0 : Hp} {σ σ2 : St} {Dd : Addr}
/-- the keys of one dict get into the set -/
theorem keys_in (K : PySem.W.Frag) {oo : Obj} {d : Addr} {l : List (Key × V)} {ks : List Int} {b : Nat} {o : HO} {Hc : Hp} {Nx : Hp → Prop} (hD : T0 Dd = none) (hd : T0 d = some (.frz oo (.dK l))) (hk : ∀ q k v, l[q]? = some (k, v) → ∃ z, ks[b + q]? = some z ∧ kV k = .int z) (hl : ks.length < 60)
    (ht : σ2[t]? = some (some (.ref d))) (ha : a < σ2.length) (eH : Hc = upd T0 Dd o) (ob : obI w Dd (foI (ks.take b)) o) (hn : ∀ o', obI w Dd (foI (ks.take (b + l.length))) o' → Nx (upd T0 Dd o')) :
    iKeys (tVar t) σ2 Hc fun J1 H4 => ∃ W1 : Nat → Nat → Hp → Prop, (∃ m, W1 0 m H4) ∧ ∀ j k H, W1 j k H →
      (J1.stop j H ∧ Nx H) ∨ (J1.go j H ∧ ∃ Nx1 : Hp → Prop, (∀ H', Nx1 H' → ∃ k', k' < k ∧ W1 (j + 1) k' H') ∧ ∀ x H', J1.yld j H x H' → gName a x (wipe σ2 [a]) H' fun σ3 H5 => wipe σ3 [a] = wipe σ2 [a] ∧ tYes σ3 H5 fun b H6 =>
        if b = true then tVar a σ3 H6 fun y H7 => rSAdd w (.ref Dd) [y] H7 fun _ H8 => Nx1 H8 else Nx1 H6) := by
  subst eH
  have nd : d ≠ Dd := fun z => by rw [z, hD] at hd; cases hd
  have at_ : ∀ o', (upd T0 Dd o') d = some (.frz oo (.dK l)) := fun o' => by rw [upd_ne nd]; exact hd
  refine ⟨.ref d, ht, d, oo, rfl, .inl ⟨l, at_ o, fun q m H => m = l.length - q ∧ q ≤ l.length ∧ ∃ o', H = upd T0 Dd o' ∧ obI w Dd (foI (ks.take (b + q))) o', ⟨_, rfl, Nat.zero_le _, o, rfl, ob⟩, ?_⟩⟩
  rintro q m H ⟨rfl, hq, o', rfl, ob'⟩
  by_cases hlt : q < l.length
  · refine .inr ⟨⟨at_ o', hlt⟩, fun H => ∃ o', H = upd T0 Dd o' ∧ obI w Dd (foI (ks.take (b + (q + 1)))) o', fun H' ⟨o2, e2, h2⟩ => ⟨l.length - (q + 1), by omega, rfl, hlt, o2, e2, h2⟩, ?_⟩
    rintro x H' ⟨rfl, k, v, e3, rfl⟩
    obtain ⟨z, e4, e5⟩ := hk q k v e3
    rw [e5]
    have hz : b + q < ks.length := (List.getElem?_eq_some_iff.mp e4).1
    have e6 : ks.take (b + (q + 1)) = ks.take (b + q) ++ [z] := by rw [← Nat.add_assoc, List.take_succ, e4]; rfl
    rw [e6, foI_snoc]
    have wl : a < (wipe σ2 [a]).length := by rw [wipe_length]; exact ha
    refine ⟨wipe_agree (is := [a]) ⟨List.length_set .., fun j hj => List.getElem?_set_ne fun z => hj (by simp [z])⟩ fun _ h => h, ?_⟩
    simp only [tYes, if_true]
    refine ⟨.int z, by rw [List.getElem?_set_self wl], ?_⟩
    refine obI_add (K := K) (F := T0) (.int z) ob' upd_same (Nat.lt_of_le_of_lt (foI_len _) (by rw [List.length_take]; omega)) fun o2 h2 => ?_
    rw [upd_upd]
    exact ⟨o2, rfl, h2⟩
  · have e : q = l.length := by omega
    subst e
    exact .inl ⟨⟨at_ o', Nat.le_refl _⟩, hn o' ob'⟩
def tKeys2 (K : PySem.W.Frag) (w : World) (i j t a : Nat) : TE := tCB (rSortedSet w) (tCons (tSc2 (fun D => SetO w D (fun _ => false) 0) (rSAdd w) (iTup K (tTup (tCons (tVar i) (tCons (tVar j) tNil)))) (gName t) tYes (iKeys (tVar t)) (gName a) tYes (tVar a) [t, a] [a]) tNil)
theorem lf_keys2 (hta : t ≠ a) (hi : i ∉ O) (hj : j ∉ O) : LF p O (fun σ H Q => Lkd i σ H → Lkd j σ H → tKeys2 p.K w i j t a σ H Q) (mKeys2 i j t a) := fun F0 H0 F H σ Γ n Q s ⟨ds, es, ks, ei, ej, ht, ha, hk, hl, q⟩ Q' k li lj => by
  obtain ⟨d0, o0, l0, x0, u0, a0, _⟩ := locked_at s hi ei li
  obtain ⟨d1, o1, l1, x1, u1, a1, _⟩ := locked_at s hj ej lj
  rw [a0, a1] at hk
  have h0 := s.fh _ _ u0
  have h1 := s.fh _ _ u1
  have hlen : l0.length + l1.length = ks.length := by
    have := congrArg List.length hk
    simpa using this
  have hk0 : ∀ q k v, l0[q]? = some (k, v) → ∃ z, ks[0 + q]? = some z ∧ kV k = .int z := fun q k v e => by
    have := congrArg (fun l => l[q]?) hk
    have hq := (List.getElem?_eq_some_iff.mp e).1
    simp only [List.getElem?_map] at this
    rw [List.getElem?_append_left (by rw [List.length_map]; exact hq), List.getElem?_map, e] at this
    rw [Nat.zero_add]
    cases hz : ks[q]? with
    | none => rw [hz] at this; cases this
    | some z =>
      rw [hz] at this
      exact ⟨z, rfl, keyD_int (Option.some.inj this)⟩
  have hk1 : ∀ q k v, l1[q]? = some (k, v) → ∃ z, ks[l0.length + q]? = some z ∧ kV k = .int z := fun q k v e => by
    have := congrArg (fun l => l[l0.length + q]?) hk
    simp only [List.getElem?_map] at this
    rw [List.getElem?_append_right (by rw [List.length_map]; exact Nat.le_add_right _ _), List.length_map, Nat.add_sub_cancel_left, List.getElem?_map, e] at this
    cases hz : ks[l0.length + q]? with
    | none => rw [hz] at this; cases this
    | some z =>
      rw [hz] at this
      exact ⟨z, rfl, keyD_int (Option.some.inj this)⟩
  refine ⟨.ref d0, x0, .ref d1, x1, (by decide : 2 ≤ sizeLine), fun pt hpt => ?_⟩
  have g1 : Gr F H F (upd H pt (.tup [.ref d0, .ref d1])) := Gr.new0 s.fh hpt _
  generalize hT : upd H pt (.tup [.ref d0, .ref d1]) = T0 at g1
  have tp : T0 pt = some (.tup [.ref d0, .ref d1]) := by rw [← hT]; exact upd_same
  have t0 := g1.h _ _ h0
  have t1 := g1.h _ _ h1
  refine ⟨pt, rfl, ⟨_, .inl (.inl tp)⟩, fun Dd hD => ?_⟩
  have np : pt ≠ Dd := fun z => by rw [z, hD] at tp; cases tp
  have sq : ∀ o, SqT p.K (upd T0 Dd o) pt [.ref d0, .ref d1] := fun o => .inl (.inl (by rw [upd_ne np]; exact tp))
  have wl : (wipe σ [t, a]).length = Γ.length := by rw [wipe_length]; exact s.len
  refine ⟨fun i m H => m = 2 - i ∧ ((i = 0 ∧ ∃ o, H = upd T0 Dd o ∧ obI w Dd (foI (ks.take 0)) o) ∨ (i = 1 ∧ ∃ o, H = upd T0 Dd o ∧ obI w Dd (foI (ks.take (0 + l0.length))) o) ∨ (i = 2 ∧ ∃ o, H = upd T0 Dd o ∧ obI w Dd (foI (ks.take (l0.length + l1.length))) o)),
    ⟨2, rfl, .inl ⟨rfl, _, rfl, (skI p.K w).new F Dd⟩⟩, ?_⟩
  have step : ∀ (x : V), wipe ((wipe σ [t, a]).set t (some x)) [t, a] = wipe σ [t, a] ∧ ((wipe σ [t, a]).set t (some x))[t]? = some (some x) ∧ a < ((wipe σ [t, a]).set t (some x)).length := fun x =>
    ⟨wipe_agree (is := [t]) ⟨List.length_set .., fun j hj => List.getElem?_set_ne fun z => hj (by simp [z])⟩ (by simp), by rw [List.getElem?_set_self (by rw [wl]; exact ht)], by rw [List.length_set, wl]; exact ha⟩
  rintro c m H2 ⟨rfl, (⟨rfl, o, rfl, ob⟩ | ⟨rfl, o, rfl, ob⟩ | ⟨rfl, o, rfl, ob⟩)⟩
  · refine .inr ⟨⟨_, _, sq o, rfl⟩, fun H => ∃ o, H = upd T0 Dd o ∧ obI w Dd (foI (ks.take (0 + l0.length))) o, fun H' h => ⟨1, by decide, rfl, .inr (.inl ⟨rfl, h⟩)⟩, ?_⟩
    rintro x H' ⟨rfl, hy⟩
    cases (Option.some.inj (hy _ (sq o)))
    obtain ⟨z1, z2, z3⟩ := step (.ref d0)
    exact ⟨z1, keys_in p.K hD t0 hk0 hl z2 z3 rfl ob fun o' h' => ⟨o', rfl, h'⟩⟩
  · refine .inr ⟨⟨_, _, sq o, rfl⟩, fun H => ∃ o, H = upd T0 Dd o ∧ obI w Dd (foI (ks.take (l0.length + l1.length))) o, fun H' h => ⟨0, by decide, rfl, .inr (.inr ⟨rfl, h⟩)⟩, ?_⟩
    rintro x H' ⟨rfl, hy⟩
    cases (Option.some.inj (hy _ (sq o)))
    obtain ⟨z1, z2, z3⟩ := step (.ref d1)
    exact ⟨z1, keys_in p.K hD t1 hk1 hl z2 z3 rfl (by rw [← Nat.zero_add l0.length]; exact ob) fun o' h' => ⟨o', rfl, h'⟩⟩
  · refine .inl ⟨⟨_, sq o, Nat.le_refl _⟩, ?_⟩
    rw [hlen, List.take_length] at ob
    have g2 : Gr F T0 F (upd T0 Dd o) := Gr.new0 g1.fh hD _
    refine obI_sort (K := p.K) (F := F) ob upd_same (Nat.le_trans (foI_len _) (Nat.le_of_lt hl)) fun vs rv b hb => ?_
    have g3 : Gr F (upd T0 Dd o) F (upd (upd T0 Dd o) b (.lst vs)) := Gr.new0 g2.fh hb _
    have g := (g1.trans g2).trans g3
    refine k _ b F _ n (s.gr g) g.gp (.lst upd_same rv) (g2.fh.free hb) ?_ q
    cases z : H b with
    | none => rfl
    | some o' => rw [(g1.trans g2).h _ _ z] at hb; cases hb
end
end RR
namespace RR
open PySem PySem.Spec L2
open PyProof.Rows hiding St
theorem Lkd.other {i : Nat} {σ : St} {H : Hp} {d : Addr} {u : HO} (l : Lkd i σ H) (hd : H d = some u) (mu : Mut (some u)) (od : Obj) : Lkd i σ (upd H d (.frz od u)) := by
  obtain ⟨d', o, kvs, e, h⟩ := l
  refine ⟨d', o, kvs, e, ?_⟩
  rw [upd_ne fun z => ?_]
  · exact h
  · subst z
    rw [hd] at h
    cases h
    exact mu
theorem fKeys2 {X : Cx} {p : Pm} {O : List Nat} {i j t a : Nat} {x y tn an : Str} {q q1 q2 q3 q4 q5 q6 q7 pos spos : Pos} {kk : Nat} {scope : Scope} {is is1 : List Nat} {ma : MA} {mg mg1 : MG} {me : ME} (hK : p.K = X.K) (hc : X.calm = true) (hN : X.N.Nodup) (hta : t ≠ a) (hi : i ∉ O) (hj : j ∉ O) (hgl : Gl X "sorted") (hm : X.mg "sorted" = none)
    (hx : RA X p O [.Name x q3, .Name y q4] (tCons (tVar i) (tCons (tVar j) tNil)) ma) (ok : BlkOk X.N X.env.scope scope [(tn, t), (an, a)])
    (hg : ∀ (s : Shared) (H : Hp) (C : Addr) (cl : List (Str × Addr)) (fp : List Addr), RG (X.blk s H scope (compEnvC scope cl C X.env) fp) p O is (.Name tn q2) (gName t) mg)
    (hk : ∀ (s : Shared) (H : Hp) (C : Addr) (cl : List (Str × Addr)) (fp : List Addr), RIK (X.blk s H scope (compEnvC scope cl C X.env) fp) p O (.Name an q6) (.Name tn q7) t (iKeys (tVar t)) (mIKeys t))
    (hg1 : ∀ (s : Shared) (H : Hp) (C : Addr) (cl : List (Str × Addr)) (fp : List Addr), RG (X.blk s H scope (compEnvC scope cl C X.env) fp) p O is1 (.Name an q6) (gName a) mg1)
    (he : ∀ (s : Shared) (H : Hp) (C : Addr) (cl : List (Str × Addr)) (fp : List Addr), RE (X.blk s H scope (compEnvC scope cl C X.env) fp) p O (.Name an q1) (tVar a) me)
    (hs : ∀ x', foldedSetIterable (.Tuple [.Name x q3, .Name y q4] kk q5) X.env x' = pure x' := by intro _; rfl) (hs1 : ∀ (env : Env) x', foldedSetIterable (.Name tn q7) env x' = pure x' := by intro _ _; rfl)
    (h1 : starEach [setE (.Name an q1) (.Name tn q2) (.Tuple [.Name x q3, .Name y q4] kk q5) (.Name an q6) (.Name tn q7) [] [] scope pos] X.env = (false, eval (setE (.Name an q1) (.Name tn q2) (.Tuple [.Name x q3, .Name y q4] kk q5) (.Name an q6) (.Name tn q7) [] [] scope pos) X.env) :: starEach [] X.env := by rfl) (hpl : (backTo spos (starEach [] X.env)).any (·.1) = false := by rfl) :
    RF X p O (.Call (.Name "sorted" q) [setE (.Name an q1) (.Name tn q2) (.Tuple [.Name x q3, .Name y q4] kk q5) (.Name an q6) (.Name tn q7) [] [] scope pos] [] spos) (tOrE (tLockE (tOrE (tLockE (tKeys2 X.K X.w i j t a)) (tKeys2 X.K X.w i j t a))) (tOrE (tLockE (tKeys2 X.K X.w i j t a)) (tKeys2 X.K X.w i j t a))) (mKeys2 i j t a) := by
  have h : PE X (.Call (.Name "sorted" q) [setE (.Name an q1) (.Name tn q2) (.Tuple [.Name x q3, .Name y q4] kk q5) (.Name an q6) (.Name tn q7) [] [] scope pos] [] spos) (tKeys2 X.K X.w i j t a) :=
    pe_callB (cr_sortedSet hc) hgl hm (by decide +kernel) (pa_cons (pe_sc2 (own := [(tn, t), (an, a)]) (vj := [a]) skI_new (fun s H en fp => mt_sadd (X := X.blk s H scope en fp)) hc hN (pi_tup (pe_tup hx.pa)) ok (by simp) (fun s H C cl fp => (hg s H C cl fp).pg) (fun _ _ _ _ _ => pts_nil) (fun s H C cl fp => (hk s H C cl fp).pi) (fun s H C cl fp => (hg1 s H C cl fp).pg) (fun _ _ _ _ _ => pts_nil) (fun s H C cl fp => (he s H C cl fp).pe) hs hs1) pa_nil h1) (by decide) (by decide) h1 hpl
  refine ⟨pe_or (pe_lock (pe_or (pe_lock h) h)) (pe_or (pe_lock h) h), ?_⟩
  refine lf_lock i (t := tOrE (tLockE fun σ H Q => Lkd i σ H → tKeys2 X.K X.w i j t a σ H Q) fun σ H Q => Lkd i σ H → tKeys2 X.K X.w i j t a σ H Q)
    (lf_lock j (t := fun σ H Q => Lkd i σ H → Lkd j σ H → tKeys2 X.K X.w i j t a σ H Q) (hK ▸ lf_keys2 hta hi hj) (fun Γ n Q ⟨_, es, _, _, e, _⟩ => ⟨es, e⟩) hj fun σ H Q l z k => z k l) (fun Γ n Q ⟨ds, _, _, e, _⟩ => ⟨ds, e⟩) hi fun σ H Q l z => ?_
  rcases z with ⟨d, u, hd, mu, hw⟩ | z
  · exact .inl ⟨d, u, hd, mu, fun od => hw od (l.other hd mu od)⟩
  · exact .inr (z l)
end RR
end
section
namespace RR
open PySem PySem.Spec L2
open PyProof.Rows hiding St
@[reducible] def mGet1 (mo me : ME) : ME := fun Γ n Q => mo Γ n fun x n1 => ∃ kvs, x = .dict kvs ∧ me Γ n1 fun y n2 => isKey y = true ∧ Q ((dLook kvs y).getD .none) n2
section
variable {X : Cx} {p : Pm} {O : List Nat} {o e : Expr} {to te : TE} {mo me : ME} {apos cpos : Pos}
theorem le_get1 (ho : LE p O to mo) (he : LE p O te me) : LE p O (tDGet1 to te) (mGet1 mo me) := fun F0 H0 F H σ Γ n Q s q Q' k =>
  ho F0 H0 F H σ Γ n _ s q _ fun dx x F1 H1 n1 s1 g1 r1 ⟨kvs, ex, q1⟩ => by
    subst ex
    obtain ⟨a, rfl, hd⟩ := r1.isD s1.fh
    refine ⟨a, rfl, hd, ?_⟩
    refine he F0 H0 F1 H1 σ Γ n1 _ s1 q1 _ fun dy y F2 H2 n2 s2 g2 r2 ⟨hk, q2⟩ => ?_
    have rd := r1.mono g2.f
    obtain ⟨b, o, e1, g, w⟩ := dct_get rd hk r2
    cases e1
    refine ⟨o, ?_, ?_⟩
    · rcases g with ⟨k1, k2, z1, z2, z3⟩ | ⟨k1, k2, k3, z1, z2, z3, z4⟩
      · exact .inl ⟨k1, k2, Same.rd s2.fh z1, z2, z3⟩
      · exact .inr ⟨k1, k2, k3, Same.rd s2.fh z1, z2, s2.fh _ _ z3, z4⟩
    · refine k _ _ F2 H2 n2 s2 (g1.trans g2) ?_ q2
      split at w
      · rename_i d e1
        obtain ⟨v, rfl, rv⟩ := w
        rw [e1]; exact rv
      · rename_i e1
        rw [w, e1]; exact .non
theorem eGet1 (hu : X.A.units + 1 < cLine) (ho : RE X p O o to mo) (he : RE X p O e te me) (m : M1 X o "get" apos e cpos) : RE X p O (.Call (.Attribute o "get" apos) [e] [] cpos) (tDGet1 to te) (mGet1 mo me) :=
  ⟨pe_dget1 hu ho.pe he.pe m, le_get1 ho.le he.le⟩
end
end RR
namespace RR
open PySem PySem.Spec L2
open PyProof.Rows hiding St
def cLenA : List D → Option D
  | [.dict kvs] => some (.int kvs.length)
  | xs => cLen xs
def rLenA (K : PySem.W.Frag) : List V → Hp → VK → Prop := fun xs H Q => rLen K xs H Q ∨ ∃ (a : Addr) (kvs : List (Key × V)), xs = [.ref a] ∧ Rd H a (.dK kvs) ∧ Q (.int kvs.length) H
theorem fnLenA {X : Cx} {K : PySem.W.Frag} (hK : K = X.K) : CallR X (.builtin "len") (rLenA K) := fun pins s σ H xs us Q I r h => by
  rcases h with h | ⟨a, kvs, rfl, hd, q⟩
  · exact fnLen hK pins s σ H xs us Q I r h
  · rw [Vals.ref1 r]
    exact d_len I hd fun t s' I' => ⟨.int kvs.length, H, I', ⟨t, rfl⟩, q⟩
theorem l_lenA {K : PySem.W.Frag} : ClL K (rLenA K) cLenA := fun F H xs ds d s r fe Q' k => by
  unfold cLenA at fe
  split at fe
  · rename_i kvs
    cases fe
    obtain ⟨v, w, rfl, r1, r2⟩ := r.uncons
    cases r2.unnil
    cases r1 with
    | dct h1 h2 h3 =>
      refine .inr ⟨_, _, rfl, Same.rd s h1, ?_⟩
      have e := keys_len h2
      exact k _ F H (.refl s) (by rw [e]; exact .int _)
  · exact .inl (l_len F H xs ds d s r fe Q' k)
end RR
end
section
namespace RR
open PySem PySem.Spec L2
open PyProof.Rows hiding St
end RR
end
section
namespace RR
open PySem PySem.Spec L2
open PyProof.Rows hiding St
section
variable {mk mv : ME} {ek ev : VE}
def vPutI (i : Nat) (ek ev : VE) : VS := fun Γ => (ev Γ).bind fun d => (listAt i Γ).bind fun ds => (ek Γ).bind fun kd => match kd with
  | .int k => (ixN ds.length k).bind fun j => some (.nx (Γ.set i (some (.list (ds.set j d)))))
  | _ => none
theorem f_PutI {i : Nat} (hk : FE mk ek) (hv : FE mv ev) : FS (mPutI i mk mv) (vPutI i ek ev) := fun Γ n r E e q => by
  obtain ⟨d, h1, e⟩ := bnd e
  obtain ⟨ds, h2, e⟩ := bnd e
  obtain ⟨kd, h3, e⟩ := bnd e
  split at e
  · obtain ⟨j, h4, e⟩ := bnd e
    cases e
    exact hv _ _ _ _ h1 ⟨ds, listAt_eq h2, hk _ _ _ _ h3 ⟨_, j, rfl, h4, q⟩⟩
  · cases e
end
end RR
namespace RR
open PySem PySem.Spec L2
open PyProof.Rows hiding St
def intsOf : List D → Option (List Int)
  | [] => some []
  | .int i :: ds => (intsOf ds).bind fun is => some (i :: is)
  | _ :: _ => none
theorem intsOf_eq : ∀ {ds : List D} {is : List Int}, intsOf ds = some is → ds = is.map PyData.int
  | [], is, h => by cases h; rfl
  | .int i :: ds, is, h => by
    obtain ⟨is', h1, h⟩ := bnd (show (intsOf ds).bind _ = _ from h)
    cases h
    rw [intsOf_eq h1]; rfl
  | .none :: _, _, h => nomatch h
  | .bool _ :: _, _, h => nomatch h
  | .str _ :: _, _, h => nomatch h
  | .list _ :: _, _, h => nomatch h
  | .tuple _ :: _, _, h => nomatch h
  | .dict _ :: _, _, h => nomatch h
def vKeys2 (i j t a : Nat) : VE := fun Γ => (dictAt i Γ).bind fun ds => (dictAt j Γ).bind fun es => (intsOf (ds.map (·.1) ++ es.map (·.1))).bind fun ks => if t < Γ.length ∧ a < Γ.length ∧ ks.length < 60 then some (.list ((foI ks).map PyData.int)) else none
theorem f_Keys2 {i j t a : Nat} : FE (mKeys2 i j t a) (vKeys2 i j t a) := fun Γ n d Q h q => by
  obtain ⟨ds, h1, h⟩ := bnd h
  obtain ⟨es, h2, h⟩ := bnd h
  obtain ⟨ks, h3, h⟩ := bnd h
  obtain ⟨⟨h4, h5, h6⟩, rfl⟩ := ifs h
  exact ⟨ds, es, ks, dictAt_eq h1, dictAt_eq h2, h4, h5, intsOf_eq h3, h6, q⟩
end RR
namespace RR
open PySem PySem.Spec L2
open PyProof.Rows hiding St
section
variable {ma mb : ME} {a b : VE}
def vGet1 (a b : VE) : VE := fun Γ => (a Γ).bind fun x => (asDict x).bind fun kvs => (b Γ).bind fun y => if isKey y = true then some ((dLook kvs y).getD .none) else none
theorem f_Get1 (ha : FE ma a) (hb : FE mb b) : FE (mGet1 ma mb) (vGet1 a b) := fun Γ n d Q e q => by
  obtain ⟨x, h1, e⟩ := bnd e
  obtain ⟨xs, h2, e⟩ := bnd e
  obtain ⟨y, h3, e⟩ := bnd e
  obtain ⟨h4, rfl⟩ := ifs e
  exact ha Γ n x _ h1 ⟨xs, asDict_eq h2, hb Γ n y _ h3 ⟨h4, q⟩⟩
end
end RR
end
section
namespace RR
open PySem PySem.Spec L2
open PyProof.Rows hiding St
open PySem.W (dataLe)
def putIn {α : Type} (le : α → α → Bool) (a : α) : List α → List α
  | [] => [a]
  | b :: bs => if le a b = true then a :: b :: bs else b :: putIn le a bs
def sortE {α : Type} (le : α → α → Bool) : List α → List α
  | [] => []
  | a :: as => putIn le a (sortE le as)
theorem putIn_at {α : Type} {le : α → α → Bool} {a : α} : ∀ {l1 l2 : List α}, (∀ b ∈ l1, (!le a b) = true) → (∀ b ∈ l2, le a b = true) → putIn le a (l1 ++ l2) = l1 ++ a :: l2
  | [], [], _, _ => rfl
  | [], b :: l2, _, h => by
    show putIn le a (b :: l2) = a :: b :: l2
    unfold putIn
    rw [if_pos (h b (List.mem_cons_self ..))]
  | b :: l1, l2, h, k => by
    show putIn le a (b :: (l1 ++ l2)) = b :: (l1 ++ a :: l2)
    unfold putIn
    have := h b (List.mem_cons_self ..)
    rw [Bool.not_eq_true'] at this
    rw [this, if_neg (by decide), putIn_at (fun c hc => h c (List.mem_cons_of_mem _ hc)) k]
theorem sortE_eq {α : Type} {le : α → α → Bool} (tr : ∀ a b c, le a b = true → le b c = true → le a c = true) (to : ∀ a b, (le a b || le b a) = true) : ∀ l : List α, l.mergeSort le = sortE le l
  | [] => List.mergeSort_nil
  | a :: l => by
    obtain ⟨l1, l2, e1, e2, e3⟩ := List.mergeSort_cons tr to a l
    have s := List.pairwise_mergeSort tr to (a :: l)
    rw [e1] at s
    have s2 := (List.pairwise_append.mp s).2.1
    rw [e1, sortE, ← sortE_eq tr to l, e2]
    exact (putIn_at e3 (List.pairwise_cons.mp s2).1).symm
theorem sortD_E (xs : List D) : sortD xs = sortE (dataLe false id) xs := by
  have t := PySem.W.sortLe_total (PyProof.Rows.listOrd PyProof.Rows.itemOrd) false fun b : D => PySem.W.keyToks b
  exact sortE_eq t.trans (fun a b => by rw [Bool.or_eq_true]; exact t.total a b) xs
def cSortedE (xs : List D) : Option D := match xs with
  | [.list xs] => if okSort xs = true then some (.list (sortE (dataLe false id) xs)) else none
  | _ => none
theorem cSorted_E : cSorted = cSortedE := by
  funext xs
  unfold cSorted cSortedE
  first
    | (simp only [sortD_E]; done)
    | (simp only [sortD_E]; rfl)
def cSortedKE (xs : List D) : Option D := match xs with
  | [.dict kvs] => if (kvs.all fun q => isKey q.1) = true ∧ okSort (kvs.map (·.1)) = true then some (.list (sortE (dataLe false id) (kvs.map (·.1)))) else none
  | _ => none
theorem cSortedK_E : cSortedK = cSortedKE := by
  funext xs
  unfold cSortedK cSortedKE
  first
    | (simp only [sortD_E]; done)
    | (simp only [sortD_E]; rfl)
theorem f_ClE {f g : List D → Option D} {ma : MA} {va : VA} (e : f = g) (h : FA ma va) : FE (mCl f ma) (vCl g va) := e ▸ f_Cl h
end RR
end
section
namespace RC
open PySem PySem.Spec L2 RR
open PyProof.Rows hiding St
def c_WORDS : D := (.tuple [(.str "plain"), (.str "stop"), (.str "jump"), (.str "branch"), (.str "far"), (.str "island"), (.str "load"), (.str "word")])
def c_LEAPS : D := (.tuple [(.str "jump"), (.str "branch"), (.str "far"), (.str "island")])
def c_HIGHEST_ADDRESS : D := (.int 1000000000)
def c_MOST_BYTES : D := (.int 99)
def c_MOST_CELLS : D := (.int 300)
def c_MOST_WRITES : D := (.int 600)
def c_ENDLESS : D := (.int 2000000000)
def b_is_address : MS := (mRet (mCall m_is_within (mCons (mVar 0) (mCons (mC (.int 0)) (mCons (mC c_HIGHEST_ADDRESS) mNil)))))
def m_is_address : MP := mFun ["thing"] 1 b_is_address
def vb_is_address : VS := (vRet (vCall v_is_within (vCons (vVar 0) (vCons (vC (.int 0)) (vCons (vC c_HIGHEST_ADDRESS) vNil)))))
def v_is_address : VP := vFun ["thing"] 1 vb_is_address
theorem fp_is_address : FP m_is_address v_is_address := by
  unfold m_is_address v_is_address b_is_address vb_is_address
  exact f_Fun (f_Ret (f_Call fp_is_within (f_Cons f_Var (f_Cons f_C (f_Cons f_C f_Nil)))))
def b_is_cell : MS := (mSeq (mIfS (mOr (mNot (mTest (mIsi "tuple" (mVar 0)))) (mTest (mOp dNe (mCl cLen (mCons (mVar 0) mNil)) (mC (.int 3))))) (mRet (mC (.bool false))) mNext) (mSeq (mAsg (mVar 0) (mgTup 3 (mgCons (mgName 1) (mgCons (mgName 2) (mgCons (mgName 3) mgNil))))) (mSeq (mIfS (mOr (mTest (mOp dNotIn (mVar 1) (mC c_WORDS))) (mNot (mTest (mCall m_is_within (mCons (mVar 2) (mCons (mC (.int 1)) (mCons (mC c_MOST_BYTES) mNil))))))) (mRet (mC (.bool false))) mNext) (mSeq (mIfS (mTest (mOp dIsN (mVar 3) (mC .none))) (mRet (mOp dEq (mVar 1) (mC (.str "island")))) mNext) (mRet (mCall m_is_within (mCons (mVar 3) (mCons (mC (.int 0)) (mCons (mC c_HIGHEST_ADDRESS) mNil)))))))))
def m_is_cell : MP := mFun ["thing", "word", "size", "number"] 1 b_is_cell
def vb_is_cell : VS := (vSeqS (vIfS (vOr (vNot (vTest (vIsi "tuple" (vVar 0)))) (vTest (vOp dNe (vCl cLen (vCons (vVar 0) vNil)) (vC (.int 3))))) (vRet (vC (.bool false))) vNext) (vSeqS (vAsg (vVar 0) (vgTup 3 (vgCons (vgName 1) (vgCons (vgName 2) (vgCons (vgName 3) vgNil))))) (vSeqS (vIfS (vOr (vTest (vOp dNotIn (vVar 1) (vC c_WORDS))) (vNot (vTest (vCall v_is_within (vCons (vVar 2) (vCons (vC (.int 1)) (vCons (vC c_MOST_BYTES) vNil))))))) (vRet (vC (.bool false))) vNext) (vSeqS (vIfS (vTest (vOp dIsN (vVar 3) (vC .none))) (vRet (vOp dEq (vVar 1) (vC (.str "island")))) vNext) (vRet (vCall v_is_within (vCons (vVar 3) (vCons (vC (.int 0)) (vCons (vC c_HIGHEST_ADDRESS) vNil)))))))))
def v_is_cell : VP := vFun ["thing", "word", "size", "number"] 1 vb_is_cell
theorem fp_is_cell : FP m_is_cell v_is_cell := by
  unfold m_is_cell v_is_cell b_is_cell vb_is_cell
  exact f_Fun (f_Seq (f_IfS (f_Or (f_Not (f_Test (f_Isi f_Var))) (f_Test (f_Op (f_Cl (f_Cons f_Var f_Nil)) f_C))) (f_Ret f_C) f_Next) (f_Seq (f_Asg f_Var (f_gTup (f_gCons f_gName (f_gCons f_gName (f_gCons f_gName f_gNil))))) (f_Seq (f_IfS (f_Or (f_Test (f_Op f_Var f_C)) (f_Not (f_Test (f_Call fp_is_within (f_Cons f_Var (f_Cons f_C (f_Cons f_C f_Nil))))))) (f_Ret f_C) f_Next) (f_Seq (f_IfS (f_Test (f_Op f_Var f_C)) (f_Ret (f_Op f_Var f_C)) f_Next) (f_Ret (f_Call fp_is_within (f_Cons f_Var (f_Cons f_C (f_Cons f_C f_Nil)))))))))
def b_is_image : MS := (mSeq (mIfS (mOr (mNot (mTest (mIsi "dict" (mVar 0)))) (mTest (mOp dGt (mCl cLenA (mCons (mVar 0) mNil)) (mC c_MOST_CELLS)))) (mRet (mC (.bool false))) mNext) (mRet (mCl cAll (mCons (mLc (mIItems 0) (mgTup 2 (mgCons (mgName 1) (mgCons (mgName 2) mgNil))) mYes (mAndV (mCall m_is_address (mCons (mVar 1) mNil)) (mCall m_is_cell (mCons (mVar 2) mNil))) [1, 2]) mNil))))
def m_is_image : MP := mFun ["thing", "address", "cell"] 1 b_is_image
def vb_is_image : VS := (vSeqS (vIfS (vOr (vNot (vTest (vIsi "dict" (vVar 0)))) (vTest (vOp dGt (vCl cLenA (vCons (vVar 0) vNil)) (vC c_MOST_CELLS)))) (vRet (vC (.bool false))) vNext) (vRet (vCl cAll (vCons (vLc (vIItems 0) (vgTup 2 (vgCons (vgName 1) (vgCons (vgName 2) vgNil))) vYes (vAndV (vCall v_is_address (vCons (vVar 1) vNil)) (vCall v_is_cell (vCons (vVar 2) vNil))) [1, 2]) vNil))))
def v_is_image : VP := vFun ["thing", "address", "cell"] 1 vb_is_image
theorem fp_is_image : FP m_is_image v_is_image := by
  unfold m_is_image v_is_image b_is_image vb_is_image
  exact f_Fun (f_Seq (f_IfS (f_Or (f_Not (f_Test (f_Isi f_Var))) (f_Test (f_Op (f_Cl (f_Cons f_Var f_Nil)) f_C))) (f_Ret f_C) f_Next) (f_Ret (f_Cl (f_Cons (f_Lc f_IItems (f_gTup (f_gCons f_gName (f_gCons f_gName f_gNil))) f_Yes (f_AndV (f_Call fp_is_address (f_Cons f_Var f_Nil)) (f_Call fp_is_cell (f_Cons f_Var f_Nil)))) f_Nil))))
def b_check_image : MS := (mIfS (mNot (mTest (mCall m_is_image (mCons (mVar 0) mNil)))) mNever mNext)
def m_check_image : MP := mFun ["table"] 1 b_check_image
def vb_check_image : VS := (vIfS (vNot (vTest (vCall v_is_image (vCons (vVar 0) vNil)))) vNever vNext)
def v_check_image : VP := vFun ["table"] 1 vb_check_image
theorem fp_check_image : FP m_check_image v_check_image := by
  unfold m_check_image v_check_image b_check_image vb_check_image
  exact f_Fun (f_IfS (f_Not (f_Test (f_Call fp_is_image (f_Cons f_Var f_Nil)))) f_Never f_Next)
def b_differences : MS := (mSeq (mSet 2 (mKeys2 0 1 3 4)) (mRet (mLc (mISeq (mVar 2)) (mgName 4) (mTest (mOp dNe (mGet1 (mVar 0) (mVar 4)) (mGet1 (mVar 1) (mVar 4)))) (mTup (mCons (mVar 4) (mCons (mGet1 (mVar 1) (mVar 4)) mNil))) [4])))
def m_differences : MP := mFun ["before", "after", "addresses", "table", "address"] 2 b_differences
def vb_differences : VS := (vSeqS (vSet 2 (vKeys2 0 1 3 4)) (vRet (vLc (vISeq (vVar 2)) (vgName 4) (vTest (vOp dNe (vGet1 (vVar 0) (vVar 4)) (vGet1 (vVar 1) (vVar 4)))) (vTup (vCons (vVar 4) (vCons (vGet1 (vVar 1) (vVar 4)) vNil))) [4])))
def v_differences : VP := vFun ["before", "after", "addresses", "table", "address"] 2 vb_differences
theorem fp_differences : FP m_differences v_differences := by
  unfold m_differences v_differences b_differences vb_differences
  exact f_Fun (f_Seq (f_Set f_Keys2) (f_Ret (f_Lc (f_ISeq f_Var) f_gName (f_Test (f_Op (f_Get1 f_Var f_Var) (f_Get1 f_Var f_Var))) (f_Tup (f_Cons f_Var (f_Cons (f_Get1 f_Var f_Var) f_Nil))))))
def b_joined : MS := (mSeq (mSet 1 (mLst mNil)) (mSeq (mFor (mISeq (mCl cSorted (mCons (mVar 0) mNil))) (mgTup 2 (mgCons (mgName 2) (mgCons (mgName 3) mgNil))) (mIfS (mAnd (mTru (mVar 1)) (mTest (mOp dLe (mVar 2) (mOp dAdd (mOp dIx (mOp dIx (mVar 1) (mUn dNeg (mC (.int 1)))) (mC (.int 1))) (mC (.int 1)))))) (mPutI 1 (mUn dNeg (mC (.int 1))) (mTup (mCons (mLook (mOp dIx (mOp dIx (mVar 1) (mUn dNeg (mC (.int 1)))) (mC (.int 0)))) (mCons (mLook (mCl cMax2 (mCons (mOp dIx (mOp dIx (mVar 1) (mUn dNeg (mC (.int 1)))) (mC (.int 1))) (mCons (mVar 3) mNil)))) mNil)))) (mAppend 1 (mTup (mCons (mVar 2) (mCons (mVar 3) mNil)))))) (mRet (mVar 1))))
def m_joined : MP := mFun ["spans", "ranges", "first", "last"] 1 b_joined
def vb_joined : VS := (vSeqS (vSet 1 (vLst vNil)) (vSeqS (vFor (vISeq (vCl cSortedE (vCons (vVar 0) vNil))) (vgTup 2 (vgCons (vgName 2) (vgCons (vgName 3) vgNil))) (vIfS (vAnd (vTru (vVar 1)) (vTest (vOp dLe (vVar 2) (vOp dAdd (vOp dIx (vOp dIx (vVar 1) (vUn dNeg (vC (.int 1)))) (vC (.int 1))) (vC (.int 1)))))) (vPutI 1 (vUn dNeg (vC (.int 1))) (vTup (vCons (vLook (vOp dIx (vOp dIx (vVar 1) (vUn dNeg (vC (.int 1)))) (vC (.int 0)))) (vCons (vLook (vCl cMax2 (vCons (vOp dIx (vOp dIx (vVar 1) (vUn dNeg (vC (.int 1)))) (vC (.int 1))) (vCons (vVar 3) vNil)))) vNil)))) (vAppend 1 (vTup (vCons (vVar 2) (vCons (vVar 3) vNil)))))) (vRet (vVar 1))))
def v_joined : VP := vFun ["spans", "ranges", "first", "last"] 1 vb_joined
theorem fp_joined : FP m_joined v_joined := by
  unfold m_joined v_joined b_joined vb_joined
  exact f_Fun (f_Seq (f_Set (f_Lst f_Nil)) (f_Seq (f_For (f_ISeq (f_ClE cSorted_E (f_Cons f_Var f_Nil))) (f_gTup (f_gCons f_gName (f_gCons f_gName f_gNil))) (f_IfS (f_And (f_Tru f_Var) (f_Test (f_Op f_Var (f_Op (f_Op (f_Op f_Var (f_Un f_C)) f_C) f_C)))) (f_PutI (f_Un f_C) (f_Tup (f_Cons (f_Look (f_Op (f_Op f_Var (f_Un f_C)) f_C)) (f_Cons (f_Look (f_Cl (f_Cons (f_Op (f_Op f_Var (f_Un f_C)) f_C) (f_Cons f_Var f_Nil)))) f_Nil)))) (f_Append (f_Tup (f_Cons f_Var (f_Cons f_Var f_Nil)))))) (f_Ret f_Var)))
def b_first_at : MS := (mSeq (mSet 2 (mC (.int 0))) (mSeq (mSet 3 (mCl cLen (mCons (mVar 0) mNil))) (mSeq (mWhile (mTest (mOp dLt (mVar 2) (mVar 3))) (mSeq (mSet 4 (mOp dDiv (mOp dAdd (mVar 2) (mVar 3)) (mC (.int 2)))) (mIfS (mTest (mOp dLt (mOp dIx (mVar 0) (mVar 4)) (mVar 1))) (mSet 2 (mOp dAdd (mVar 4) (mC (.int 1)))) (mSet 3 (mVar 4))))) (mRet (mIf (mTest (mOp dLt (mVar 2) (mCl cLen (mCons (mVar 0) mNil)))) (mOp dIx (mVar 0) (mVar 2)) (mC .none))))))
def m_first_at : MP := mFun ["addresses", "where", "low", "high", "middle"] 2 b_first_at
def vb_first_at : VS := (vSeqS (vSet 2 (vC (.int 0))) (vSeqS (vSet 3 (vCl cLen (vCons (vVar 0) vNil))) (vSeqS (vWhile (vTest (vOp dLt (vVar 2) (vVar 3))) (vSeqS (vSet 4 (vOp dDiv (vOp dAdd (vVar 2) (vVar 3)) (vC (.int 2)))) (vIfS (vTest (vOp dLt (vOp dIx (vVar 0) (vVar 4)) (vVar 1))) (vSet 2 (vOp dAdd (vVar 4) (vC (.int 1)))) (vSet 3 (vVar 4))))) (vRet (vIf (vTest (vOp dLt (vVar 2) (vCl cLen (vCons (vVar 0) vNil)))) (vOp dIx (vVar 0) (vVar 2)) (vC .none))))))
def v_first_at : VP := vFun ["addresses", "where", "low", "high", "middle"] 2 vb_first_at
theorem fp_first_at : FP m_first_at v_first_at := by
  unfold m_first_at v_first_at b_first_at vb_first_at
  exact f_Fun (f_Seq (f_Set f_C) (f_Seq (f_Set (f_Cl (f_Cons f_Var f_Nil))) (f_Seq (f_While (f_Test (f_Op f_Var f_Var)) (f_Seq (f_Set (f_Op (f_Op f_Var f_Var) f_C)) (f_IfS (f_Test (f_Op (f_Op f_Var f_Var) f_Var)) (f_Set (f_Op f_Var f_C)) (f_Set f_Var)))) (f_Ret (f_If (f_Test (f_Op f_Var (f_Cl (f_Cons f_Var f_Nil)))) (f_Op f_Var f_Var) f_C)))))
def b_is_word : MS := (mRet (mAndV (mOp dIn (mVar 1) (mVar 0)) (mOp dEq (mOp dIx (mOp dIx (mVar 0) (mVar 1)) (mC (.int 0))) (mC (.str "word")))))
def m_is_word : MP := mFun ["table", "address"] 2 b_is_word
def vb_is_word : VS := (vRet (vAndV (vOp dIn (vVar 1) (vVar 0)) (vOp dEq (vOp dIx (vOp dIx (vVar 0) (vVar 1)) (vC (.int 0))) (vC (.str "word")))))
def v_is_word : VP := vFun ["table", "address"] 2 vb_is_word
theorem fp_is_word : FP m_is_word v_is_word := by
  unfold m_is_word v_is_word b_is_word vb_is_word
  exact f_Fun (f_Ret (f_AndV (f_Op f_Var f_Var) (f_Op (f_Op (f_Op f_Var f_Var) f_C) f_C)))
def b_onward : MS := (mSeq (mAsg (mOp dIx (mVar 0) (mVar 1)) (mgTup 3 (mgCons (mgName 2) (mgCons (mgName 3) (mgCons (mgName 4) mgNil))))) (mSeq (mIfS (mAnd (mTest (mOp dEq (mVar 2) (mC (.str "load")))) (mNot (mTest (mCall m_is_word (mCons (mVar 0) (mCons (mVar 4) mNil)))))) (mRet (mLst mNil)) mNext) (mSeq (mSet 5 (mLst mNil)) (mSeq (mIfS (mTest (mOp dIn (mVar 2) (mTup (mCons (mC (.str "plain")) (mCons (mC (.str "branch")) (mCons (mC (.str "load")) mNil)))))) (mAppend 5 (mOp dAdd (mVar 1) (mVar 3))) mNext) (mSeq (mIfS (mAnd (mTest (mOp dIn (mVar 2) (mC c_LEAPS))) (mTest (mOp dIsNotN (mVar 4) (mC .none)))) (mAppend 5 (mVar 4)) mNext) (mRet (mVar 5)))))))
def m_onward : MP := mFun ["table", "at", "word", "size", "number", "steps"] 2 b_onward
def vb_onward : VS := (vSeqS (vAsg (vOp dIx (vVar 0) (vVar 1)) (vgTup 3 (vgCons (vgName 2) (vgCons (vgName 3) (vgCons (vgName 4) vgNil))))) (vSeqS (vIfS (vAnd (vTest (vOp dEq (vVar 2) (vC (.str "load")))) (vNot (vTest (vCall v_is_word (vCons (vVar 0) (vCons (vVar 4) vNil)))))) (vRet (vLst vNil)) vNext) (vSeqS (vSet 5 (vLst vNil)) (vSeqS (vIfS (vTest (vOp dIn (vVar 2) (vTup (vCons (vC (.str "plain")) (vCons (vC (.str "branch")) (vCons (vC (.str "load")) vNil)))))) (vAppend 5 (vOp dAdd (vVar 1) (vVar 3))) vNext) (vSeqS (vIfS (vAnd (vTest (vOp dIn (vVar 2) (vC c_LEAPS))) (vTest (vOp dIsNotN (vVar 4) (vC .none)))) (vAppend 5 (vVar 4)) vNext) (vRet (vVar 5)))))))
def v_onward : VP := vFun ["table", "at", "word", "size", "number", "steps"] 2 vb_onward
theorem fp_onward : FP m_onward v_onward := by
  unfold m_onward v_onward b_onward vb_onward
  exact f_Fun (f_Seq (f_Asg (f_Op f_Var f_Var) (f_gTup (f_gCons f_gName (f_gCons f_gName (f_gCons f_gName f_gNil))))) (f_Seq (f_IfS (f_And (f_Test (f_Op f_Var f_C)) (f_Not (f_Test (f_Call fp_is_word (f_Cons f_Var (f_Cons f_Var f_Nil)))))) (f_Ret (f_Lst f_Nil)) f_Next) (f_Seq (f_Set (f_Lst f_Nil)) (f_Seq (f_IfS (f_Test (f_Op f_Var (f_Tup (f_Cons f_C (f_Cons f_C (f_Cons f_C f_Nil)))))) (f_Append (f_Op f_Var f_Var)) f_Next) (f_Seq (f_IfS (f_And (f_Test (f_Op f_Var f_C)) (f_Test (f_Op f_Var f_C))) (f_Append f_Var) f_Next) (f_Ret f_Var))))))
def b_looked_for : MS := (mSeq (mSet 2 (mCl cSortedK (mCons (mVar 0) mNil))) (mSeq (mSet 3 mDict0) (mSeq (mSet 4 (mLst (mCons (mVar 1) mNil))) (mSeq (mWhile (mTru (mVar 4)) (mSeq (mPop 5 4) (mIfS (mTest (mOp dNotIn (mVar 5) (mVar 3))) (mSeq (mPutK 3 (mVar 5) (mCall m_first_at (mCons (mVar 2) (mCons (mVar 5) mNil)))) (mIfS (mTest (mOp dIsNotN (mOp dIx (mVar 3) (mVar 5)) (mC .none))) (mExtend 4 (mLookL (mCall m_onward (mCons (mVar 0) (mCons (mOp dIx (mVar 3) (mVar 5)) mNil))))) mNext)) mNext))) (mRet (mVar 3))))))
def m_looked_for : MP := mFun ["table", "at", "addresses", "found", "waiting", "where"] 2 b_looked_for
def vb_looked_for : VS := (vSeqS (vSet 2 (vCl cSortedKE (vCons (vVar 0) vNil))) (vSeqS (vSet 3 vDict0) (vSeqS (vSet 4 (vLst (vCons (vVar 1) vNil))) (vSeqS (vWhile (vTru (vVar 4)) (vSeqS (vPop 5 4) (vIfS (vTest (vOp dNotIn (vVar 5) (vVar 3))) (vSeqS (vPutK 3 (vVar 5) (vCall v_first_at (vCons (vVar 2) (vCons (vVar 5) vNil)))) (vIfS (vTest (vOp dIsNotN (vOp dIx (vVar 3) (vVar 5)) (vC .none))) (vExtend 4 (vLookL (vCall v_onward (vCons (vVar 0) (vCons (vOp dIx (vVar 3) (vVar 5)) vNil))))) vNext)) vNext))) (vRet (vVar 3))))))
def v_looked_for : VP := vFun ["table", "at", "addresses", "found", "waiting", "where"] 2 vb_looked_for
theorem fp_looked_for : FP m_looked_for v_looked_for := by
  unfold m_looked_for v_looked_for b_looked_for vb_looked_for
  exact f_Fun (f_Seq (f_Set (f_ClE cSortedK_E (f_Cons f_Var f_Nil))) (f_Seq (f_Set f_Dict0) (f_Seq (f_Set (f_Lst (f_Cons f_Var f_Nil))) (f_Seq (f_While (f_Tru f_Var) (f_Seq f_Pop (f_IfS (f_Test (f_Op f_Var f_Var)) (f_Seq (f_PutK f_Var (f_Call fp_first_at (f_Cons f_Var (f_Cons f_Var f_Nil)))) (f_IfS (f_Test (f_Op (f_Op f_Var f_Var) f_C)) (f_Extend (f_LookL (f_Call fp_onward (f_Cons f_Var (f_Cons (f_Op f_Var f_Var) f_Nil))))) f_Next)) f_Next))) (f_Ret f_Var)))))
def b_ranges_from : MS := (mSeq (mSet 2 (mCall m_looked_for (mCons (mVar 0) (mCons (mVar 1) mNil)))) (mSeq (mSet 3 (mLc (mIItems 2) (mgTup 2 (mgCons (mgName 4) (mgCons (mgName 5) mgNil))) mYes (mTup (mCons (mVar 4) (mCons (mIf (mTest (mOp dIsN (mVar 5) (mC .none))) (mC c_ENDLESS) (mVar 5)) mNil))) [4, 5])) (mSeq (mSet 6 (mLc (mIVals 2) (mgName 5) (mTest (mOp dIsNotN (mVar 5) (mC .none))) (mOp dIx (mVar 0) (mVar 5)) [5])) (mRet (mCall m_joined (mCons (mOp dAdd (mVar 3) (mLc (mISeq (mVar 6)) (mgTup 3 (mgCons (mgName 7) (mgCons (mgName 8) (mgCons (mgName 9) mgNil)))) (mTest (mOp dEq (mVar 7) (mC (.str "load")))) (mTup (mCons (mVar 9) (mCons (mVar 9) mNil))) [7, 8, 9])) mNil))))))
def m_ranges_from : MP := mFun ["table", "at", "found", "spans", "where", "cell", "come_to", "word", "size", "number"] 2 b_ranges_from
def vb_ranges_from : VS := (vSeqS (vSet 2 (vCall v_looked_for (vCons (vVar 0) (vCons (vVar 1) vNil)))) (vSeqS (vSet 3 (vLc (vIItems 2) (vgTup 2 (vgCons (vgName 4) (vgCons (vgName 5) vgNil))) vYes (vTup (vCons (vVar 4) (vCons (vIf (vTest (vOp dIsN (vVar 5) (vC .none))) (vC c_ENDLESS) (vVar 5)) vNil))) [4, 5])) (vSeqS (vSet 6 (vLc (vIVals 2) (vgName 5) (vTest (vOp dIsNotN (vVar 5) (vC .none))) (vOp dIx (vVar 0) (vVar 5)) [5])) (vRet (vCall v_joined (vCons (vOp dAdd (vVar 3) (vLc (vISeq (vVar 6)) (vgTup 3 (vgCons (vgName 7) (vgCons (vgName 8) (vgCons (vgName 9) vgNil)))) (vTest (vOp dEq (vVar 7) (vC (.str "load")))) (vTup (vCons (vVar 9) (vCons (vVar 9) vNil))) [7, 8, 9])) vNil))))))
def v_ranges_from : VP := vFun ["table", "at", "found", "spans", "where", "cell", "come_to", "word", "size", "number"] 2 vb_ranges_from
theorem fp_ranges_from : FP m_ranges_from v_ranges_from := by
  unfold m_ranges_from v_ranges_from b_ranges_from vb_ranges_from
  exact f_Fun (f_Seq (f_Set (f_Call fp_looked_for (f_Cons f_Var (f_Cons f_Var f_Nil)))) (f_Seq (f_Set (f_Lc f_IItems (f_gTup (f_gCons f_gName (f_gCons f_gName f_gNil))) f_Yes (f_Tup (f_Cons f_Var (f_Cons (f_If (f_Test (f_Op f_Var f_C)) f_C f_Var) f_Nil))))) (f_Seq (f_Set (f_Lc f_IVals f_gName (f_Test (f_Op f_Var f_C)) (f_Op f_Var f_Var))) (f_Ret (f_Call fp_joined (f_Cons (f_Op f_Var (f_Lc (f_ISeq f_Var) (f_gTup (f_gCons f_gName (f_gCons f_gName (f_gCons f_gName f_gNil)))) (f_Test (f_Op f_Var f_C)) (f_Tup (f_Cons f_Var (f_Cons f_Var f_Nil))))) f_Nil))))))
def b_depends : MS := (mSeq (mDrop (mCall m_check_image (mCons (mVar 0) mNil))) (mSeq (mDrop (mCall m_check_number (mCons (mVar 1) (mCons (mC c_HIGHEST_ADDRESS) mNil)))) (mRet (mLc (mISeq (mCall m_ranges_from (mCons (mVar 0) (mCons (mVar 1) mNil)))) (mgTup 2 (mgCons (mgName 2) (mgCons (mgName 3) mgNil))) mYes (mTup (mCons (mVar 2) (mCons (mIf (mTest (mOp dEq (mVar 3) (mC c_ENDLESS))) (mC .none) (mVar 3)) mNil))) [2, 3]))))
def m_depends : MP := mFun ["table", "at", "first", "last"] 2 b_depends
def vb_depends : VS := (vSeqS (vDrop (vCall v_check_image (vCons (vVar 0) vNil))) (vSeqS (vDrop (vCall v_check_number (vCons (vVar 1) (vCons (vC c_HIGHEST_ADDRESS) vNil)))) (vRet (vLc (vISeq (vCall v_ranges_from (vCons (vVar 0) (vCons (vVar 1) vNil)))) (vgTup 2 (vgCons (vgName 2) (vgCons (vgName 3) vgNil))) vYes (vTup (vCons (vVar 2) (vCons (vIf (vTest (vOp dEq (vVar 3) (vC c_ENDLESS))) (vC .none) (vVar 3)) vNil))) [2, 3]))))
def v_depends : VP := vFun ["table", "at", "first", "last"] 2 vb_depends
theorem fp_depends : FP m_depends v_depends := by
  unfold m_depends v_depends b_depends vb_depends
  exact f_Fun (f_Seq (f_Drop (f_Call fp_check_image (f_Cons f_Var f_Nil))) (f_Seq (f_Drop (f_Call fp_check_number (f_Cons f_Var (f_Cons f_C f_Nil)))) (f_Ret (f_Lc (f_ISeq (f_Call fp_ranges_from (f_Cons f_Var (f_Cons f_Var f_Nil)))) (f_gTup (f_gCons f_gName (f_gCons f_gName f_gNil))) f_Yes (f_Tup (f_Cons f_Var (f_Cons (f_If (f_Test (f_Op f_Var f_C)) f_C f_Var) f_Nil)))))))
def b_patch : MS := (mSeq (mDrop (mCall m_check_image (mCons (mVar 0) mNil))) (mSeq (mDrop (mCall m_check_image (mCons (mVar 1) mNil))) (mRet (mCall m_differences (mCons (mVar 0) (mCons (mVar 1) mNil))))))
def m_patch : MP := mFun ["before", "after"] 2 b_patch
def vb_patch : VS := (vSeqS (vDrop (vCall v_check_image (vCons (vVar 0) vNil))) (vSeqS (vDrop (vCall v_check_image (vCons (vVar 1) vNil))) (vRet (vCall v_differences (vCons (vVar 0) (vCons (vVar 1) vNil))))))
def v_patch : VP := vFun ["before", "after"] 2 vb_patch
theorem fp_patch : FP m_patch v_patch := by
  unfold m_patch v_patch b_patch vb_patch
  exact f_Fun (f_Seq (f_Drop (f_Call fp_check_image (f_Cons f_Var f_Nil))) (f_Seq (f_Drop (f_Call fp_check_image (f_Cons f_Var f_Nil))) (f_Ret (f_Call fp_differences (f_Cons f_Var (f_Cons f_Var f_Nil))))))
def b_is_write : MS := (mSeq (mIfS (mOr (mNot (mTest (mIsi "tuple" (mVar 0)))) (mOr (mTest (mOp dNe (mCl cLen (mCons (mVar 0) mNil)) (mC (.int 2)))) (mNot (mTest (mCall m_is_address (mCons (mOp dIx (mVar 0) (mC (.int 0))) mNil)))))) (mRet (mC (.bool false))) mNext) (mRet (mOrV (mOp dIsN (mOp dIx (mVar 0) (mC (.int 1))) (mC .none)) (mCall m_is_cell (mCons (mOp dIx (mVar 0) (mC (.int 1))) mNil)))))
def m_is_write : MP := mFun ["thing"] 1 b_is_write
def vb_is_write : VS := (vSeqS (vIfS (vOr (vNot (vTest (vIsi "tuple" (vVar 0)))) (vOr (vTest (vOp dNe (vCl cLen (vCons (vVar 0) vNil)) (vC (.int 2)))) (vNot (vTest (vCall v_is_address (vCons (vOp dIx (vVar 0) (vC (.int 0))) vNil)))))) (vRet (vC (.bool false))) vNext) (vRet (vOrV (vOp dIsN (vOp dIx (vVar 0) (vC (.int 1))) (vC .none)) (vCall v_is_cell (vCons (vOp dIx (vVar 0) (vC (.int 1))) vNil)))))
def v_is_write : VP := vFun ["thing"] 1 vb_is_write
theorem fp_is_write : FP m_is_write v_is_write := by
  unfold m_is_write v_is_write b_is_write vb_is_write
  exact f_Fun (f_Seq (f_IfS (f_Or (f_Not (f_Test (f_Isi f_Var))) (f_Or (f_Test (f_Op (f_Cl (f_Cons f_Var f_Nil)) f_C)) (f_Not (f_Test (f_Call fp_is_address (f_Cons (f_Op f_Var f_C) f_Nil)))))) (f_Ret f_C) f_Next) (f_Ret (f_OrV (f_Op (f_Op f_Var f_C) f_C) (f_Call fp_is_cell (f_Cons (f_Op f_Var f_C) f_Nil)))))
def b_written : MS := (mSeq (mSet 2 (mDictOf (mVar 0))) (mSeq (mFor (mISeq (mVar 1)) (mgTup 2 (mgCons (mgName 3) (mgCons (mgName 4) mgNil))) (mIfS (mTest (mOp dIsN (mVar 4) (mC .none))) (mDPop 2 (mVar 3) (mC .none)) (mPutK 2 (mVar 3) (mVar 4)))) (mRet (mVar 2))))
def m_written : MP := mFun ["table", "writes", "image", "address", "cell"] 2 b_written
def vb_written : VS := (vSeqS (vSet 2 (vDictOf (vVar 0))) (vSeqS (vFor (vISeq (vVar 1)) (vgTup 2 (vgCons (vgName 3) (vgCons (vgName 4) vgNil))) (vIfS (vTest (vOp dIsN (vVar 4) (vC .none))) (vDPop 2 (vVar 3) (vC .none)) (vPutK 2 (vVar 3) (vVar 4)))) (vRet (vVar 2))))
def v_written : VP := vFun ["table", "writes", "image", "address", "cell"] 2 vb_written
theorem fp_written : FP m_written v_written := by
  unfold m_written v_written b_written vb_written
  exact f_Fun (f_Seq (f_Set (f_DictOf f_Var)) (f_Seq (f_For (f_ISeq f_Var) (f_gTup (f_gCons f_gName (f_gCons f_gName f_gNil))) (f_IfS (f_Test (f_Op f_Var f_C)) (f_DPop f_Var f_C) (f_PutK f_Var f_Var))) (f_Ret f_Var)))
def b_check_writes : MS := (mSeq (mIfS (mOr (mNot (mTest (mIsi "list" (mVar 1)))) (mTest (mOp dGt (mCl cLenA (mCons (mVar 1) mNil)) (mC c_MOST_WRITES)))) mNever mNext) (mSeq (mIfS (mNot (mTest (mCl cAll (mCons (mLc (mISeq (mVar 1)) (mgName 2) mYes (mCall m_is_write (mCons (mVar 2) mNil)) [2]) mNil)))) mNever mNext) (mIfS (mTest (mOp dGt (mCl cLenA (mCons (mCall m_written (mCons (mVar 0) (mCons (mVar 1) mNil))) mNil)) (mC c_MOST_CELLS))) mNever mNext)))
def m_check_writes : MP := mFun ["table", "writes", "write"] 2 b_check_writes
def vb_check_writes : VS := (vSeqS (vIfS (vOr (vNot (vTest (vIsi "list" (vVar 1)))) (vTest (vOp dGt (vCl cLenA (vCons (vVar 1) vNil)) (vC c_MOST_WRITES)))) vNever vNext) (vSeqS (vIfS (vNot (vTest (vCl cAll (vCons (vLc (vISeq (vVar 1)) (vgName 2) vYes (vCall v_is_write (vCons (vVar 2) vNil)) [2]) vNil)))) vNever vNext) (vIfS (vTest (vOp dGt (vCl cLenA (vCons (vCall v_written (vCons (vVar 0) (vCons (vVar 1) vNil))) vNil)) (vC c_MOST_CELLS))) vNever vNext)))
def v_check_writes : VP := vFun ["table", "writes", "write"] 2 vb_check_writes
theorem fp_check_writes : FP m_check_writes v_check_writes := by
  unfold m_check_writes v_check_writes b_check_writes vb_check_writes
  exact f_Fun (f_Seq (f_IfS (f_Or (f_Not (f_Test (f_Isi f_Var))) (f_Test (f_Op (f_Cl (f_Cons f_Var f_Nil)) f_C))) f_Never f_Next) (f_Seq (f_IfS (f_Not (f_Test (f_Cl (f_Cons (f_Lc (f_ISeq f_Var) f_gName f_Yes (f_Call fp_is_write (f_Cons f_Var f_Nil))) f_Nil)))) f_Never f_Next) (f_IfS (f_Test (f_Op (f_Cl (f_Cons (f_Call fp_written (f_Cons f_Var (f_Cons f_Var f_Nil))) f_Nil)) f_C)) f_Never f_Next)))
def b_patched : MS := (mSeq (mDrop (mCall m_check_image (mCons (mVar 0) mNil))) (mSeq (mDrop (mCall m_check_writes (mCons (mVar 0) (mCons (mVar 1) mNil)))) (mRet (mCall m_written (mCons (mVar 0) (mCons (mVar 1) mNil))))))
def m_patched : MP := mFun ["table", "writes"] 2 b_patched
def vb_patched : VS := (vSeqS (vDrop (vCall v_check_image (vCons (vVar 0) vNil))) (vSeqS (vDrop (vCall v_check_writes (vCons (vVar 0) (vCons (vVar 1) vNil)))) (vRet (vCall v_written (vCons (vVar 0) (vCons (vVar 1) vNil))))))
def v_patched : VP := vFun ["table", "writes"] 2 vb_patched
theorem fp_patched : FP m_patched v_patched := by
  unfold m_patched v_patched b_patched vb_patched
  exact f_Fun (f_Seq (f_Drop (f_Call fp_check_image (f_Cons f_Var f_Nil))) (f_Seq (f_Drop (f_Call fp_check_writes (f_Cons f_Var (f_Cons f_Var f_Nil)))) (f_Ret (f_Call fp_written (f_Cons f_Var (f_Cons f_Var f_Nil))))))
end RC
end
section
namespace RR
open PySem PySem.Spec L2
open PyProof.Rows hiding St
end RR
end
section
namespace RR
open PySem PySem.Spec L2
open PyProof.Rows hiding St
@[reducible] def mOkS (me : ME) : ME := fun Γ n Q => me Γ n fun d n1 => ∃ z : Str, d = .str z ∧ z.length ≤ 1921 ∧ Q d n1
@[reducible] def mOkI (me : ME) : ME := fun Γ n Q => me Γ n fun d n1 => ∃ i : Int, d = .int i ∧ i.natAbs.log2 < 1920 ∧ Q d n1
inductive RJ (X : Cx) (p : Pm) : List Expr → List TE → MA → Prop
  | nil : RJ X p [] [] mNil
  | str {e : Expr} {te : TE} {me : ME} {es : List Expr} {ts : List TE} {ma : MA} (h : RE X p [] e te me) (r : RJ X p es ts ma) : RJ X p (e :: es) (te :: ts) (mCons (mOkS me) ma)
  | fmt {e : Expr} {te : TE} {me : ME} {pos : Pos} {es : List Expr} {ts : List TE} {ma : MA} (h : RE X p [] e te me) (r : RJ X p es ts ma) : RJ X p (.FormattedValue e (-1) none pos :: es) (tFmt te :: ts) (mCons (mOkI me) ma)
section
variable {X : Cx} {p : Pm} {W : WX} {es : List Expr} {ts : List TE} {ma : MA} {x : Str}
theorem RJ.le (h : RJ X p es ts ma) {F0 H0 : Hp} {σ : St} {Γ : DEnv} : ∀ {F H : Hp} {n : Nat} {acc : Str} {R : List D → Nat → Prop} {Q : Str → Hp → Prop}, Sep p F0 H0 [] F H σ Γ n → ma Γ n R → acc.length + 2000 * es.length ≤ sizeLine →
    (∀ out F' H' n' ds, Sep p F0 H0 [] F' H' σ Γ n' → R ds n' → Q out H') → tJs ts acc σ H Q := by
  induction h with
  | nil => exact fun s q _ k => k _ _ _ _ _ s q
  | str h r ih =>
    intro F H n acc R Q s q hl k
    refine h.le F0 H0 F H σ Γ n _ s q _ fun d v F1 H1 n1 s1 g1 r1 ⟨z, ez, hz, q1⟩ => ?_
    subst ez
    cases r1.str_inv
    rw [List.length_cons] at hl
    have hz2 : (acc ++ z).length = acc.length + z.length := Str.length_append ..
    refine ⟨z, rfl, by omega, ih s1 q1 (by omega) fun out F' H' n' ds s' hr => k out F' H' n' _ s' hr⟩
  | fmt h r ih =>
    intro F H n acc R Q s q hl k
    refine h.le F0 H0 F H σ Γ n _ s q _ fun d v F1 H1 n1 s1 g1 r1 ⟨i, ez, hz, q1⟩ => ?_
    subst ez
    cases r1.int_inv
    rw [List.length_cons] at hl
    have hi : (Str.ofString (toString i)).length ≤ 1921 := PyProof.Rows.int_text_len_1921 hz
    have hz2 : (acc ++ Str.ofString (toString i)).length = acc.length + (Str.ofString (toString i)).length := Str.length_append ..
    exact .inr ⟨i, rfl, hz, Str.ofString (toString i), rfl, by omega, ih s1 q1 (by omega) fun out F' H' n' ds s' hr => k out F' H' n' _ s' hr⟩
end
end RR
end
section
namespace RR
open PySem PySem.Spec L2
open PyProof.Rows hiding St
end RR
end
section
namespace RR
open PySem PySem.Spec L2
open PyProof.Rows hiding St
inductive Rx
  | nx (Γ : DEnv)
  | rt (d : D)
  | xc (x : Str)
def Rx.to (E : EX) (n : Nat) : Rx → Prop
  | .nx Γ => E.nx Γ n
  | .rt d => E.rt d n
  | .xc x => E.xc x
end RR
end
section
namespace RC
open PySem PySem.Spec L2 RR
open PyProof.Rows hiding St
def b_sublists : MS := (mRet (mLc2 (mIR1 (mCons (mOp dAdd (mCl cLen (mCons (mVar 0) mNil)) (mC (.int 1))) mNil)) (mgName 1) mYes (mICb (mCons (mVar 0) (mCons (mVar 1) mNil))) (mgName 2) mYes (mCl cList (mCons (mVar 2) mNil)) [1, 2] [2]))
def m_sublists : MP := mFun ["members", "many", "some"] 1 b_sublists
def vb_sublists : VS := (vRet (vLc2 (vIR1 (vCons (vOp dAdd (vCl cLen (vCons (vVar 0) vNil)) (vC (.int 1))) vNil)) (vgName 1) vYes (vICb (vCons (vVar 0) (vCons (vVar 1) vNil))) (vgName 2) vYes (vCl cList (vCons (vVar 2) vNil)) [1, 2] [2]))
def v_sublists : VP := vFun ["members", "many", "some"] 1 vb_sublists
theorem fp_sublists : FP m_sublists v_sublists := by
  unfold m_sublists v_sublists b_sublists vb_sublists
  exact f_Fun (f_Ret (f_Lc2 (f_IR1 (f_Cons (f_Op (f_Cl (f_Cons f_Var f_Nil)) f_C) f_Nil)) f_gName f_Yes (f_ICb (f_Cons f_Var (f_Cons f_Var f_Nil))) f_gName f_Yes (f_Cl (f_Cons f_Var f_Nil))))
end RC
end
section
namespace RR
open PySem PySem.Spec L2
open PyProof.Rows hiding St
end RR
end
section
namespace RC
open PySem PySem.Spec L2 RR
open PyProof.Rows hiding St
def c_MOST_TRIED : D := (.int 6)
def b_is_forms_v2 : MS := (mSeq (mIfS (mOr (mNot (mTest (mIsi "list" (mVar 1)))) (mNot (mTest (mCl cAll (mCons (mLc (mISeq (mVar 1)) (mgName 2) mYes (mCall m_is_jump_row (mCons (mVar 0) (mCons (mVar 2) mNil))) [2]) mNil))))) (mRet (mC (.bool false))) mNext) (mRet (mCall m_is_ascending_v2 (mCons (mVar 1) mNil))))
def m_is_forms_v2 : MP := mFun ["part", "thing", "row"] 2 b_is_forms_v2
def vb_is_forms_v2 : VS := (vSeqS (vIfS (vOr (vNot (vTest (vIsi "list" (vVar 1)))) (vNot (vTest (vCl cAll (vCons (vLc (vISeq (vVar 1)) (vgName 2) vYes (vCall v_is_jump_row (vCons (vVar 0) (vCons (vVar 2) vNil))) [2]) vNil))))) (vRet (vC (.bool false))) vNext) (vRet (vCall v_is_ascending_v2 (vCons (vVar 1) vNil))))
def v_is_forms_v2 : VP := vFun ["part", "thing", "row"] 2 vb_is_forms_v2
theorem fp_is_forms_v2 : FP m_is_forms_v2 v_is_forms_v2 := by
  unfold m_is_forms_v2 v_is_forms_v2 b_is_forms_v2 vb_is_forms_v2
  exact f_Fun (f_Seq (f_IfS (f_Or (f_Not (f_Test (f_Isi f_Var))) (f_Not (f_Test (f_Cl (f_Cons (f_Lc (f_ISeq f_Var) f_gName f_Yes (f_Call fp_is_jump_row (f_Cons f_Var (f_Cons f_Var f_Nil)))) f_Nil))))) (f_Ret f_C) f_Next) (f_Ret (f_Call fp_is_ascending_v2 (f_Cons f_Var f_Nil))))
def b_least_forms : MS := (mSeq (mSet 2 (mLc (mISeq (mCall m_sublists (mCons (mCall m_jump_rows (mCons (mVar 0) mNil)) mNil))) (mgName 3) (mNot (mTru (mCall m_unfit_rows (mCons (mVar 0) (mCons (mVar 1) (mCons (mVar 3) mNil)))))) (mVar 3) [3])) (mRet (mOp dIx (mCl cMinD (mCons (mLc (mISeq (mVar 2)) (mgName 3) mYes (mTup (mCons (mCall m_size_of (mCons (mVar 0) (mCons (mVar 1) (mCons (mVar 3) mNil)))) (mCons (mUn dNeg (mCl cLen (mCons (mVar 3) mNil))) (mCons (mVar 3) mNil)))) [3]) mNil)) (mC (.int 2)))))
def m_least_forms : MP := mFun ["part", "machine", "fitting", "forms"] 2 b_least_forms
def vb_least_forms : VS := (vSeqS (vSet 2 (vLc (vISeq (vCall v_sublists (vCons (vCall v_jump_rows (vCons (vVar 0) vNil)) vNil))) (vgName 3) (vNot (vTru (vCall v_unfit_rows (vCons (vVar 0) (vCons (vVar 1) (vCons (vVar 3) vNil)))))) (vVar 3) [3])) (vRet (vOp dIx (vCl cMinD (vCons (vLc (vISeq (vVar 2)) (vgName 3) vYes (vTup (vCons (vCall v_size_of (vCons (vVar 0) (vCons (vVar 1) (vCons (vVar 3) vNil)))) (vCons (vUn dNeg (vCl cLen (vCons (vVar 3) vNil))) (vCons (vVar 3) vNil)))) [3]) vNil)) (vC (.int 2)))))
def v_least_forms : VP := vFun ["part", "machine", "fitting", "forms"] 2 vb_least_forms
theorem fp_least_forms : FP m_least_forms v_least_forms := by
  unfold m_least_forms v_least_forms b_least_forms vb_least_forms
  exact f_Fun (f_Seq (f_Set (f_Lc (f_ISeq (f_Call fp_sublists (f_Cons (f_Call fp_jump_rows (f_Cons f_Var f_Nil)) f_Nil))) f_gName (f_Not (f_Tru (f_Call fp_unfit_rows (f_Cons f_Var (f_Cons f_Var (f_Cons f_Var f_Nil)))))) f_Var)) (f_Ret (f_Op (f_Cl (f_Cons (f_Lc (f_ISeq f_Var) f_gName f_Yes (f_Tup (f_Cons (f_Call fp_size_of (f_Cons f_Var (f_Cons f_Var (f_Cons f_Var f_Nil)))) (f_Cons (f_Un (f_Cl (f_Cons f_Var f_Nil))) (f_Cons f_Var f_Nil))))) f_Nil)) f_C)))
def b_laid_forms : MS := (mSeq (mIfS (mTest (mCall m_is_even (mCons (mVar 0) mNil))) (mRet (mOp dIx (mCall m_growth (mCons (mVar 0) (mCons (mVar 1) mNil))) (mC (.int 0)))) mNext) (mRet (mCall m_least_forms (mCons (mVar 0) (mCons (mVar 1) mNil)))))
def m_laid_forms : MP := mFun ["part", "machine"] 2 b_laid_forms
def vb_laid_forms : VS := (vSeqS (vIfS (vTest (vCall v_is_even (vCons (vVar 0) vNil))) (vRet (vOp dIx (vCall v_growth (vCons (vVar 0) (vCons (vVar 1) vNil))) (vC (.int 0)))) vNext) (vRet (vCall v_least_forms (vCons (vVar 0) (vCons (vVar 1) vNil)))))
def v_laid_forms : VP := vFun ["part", "machine"] 2 vb_laid_forms
theorem fp_laid_forms : FP m_laid_forms v_laid_forms := by
  unfold m_laid_forms v_laid_forms b_laid_forms vb_laid_forms
  exact f_Fun (f_Seq (f_IfS (f_Test (f_Call fp_is_even (f_Cons f_Var f_Nil))) (f_Ret (f_Op (f_Call fp_growth (f_Cons f_Var (f_Cons f_Var f_Nil))) f_C)) f_Next) (f_Ret (f_Call fp_least_forms (f_Cons f_Var (f_Cons f_Var f_Nil)))))
end RC
end
section
namespace RR
open PySem PySem.Spec L2
open PyProof.Rows hiding St
open PySem.W (alike dataLt minD maxD)
def okRg (a b : Int) : Prop := 0 ≤ a ∧ a ≤ 1000 ∧ 0 ≤ b ∧ b ≤ 1000
instance (a b : Int) : Decidable (okRg a b) := by unfold okRg; infer_instance
theorem okRg.ok {a b : Int} (h : okRg a b) : RgOk a b := RgOk.of_le h.1 (by have := h.2.2.2; omega) (by have := h.2.1; omega) h.2.2.1
end RR
namespace RR
open PySem PySem.Spec L2
open PyProof.Rows hiding St
end RR
end
section
namespace RR
open PySem PySem.Spec L2
open PyProof.Rows hiding St
end RR
end
section
namespace RR
open PySem PySem.Spec L2
open PyProof.Rows hiding St
end RR
end
section
namespace Mz
open PySem PySem.Spec L2
open PyProof.Rows hiding St
theorem ni {x p q : Nat} (h1 : x ≠ p) (h2 : x ≠ q) : x ∉ [p, q] := by simp [h1, h2]
end Mz
namespace RR
open PySem PySem.Spec L2
open PyProof.Rows hiding St
end RR
end
section
namespace RC
open PySem PySem.Spec L2 RR
open PyProof.Rows hiding St
end RC
end
section
namespace RR
open PySem PySem.Spec L2
open PyProof.Rows hiding St
end RR
namespace RR
open PySem PySem.Spec L2
open PyProof.Rows hiding St
end RR
end
section
namespace RR
open PySem PySem.Spec L2
open PyProof.Rows hiding St
end RR
end
section
namespace RR
open PySem PySem.Spec L2
open PyProof.Rows hiding St
end RR
end
section
namespace RC
open PySem PySem.Spec L2 RR
open PyProof.Rows hiding St
end RC
end
section
namespace RR
open PySem PySem.Spec L2
open PyProof.Rows hiding St
end RR
end
section
namespace RR
open PySem PySem.Spec L2
open PyProof.Rows hiding St
end RR
end
section
namespace RR
open PySem PySem.Spec L2
open PyProof.Rows hiding St
end RR
end
section
namespace RC
open PySem PySem.Spec L2 RR
open PyProof.Rows hiding St
end RC
end
section
namespace RR
open PySem PySem.Spec L2
open PyProof.Rows hiding St
end RR
end
section
namespace RR
open PySem PySem.Spec L2
open PyProof.Rows hiding St
end RR
end
section
namespace RR
open PySem PySem.Spec L2
open PyProof.Rows hiding St
end RR
end
section
namespace RC
open PySem PySem.Spec L2 RR
open PyProof.Rows hiding St
def b__law_grown : MS := (mSeq (mSet 2 (mCall m__law_jumps_v2 (mCons (mVar 0) mNil))) (mSeq (mSet 3 (mCall m__law_misfits_v2 (mCons (mVar 0) (mCons (mVar 1) (mCons (mVar 2) mNil))))) (mSeq (mWhile (mTest (mOp dNe (mVar 3) (mLst mNil))) (mSeq (mSet 2 (mLc (mISeq (mVar 2)) (mgName 4) (mTest (mOp dNotIn (mVar 4) (mVar 3))) (mVar 4) [4])) (mSet 3 (mCall m__law_misfits_v2 (mCons (mVar 0) (mCons (mVar 1) (mCons (mVar 2) mNil))))))) (mRet (mVar 2)))))
def m__law_grown : MP := mFun ["part", "machine", "forms", "bad", "k"] 2 b__law_grown
def vb__law_grown : VS := (vSeqS (vSet 2 (vCall v__law_jumps_v2 (vCons (vVar 0) vNil))) (vSeqS (vSet 3 (vCall v__law_misfits_v2 (vCons (vVar 0) (vCons (vVar 1) (vCons (vVar 2) vNil))))) (vSeqS (vWhile (vTest (vOp dNe (vVar 3) (vLst vNil))) (vSeqS (vSet 2 (vLc (vISeq (vVar 2)) (vgName 4) (vTest (vOp dNotIn (vVar 4) (vVar 3))) (vVar 4) [4])) (vSet 3 (vCall v__law_misfits_v2 (vCons (vVar 0) (vCons (vVar 1) (vCons (vVar 2) vNil))))))) (vRet (vVar 2)))))
def v__law_grown : VP := vFun ["part", "machine", "forms", "bad", "k"] 2 vb__law_grown
theorem fp__law_grown : FP m__law_grown v__law_grown := by
  unfold m__law_grown v__law_grown b__law_grown vb__law_grown
  exact f_Fun (f_Seq (f_Set (f_Call fp__law_jumps_v2 (f_Cons f_Var f_Nil))) (f_Seq (f_Set (f_Call fp__law_misfits_v2 (f_Cons f_Var (f_Cons f_Var (f_Cons f_Var f_Nil))))) (f_Seq (f_While (f_Test (f_Op f_Var (f_Lst f_Nil))) (f_Seq (f_Set (f_Lc (f_ISeq f_Var) f_gName (f_Test (f_Op f_Var f_Var)) f_Var)) (f_Set (f_Call fp__law_misfits_v2 (f_Cons f_Var (f_Cons f_Var (f_Cons f_Var f_Nil))))))) (f_Ret f_Var))))
def b__law_lists : MS := (mSeq (mSet 1 (mLst (mCons (mLst mNil) mNil))) (mSeq (mFor (mISeq (mVar 0)) (mgName 2) (mSet 1 (mOp dAdd (mVar 1) (mLc (mISeq (mVar 1)) (mgName 3) mYes (mOp dAdd (mVar 3) (mLst (mCons (mVar 2) mNil))) [3])))) (mRet (mVar 1))))
def m__law_lists : MP := mFun ["members", "found", "one", "row"] 1 b__law_lists
def vb__law_lists : VS := (vSeqS (vSet 1 (vLst (vCons (vLst vNil) vNil))) (vSeqS (vFor (vISeq (vVar 0)) (vgName 2) (vSet 1 (vOp dAdd (vVar 1) (vLc (vISeq (vVar 1)) (vgName 3) vYes (vOp dAdd (vVar 3) (vLst (vCons (vVar 2) vNil))) [3])))) (vRet (vVar 1))))
def v__law_lists : VP := vFun ["members", "found", "one", "row"] 1 vb__law_lists
theorem fp__law_lists : FP m__law_lists v__law_lists := by
  unfold m__law_lists v__law_lists b__law_lists vb__law_lists
  exact f_Fun (f_Seq (f_Set (f_Lst (f_Cons (f_Lst f_Nil) f_Nil))) (f_Seq (f_For (f_ISeq f_Var) f_gName (f_Set (f_Op f_Var (f_Lc (f_ISeq f_Var) f_gName f_Yes (f_Op f_Var (f_Lst (f_Cons f_Var f_Nil))))))) (f_Ret f_Var)))
def b__law_least : MS := (mSeq (mSet 2 (mLst mNil)) (mSeq (mFor (mISeq (mCall m__law_lists (mCons (mCall m__law_jumps_v2 (mCons (mVar 0) mNil)) mNil))) (mgName 3) (mIfS (mTest (mOp dEq (mCall m__law_misfits_v2 (mCons (mVar 0) (mCons (mVar 1) (mCons (mVar 3) mNil)))) (mLst mNil))) (mAppend 2 (mTup (mCons (mOp dIx (mCall m__law_places_v2 (mCons (mVar 0) (mCons (mVar 1) (mCons (mVar 3) mNil)))) (mUn dNeg (mC (.int 1)))) (mCons (mUn dNeg (mCl cLen (mCons (mVar 3) mNil))) (mCons (mVar 3) mNil))))) mNext)) (mRet (mOp dIx (mCl cMinD (mCons (mVar 2) mNil)) (mC (.int 2))))))
def m__law_least : MP := mFun ["part", "machine", "rows", "forms"] 2 b__law_least
def vb__law_least : VS := (vSeqS (vSet 2 (vLst vNil)) (vSeqS (vFor (vISeq (vCall v__law_lists (vCons (vCall v__law_jumps_v2 (vCons (vVar 0) vNil)) vNil))) (vgName 3) (vIfS (vTest (vOp dEq (vCall v__law_misfits_v2 (vCons (vVar 0) (vCons (vVar 1) (vCons (vVar 3) vNil)))) (vLst vNil))) (vAppend 2 (vTup (vCons (vOp dIx (vCall v__law_places_v2 (vCons (vVar 0) (vCons (vVar 1) (vCons (vVar 3) vNil)))) (vUn dNeg (vC (.int 1)))) (vCons (vUn dNeg (vCl cLen (vCons (vVar 3) vNil))) (vCons (vVar 3) vNil))))) vNext)) (vRet (vOp dIx (vCl cMinD (vCons (vVar 2) vNil)) (vC (.int 2))))))
def v__law_least : VP := vFun ["part", "machine", "rows", "forms"] 2 vb__law_least
theorem fp__law_least : FP m__law_least v__law_least := by
  unfold m__law_least v__law_least b__law_least vb__law_least
  exact f_Fun (f_Seq (f_Set (f_Lst f_Nil)) (f_Seq (f_For (f_ISeq (f_Call fp__law_lists (f_Cons (f_Call fp__law_jumps_v2 (f_Cons f_Var f_Nil)) f_Nil))) f_gName (f_IfS (f_Test (f_Op (f_Call fp__law_misfits_v2 (f_Cons f_Var (f_Cons f_Var (f_Cons f_Var f_Nil)))) (f_Lst f_Nil))) (f_Append (f_Tup (f_Cons (f_Op (f_Call fp__law_places_v2 (f_Cons f_Var (f_Cons f_Var (f_Cons f_Var f_Nil)))) (f_Un f_C)) (f_Cons (f_Un (f_Cl (f_Cons f_Var f_Nil))) (f_Cons f_Var f_Nil))))) f_Next)) (f_Ret (f_Op (f_Cl (f_Cons f_Var f_Nil)) f_C))))
def b__law_laid : MS := (mSeq (mSet 2 (mOp dNotIn (mC (.str "align")) (mLc (mISeq (mVar 0)) (mgName 3) mYes (mOp dIx (mVar 3) (mC (.int 0))) [3]))) (mRet (mIf (mTest (mVar 2)) (mCall m__law_grown (mCons (mVar 0) (mCons (mVar 1) mNil))) (mCall m__law_least (mCons (mVar 0) (mCons (mVar 1) mNil))))))
def m__law_laid : MP := mFun ["part", "machine", "is_flat", "row"] 2 b__law_laid
def vb__law_laid : VS := (vSeqS (vSet 2 (vOp dNotIn (vC (.str "align")) (vLc (vISeq (vVar 0)) (vgName 3) vYes (vOp dIx (vVar 3) (vC (.int 0))) [3]))) (vRet (vIf (vTest (vVar 2)) (vCall v__law_grown (vCons (vVar 0) (vCons (vVar 1) vNil))) (vCall v__law_least (vCons (vVar 0) (vCons (vVar 1) vNil))))))
def v__law_laid : VP := vFun ["part", "machine", "is_flat", "row"] 2 vb__law_laid
theorem fp__law_laid : FP m__law_laid v__law_laid := by
  unfold m__law_laid v__law_laid b__law_laid vb__law_laid
  exact f_Fun (f_Seq (f_Set (f_Op f_C (f_Lc (f_ISeq f_Var) f_gName f_Yes (f_Op f_Var f_C)))) (f_Ret (f_If (f_Test f_Var) (f_Call fp__law_grown (f_Cons f_Var (f_Cons f_Var f_Nil))) (f_Call fp__law_least (f_Cons f_Var (f_Cons f_Var f_Nil))))))
def b_check_forms_v2 : MS := (mIfS (mNot (mTest (mCall m_is_forms_v2 (mCons (mVar 0) (mCons (mVar 1) mNil))))) mNever mNext)
def m_check_forms_v2 : MP := mFun ["part", "forms"] 2 b_check_forms_v2
def vb_check_forms_v2 : VS := (vIfS (vNot (vTest (vCall v_is_forms_v2 (vCons (vVar 0) (vCons (vVar 1) vNil))))) vNever vNext)
def v_check_forms_v2 : VP := vFun ["part", "forms"] 2 vb_check_forms_v2
theorem fp_check_forms_v2 : FP m_check_forms_v2 v_check_forms_v2 := by
  unfold m_check_forms_v2 v_check_forms_v2 b_check_forms_v2 vb_check_forms_v2
  exact f_Fun (f_IfS (f_Not (f_Test (f_Call fp_is_forms_v2 (f_Cons f_Var (f_Cons f_Var f_Nil))))) f_Never f_Next)
def b_bar : MS := (mSeq (mDrop (mCall m_check_part (mCons (mVar 0) mNil))) (mSeq (mDrop (mCall m_check_machine (mCons (mVar 1) mNil))) (mSeq (mDrop (mCall m_check_forms_v2 (mCons (mVar 0) (mCons (mVar 2) mNil)))) (mSeq (mSet 3 (mCall m_unfit_rows (mCons (mVar 0) (mCons (mVar 1) (mCons (mVar 2) mNil))))) (mRet (mIf (mTru (mVar 3)) (mOp dIx (mVar 3) (mC (.int 0))) (mC .none)))))))
def m_bar : MP := mFun ["part", "machine", "rival", "unfit"] 3 b_bar
def vb_bar : VS := (vSeqS (vDrop (vCall v_check_part (vCons (vVar 0) vNil))) (vSeqS (vDrop (vCall v_check_machine (vCons (vVar 1) vNil))) (vSeqS (vDrop (vCall v_check_forms_v2 (vCons (vVar 0) (vCons (vVar 2) vNil)))) (vSeqS (vSet 3 (vCall v_unfit_rows (vCons (vVar 0) (vCons (vVar 1) (vCons (vVar 2) vNil))))) (vRet (vIf (vTru (vVar 3)) (vOp dIx (vVar 3) (vC (.int 0))) (vC .none)))))))
def v_bar : VP := vFun ["part", "machine", "rival", "unfit"] 3 vb_bar
theorem fp_bar : FP m_bar v_bar := by
  unfold m_bar v_bar b_bar vb_bar
  exact f_Fun (f_Seq (f_Drop (f_Call fp_check_part (f_Cons f_Var f_Nil))) (f_Seq (f_Drop (f_Call fp_check_machine (f_Cons f_Var f_Nil))) (f_Seq (f_Drop (f_Call fp_check_forms_v2 (f_Cons f_Var (f_Cons f_Var f_Nil)))) (f_Seq (f_Set (f_Call fp_unfit_rows (f_Cons f_Var (f_Cons f_Var (f_Cons f_Var f_Nil))))) (f_Ret (f_If (f_Tru f_Var) (f_Op f_Var f_C) f_C))))))
def b_laid : MS := (mSeq (mDrop (mCall m_check_part (mCons (mVar 0) mNil))) (mSeq (mDrop (mCall m_check_machine (mCons (mVar 1) mNil))) (mSeq (mSet 2 (mCall m_laid_forms (mCons (mVar 0) (mCons (mVar 1) mNil)))) (mRet (mTup (mCons (mVar 2) (mCons (mCall m_addresses_of (mCons (mVar 0) (mCons (mVar 1) (mCons (mVar 2) mNil)))) mNil)))))))
def m_laid : MP := mFun ["part", "machine", "forms"] 2 b_laid
def vb_laid : VS := (vSeqS (vDrop (vCall v_check_part (vCons (vVar 0) vNil))) (vSeqS (vDrop (vCall v_check_machine (vCons (vVar 1) vNil))) (vSeqS (vSet 2 (vCall v_laid_forms (vCons (vVar 0) (vCons (vVar 1) vNil)))) (vRet (vTup (vCons (vVar 2) (vCons (vCall v_addresses_of (vCons (vVar 0) (vCons (vVar 1) (vCons (vVar 2) vNil)))) vNil)))))))
def v_laid : VP := vFun ["part", "machine", "forms"] 2 vb_laid
theorem fp_laid : FP m_laid v_laid := by
  unfold m_laid v_laid b_laid vb_laid
  exact f_Fun (f_Seq (f_Drop (f_Call fp_check_part (f_Cons f_Var f_Nil))) (f_Seq (f_Drop (f_Call fp_check_machine (f_Cons f_Var f_Nil))) (f_Seq (f_Set (f_Call fp_laid_forms (f_Cons f_Var (f_Cons f_Var f_Nil)))) (f_Ret (f_Tup (f_Cons f_Var (f_Cons (f_Call fp_addresses_of (f_Cons f_Var (f_Cons f_Var (f_Cons f_Var f_Nil)))) f_Nil)))))))
def b_check_few_jumps : MS := (mIfS (mTest (mOp dGt (mCl cLen (mCons (mCall m_jump_rows (mCons (mVar 0) mNil)) mNil)) (mC c_MOST_TRIED))) mNever mNext)
def m_check_few_jumps : MP := mFun ["part"] 1 b_check_few_jumps
def vb_check_few_jumps : VS := (vIfS (vTest (vOp dGt (vCl cLen (vCons (vCall v_jump_rows (vCons (vVar 0) vNil)) vNil)) (vC c_MOST_TRIED))) vNever vNext)
def v_check_few_jumps : VP := vFun ["part"] 1 vb_check_few_jumps
theorem fp_check_few_jumps : FP m_check_few_jumps v_check_few_jumps := by
  unfold m_check_few_jumps v_check_few_jumps b_check_few_jumps vb_check_few_jumps
  exact f_Fun (f_IfS (f_Test (f_Op (f_Cl (f_Cons (f_Call fp_jump_rows (f_Cons f_Var f_Nil)) f_Nil)) f_C)) f_Never f_Next)
def b_least : MS := (mSeq (mDrop (mCall m_check_part (mCons (mVar 0) mNil))) (mSeq (mDrop (mCall m_check_machine (mCons (mVar 1) mNil))) (mSeq (mDrop (mCall m_check_few_jumps (mCons (mVar 0) mNil))) (mRet (mCall m_least_forms (mCons (mVar 0) (mCons (mVar 1) mNil)))))))
def m_least : MP := mFun ["part", "machine"] 2 b_least
def vb_least : VS := (vSeqS (vDrop (vCall v_check_part (vCons (vVar 0) vNil))) (vSeqS (vDrop (vCall v_check_machine (vCons (vVar 1) vNil))) (vSeqS (vDrop (vCall v_check_few_jumps (vCons (vVar 0) vNil))) (vRet (vCall v_least_forms (vCons (vVar 0) (vCons (vVar 1) vNil)))))))
def v_least : VP := vFun ["part", "machine"] 2 vb_least
theorem fp_least : FP m_least v_least := by
  unfold m_least v_least b_least vb_least
  exact f_Fun (f_Seq (f_Drop (f_Call fp_check_part (f_Cons f_Var f_Nil))) (f_Seq (f_Drop (f_Call fp_check_machine (f_Cons f_Var f_Nil))) (f_Seq (f_Drop (f_Call fp_check_few_jumps (f_Cons f_Var f_Nil))) (f_Ret (f_Call fp_least_forms (f_Cons f_Var (f_Cons f_Var f_Nil)))))))
end RC
end
section
namespace RR
open PySem PySem.Spec L2
open PyProof.Rows hiding St
end RR
end
section
namespace RR
open PySem PySem.Spec L2
open PyProof.Rows hiding St
end RR
end
section
namespace RR
open PySem PySem.Spec L2
open PyProof.Rows hiding St
end RR
end
section
namespace RR
open PySem PySem.Spec L2
open PyProof.Rows hiding St
end RR
end
section
namespace RR
open PySem PySem.Spec L2
open PyProof.Rows hiding St
end RR
end
section
namespace RR
open PySem PySem.Spec L2
open PyProof.Rows hiding St
end RR
end
section
namespace RC
open PySem PySem.Spec L2 RR
open PyProof.Rows hiding St
end RC
end
section
namespace RR
open PySem PySem.Spec L2
open PyProof.Rows hiding St
end RR
end
section
namespace RR
open PySem PySem.Spec L2
open PyProof.Rows hiding St
end RR
end
section
namespace RR
open PySem PySem.Spec L2
open PyProof.Rows hiding St
end RR
end
section
namespace RR
open PySem PySem.Spec L2
open PyProof.Rows hiding St
end RR
end
section
namespace RR
open PySem PySem.Spec L2
open PyProof.Rows hiding St
end RR
end
section
namespace RC
open PySem PySem.Spec L2 RR
open PyProof.Rows hiding St
end RC
end
section
namespace RR
open PySem PySem.Spec L2
open PyProof.Rows hiding St
open PySem.W (alike dataLt dataLe EachIs)
def vwO (T : String) (p a : Addr) : HO := .ext fun h => ∃ o, h.get? p = some o ∧ o.cls = .type T ∧ o.data = .fields #[.ref a]
theorem vwO_ok {P : Program} {w : World} {H : Hp} {h : Heap} {T : String} {p a : Addr} (e : h.get? p = some { cls := .type T, data := .fields #[.ref a] }) : ObjOk P w H h p (vwO T p a) :=
  ⟨⟨_, e, rfl, rfl⟩, ⟨_, e⟩, fun _ _ ⟨o, ho, z⟩ k => ⟨o, k o ho, z⟩⟩
def rVw (T : String) : V → List V → Hp → VK → Prop := fun x xs H Q => ∃ (a : Addr) (kvs : List (Key × V)), x = .ref a ∧ xs = [] ∧ Rd H a (.dK kvs) ∧ ∀ p, H p = none → Q (.ref p) (upd H p (vwO T p a))
section
variable {X : Cx}
theorem mt_valuesK : MtR X "dict.values" (rVw "dict_values") := fun pins s σ H x xs v us Q I rx rxs h => by
  obtain ⟨a, kvs, rfl, rfl, hr, q⟩ := h
  cases rx
  cases rxs
  obtain ⟨z, lo, vs, kv, dd⟩ := dk_rd I.hok hr
  have fr : H s.heap.objs.size = none := I.hok.fresh (Nat.le_refl _)
  refine call_meetsIn PySem.F.slot_dict_values dd.typeIs PySem.F.entry_dict_values (PySem.F.args_dict_values_1 _) (meets_dict_values (mixKind X.prog X.w) a lo) ⟨⟨vs, dd⟩, ?_⟩
  exact ⟨.ref s.heap.objs.size, _, I.laid (t' := s.toks) (o := vwO "dict_values" s.heap.objs.size a) (fun b u e => Heap.get?_push_of_some _ e) (Nat.le_refl _) (vwO_ok (Heap.get?_push_size _ rfl)), rfl, q _ fr⟩
def tVw (T : String) (to : TE) : TE := fun σ H Q => to σ H fun x H1 => rVw T x [] H1 Q
theorem pe_view {T : String} {name : Str} {id : String} {o : Expr} {to : TE} {apos cpos : Pos} (slot : Slot "dict" name id) (hty : typeOf (.builtin id) = pure (.type "method_descriptor")) (hm : MtR X id (rVw T)) (ho : PE X o to)
    (hbase : attributeBase o name X.env (eval o X.env) = eval o X.env := by rfl) (hline : (apos.endLine == cpos.line) = true := by rfl) : PE X (.Call (.Attribute o name apos) [] [] cpos) (tVw T to) := by
  refine ⟨fun pins s σ H Q I h => wpAny_Call_method0_late hbase hline (thn (ho.run pins s σ H _ I h) fun v s1 ⟨x, H1, I1, r1, q1⟩ => ?_)⟩
  obtain ⟨a, kvs, ex, en, hr, q⟩ := q1
  obtain ⟨z, lo, vs, kv, dd⟩ := dk_rd I1.hok hr
  have hv : v = Value.ref a := by rw [ex] at r1; exact r1
  refine ⟨"dict", id, PySem.F.plainAttrs_dict, slot, hty, by rw [hv]; exact dd.typeIs, by rw [hv]; exact dd.mapOf.noDict, Calls.callWith_builtin rfl (PySem.evalArgs_none (hm pins s1 σ H1 x [] v [] Q I1 r1 .nil ⟨a, kvs, ex, rfl, hr, q⟩))⟩
theorem vals_at {xs : List V} {us : List Value} (hl : us.length = xs.length) (h : ∀ (j : Nat) u, us[j]? = some u → ∃ x, xs[j]? = some x ∧ RelV x u) : Vals xs us := by
  induction us generalizing xs with
  | nil =>
    cases xs with
    | nil => exact .nil
    | cons x xs => simp at hl
  | cons u us ih =>
    cases xs with
    | nil => simp at hl
    | cons x xs =>
      obtain ⟨y, e1, e2⟩ := h 0 u rfl
      cases e1
      exact .cons e2 (ih (by simpa using hl) fun j u' e => h (j + 1) u' e)
def rLV : List V → Hp → VK → Prop := fun xs H Q => ∃ (p a : Addr) (kvs : List (Key × V)), xs = [.ref p] ∧ H p = some (vwO "dict_values" p a) ∧ Rd H a (.dK kvs) ∧ ∀ l, H l = none → Q (.ref l) (upd H l (.lst (kvs.map (·.2))))
theorem call_listV (hc : X.calm = true) : CallR X (.type "list") rLV := fun pins s σ H args us Q I r h => by
  obtain ⟨p, a, kvs, rfl, hp, hr, q⟩ := h
  rw [Vals.ref1 r]
  obtain ⟨z, lo, vs, kv, dd⟩ := dk_rd I.hok hr
  obtain ⟨ep, hat⟩ := dd.dictAt
  have ln : kvs.length = vs.length := kv.length
  have view : s.heap.IsValuesView p a := (show ObjOk X.prog X.w H s.heap p (vwO "dict_values" p a) from I.hok p _ hp).1
  refine PySem.W.kdl_call (PySem.W.kdl_values (knd := mixKind X.prog X.w) (kvs := vs) (ep := ep)) (I.ok.hd hc) ⟨view, hat⟩ (by rw [← ln]; exact z) fun h' tk acc c hk hS hacc => ?_
  have al : acc.toList.length = vs.length := by rw [Array.length_toList]; exact hacc.1
  refine ⟨.ref _, _, I.laid (t' := tk) (o := .lst (kvs.map (·.2))) hk (Nat.le_refl _) ⟨by rw [List.length_map]; exact z, acc.toList, c, ?_, hS⟩, rfl, q _ (I.hok.fresh (Nat.le_refl _))⟩
  refine vals_at (by rw [al, List.length_map, ln]) fun j u e => ?_
  obtain ⟨k, e3⟩ := hacc.2 j u (by rw [← Array.getElem?_toList]; exact e)
  rw [List.getElem?_map]
  cases e5 : kvs[j]? with
  | none =>
    have := List.getElem?_eq_none_iff.mp e5
    have h2 := (List.getElem?_eq_some_iff.mp e3).1
    omega
  | some kv' =>
    obtain ⟨y, g1, g2, g3⟩ := LiI.paired_get kv e5
    rw [e3] at g1
    cases g1
    exact ⟨_, rfl, g3⟩
end
end RR
end
section
namespace RR
open PySem PySem.Spec L2
open PyProof.Rows hiding St
open PySem.W (alike dataLt dataLe EachIs)
end RR
end
section
namespace RR
open PySem PySem.Spec L2
open PyProof.Rows hiding St
def dValsL : D → Option D
  | .dict kvs => some (.list (kvs.map (·.2)))
  | _ => none
theorem dict_of1 {f g : List (D × D) → Option D} {d e : D} (h : (match d with | .dict kvs => f kvs | _ => none) = some e) : ∃ kvs, d = .dict kvs ∧ f kvs = some e := by
  cases d <;> first | exact ⟨_, rfl, h⟩ | cases h
theorem rps_vals {K : PySem.W.Frag} {F : Hp} {kvs : List (Key × V)} {ds : List (D × D)} (h2 : ds.map (·.1) = kvs.map (fun p => keyD p.1)) (h3 : ∀ (i : Nat) x d, kvs[i]? = some x → ds[i]? = some d → Rp K F d.2 x.2) : Rps K F (ds.map (·.2)) (kvs.map (·.2)) := by
  have hl := keys_len h2
  refine ⟨by rw [List.length_map, List.length_map, hl], fun i x d e1 e2 => ?_⟩
  rw [List.getElem?_map] at e1 e2
  obtain ⟨x', f1, rfl⟩ := Option.map_eq_some_iff.mp e1
  obtain ⟨d', f2, rfl⟩ := Option.map_eq_some_iff.mp e2
  exact h3 i _ _ f1 f2
section
variable {X : Cx} {p : Pm} {O : List Nat} {e o : Expr} {te to : TE} {me mo : ME} {q pos apos cpos : Pos}
theorem fin105 {F0 H0 F H F1 H1 F2 H2 : Hp} {σ : L2.St} {Γ : DEnv} {n1 : Nat} {Q : D → Nat → Prop} {Q' : VK} {d : D} {a : Addr}
    (k : ∀ d a F' H' n', Sep p F0 H0 O F' H' σ Γ n' → Gp p F H F' H' → Own p.K F' H' d a → F' a = none → H a = none → Q d n' → Q' (.ref a) H')
    (s1 : Sep p F0 H0 O F1 H1 σ Γ n1) (g1 : Gp p F H F1 H1) (g : Gr F1 H1 F2 H2) (ow : Own p.K F2 H2 d a) (hf : F2 a = none) (ha : H1 a = none) (q1 : Q d n1) : Q' (.ref a) H2 := by
  refine k d a F2 H2 n1 (s1.gr g) (g1.trans g.gp) ow hf ?_ q1
  cases w : H a with
  | none => rfl
  | some o => rw [g1.h a o w (s1.h0 ha).2] at ha; cases ha
theorem lf_valsL (h : LE p O te me) : LF p O (tCB rLV (tCons (tVw "dict_values" te) tNil)) (mUn dValsL me) := fun F0 H0 F H σ Γ n Q s q Q' k =>
  h F0 H0 F H σ Γ n _ s q _ fun d v F1 H1 n1 s1 g1 r1 ⟨d', fe, q1⟩ => by
    obtain ⟨ds, rfl, fe⟩ := dict_of1 (g := fun _ => none) fe
    cases fe
    cases r1 with
    | @dct b kvs _ h1 h2 h3 =>
      have rd := Same.rd s1.fh h1
      refine ⟨_, _, rfl, rfl, rd, fun x hx => ?_⟩
      have g := Gr.new0 s1.fh hx (vwO "dict_values" x b)
      refine ⟨x, b, _, rfl, upd_same, Same.rd g.h rd, fun l hl => ?_⟩
      have hl1 : H1 l = none := by
        cases z : H1 l with
        | none => rfl
        | some u => rw [g.h _ _ z] at hl; cases hl
      exact fin105 k s1 g1 (g.trans (Gr.new0 g.fh hl _)) (.lst upd_same (rps_vals h2 h3)) (s1.fh.free hl1) hl1 q1
theorem fValsL (hc : X.calm = true) (hg : Gl X "list") (hm : X.mg "list" = none) (ho : RE X p O o te me)
    (hbase : attributeBase o "values" X.env (eval o X.env) = eval o X.env := by rfl) (hline : (apos.endLine == cpos.line) = true := by rfl)
    (h1 : starEach [.Call (.Attribute o "values" apos) [] [] cpos] X.env = (false, eval (.Call (.Attribute o "values" apos) [] [] cpos) X.env) :: starEach [] X.env := by rfl) (hpl : (backTo pos (starEach [] X.env)).any (·.1) = false := by rfl) :
    RF X p O (.Call (.Name "list" q) [.Call (.Attribute o "values" apos) [] [] cpos] [] pos) (tCB rLV (tCons (tVw "dict_values" te) tNil)) (mUn dValsL me) :=
  ⟨pe_callTy (call_listV hc) hg hm (by decide +kernel) (pa_cons (pe_view PySem.F.slot_dict_values PySem.F.type_dict_values mt_valuesK ho.pe hbase hline) pa_nil h1) (by decide) (by decide) h1 hpl, lf_valsL ho.le⟩
end
end RR
end
section
namespace RR
open PySem PySem.Spec L2
open PyProof.Rows hiding St
abbrev es0 (w : World) : Obj := { cls := .type "set", dict := none, data := .set #[] 0 (.fresh 0 0 (!(w.params.followText "set-order"))) }
section
variable {P : Program} {w : World} {A : Around} {E : Value → Shared → Prop} {s : Shared}
set_option maxHeartbeats 8000000 in
theorem call_set_lstI {l : Addr} {items : Array Value} (ns : List Int) {Q : Value → Shared → Prop} (hh : A.handled = none) (hl : s.heap.IsList l items) (hit : IntsAre items.toList ns) (hb : ns.length + 1 < scanBound)
    (h : ∀ (h' : Heap) (tk c : Nat), SetR w h' s.heap.objs.size (fun j => decide (j ∈ ns)) c → c ≤ ns.length → (∀ b o, s.heap.get? b = some o → h'.get? b = some o) → Q (.ref s.heap.objs.size) { s with heap := h', toks := tk }) :
    wpAny (model P w) A (call (.type "set") [.ref l]) Q E s := by
  have jz : items.size = ns.length := by
    have q := IntsAre.length hit
    rw [Array.length_toList] at q
    exact q
  obtain ⟨c, tt, jr⟩ := F.called_set.mro
  have jm := F.called_set.made
  have js := F.called_set.sub
  refine wpAny_call (codeAny_of_tree ?_)
  show wpAny _ _ (callAny (.type "set") _) _ _ _
  refine wpAny_pure ⟨Code.quiet_builtin _ (by decide +kernel), codeAny_builtin F.entry_type_call ?_⟩
  rw [Around.under_plain (weight_type_call_type "set" [.ref l] []) rfl]
  have h1 := F.called_set.notType
  have h2 := F.called_set.canCreate
  have jt := F.typeCall_set_1 (.ref l)
  repeat (any_goals (first | (assumption) | (wp_step)))

  refine codeAny_mono (code_set_led1 (.ref l) (E := E) (Q₁ := fun obj s₁ => obj = .ref s.heap.objs.size ∧ s₁ = { s with heap := s.heap.push (es0 w) }) ⟨rfl, rfl⟩) fun r s₁ jq => ?_
  cases r with
  | error e => exact jq
  | ok fl =>
    cases fl with
    | ret obj =>
      obtain ⟨rfl, rfl⟩ := jq
      have jS : (s.heap.push (es0 w)).get? s.heap.objs.size = some (es0 w) := Heap.get?_push_size _ rfl
      have jT : Shared.TypeIs { s with heap := s.heap.push (es0 w) } (.ref s.heap.objs.size) "set" := ⟨_, jS, rfl⟩
      have ja := F.called_set.init.lookup
      have jb := F.called_set.init.bind (.ref s.heap.objs.size)
      repeat (any_goals (first | (assumption) | (wp_step)))

      refine codeAny_mono (codeAny_call_builtin (R := wants (fun r w2 => r = .none ∧ ∃ h' tk c, w2 = { s with heap := h', toks := tk } ∧ SetR w h' s.heap.objs.size (fun j => decide (j ∈ ns)) c ∧ c ≤ ns.length ∧
          (∀ b o, s.heap.get? b = some o → h'.get? b = some o)) E) F.called_set.init.plain F.entry_set_init (check_set_init_1 jT ?_)) fun z2 w2 jq₂ => ?_
      · obtain ⟨ob, jo, jc, nn, jd⟩ := hl
        obtain ⟨uc, ud, ut, us⟩ := ob
        simp only at jc jd
        subst jc; subst jd
        have jo' : (s.heap.push (es0 w)).get? l = some { cls := .type "list", dict := ud, data := .seq items nn, slots := us } := Heap.get?_push_of_some _ jo
        have j1 := F.sub_list_set
        have j2 := F.sub_list_frozenset
        have j3 : (Value.type "list" == Value.type "dict") = false := by decide
        have jl : (s.heap.push (es0 w)).IsList l items := ⟨_, jo', rfl, nn, rfl⟩
        unfold Builtin.«set.__init__» noKeywords Builtin.Frozenset.updateFrom
        generalize jP : pyIter = itF
        wp_walk
        subst jP

        refine wpAny_pyIter_list jl ?_
        refine wpAny_bind (wpAny_runValue ?_)
        have j4 : l < s.heap.objs.size := Heap.lt_size jo
        have j5 : A.in1.in1.in1.handled = none := by simp [hh]
        have jy : (s.heap.push (es0 w)).objs.size = s.heap.objs.size + 1 := Heap.size_push ..
        have j6 : l ≠ (s.heap.push (es0 w)).objs.size := by
          rw [Heap.size_push]; exact Nat.ne_of_lt (Nat.lt_succ_of_lt j4)
        have j7 : s.heap.objs.size ∉ [(s.heap.push (es0 w)).objs.size, l] := by
          rw [Heap.size_push]; simp only [List.mem_cons, List.mem_singleton, List.not_mem_nil, or_false, not_or]
          exact ⟨Nat.ne_of_lt (Nat.lt_succ_self _), Nat.ne_of_gt j4⟩
        have j8 : ∀ (i : Nat) (v : Value), items[i]? = some v → ∃ k t, ns[i]? = some k ∧ v = .int k t := fun i v hv => by
          have hi : i < ns.length := by rw [← jz]; exact (Array.getElem?_eq_some_iff.mp hv).1
          obtain ⟨t, e⟩ := PyProof.Rows.IntsAre.int_at hit i v (by rw [Array.getElem?_toList]; exact hv)
          refine ⟨ns[i], t, List.getElem?_eq_getElem hi, ?_⟩
          rw [e, List.getD_eq_getElem?_getD, List.getElem?_eq_getElem hi] <;> rfl
        refine set_update_ints ((Walks.list j5 _ l j6 items).toS) s.heap.objs.size
          j7 ns jz hb j8 (items.size - 0) 0 _ (by omega) (Nat.zero_le _)
          ⟨⟨_, Heap.get?_push_size _ rfl, rfl, rfl⟩, (jl.push _)⟩ ?kS0 ?kR
        case kS0 =>
          have j9 : ((s.heap.push (es0 w)).push { cls := .type "list_iterator", data := .fields #[.ref l, .int 0 0] }).get? s.heap.objs.size
              = some (es0 w) := Heap.get?_push_of_some _ jS
          exact ⟨0, Nat.le_refl 0, setR_new_at j9⟩
        case kR =>
          intro s' c' mv hc' jS'
          obtain ⟨h', g2, d', tk', os'⟩ := s'
          have eg : g2 = s.gens := mv.gens
          have ed : d' = s.drawn := mv.drawn
          have eo : os' = s.os := mv.os
          subst eg; subst ed; subst eo
          show wpAny _ _ _ _ _ _
          refine wpAny_pure ?_
          show wpAny _ _ (ret Value.none) _ _ _
          rw [jz] at hc'
          refine wpAny_pure ⟨rfl, h', tk', c', rfl, jS', hc', fun b o e => ?_⟩
          have hb0 : b < s.heap.objs.size := Heap.lt_size e
          have hb1 : b ≠ s.heap.objs.size := Nat.ne_of_lt hb0
          have hb2 : b ≠ (s.heap.push (es0 w)).objs.size := by
            rw [Heap.size_push]; exact Nat.ne_of_lt (Nat.lt_succ_of_lt hb0)
          exact mv.heap b o (by simp only [List.mem_cons, List.mem_singleton, List.not_mem_nil, or_false, not_or]; exact ⟨hb1, hb2⟩) (Heap.get?_push_of_some _ (Heap.get?_push_of_some _ e))

      · cases z2 with
        | error e => exact jq₂
        | ok f2 =>
          cases f2 with
          | ret r =>
            obtain ⟨rfl, h', tk, c', rfl, jS', hc', hk'⟩ := jq₂
            repeat (any_goals (first | (assumption) | (wp_step)))
            exact h _ _ _ jS' hc' hk'
          | _ => exact jq₂.elim
    | _ => exact jq.elim
end
end RR
end
section
namespace RR
open PySem PySem.Spec L2
open PyProof.Rows hiding St
def rSetLI (K : PySem.W.Frag) (w : World) : List V → Hp → VK → Prop := fun xs H Q => ∃ (l : Addr) (ns : List Int), xs = [.ref l] ∧ SqL K H l (ns.map V.int) ∧ ns.length < 60 ∧ ∀ p c, c ≤ ns.length → H p = none → Q (.ref p) (upd H p (SetO w p (fun j => decide (j ∈ ns)) c))
theorem call_setLI {X : Cx} (hc : X.calm = true) : CallR X (.type "set") (rSetLI X.K X.w) := fun pins s σ H args us Q I r h => by
  obtain ⟨l, ns, rfl, hl, ln, q⟩ := h
  rw [Vals.ref1 r]
  obtain ⟨its, rv, pl, hz⟩ := I.list hl
  have nH : H s.heap.objs.size = none := I.hok.fresh (Nat.le_refl _)
  refine call_set_lstI (P := X.prog) (w := X.w) ns (I.ok.hd hc) pl.isList (by simpa using RZ.intsAre_vals rv) (Nat.lt_of_lt_of_le (show ns.length + 1 < 64 by omega) (by decide)) fun h' tk c R hcl k => ?_
  exact ⟨.ref s.heap.objs.size, _, I.laid (t' := tk) (o := SetO X.w s.heap.objs.size (fun j => decide (j ∈ ns)) c) k (Nat.le_refl _) (setO_new R), rfl, q _ c hcl nH⟩
def asInts : List D → Option (List Int)
  | [] => some []
  | .int i :: r => (asInts r).bind fun ns => some (i :: ns)
  | _ => none
theorem asInts_eq : ∀ {xs : List D} {ns : List Int}, asInts xs = some ns → xs = ns.map .int
  | [], ns, h => by rw [asInts] at h; cases h; rfl
  | x :: xs, ns, h => by
    cases x <;> rw [asInts] at h <;> try (cases h; done)
    obtain ⟨ms, h1, h⟩ := bnd0 h
    cases h
    rw [List.map_cons, ← asInts_eq h1]
    all_goals exact fun z => nomatch z
def setI (ns : List Int) : List Int := ns.foldr insI []
theorem setI_asc : ∀ ns : List Int, (setI ns).Pairwise (· < ·)
  | [] => .nil
  | n :: ns => insI_asc n (setI_asc ns)
theorem setI_mem : ∀ {ns : List Int} {j : Int}, j ∈ setI ns ↔ j ∈ ns
  | [], j => Iff.rfl
  | n :: ns, j => by
    show j ∈ insI n (setI ns) ↔ _
    rw [insI_mem, setI_mem, List.mem_cons]
theorem setI_len : ∀ ns : List Int, (setI ns).length ≤ ns.length
  | [] => Nat.le_refl _
  | n :: ns => by
    have := insI_len n (setI ns)
    have := setI_len ns
    show (insI n (setI ns)).length ≤ ns.length + 1
    omega
theorem setI_eq {ns ms : List Int} (h : ms.Pairwise (· < ·)) (k : ∀ j, j ∈ ms ↔ j ∈ ns) : setI ns = ms := asc_same (setI_asc ns) h fun j => setI_mem.trans (k j).symm
def dSetI : D → Option D
  | .list xs => (asInts xs).bind fun ns => if ns.length < 60 then some (.list ((setI ns).map .int)) else none
  | _ => none
theorem list_of1 {f : List D → Option D} {d e : D} (h : (match d with | .list xs => f xs | _ => none) = some e) : ∃ xs, d = .list xs ∧ f xs = some e := by
  cases d <;> first | exact ⟨_, rfl, h⟩ | cases h
section
variable {X : Cx} {p : Pm} {O : List Nat} {e : Expr} {te : TE} {me : ME} {q q2 pos cpos : Pos} {w : World} {P : Program}
theorem lf_setI (h : LE p O te me) : LF p O (tCB (rSortedSet w) (tCons (tCB (rSetLI p.K w) (tCons te tNil)) tNil)) (mUn dSetI me) := fun F0 H0 F H σ Γ n Q s q Q' k =>
  h F0 H0 F H σ Γ n _ s q _ fun d v F1 H1 n1 s1 g1 r1 ⟨d', fe, q1⟩ => by
    obtain ⟨xs, rfl, fe⟩ := list_of1 fe
    obtain ⟨ns, f1, fe⟩ := bnd0 fe
    obtain ⟨ln, rfl⟩ := ifs' fe
    have ex := asInts_eq f1
    subst ex
    obtain ⟨a, vs, rfl, ha, rv⟩ := r1.lst_inv
    have ev : vs = ns.map V.int := by
      have : ∀ {ns : List Int} {vs : List V}, Rps p.K F1 (ns.map .int) vs → vs = ns.map V.int := fun {ns} => by
        induction ns with
        | nil => intro vs r; exact r.unnil
        | cons n ns ih =>
          intro vs r
          obtain ⟨v, r', rfl, h1, h2⟩ := r.uncons
          rw [h1.int_inv, ih h2]; rfl
      exact this rv
    subst ev
    refine ⟨a, ns, rfl, .of (s1.fh _ _ ha), ln, fun b c hc hb => ?_⟩
    have g := Gr.new0 s1.fh hb (SetO w b (fun j => decide (j ∈ ns)) c)
    refine ⟨b, _, c, rfl, upd_same, by omega, fun ms l hm hk _ hl => ?_⟩
    have e2 : setI ns = ms := setI_eq hm fun j => (hk j).trans (by rw [decide_eq_true_eq])
    have hl1 : H1 l = none := by
      cases z : H1 l with
      | none => rfl
      | some u => rw [g.h _ _ z] at hl; cases hl
    refine fin105 k s1 g1 (g.trans (Gr.new0 g.fh hl _)) (.lst upd_same ?_) (s1.fh.free hl1) hl1 q1
    rw [e2]
    exact rps_ints ms
theorem fSetI (hK : p.K = X.K) (hc : X.calm = true) (hg : Gl X "sorted") (hm : X.mg "sorted" = none) (hg2 : Gl X "set") (hm2 : X.mg "set" = none) (he : RE X p O e te me)
    (h1 : starEach [e] X.env = (false, eval e X.env) :: starEach [] X.env := by rfl) (hpl : (backTo cpos (starEach [] X.env)).any (·.1) = false := by rfl)
    (h2 : starEach [.Call (.Name "set" q2) [e] [] cpos] X.env = (false, eval (.Call (.Name "set" q2) [e] [] cpos) X.env) :: starEach [] X.env := by rfl) (hpl2 : (backTo pos (starEach [] X.env)).any (·.1) = false := by rfl) :
    RF X p O (.Call (.Name "sorted" q) [.Call (.Name "set" q2) [e] [] cpos] [] pos) (tCB (rSortedSet X.w) (tCons (tCB (rSetLI p.K X.w) (tCons te tNil)) tNil)) (mUn dSetI me) :=
  ⟨pe_callB (cr_sortedSet hc) hg hm (by decide +kernel) (pa_cons (pe_callTy (hK ▸ call_setLI hc) hg2 hm2 (by decide +kernel) (pa_cons he.pe pa_nil h1) (by decide) (by decide) h1 hpl) pa_nil h2) (by decide) (by decide) h2 hpl2, lf_setI he.le⟩
end
end RR
end
section
namespace RR
open PySem PySem.Spec L2
open PyProof.Rows hiding St
end RR
end
section
namespace RC
open PySem PySem.Spec L2 RR
open PyProof.Rows hiding St
def b_landing : MS := (mSeq (mSet 3 mDict0) (mSeq (mSet 4 (mCall m_first_at (mCons (mVar 1) (mCons (mVar 2) mNil)))) (mSeq (mWhile (mAnd (mTest (mOp dIsNotN (mVar 4) (mC .none))) (mTest (mOp dEq (mOp dIx (mOp dIx (mVar 0) (mVar 4)) (mC (.int 0))) (mC (.str "island"))))) (mSeq (mIfS (mOr (mTest (mOp dIn (mVar 4) (mVar 3))) (mTest (mOp dIsN (mOp dIx (mOp dIx (mVar 0) (mVar 4)) (mC (.int 2))) (mC .none)))) (mRet (mC .none)) mNext) (mSeq (mPutK 3 (mVar 4) (mC (.bool true))) (mSet 4 (mCall m_first_at (mCons (mVar 1) (mCons (mOp dIx (mOp dIx (mVar 0) (mVar 4)) (mC (.int 2))) mNil))))))) (mSeq (mIfS (mOr (mTest (mOp dIsN (mVar 4) (mC .none))) (mTest (mOp dEq (mOp dIx (mOp dIx (mVar 0) (mVar 4)) (mC (.int 0))) (mC (.str "word"))))) (mRet (mC .none)) mNext) (mSeq (mIfS (mAnd (mTest (mOp dEq (mOp dIx (mOp dIx (mVar 0) (mVar 4)) (mC (.int 0))) (mC (.str "load")))) (mNot (mTest (mCall m_is_word (mCons (mVar 0) (mCons (mOp dIx (mOp dIx (mVar 0) (mVar 4)) (mC (.int 2))) mNil)))))) (mRet (mC .none)) mNext) (mRet (mVar 4)))))))
def m_landing : MP := mFun ["table", "addresses", "where", "passed", "at"] 3 b_landing
def vb_landing : VS := (vSeqS (vSet 3 vDict0) (vSeqS (vSet 4 (vCall v_first_at (vCons (vVar 1) (vCons (vVar 2) vNil)))) (vSeqS (vWhile (vAnd (vTest (vOp dIsNotN (vVar 4) (vC .none))) (vTest (vOp dEq (vOp dIx (vOp dIx (vVar 0) (vVar 4)) (vC (.int 0))) (vC (.str "island"))))) (vSeqS (vIfS (vOr (vTest (vOp dIn (vVar 4) (vVar 3))) (vTest (vOp dIsN (vOp dIx (vOp dIx (vVar 0) (vVar 4)) (vC (.int 2))) (vC .none)))) (vRet (vC .none)) vNext) (vSeqS (vPutK 3 (vVar 4) (vC (.bool true))) (vSet 4 (vCall v_first_at (vCons (vVar 1) (vCons (vOp dIx (vOp dIx (vVar 0) (vVar 4)) (vC (.int 2))) vNil))))))) (vSeqS (vIfS (vOr (vTest (vOp dIsN (vVar 4) (vC .none))) (vTest (vOp dEq (vOp dIx (vOp dIx (vVar 0) (vVar 4)) (vC (.int 0))) (vC (.str "word"))))) (vRet (vC .none)) vNext) (vSeqS (vIfS (vAnd (vTest (vOp dEq (vOp dIx (vOp dIx (vVar 0) (vVar 4)) (vC (.int 0))) (vC (.str "load")))) (vNot (vTest (vCall v_is_word (vCons (vVar 0) (vCons (vOp dIx (vOp dIx (vVar 0) (vVar 4)) (vC (.int 2))) vNil)))))) (vRet (vC .none)) vNext) (vRet (vVar 4)))))))
def v_landing : VP := vFun ["table", "addresses", "where", "passed", "at"] 3 vb_landing
theorem fp_landing : FP m_landing v_landing := by
  unfold m_landing v_landing b_landing vb_landing
  exact f_Fun (f_Seq (f_Set f_Dict0) (f_Seq (f_Set (f_Call fp_first_at (f_Cons f_Var (f_Cons f_Var f_Nil)))) (f_Seq (f_While (f_And (f_Test (f_Op f_Var f_C)) (f_Test (f_Op (f_Op (f_Op f_Var f_Var) f_C) f_C))) (f_Seq (f_IfS (f_Or (f_Test (f_Op f_Var f_Var)) (f_Test (f_Op (f_Op (f_Op f_Var f_Var) f_C) f_C))) (f_Ret f_C) f_Next) (f_Seq (f_PutK f_Var f_C) (f_Set (f_Call fp_first_at (f_Cons f_Var (f_Cons (f_Op (f_Op f_Var f_Var) f_C) f_Nil))))))) (f_Seq (f_IfS (f_Or (f_Test (f_Op f_Var f_C)) (f_Test (f_Op (f_Op (f_Op f_Var f_Var) f_C) f_C))) (f_Ret f_C) f_Next) (f_Seq (f_IfS (f_And (f_Test (f_Op (f_Op (f_Op f_Var f_Var) f_C) f_C)) (f_Not (f_Test (f_Call fp_is_word (f_Cons f_Var (f_Cons (f_Op (f_Op f_Var f_Var) f_C) f_Nil)))))) (f_Ret f_C) f_Next) (f_Ret f_Var))))))
def b_next_address : MS := (mSeq (mAsg (mVar 1) (mgTup 3 (mgCons (mgName 3) (mgCons (mgName 4) (mgCons (mgName 5) mgNil))))) (mSeq (mIfS (mOr (mTest (mOp dIn (mVar 3) (mTup (mCons (mC (.str "jump")) (mCons (mC (.str "far")) mNil))))) (mAnd (mTest (mOp dEq (mVar 3) (mC (.str "branch")))) (mTest (mOp dEq (mOp dMod (mVar 2) (mC (.int 2))) (mC (.int 1)))))) (mRet (mVar 5)) mNext) (mRet (mOp dAdd (mVar 0) (mVar 4)))))
def m_next_address : MP := mFun ["at", "cell", "total", "word", "size", "number"] 3 b_next_address
def vb_next_address : VS := (vSeqS (vAsg (vVar 1) (vgTup 3 (vgCons (vgName 3) (vgCons (vgName 4) (vgCons (vgName 5) vgNil))))) (vSeqS (vIfS (vOr (vTest (vOp dIn (vVar 3) (vTup (vCons (vC (.str "jump")) (vCons (vC (.str "far")) vNil))))) (vAnd (vTest (vOp dEq (vVar 3) (vC (.str "branch")))) (vTest (vOp dEq (vOp dMod (vVar 2) (vC (.int 2))) (vC (.int 1)))))) (vRet (vVar 5)) vNext) (vRet (vOp dAdd (vVar 0) (vVar 4)))))
def v_next_address : VP := vFun ["at", "cell", "total", "word", "size", "number"] 3 vb_next_address
theorem fp_next_address : FP m_next_address v_next_address := by
  unfold m_next_address v_next_address b_next_address vb_next_address
  exact f_Fun (f_Seq (f_Asg f_Var (f_gTup (f_gCons f_gName (f_gCons f_gName (f_gCons f_gName f_gNil))))) (f_Seq (f_IfS (f_Or (f_Test (f_Op f_Var (f_Tup (f_Cons f_C (f_Cons f_C f_Nil))))) (f_And (f_Test (f_Op f_Var f_C)) (f_Test (f_Op (f_Op f_Var f_C) f_C)))) (f_Ret f_Var) f_Next) (f_Ret (f_Op f_Var f_Var))))
def b_total_behind : MS := (mSeq (mAsg (mVar 1) (mgTup 3 (mgCons (mgName 3) (mgCons (mgName 4) (mgCons (mgName 5) mgNil))))) (mSeq (mIfS (mTest (mOp dEq (mVar 3) (mC (.str "plain")))) (mRet (mOp dMod (mOp dAdd (mVar 2) (mVar 5)) (mOp dAdd (mC c_HIGHEST) (mC (.int 1))))) mNext) (mSeq (mIfS (mTest (mOp dEq (mVar 3) (mC (.str "load")))) (mRet (mOp dMod (mOp dAdd (mVar 2) (mOp dIx (mOp dIx (mVar 0) (mVar 5)) (mC (.int 2)))) (mOp dAdd (mC c_HIGHEST) (mC (.int 1))))) mNext) (mRet (mVar 2)))))
def m_total_behind : MP := mFun ["table", "cell", "total", "word", "_", "number"] 3 b_total_behind
def vb_total_behind : VS := (vSeqS (vAsg (vVar 1) (vgTup 3 (vgCons (vgName 3) (vgCons (vgName 4) (vgCons (vgName 5) vgNil))))) (vSeqS (vIfS (vTest (vOp dEq (vVar 3) (vC (.str "plain")))) (vRet (vOp dMod (vOp dAdd (vVar 2) (vVar 5)) (vOp dAdd (vC c_HIGHEST) (vC (.int 1))))) vNext) (vSeqS (vIfS (vTest (vOp dEq (vVar 3) (vC (.str "load")))) (vRet (vOp dMod (vOp dAdd (vVar 2) (vOp dIx (vOp dIx (vVar 0) (vVar 5)) (vC (.int 2)))) (vOp dAdd (vC c_HIGHEST) (vC (.int 1))))) vNext) (vRet (vVar 2)))))
def v_total_behind : VP := vFun ["table", "cell", "total", "word", "_", "number"] 3 vb_total_behind
theorem fp_total_behind : FP m_total_behind v_total_behind := by
  unfold m_total_behind v_total_behind b_total_behind vb_total_behind
  exact f_Fun (f_Seq (f_Asg f_Var (f_gTup (f_gCons f_gName (f_gCons f_gName (f_gCons f_gName f_gNil))))) (f_Seq (f_IfS (f_Test (f_Op f_Var f_C)) (f_Ret (f_Op (f_Op f_Var f_Var) (f_Op f_C f_C))) f_Next) (f_Seq (f_IfS (f_Test (f_Op f_Var f_C)) (f_Ret (f_Op (f_Op f_Var (f_Op (f_Op f_Var f_Var) f_C)) (f_Op f_C f_C))) f_Next) (f_Ret f_Var))))
def b_run_image : MS := (mSeq (mSet 4 (mCl cSortedK (mCons (mVar 0) mNil))) (mSeq (mSet 5 mDict0) (mSeq (mSet 6 (mC (.int 0))) (mSeq (mWhile (mTest (mOp dLt (mVar 6) (mVar 3))) (mSeq (mIfS (mTest (mOp dNotIn (mVar 1) (mVar 5))) (mPutK 5 (mVar 1) (mCall m_landing (mCons (mVar 0) (mCons (mVar 4) (mCons (mVar 1) mNil))))) mNext) (mSeq (mSet 7 (mLook (mOp dIx (mVar 5) (mVar 1)))) (mSeq (mIfS (mTest (mOp dIsN (mVar 7) (mC .none))) (mRet (mTup (mCons (mC (.str "lost")) (mCons (mVar 2) (mCons (mVar 6) mNil))))) mNext) (mSeq (mAug 6 dAddI (mC (.int 1))) (mSeq (mIfS (mTest (mOp dEq (mOp dIx (mOp dIx (mVar 0) (mVar 7)) (mC (.int 0))) (mC (.str "stop")))) (mRet (mTup (mCons (mC (.str "stop")) (mCons (mVar 2) (mCons (mVar 6) mNil))))) mNext) (mSeq (mSet 2 (mCall m_total_behind (mCons (mVar 0) (mCons (mOp dIx (mVar 0) (mVar 7)) (mCons (mVar 2) mNil))))) (mSet 1 (mCall m_next_address (mCons (mVar 7) (mCons (mOp dIx (mVar 0) (mVar 7)) (mCons (mVar 2) mNil)))))))))))) (mRet (mTup (mCons (mC (.str "limit")) (mCons (mVar 2) (mCons (mVar 6) mNil)))))))))
def m_run_image : MP := mFun ["table", "where", "total", "limit", "addresses", "known", "steps", "at"] 4 b_run_image
def vb_run_image : VS := (vSeqS (vSet 4 (vCl cSortedKE (vCons (vVar 0) vNil))) (vSeqS (vSet 5 vDict0) (vSeqS (vSet 6 (vC (.int 0))) (vSeqS (vWhile (vTest (vOp dLt (vVar 6) (vVar 3))) (vSeqS (vIfS (vTest (vOp dNotIn (vVar 1) (vVar 5))) (vPutK 5 (vVar 1) (vCall v_landing (vCons (vVar 0) (vCons (vVar 4) (vCons (vVar 1) vNil))))) vNext) (vSeqS (vSet 7 (vLook (vOp dIx (vVar 5) (vVar 1)))) (vSeqS (vIfS (vTest (vOp dIsN (vVar 7) (vC .none))) (vRet (vTup (vCons (vC (.str "lost")) (vCons (vVar 2) (vCons (vVar 6) vNil))))) vNext) (vSeqS (vAug 6 dAddI (vC (.int 1))) (vSeqS (vIfS (vTest (vOp dEq (vOp dIx (vOp dIx (vVar 0) (vVar 7)) (vC (.int 0))) (vC (.str "stop")))) (vRet (vTup (vCons (vC (.str "stop")) (vCons (vVar 2) (vCons (vVar 6) vNil))))) vNext) (vSeqS (vSet 2 (vCall v_total_behind (vCons (vVar 0) (vCons (vOp dIx (vVar 0) (vVar 7)) (vCons (vVar 2) vNil))))) (vSet 1 (vCall v_next_address (vCons (vVar 7) (vCons (vOp dIx (vVar 0) (vVar 7)) (vCons (vVar 2) vNil)))))))))))) (vRet (vTup (vCons (vC (.str "limit")) (vCons (vVar 2) (vCons (vVar 6) vNil)))))))))
def v_run_image : VP := vFun ["table", "where", "total", "limit", "addresses", "known", "steps", "at"] 4 vb_run_image
theorem fp_run_image : FP m_run_image v_run_image := by
  unfold m_run_image v_run_image b_run_image vb_run_image
  exact f_Fun (f_Seq (f_Set (f_ClE cSortedK_E (f_Cons f_Var f_Nil))) (f_Seq (f_Set f_Dict0) (f_Seq (f_Set f_C) (f_Seq (f_While (f_Test (f_Op f_Var f_Var)) (f_Seq (f_IfS (f_Test (f_Op f_Var f_Var)) (f_PutK f_Var (f_Call fp_landing (f_Cons f_Var (f_Cons f_Var (f_Cons f_Var f_Nil))))) f_Next) (f_Seq (f_Set (f_Look (f_Op f_Var f_Var))) (f_Seq (f_IfS (f_Test (f_Op f_Var f_C)) (f_Ret (f_Tup (f_Cons f_C (f_Cons f_Var (f_Cons f_Var f_Nil))))) f_Next) (f_Seq (f_Aug f_C) (f_Seq (f_IfS (f_Test (f_Op (f_Op (f_Op f_Var f_Var) f_C) f_C)) (f_Ret (f_Tup (f_Cons f_C (f_Cons f_Var (f_Cons f_Var f_Nil))))) f_Next) (f_Seq (f_Set (f_Call fp_total_behind (f_Cons f_Var (f_Cons (f_Op f_Var f_Var) (f_Cons f_Var f_Nil))))) (f_Set (f_Call fp_next_address (f_Cons f_Var (f_Cons (f_Op f_Var f_Var) (f_Cons f_Var f_Nil)))))))))))) (f_Ret (f_Tup (f_Cons f_C (f_Cons f_Var (f_Cons f_Var f_Nil)))))))))
def b_run_cells : MS := (mSeq (mDrop (mCall m_check_image (mCons (mVar 0) mNil))) (mSeq (mDrop (mCall m_check_number (mCons (mVar 1) (mCons (mC c_HIGHEST) mNil)))) (mSeq (mDrop (mCall m_check_number (mCons (mVar 2) (mCons (mC c_MOST_STEPS) mNil)))) (mRet (mCall m_run_image (mCons (mVar 0) (mCons (mC (.int 0)) (mCons (mVar 1) (mCons (mVar 2) mNil)))))))))
def m_run_cells : MP := mFun ["table", "total", "limit"] 3 b_run_cells
def vb_run_cells : VS := (vSeqS (vDrop (vCall v_check_image (vCons (vVar 0) vNil))) (vSeqS (vDrop (vCall v_check_number (vCons (vVar 1) (vCons (vC c_HIGHEST) vNil)))) (vSeqS (vDrop (vCall v_check_number (vCons (vVar 2) (vCons (vC c_MOST_STEPS) vNil)))) (vRet (vCall v_run_image (vCons (vVar 0) (vCons (vC (.int 0)) (vCons (vVar 1) (vCons (vVar 2) vNil)))))))))
def v_run_cells : VP := vFun ["table", "total", "limit"] 3 vb_run_cells
theorem fp_run_cells : FP m_run_cells v_run_cells := by
  unfold m_run_cells v_run_cells b_run_cells vb_run_cells
  exact f_Fun (f_Seq (f_Drop (f_Call fp_check_image (f_Cons f_Var f_Nil))) (f_Seq (f_Drop (f_Call fp_check_number (f_Cons f_Var (f_Cons f_C f_Nil)))) (f_Seq (f_Drop (f_Call fp_check_number (f_Cons f_Var (f_Cons f_C f_Nil)))) (f_Ret (f_Call fp_run_image (f_Cons f_Var (f_Cons f_C (f_Cons f_Var (f_Cons f_Var f_Nil)))))))))
def b_run_from : MS := (mSeq (mDrop (mCall m_check_image (mCons (mVar 0) mNil))) (mSeq (mDrop (mCall m_check_number (mCons (mVar 1) (mCons (mC c_HIGHEST_ADDRESS) mNil)))) (mSeq (mDrop (mCall m_check_number (mCons (mVar 2) (mCons (mC c_HIGHEST) mNil)))) (mSeq (mDrop (mCall m_check_number (mCons (mVar 3) (mCons (mC c_MOST_STEPS) mNil)))) (mRet (mCall m_run_image (mCons (mVar 0) (mCons (mVar 1) (mCons (mVar 2) (mCons (mVar 3) mNil))))))))))
def m_run_from : MP := mFun ["table", "at", "total", "limit"] 4 b_run_from
def vb_run_from : VS := (vSeqS (vDrop (vCall v_check_image (vCons (vVar 0) vNil))) (vSeqS (vDrop (vCall v_check_number (vCons (vVar 1) (vCons (vC c_HIGHEST_ADDRESS) vNil)))) (vSeqS (vDrop (vCall v_check_number (vCons (vVar 2) (vCons (vC c_HIGHEST) vNil)))) (vSeqS (vDrop (vCall v_check_number (vCons (vVar 3) (vCons (vC c_MOST_STEPS) vNil)))) (vRet (vCall v_run_image (vCons (vVar 0) (vCons (vVar 1) (vCons (vVar 2) (vCons (vVar 3) vNil))))))))))
def v_run_from : VP := vFun ["table", "at", "total", "limit"] 4 vb_run_from
theorem fp_run_from : FP m_run_from v_run_from := by
  unfold m_run_from v_run_from b_run_from vb_run_from
  exact f_Fun (f_Seq (f_Drop (f_Call fp_check_image (f_Cons f_Var f_Nil))) (f_Seq (f_Drop (f_Call fp_check_number (f_Cons f_Var (f_Cons f_C f_Nil)))) (f_Seq (f_Drop (f_Call fp_check_number (f_Cons f_Var (f_Cons f_C f_Nil)))) (f_Seq (f_Drop (f_Call fp_check_number (f_Cons f_Var (f_Cons f_C f_Nil)))) (f_Ret (f_Call fp_run_image (f_Cons f_Var (f_Cons f_Var (f_Cons f_Var (f_Cons f_Var f_Nil))))))))))
end RC
end
section
namespace RC
open PySem PySem.Spec L2 RR
open PyProof.Rows hiding St
def b__law_draw_image : MS := (mSeq (mSet 3 (mUn dSetI (mLc (mIR1 (mCons (mOp dAdd (mC (.int 1)) (mCallP m__law_take (mCons (mVar 1) mNil))) mNil)) (mgName 4) mYes (mCallP m__law_take (mCons (mVar 2) mNil)) [4]))) (mSeq (mSet 5 (mOp dAdd (mOp dAdd (mOp dMul (mLst (mCons (mC (.str "plain")) mNil)) (mC (.int 4))) (mLst (mCons (mC (.str "stop")) (mCons (mC (.str "jump")) (mCons (mC (.str "far")) mNil))))) (mOp dMul (mLst (mCons (mC (.str "branch")) (mCons (mC (.str "island")) (mCons (mC (.str "load")) (mCons (mC (.str "word")) mNil))))) (mC (.int 2))))) (mSeq (mPar [6, 7] (mCons (mLc (mISeq (mVar 3)) (mgName 8) mYes (mCallP m__law_one_of (mCons (mVar 5) mNil)) [8]) (mCons mDict0 mNil))) (mSeq (mSet 9 (mLc (mIZ (mCons (mVar 3) (mCons (mVar 6) mNil))) (mgTup 2 (mgCons (mgName 8) (mgCons (mgName 10) mgNil))) (mTest (mOp dEq (mVar 10) (mC (.str "word")))) (mVar 8) [8, 10])) (mSeq (mFor (mIZ (mCons (mVar 3) (mCons (mVar 6) mNil))) (mgTup 2 (mgCons (mgName 8) (mgCons (mgName 10) mgNil))) (mSeq (mSet 11 (mCallP m__law_one_of (mCons (mOp dAdd (mOp dMul (mVar 3) (mC (.int 3))) (mLst (mCons (mVar 8) (mCons (mCallP m__law_take (mCons (mOp dAdd (mVar 2) (mC (.int 10))) mNil)) mNil)))) mNil))) (mSeq (mIfS (mTest (mOp dIn (mVar 10) (mTup (mCons (mC (.str "plain")) (mCons (mC (.str "word")) (mCons (mC (.str "stop")) mNil)))))) (mSet 11 (mCallP m__law_one_of (mCons (mLst (mCons (mC (.int 0)) (mCons (mC (.int 1)) (mCons (mC (.int 2)) (mCons (mC (.int 999)) (mCons (mC (.int 65535)) mNil)))))) mNil))) (mIfS (mAnd (mTest (mOp dEq (mVar 10) (mC (.str "load")))) (mAnd (mTest (mOp dNe (mVar 9) (mLst mNil))) (mTest (mOp dGt (mCallP m__law_take (mCons (mC (.int 5)) mNil)) (mC (.int 0)))))) (mSet 11 (mCallP m__law_one_of (mCons (mVar 9) mNil))) (mIfS (mAnd (mTest (mOp dEq (mVar 10) (mC (.str "island")))) (mTest (mOp dEq (mCallP m__law_take (mCons (mC (.int 5)) mNil)) (mC (.int 0))))) (mSet 11 (mC .none)) mNext))) (mPutK 7 (mVar 8) (mTup (mCons (mVar 10) (mCons (mOp dAdd (mC (.int 1)) (mCallP m__law_one_of (mCons (mLst (mCons (mC (.int 0)) (mCons (mC (.int 1)) (mCons (mC (.int 3)) (mCons (mCallP m__law_take (mCons (mC (.int 99)) mNil)) mNil))))) mNil))) (mCons (mVar 11) mNil)))))))) (mRet (mVar 7)))))))
def m__law_draw_image : MF := mFunP ["pen", "most", "width", "spots", "again", "words", "chosen", "found", "at", "values", "word", "number"] 2 b__law_draw_image
def b__law_changed : MS := (mSeq (mPar [4, 5] (mCons (mDictOf (mVar 1)) (mCons (mCallP m__law_draw_image (mCons (mC (.int 6)) (mCons (mVar 2) mNil))) mNil))) (mSeq (mFor (mIR1 (mCons (mOp dAdd (mC (.int 1)) (mCallP m__law_take (mCons (mVar 3) mNil))) mNil)) (mgName 6) (mSeq (mSet 7 (mCallP m__law_one_of (mCons (mOp dAdd (mOp dAdd (mOp dMul (mCl cSortedK (mCons (mVar 1) mNil)) (mC (.int 2))) (mCl cSortedK (mCons (mVar 5) mNil))) (mLst (mCons (mCallP m__law_take (mCons (mVar 2) mNil)) mNil))) mNil))) (mIfS (mTest (mOp dEq (mCallP m__law_take (mCons (mC (.int 3)) mNil)) (mC (.int 0)))) (mDPop 4 (mVar 7) (mC .none)) (mPutK 4 (mVar 7) (mCallP m__law_one_of (mCons (mOp dAdd (mUn dValsL (mVar 5)) (mUn dValsL (mVar 1))) mNil)))))) (mRet (mVar 4))))
def m__law_changed : MF := mFunP ["pen", "image", "width", "many", "found", "other", "again", "at"] 3 b__law_changed
end RC
end
section
namespace RC
open PySem PySem.Spec L2 RR
open PyProof.Rows hiding St
def b__law_is_in : MS := (mRet (mOp dNe (mLc (mISeq (mVar 0)) (mgTup 2 (mgCons (mgName 2) (mgCons (mgName 3) mgNil))) (mAnd (mTest (mOp dLe (mVar 2) (mVar 1))) (mOr (mTest (mOp dIsN (mVar 3) (mC .none))) (mTest (mOp dLe (mVar 1) (mVar 3))))) (mC (.int 0)) [2, 3]) (mLst mNil)))
def m__law_is_in : MP := mFun ["pairs", "address", "first", "last"] 2 b__law_is_in
def vb__law_is_in : VS := (vRet (vOp dNe (vLc (vISeq (vVar 0)) (vgTup 2 (vgCons (vgName 2) (vgCons (vgName 3) vgNil))) (vAnd (vTest (vOp dLe (vVar 2) (vVar 1))) (vOr (vTest (vOp dIsN (vVar 3) (vC .none))) (vTest (vOp dLe (vVar 1) (vVar 3))))) (vC (.int 0)) [2, 3]) (vLst vNil)))
def v__law_is_in : VP := vFun ["pairs", "address", "first", "last"] 2 vb__law_is_in
theorem fp__law_is_in : FP m__law_is_in v__law_is_in := by
  unfold m__law_is_in v__law_is_in b__law_is_in vb__law_is_in
  exact f_Fun (f_Ret (f_Op (f_Lc (f_ISeq f_Var) (f_gTup (f_gCons f_gName (f_gCons f_gName f_gNil))) (f_And (f_Test (f_Op f_Var f_Var)) (f_Or (f_Test (f_Op f_Var f_C)) (f_Test (f_Op f_Var f_Var)))) f_C) (f_Lst f_Nil)))
def b__law_runs : MS := (mRet (mLc (mISeq (mLst (mCons (mTup (mCons (mC (.int 0)) (mCons (mC (.int 30)) mNil))) (mCons (mTup (mCons (mC (.int 1)) (mCons (mC (.int 30)) mNil))) (mCons (mTup (mCons (mC (.int 65535)) (mCons (mC (.int 7)) mNil))) (mCons (mTup (mCons (mC (.int 6)) (mCons (mC (.int 0)) mNil))) (mCons (mTup (mCons (mC (.int 7)) (mCons (mC (.int 100)) mNil))) mNil))))))) (mgTup 2 (mgCons (mgName 2) (mgCons (mgName 3) mgNil))) mYes (mCall m_run_from (mCons (mVar 0) (mCons (mVar 1) (mCons (mVar 2) (mCons (mVar 3) mNil))))) [2, 3]))
def m__law_runs : MP := mFun ["image", "at", "total", "limit"] 2 b__law_runs
def vb__law_runs : VS := (vRet (vLc (vISeq (vLst (vCons (vTup (vCons (vC (.int 0)) (vCons (vC (.int 30)) vNil))) (vCons (vTup (vCons (vC (.int 1)) (vCons (vC (.int 30)) vNil))) (vCons (vTup (vCons (vC (.int 65535)) (vCons (vC (.int 7)) vNil))) (vCons (vTup (vCons (vC (.int 6)) (vCons (vC (.int 0)) vNil))) (vCons (vTup (vCons (vC (.int 7)) (vCons (vC (.int 100)) vNil))) vNil))))))) (vgTup 2 (vgCons (vgName 2) (vgCons (vgName 3) vgNil))) vYes (vCall v_run_from (vCons (vVar 0) (vCons (vVar 1) (vCons (vVar 2) (vCons (vVar 3) vNil))))) [2, 3]))
def v__law_runs : VP := vFun ["image", "at", "total", "limit"] 2 vb__law_runs
theorem fp__law_runs : FP m__law_runs v__law_runs := by
  unfold m__law_runs v__law_runs b__law_runs vb__law_runs
  exact f_Fun (f_Ret (f_Lc (f_ISeq (f_Lst (f_Cons (f_Tup (f_Cons f_C (f_Cons f_C f_Nil))) (f_Cons (f_Tup (f_Cons f_C (f_Cons f_C f_Nil))) (f_Cons (f_Tup (f_Cons f_C (f_Cons f_C f_Nil))) (f_Cons (f_Tup (f_Cons f_C (f_Cons f_C f_Nil))) (f_Cons (f_Tup (f_Cons f_C (f_Cons f_C f_Nil))) f_Nil))))))) (f_gTup (f_gCons f_gName (f_gCons f_gName f_gNil))) f_Yes (f_Call fp_run_from (f_Cons f_Var (f_Cons f_Var (f_Cons f_Var (f_Cons f_Var f_Nil)))))))
def b_c16_law : MS := (mSeq (mFor (mIR1 (mCons (mC (.int 6)) mNil)) (mgName 2) (mSeq (mSet 3 (mCallP m__law_draw_image (mCons (mC (.int 12)) (mCons (mC (.int 40)) mNil)))) (mSeq (mPar [4, 5] (mCons (mCallP m__law_one_of (mCons (mOp dAdd (mLst (mCons (mC (.int 0)) (mCons (mCallP m__law_take (mCons (mC (.int 50)) mNil)) mNil))) (mCl cSortedK (mCons (mVar 3) mNil))) mNil)) (mCons (mCallP m__law_changed (mCons (mVar 3) (mCons (mC (.int 60)) (mCons (mC (.int 12)) mNil)))) mNil))) (mSeq (mPar [6, 7] (mCons (mCall m_depends (mCons (mVar 3) (mCons (mVar 4) mNil))) (mCons (mCall m__law_runs (mCons (mVar 3) (mCons (mVar 4) mNil))) mNil))) (mSeq (mSet 8 (mLc (mISeq (mCall m_patch (mCons (mVar 3) (mCons (mVar 5) mNil)))) (mgName 9) (mNot (mTest (mCall m__law_is_in (mCons (mVar 6) (mCons (mOp dIx (mVar 9) (mC (.int 0))) mNil))))) (mVar 9) [9])) (mSeq (mSet 10 (mCall m_patched (mCons (mVar 3) (mCons (mVar 8) mNil)))) (mSeq (mIfS (mOr (mTest (mOp dNe (mCall m__law_runs (mCons (mVar 10) (mCons (mVar 4) mNil))) (mVar 7))) (mOr (mTest (mOp dNe (mCall m_depends (mCons (mVar 10) (mCons (mVar 4) mNil))) (mVar 6))) (mTest (mOp dNe (mCall m__law_runs (mCons (mCall m_patched (mCons (mVar 10) (mCons (mVar 8) mNil))) (mCons (mVar 4) mNil))) (mVar 7))))) (mRet (mC (.bool false))) mNext) (mSeq (mSet 11 (mLc (mISeq (mCl cSortedK (mCons (mVar 3) mNil))) (mgName 12) (mTest (mOp dGe (mVar 12) (mVar 4))) (mVar 12) [12])) (mSeq (mIfS (mAnd (mTest (mOp dNe (mVar 11) (mLst mNil))) (mTest (mOp dNe (mCall m__law_runs (mCons (mVar 3) (mCons (mOp dIx (mVar 11) (mC (.int 0))) mNil))) (mVar 7)))) (mRet (mC (.bool false))) mNext) (mIfS (mTest (mOp dNeX (mCall m_run_cells (mCons (mVar 3) (mCons (mC (.int 5)) (mCons (mC (.int 20)) mNil)))) (mCall m_run_from (mCons (mVar 3) (mCons (mC (.int 0)) (mCons (mC (.int 5)) (mCons (mC (.int 20)) mNil))))))) (mRet (mC (.bool false))) mNext)))))))))) (mRet (mC (.bool true))))
end RC
end
section
namespace K16
open PySem PySem.Spec L2 RR RC
open PyProof.Rows hiding St
def topS (i : Nat) : Stmt := PySem.Challenge.pw_reachrows_k16_runs_alike_on_ranges.main.body.getD i (.Pass ⟨0, 0, 0, 0⟩)
structure Txt (P : Program) (w : World) (K : PySem.W.Frag) (mg : Str → Option Value) (base : Heap) : Prop where
  sys : ∃ mm, base.Ns sysModules mm
  n_all : mg "all" = none
  n_bool : mg "bool" = none
  n_dict : mg "dict" = none
  n_enumerate : mg "enumerate" = none
  n_int : mg "int" = none
  n_isinstance : mg "isinstance" = none
  n_len : mg "len" = none
  n_list : mg "list" = none
  n_max : mg "max" = none
  n_range : mg "range" = none
  n_set : mg "set" = none
  n_sorted : mg "sorted" = none
  n_tuple : mg "tuple" = none
  n_zip : mg "zip" = none
  c_HIGHEST : CI K mg "HIGHEST" c_HIGHEST (.int 65535)
  c_MOST_STEPS : CI K mg "MOST_STEPS" c_MOST_STEPS (.int 1000)
  c_WORDS : ∃ a : Addr, CI K mg "WORDS" c_WORDS (.ref a)
  c_LEAPS : ∃ a : Addr, CI K mg "LEAPS" c_LEAPS (.ref a)
  c_HIGHEST_ADDRESS : CI K mg "HIGHEST_ADDRESS" c_HIGHEST_ADDRESS (.int 1000000000)
  c_MOST_BYTES : CI K mg "MOST_BYTES" c_MOST_BYTES (.int 99)
  c_MOST_CELLS : CI K mg "MOST_CELLS" c_MOST_CELLS (.int 300)
  c_MOST_WRITES : CI K mg "MOST_WRITES" c_MOST_WRITES (.int 600)
  c_ENDLESS : CI K mg "ENDLESS" c_ENDLESS (.int 2000000000)
  d__law_spread : FD K mg "_law_spread" (topS 45) ["cell", "where"]
  d__law_take : FD K mg "_law_take" (topS 46) ["pen", "amount"]
  d__law_one_of : FD K mg "_law_one_of" (topS 47) ["pen", "some"]
  d__law_draw_image : FD K mg "_law_draw_image" (topS 48) ["pen", "most", "width"]
  d__law_changed : FD K mg "_law_changed" (topS 50) ["pen", "image", "width", "many"]
  d__law_is_in : FD K mg "_law_is_in" (topS 49) ["pairs", "address"]
  d__law_open : FD K mg "_law_open" (topS 44) ["script"]
  d_is_within : FD K mg "is_within" (topS 8) ["thing", "low", "high"]
  d_is_address : FD K mg "is_address" (topS 17) ["thing"]
  d_is_cell : FD K mg "is_cell" (topS 16) ["thing"]
  d_is_image : FD K mg "is_image" (topS 18) ["thing"]
  d_check_image : FD K mg "check_image" (topS 19) ["table"]
  d_check_number : FD K mg "check_number" (topS 9) ["number", "highest"]
  d_first_at : FD K mg "first_at" (topS 20) ["addresses", "where"]
  d_is_word : FD K mg "is_word" (topS 21) ["table", "address"]
  d_landing : FD K mg "landing" (topS 39) ["table", "addresses", "where"]
  d_next_address : FD K mg "next_address" (topS 38) ["at", "cell", "total"]
  d_total_behind : FD K mg "total_behind" (topS 37) ["table", "cell", "total"]
  d_run_image : FD K mg "run_image" (topS 40) ["table", "where", "total", "limit"]
  d_run_from : FD K mg "run_from" (topS 42) ["table", "at", "total", "limit"]
  d__law_runs : FD K mg "_law_runs" (topS 51) ["image", "at"]
  d_joined : FD K mg "joined" (topS 26) ["spans"]
  d_onward : FD K mg "onward" (topS 22) ["table", "at"]
  d_looked_for : FD K mg "looked_for" (topS 27) ["table", "at"]
  d_ranges_from : FD K mg "ranges_from" (topS 28) ["table", "at"]
  d_depends : FD K mg "depends" (topS 33) ["table", "at"]
  d_differences : FD K mg "differences" (topS 32) ["before", "after"]
  d_patch : FD K mg "patch" (topS 35) ["before", "after"]
  d_is_write : FD K mg "is_write" (topS 29) ["thing"]
  d_written : FD K mg "written" (topS 30) ["table", "writes"]
  d_check_writes : FD K mg "check_writes" (topS 31) ["table", "writes"]
  d_patched : FD K mg "patched" (topS 34) ["table", "writes"]
  d_run_cells : FD K mg "run_cells" (topS 41) ["table", "total", "limit"]
  d_law : FD K mg "law" (topS 52) ["script"]
variable {P : Program} {w : World} {K : PySem.W.Frag} {mg : Str → Option Value} {base : Heap}
abbrev s__law_spread : Stmt := topS 45
theorem sc__law_spread : FnScope ["cell", "where", "primes", "u", "v", "w"] ["cell", "where"] (defScope s__law_spread) := ⟨rfl, rfl, rfl, by decide +kernel, rfl, by decide +kernel, by decide +kernel⟩
theorem ok__law_spread (T : Txt P w K mg base) : FI P w K mg base 1 "_law_spread" ["cell", "where"] (spF K m__law_spread) := by
  obtain ⟨f, fd, F, g, b⟩ := T.d__law_spread.ex
  refine ⟨f, fd, FnG.pure F sc__law_spread fun cdv A outer s H E hr hg => ?_, g, F.kp, b, Fun.lk F⟩
  have hu := hr.units
  have hv := hv_of hr
  have hx := hx_of hr
  have hw := hu_of hr
  unfold b__law_spread
  exact ⟨_, [], (ss_cons (sIf (O' := []) (t_cmp op_ge l_cmp (e_var 0 (pv 0) (by decide)) (e_op op_pow l_pow e_int e_int) (nomark _)) (ss_one (s_ret (e_var 0 (pv 0) (by decide)))) ss_nil (fun _ h => h) (by decide)) (ss_cons (sSet 2 sc__law_spread.nd rfl (.inl rfl) (e_lst (a_cons e_int (a_cons e_int (a_cons e_int (a_cons e_int (a_cons e_int (a_cons e_int (a_cons e_int (a_cons e_int a_nil))))))))) (by decide) off0) (ss_cons (sSet 2 sc__law_spread.nd rfl (.inl rfl) (e_op (oAdd rfl) l_add (e_var 2 (pv 2) (by decide)) (e_lst (a_cons e_int (a_cons e_int (a_cons e_int (a_cons e_int (a_cons e_int a_nil))))))) (by decide) off0) (ss_cons (sSet 3 sc__law_spread.nd rfl (.inl rfl) (e_op (oAdd rfl) l_add (e_op (oAdd rfl) l_add (e_op o_mul l_mul (e_op op_mod l_mod (cT call_int1 l_int (by rfl) T.n_int (by decide +kernel) (a_cons (e_var 0 (pv 0) (by decide)) a_nil)) e_int) (e_op (oAdd rfl) l_add (e_op o_mul l_mul e_int (e_var 1 (pv 1) (by decide))) e_int)) (e_op o_mul l_mul (e_var 1 (pv 1) (by decide)) e_int)) e_int) (by decide) off0) (ss_cons (sSet 3 sc__law_spread.nd rfl (.inl rfl) (e_op op_mod l_mod (cT call_int1 l_int (by rfl) T.n_int (by decide +kernel) (a_cons (e_op op_pow l_pow (e_var 3 (pv 3) (by decide)) e_int) a_nil)) (e_ix (oIx rfl hw) l_ix (e_var 2 (pv 2) (by decide)) (e_op op_mod l_mod (cT call_int1 l_int (by rfl) T.n_int (by decide +kernel) (a_cons (e_var 1 (pv 1) (by decide)) a_nil)) e_int) (fun _ _ => rfl))) (by decide) off0) (ss_cons (sSet 4 sc__law_spread.nd rfl (.inl rfl) (e_op op_mod l_mod (cT call_int1 l_int (by rfl) T.n_int (by decide +kernel) (a_cons (e_op op_pow l_pow (e_op (oAdd rfl) l_add (e_op (oAdd rfl) l_add (e_op o_mul l_mul (e_var 3 (pv 3) (by decide)) (e_op (oAdd rfl) l_add (e_var 1 (pv 1) (by decide)) e_int)) (e_op op_mod l_mod (cT call_int1 l_int (by rfl) T.n_int (by decide +kernel) (a_cons (e_var 0 (pv 0) (by decide)) a_nil)) e_int)) e_int) e_int) a_nil)) (e_ix (oIx rfl hw) l_ix (e_var 2 (pv 2) (by decide)) (e_op op_mod l_mod (cT call_int1 l_int (by rfl) T.n_int (by decide +kernel) (a_cons (e_op (oAdd rfl) l_add (e_var 1 (pv 1) (by decide)) e_int) a_nil)) e_int) (fun _ _ => rfl))) (by decide) off0) (ss_cons (sSet 5 sc__law_spread.nd rfl (.inl rfl) (e_op op_mod l_mod (cT call_int1 l_int (by rfl) T.n_int (by decide +kernel) (a_cons (e_op op_pow l_pow (e_op (oAdd rfl) l_add (e_op (oAdd rfl) l_add (e_var 4 (pv 4) (by decide)) (e_op op_mod l_mod (cT call_int1 l_int (by rfl) T.n_int (by decide +kernel) (a_cons (e_var 3 (pv 3) (by decide)) a_nil)) e_int)) (e_var 1 (pv 1) (by decide))) e_int) a_nil)) (e_ix (oIx rfl hw) l_ix (e_var 2 (pv 2) (by decide)) (e_op op_mod l_mod (cT call_int1 l_int (by rfl) T.n_int (by decide +kernel) (a_cons (e_op (oAdd rfl) l_add (e_var 1 (pv 1) (by decide)) e_int) a_nil)) e_int) (fun _ _ => rfl))) (by decide) off0) (ss_one (s_ret (e_op (oAdd rfl) l_add (e_op o_mul l_mul (e_op (oAdd rfl) l_add (e_op o_mul l_mul (e_var 3 (pv 3) (by decide)) e_int) (e_var 4 (pv 4) (by decide))) e_int) (e_var 5 (pv 5) (by decide))))))))))))⟩
abbrev s__law_take : Stmt := topS 46
theorem sc__law_take : FnScope ["pen", "amount", "where", "cell", "found"] ["pen", "amount"] (defScope s__law_take) := ⟨rfl, rfl, rfl, by decide +kernel, rfl, by decide +kernel, by decide +kernel⟩
theorem ok__law_take (T : Txt P w K mg base) : FI P w K mg base 2 "_law_take" ["pen", "amount"] (spP K m__law_take) := by
  obtain ⟨f, fd, F, g, b⟩ := T.d__law_take.ex
  obtain ⟨fS, fdS, GS, gS, kS, bS, _⟩ := (ok__law_spread T).ex
  refine ⟨f, fd, FnG.mk' F sc__law_take (fun vs H Q E h => ?_) (fun cdv A outer s H vs Q E hr hg h => ?_), g, F.kp, b, Fun.lk F⟩
  · obtain ⟨a, dr, ws, Fz, ds, n, R, rfl, sm, fa, pa, r, ⟨m, rfl, _⟩, _⟩ := h
    rw [List.length_cons, r.len]; rfl
  · obtain ⟨a, dr, ws, Fz, ds, n, R, rfl, sm, fa, ⟨w0, l0, xs, ha, hd, hw0, hwn, hl0⟩, r, ⟨m, rfl, hm, hm2, hn, q⟩, fin⟩ := h
    obtain ⟨v, ws', rfl, r1, r2⟩ := r.uncons
    cases r2.unnil
    cases r1.int_inv
    have hdH : H dr = some (.lst (xs.map V.int)) := sm _ _ hd
    have hne : dr ≠ a := fun z => by rw [z, fa] at hd; cases hd
    -- the end: found, what is left
    have last : ∀ (H1 : Hp) (w1 l1 : Int) (y2 y3 : Option V), (∀ b o, H b = some o → b ≠ a → H1 b = some o) → H1 a = some (.lst [.ref dr, .int w1, .int l1]) → 0 ≤ w1 → w1 ≤ (n + 1 : Nat) → 0 ≤ l1 →
        (tSeq (tAsg (tOp (rI (fun _ j => 0 < j) fun i j => .int (i % j)) (tCB (fun xs H Q => (∃ i, xs = [.int i] ∧ Q (.int i) H) ∨ ∃ k, xs = [.bl k] ∧ Q (.int (if k then 1 else 0)) H) (tCons (tOp (rIxL K) (tVar 0) (tC (.int 2))) tNil)) (tVar 1)) (gName 4))
          (tSeq (tAsg (tOp (rI CDiv fun i j => .int (i / j)) (tOp (rIxL K) (tVar 0) (tC (.int 2))) (tVar 1)) (gSub (tVar 0) (tC (.int 2)) rSetL)) (tRet (tVar 4)))) { nx := fun _ H' => Q .non H', rt := Q } [some (.ref a), some (.int m), y2, y3, none] H1 := by
      intro H1 w1 l1 y2 y3 kp h1 hw1 hw1n hl1
      refine ⟨.ref a, rfl, a, _, 2, .int l1, rfl, rfl, .of h1, rfl, .inl ⟨l1, rfl, .int m, rfl, l1, m, rfl, rfl, by omega, ?_⟩⟩
      refine ⟨.ref a, rfl, a, _, 2, .int l1, rfl, rfl, .of h1, rfl, .int m, rfl, l1, m, rfl, rfl, ⟨by omega, hm2⟩, ?_⟩
      refine ⟨.ref a, rfl, a, _, 2, 2, rfl, rfl, h1, rfl, ?_⟩
      refine ⟨_, rfl, ?_⟩
      have hx0 : 0 ≤ l1 % m := Int.emod_nonneg _ (by omega)
      have hx1 : l1 % m < m := Int.emod_lt_of_pos _ (by omega)
      refine fin (.int (l1 % m)) (n + 1) _ Fz _ (.refl _) (fun b o e => ?_) (fun b o e hb => ?_) (fun b o e => .inl e) fa ⟨w1, l1 / m, xs, upd_same, hd, hw1, hw1n, Int.ediv_nonneg hl1 (by omega)⟩ (.int _) (q _ hx0 hx1)
      · have hb : b ≠ a := fun z => by rw [z, fa] at e; cases e
        rw [upd_ne hb]
        exact kp _ _ (sm _ _ e) hb
      · rw [upd_ne hb]
        exact kp _ _ e hb
    refine ⟨_, pss_cons (ps_if (pt_cmpR op_lt (pe_ix ix_list (pv 0) pe_int (fun _ _ => rfl)) (pv 1) (nomark _))
        (pss_cons (ps_set (i := 2) sc__law_take.nd rfl (.inl rfl) (pe_ix ix_list (pv 0) pe_int (fun _ _ => rfl)))
        (pss_cons (ps_set (i := 3) sc__law_take.nd rfl (.inl rfl) pe_int)
        (pss_cons (ps_if (pt_cmpR op_lt (pv 2) (pe_callB call_len_seq (by rfl) T.n_len (by decide +kernel) (pa_cons (pe_ix ix_list (pv 0) pe_int (fun _ _ => rfl)) pa_nil)) (nomark _))
            (pss_one (ps_set (i := 3) sc__law_take.nd rfl (.inl rfl) (pe_ix ix_list (pe_ix ix_list (pv 0) pe_int (fun _ _ => rfl)) (pv 2) (fun _ _ => rfl))))
            (pss_one (ps_if (pt_cmpR op_gt (pe_callB call_len_seq (by rfl) T.n_len (by decide +kernel) (pa_cons (pe_ix ix_list (pv 0) pe_int (fun _ _ => rfl)) pa_nil)) pe_int (nomark _))
              (pss_one (ps_set (i := 3) sc__law_take.nd rfl (.inl rfl) (pe_op op_mod (pe_callTy call_int1 (by rfl) T.n_int (by decide +kernel) (pa_cons (pe_ix ix_list (pe_ix ix_list (pv 0) pe_int (fun _ _ => rfl))
                (pe_op op_mod (pe_callTy call_int1 (by rfl) T.n_int (by decide +kernel) (pa_cons (pe_op op_add (pe_op op_mul (pv 2) pe_int) pe_int) pa_nil)) (pe_callB call_len_seq (by rfl) T.n_len (by decide +kernel) (pa_cons (pe_ix ix_list (pv 0) pe_int (fun _ _ => rfl)) pa_nil))) (fun _ _ => rfl)) pa_nil))
                (pe_op op_add (pe_op op_pow pe_int pe_int) (pv 2))))) pss_nil)))
        (pss_cons (ps_asg (pe_op op_add (pv 2) pe_int) (pg_sub (pv 0) pe_int set_list))
        (pss_one (ps_asg (pe_callG GS (hr.mono (by decide)) (hg.le (by decide)) (by rfl) gS kS bS (pa_cons (pv 3) (pa_cons (pv 2) pa_nil))) (pg_sub (pv 0) pe_int set_list)))))))
        pss_nil)
      (pss_cons (ps_set (i := 4) sc__law_take.nd rfl (.inl rfl) (pe_op op_mod (pe_callTy call_int1 (by rfl) T.n_int (by decide +kernel) (pa_cons (pe_ix ix_list (pv 0) pe_int (fun _ _ => rfl)) pa_nil)) (pv 1)))
      (pss_cons (ps_asg (pe_op op_fdiv (pe_ix ix_list (pv 0) pe_int (fun _ _ => rfl)) (pv 1)) (pg_sub (pv 0) pe_int set_list))
      (pss_one (ps_ret (pv 4))))), ?_⟩
    refine ⟨.ref a, rfl, a, _, 2, .int l0, rfl, rfl, .of ha, rfl, .int m, rfl, l0, m, rfl, rfl, _, rfl, ite2 (fun _ => ?_) (fun _ => ?_)⟩
    · -- where, cell
      refine ⟨.ref a, rfl, a, _, 1, .int w0, rfl, rfl, .of ha, rfl, ?_⟩
      have hlen : ((xs.map V.int).length : Int) = xs.length := by rw [List.length_map]
      have hS : SqL K H dr (xs.map V.int) := .of hdH
      -- behind the cell is found
      have put : ∀ c : Int, (tSeq (tAsg (tOp (rI0 fun i j => .int (i + j)) (tVar 2) (tC (.int 1))) (gSub (tVar 0) (tC (.int 1)) rSetL)) (tAsg (tCall (spF K m__law_spread) [] E0 (tCons (tVar 3) (tCons (tVar 2) tNil))) (gSub (tVar 0) (tC (.int 2)) rSetL)))
          { nx := fun σ H1 => (tSeq (tAsg (tOp (rI (fun _ j => 0 < j) fun i j => .int (i % j)) (tCB (fun xs H Q => (∃ i, xs = [.int i] ∧ Q (.int i) H) ∨ ∃ k, xs = [.bl k] ∧ Q (.int (if k then 1 else 0)) H) (tCons (tOp (rIxL K) (tVar 0) (tC (.int 2))) tNil)) (tVar 1)) (gName 4))
          (tSeq (tAsg (tOp (rI CDiv fun i j => .int (i / j)) (tOp (rIxL K) (tVar 0) (tC (.int 2))) (tVar 1)) (gSub (tVar 0) (tC (.int 2)) rSetL)) (tRet (tVar 4)))) { nx := fun _ H' => Q .non H', rt := Q } σ H1, rt := Q } [some (.ref a), some (.int m), some (.int w0), some (.int c), none] H := by
        intro c
        refine ⟨.int w0, rfl, w0, 1, rfl, rfl, .ref a, rfl, a, _, 1, 1, rfl, rfl, ha, rfl, ?_⟩
        refine ⟨.int c, rfl, .int w0, rfl, fun _ => none, [.int c, .int w0], fun d => ∃ z : Int, d = .int z ∧ 0 ≤ z, (fun _ _ e => nomatch e), .cons (.int _) (.cons (.int _) .nil), spread_ok c w0 _ hw0 (by omega) (fun z hz => ⟨z, rfl, hz⟩), fun d v F' H' gr rr ⟨z, ez, hz⟩ => ?_⟩
        subst ez
        cases rr.int_inv
        have h1 : H' a = some (.lst [.ref dr, .int (w0 + 1), .int l0]) := gr.h _ _ upd_same
        refine ⟨.ref a, rfl, a, _, 2, 2, rfl, rfl, h1, rfl, ?_⟩
        refine last _ (w0 + 1) z _ _ (fun b o e hb => ?_) upd_same (by omega) (by omega) hz
        rw [upd_ne hb]
        exact gr.h _ _ (by rw [upd_ne hb]; exact e)
      refine ⟨.int w0, rfl, .ref a, rfl, a, _, 0, .ref dr, rfl, rfl, .of ha, rfl, dr, _, rfl, .inl hS, w0, _, rfl, rfl, _, rfl, ite2 (fun hlt => ?_) (fun hlt => ?_)⟩
      · have hlt' : w0 < ((xs.map V.int).length : Int) := of_decide_eq_true hlt
        obtain ⟨k, hk⟩ := Int.eq_ofNat_of_zero_le hw0
        subst hk
        have hk2 : k < xs.length := by rw [List.length_map] at hlt'; omega
        refine ⟨.ref a, rfl, a, _, 0, .ref dr, rfl, rfl, .of ha, rfl, .int k, rfl, dr, _, k, .int xs[k], rfl, rfl, hS, atI_nat (by rw [List.getElem?_map, List.getElem?_eq_getElem hk2]; rfl), ?_⟩
        exact put _
      · refine ⟨.ref a, rfl, a, _, 0, .ref dr, rfl, rfl, .of ha, rfl, dr, _, rfl, .inl hS, _, 0, rfl, rfl, _, rfl, ite2 (fun hgt => ?_) (fun hgt => ?_)⟩
        · have hpos : 0 < xs.length := by
            have := of_decide_eq_true hgt
            rw [List.length_map] at this
            omega
          have hmod0 : 0 ≤ (w0 * 5 + 3) % ((xs.map V.int).length : Int) := Int.emod_nonneg _ (by rw [List.length_map]; omega)
          have hmod1 : (w0 * 5 + 3) % ((xs.map V.int).length : Int) < (xs.map V.int).length := Int.emod_lt_of_pos _ (by rw [List.length_map]; omega)
          obtain ⟨k, hk⟩ := Int.eq_ofNat_of_zero_le hmod0
          have hk2 : k < xs.length := by rw [List.length_map] at hmod1 hk; omega
          refine ⟨.ref a, rfl, a, _, 0, .ref dr, rfl, rfl, .of ha, rfl, .int w0, rfl, w0, 5, rfl, rfl, .inr ⟨by decide, by decide⟩, w0 * 5, 3, rfl, rfl, .inl ⟨_, rfl, ?_⟩⟩
          refine ⟨.ref a, rfl, a, _, 0, .ref dr, rfl, rfl, .of ha, rfl, dr, _, rfl, .inl hS, w0 * 5 + 3, _, rfl, rfl, by rw [List.length_map]; omega, ?_⟩
          refine ⟨dr, _, (w0 * 5 + 3) % ((xs.map V.int).length : Int), .int xs[k], rfl, rfl, hS, ?_, .inl ⟨_, rfl, ?_⟩⟩
          · rw [hk]
            exact atI_nat (by rw [List.getElem?_map, List.getElem?_eq_getElem hk2]; rfl)
          · refine ⟨10, 17, rfl, rfl, ⟨by decide, by decide, by decide⟩, .int w0, rfl, _, w0, rfl, rfl, xs[k], _, rfl, rfl, ?_, ?_⟩
            · have : (0 : Int) < 10 ^ (17 : Int).toNat := by decide
              omega
            · exact put _
        · exact put 0
    · exact last H w0 l0 _ _ (fun b o e _ => e) ha hw0 (by omega) hl0
abbrev s__law_one_of : Stmt := topS 47
theorem sc__law_one_of : FnScope ["pen", "some"] ["pen", "some"] (defScope s__law_one_of) := ⟨rfl, rfl, rfl, by decide +kernel, rfl, by decide +kernel, by decide +kernel⟩
theorem ok__law_one_of (T : Txt P w K mg base) : FI P w K mg base 3 "_law_one_of" ["pen", "some"] (spP K m__law_one_of) := by
  obtain ⟨f, fd, F, g, b⟩ := T.d__law_one_of.ex
  refine ⟨f, fd, FnG.pen F sc__law_one_of fun a dr cdv A outer s H E hr hg => ?_, g, F.kp, b, Fun.lk F⟩
  have hu := hr.units
  have hv := hv_of hr
  have hx := hx_of hr
  have hw := hu_of hr
  unfold b__law_one_of
  exact ⟨_, [], (ss_one (s_ret (e_ix (oIx rfl hw) l_ix (e_var 1 (pv 1) (by decide)) (eP (ok__law_take T) (hr.mono (by decide)) hg rfl rfl (by rfl) (pv 0) (a_cons (cB (fnLen rfl) l_len (by rfl) T.n_len (by decide +kernel) (a_cons (e_var 1 (pv 1) (by decide)) a_nil)) a_nil)) (fun _ _ => rfl))))⟩
abbrev s__law_draw_image : Stmt := topS 48
theorem sc__law_draw_image : FnScope ["pen", "most", "width", "spots", "again", "words", "chosen", "found", "at", "values", "word", "number"] ["pen", "most", "width"] (defScope s__law_draw_image) := ⟨rfl, rfl, rfl, by decide +kernel, rfl, by decide +kernel, by decide +kernel⟩
theorem ok__law_draw_image (T : Txt P w K mg base) : FI P w K mg base 4 "_law_draw_image" ["pen", "most", "width"] (spP K m__law_draw_image) := by
  obtain ⟨f, fd, F, g, b⟩ := T.d__law_draw_image.ex
  refine ⟨f, fd, FnG.pen F sc__law_draw_image fun a dr cdv A outer s H E hr hg => ?_, g, F.kp, b, Fun.lk F⟩
  have hu := hr.units
  have hv := hv_of hr
  have hx := hx_of hr
  have hw := hu_of hr
  unfold b__law_draw_image
  exact ⟨_, [], (ss_cons (sSet 3 sc__law_draw_image.nd rfl (.inl rfl) (RF.e (fSetI rfl rfl (by rfl) T.n_sorted (by rfl) T.n_set (RF.e (fLc (own := [("again", 4)]) rfl sc__law_draw_image.nd (iR1 (by rfl) T.n_range (a_cons (e_op (oAdd rfl) l_add e_int (eP (ok__law_take T) (hr.mono (by decide)) hg rfl rfl (by rfl) (pv 0) (a_cons (e_var 1 (pv 1) (by decide)) a_nil))) a_nil)) (blkOk_by (own := [("again", 4)]) (N := ["pen", "most", "width", "spots", "again", "words", "chosen", "found", "at", "values", "word", "number"]) (sc := defScope s__law_draw_image) (by decide +kernel)) (fun _ _ _ _ _ => (gN 4 sc__law_draw_image.nd rfl (.inl rfl) (by decide) (off1 (by decide)))) (fun _ _ _ _ _ => (eP (ok__law_take T) (hr.mono (by decide)) hg rfl rfl (by rfl) (pv 0) (a_cons (e_var 2 (pv 2) (by decide)) a_nil))) (by decide) (offs1 (by decide)))))) (by decide) (off1 (by decide))) (ss_cons (sSet 5 sc__law_draw_image.nd rfl (.inr rfl) (e_op (oAdd rfl) l_add (e_op (oAdd rfl) l_add (e_op o_mul l_mul (e_lst (a_cons e_str a_nil)) e_int) (e_lst (a_cons e_str (a_cons e_str (a_cons e_str a_nil))))) (e_op o_mul l_mul (e_lst (a_cons e_str (a_cons e_str (a_cons e_str (a_cons e_str a_nil))))) e_int)) (by decide) (off1 (by decide))) (ss_cons (sPar2 6 7 rfl sc__law_draw_image.nd rfl rfl (by decide) rfl rfl (x_sh (RF.e (fLc (own := [("at", 8)]) rfl sc__law_draw_image.nd (i_seq rfl (e_var 3 (pv 3) (by decide))) (blkOk_by (own := [("at", 8)]) (N := ["pen", "most", "width", "spots", "again", "words", "chosen", "found", "at", "values", "word", "number"]) (sc := defScope s__law_draw_image) (by decide +kernel)) (fun _ _ _ _ _ => (gN 8 sc__law_draw_image.nd rfl (.inl rfl) (by decide) (off1 (by decide)))) (fun _ _ _ _ _ => (eP (ok__law_one_of T) (hr.mono (by decide)) hg rfl rfl (by rfl) (pv 0) (a_cons (e_var 5 (pv 5) (by decide)) a_nil))) (by decide) (offs1 (by decide)))) (x_ow f_dict0 x_nil)) (offsO1 (by decide)) rfl) (ss_cons (sLcIf (own := [("at", 8), ("word", 10)]) 9 rfl sc__law_draw_image.nd rfl rfl (sw_true rfl rfl rfl (by decide +kernel)) (iZi rfl (by rfl) T.n_zip (a_cons (e_var 3 (pv 3) (by decide)) (a_cons (e_var 6 (pv 6) (by decide)) a_nil))) (blkOk_by (own := [("at", 8), ("word", 10)]) (N := ["pen", "most", "width", "spots", "again", "words", "chosen", "found", "at", "values", "word", "number"]) (sc := defScope s__law_draw_image) (by decide +kernel)) (fun _ _ _ _ _ => (gT 2 rfl rfl (gC (gN 8 sc__law_draw_image.nd rfl (.inl rfl) (by decide) (off1 (by decide))) (gC (gN 10 sc__law_draw_image.nd rfl (.inl rfl) (by decide) (off1 (by decide))) gs_nil)))) (fun _ _ _ _ _ => (t_cmp (oEq rfl hu) l_eq (e_var 10 (pv 10) (by decide)) e_str (nomark _))) (fun _ _ _ _ _ => (e_var 8 (pv 8) (by decide))) (by decide) (offs1 (by decide)) (by decide) (off1 (by decide))) (RSs.pre (O := [7]) (ss_cons (sFor PassesOwn.never rfl (iZi rfl (by rfl) T.n_zip (a_cons (e_var 3 (pv 3) (by decide)) (a_cons (e_var 6 (pv 6) (by decide)) a_nil))) (gT 2 rfl rfl (gC (gN 8 sc__law_draw_image.nd rfl (.inl rfl) (by decide) (off1 (by decide))) (gC (gN 10 sc__law_draw_image.nd rfl (.inl rfl) (by decide) (off1 (by decide))) gs_nil))) (ss_cons (sSet 11 sc__law_draw_image.nd rfl (.inl rfl) (eP (ok__law_one_of T) (hr.mono (by decide)) hg rfl rfl (by rfl) (pv 0) (a_cons (e_op (oAdd rfl) l_add (e_op o_mul l_mul (e_var 3 (pv 3) (by decide)) e_int) (e_lst (a_cons (e_var 8 (pv 8) (by decide)) (a_cons (eP (ok__law_take T) (hr.mono (by decide)) hg rfl rfl (by rfl) (pv 0) (a_cons (e_op (oAdd rfl) l_add (e_var 2 (pv 2) (by decide)) e_int) a_nil)) a_nil)))) a_nil)) (by decide) (off1 (by decide))) (ss_cons (sIf (O' := [7]) (t_cmp (oIn rfl hv) l_in (e_var 10 (pv 10) (by decide)) (e_tup (a_cons e_str (a_cons e_str (a_cons e_str a_nil)))) (by rfl)) (ss_one (sSet 11 sc__law_draw_image.nd rfl (.inl rfl) (eP (ok__law_one_of T) (hr.mono (by decide)) hg rfl rfl (by rfl) (pv 0) (a_cons (e_lst (a_cons e_int (a_cons e_int (a_cons e_int (a_cons e_int (a_cons e_int a_nil)))))) a_nil)) (by decide) (off1 (by decide)))) (ss_one (sIf (O' := [7]) (RW.t (w_and (t_cmp (oEq rfl hu) l_eq (e_var 10 (pv 10) (by decide)) e_str (nomark _)) (w_and (t_cmp (oNe rfl hu) l_ne (e_var 9 (pv 9) (by decide)) (e_lst a_nil) (nomark _)) (w_and1 (t_cmp op_gt l_cmp (eP (ok__law_take T) (hr.mono (by decide)) hg rfl rfl (by rfl) (pv 0) (a_cons e_int a_nil)) e_int (nomark _)))))) (ss_one (sSet 11 sc__law_draw_image.nd rfl (.inl rfl) (eP (ok__law_one_of T) (hr.mono (by decide)) hg rfl rfl (by rfl) (pv 0) (a_cons (e_var 9 (pv 9) (by decide)) a_nil)) (by decide) (off1 (by decide)))) (ss_one (sIf (O' := [7]) (RW.t (w_and (t_cmp (oEq rfl hu) l_eq (e_var 10 (pv 10) (by decide)) e_str (nomark _)) (w_and1 (t_cmp (oEq rfl hu) l_eq (eP (ok__law_take T) (hr.mono (by decide)) hg rfl rfl (by rfl) (pv 0) (a_cons e_int a_nil)) e_int (nomark _))))) (ss_one (sSet 11 sc__law_draw_image.nd rfl (.inl rfl) e_non (by decide) (off1 (by decide)))) ss_nil (by decide) (by decide))) (by decide) (by decide))) (by decide) (by decide)) (ss_one (sPutK 7 (hu_of hr) (pv 7) (e_var 8 (pv 8) (by decide)) (e_tup (a_cons (e_var 10 (pv 10) (by decide)) (a_cons (e_op (oAdd rfl) l_add e_int (eP (ok__law_one_of T) (hr.mono (by decide)) hg rfl rfl (by rfl) (pv 0) (a_cons (e_lst (a_cons e_int (a_cons e_int (a_cons e_int (a_cons (eP (ok__law_take T) (hr.mono (by decide)) hg rfl rfl (by rfl) (pv 0) (a_cons e_int a_nil)) a_nil))))) a_nil))) (a_cons (e_var 11 (pv 11) (by decide)) a_nil)))) (by decide) (off1 (by decide)))))) (by decide)) (RSs.pre (O := []) (ss_one (s_ret (e_var 7 (pv 7) (by decide)))) (by decide))) (by decide))))))⟩
abbrev s__law_changed : Stmt := topS 50
theorem sc__law_changed : FnScope ["pen", "image", "width", "many", "found", "other", "again", "at"] ["pen", "image", "width", "many"] (defScope s__law_changed) := ⟨rfl, rfl, rfl, by decide +kernel, rfl, by decide +kernel, by decide +kernel⟩
theorem ok__law_changed (T : Txt P w K mg base) : FI P w K mg base 5 "_law_changed" ["pen", "image", "width", "many"] (spP K m__law_changed) := by
  obtain ⟨f, fd, F, g, b⟩ := T.d__law_changed.ex
  refine ⟨f, fd, FnG.pen F sc__law_changed fun a dr cdv A outer s H E hr hg => ?_, g, F.kp, b, Fun.lk F⟩
  have hu := hr.units
  have hv := hv_of hr
  have hx := hx_of hr
  have hw := hu_of hr
  unfold b__law_changed
  exact ⟨_, [], (ss_cons (sPar2 4 5 rfl sc__law_changed.nd rfl rfl (by decide) rfl rfl (x_ow (fDictOf rfl (by rfl) T.n_dict (e_var 1 (pv 1) (by decide))) (x_sh (eP (ok__law_draw_image T) (hr.mono (by decide)) hg rfl rfl (by rfl) (pv 0) (a_cons e_int (a_cons (e_var 2 (pv 2) (by decide)) a_nil))) x_nil)) (offsO1 (by decide)) rfl) (ss_cons (sFor PassesOwn.never rfl (iR1 (by rfl) T.n_range (a_cons (e_op (oAdd rfl) l_add e_int (eP (ok__law_take T) (hr.mono (by decide)) hg rfl rfl (by rfl) (pv 0) (a_cons (e_var 3 (pv 3) (by decide)) a_nil))) a_nil)) (gN 6 sc__law_changed.nd rfl (.inl rfl) (by decide) (off1 (by decide))) (ss_cons (sSet 7 sc__law_changed.nd rfl (.inl rfl) (eP (ok__law_one_of T) (hr.mono (by decide)) hg rfl rfl (by rfl) (pv 0) (a_cons (e_op (oAdd rfl) l_add (e_op (oAdd rfl) l_add (e_op o_mul l_mul (cB (fnSortedK rfl hx) l_sortedK (by rfl) T.n_sorted (by decide +kernel) (a_cons (e_var 1 (pv 1) (by decide)) a_nil)) e_int) (cB (fnSortedK rfl hx) l_sortedK (by rfl) T.n_sorted (by decide +kernel) (a_cons (e_var 5 (pv 5) (by decide)) a_nil))) (e_lst (a_cons (eP (ok__law_take T) (hr.mono (by decide)) hg rfl rfl (by rfl) (pv 0) (a_cons (e_var 2 (pv 2) (by decide)) a_nil)) a_nil))) a_nil)) (by decide) (off1 (by decide))) (ss_one (sIf (O' := [4]) (t_cmp (oEq rfl hu) l_eq (eP (ok__law_take T) (hr.mono (by decide)) hg rfl rfl (by rfl) (pv 0) (a_cons e_int a_nil)) e_int (nomark _)) (ss_one (sDPop 4 (pv 4) (e_var 7 (pv 7) (by decide)) e_non (by decide) (off1 (by decide)) ⟨by rfl, by rfl, by rfl, by rfl⟩)) (ss_one (sPutK 4 (hu_of hr) (pv 4) (e_var 7 (pv 7) (by decide)) (eP (ok__law_one_of T) (hr.mono (by decide)) hg rfl rfl (by rfl) (pv 0) (a_cons (e_op (oAdd rfl) l_add (RF.e (fValsL rfl (by rfl) T.n_list (e_var 5 (pv 5) (by decide)))) (RF.e (fValsL rfl (by rfl) T.n_list (e_var 1 (pv 1) (by decide))))) a_nil)) (by decide) (off1 (by decide)))) (by decide) (by decide)))) (by decide)) (RSs.pre (O := []) (ss_one (s_ret (e_var 4 (pv 4) (by decide)))) (by decide))))⟩
abbrev s__law_is_in : Stmt := topS 49
theorem sc__law_is_in : FnScope ["pairs", "address", "first", "last"] ["pairs", "address"] (defScope s__law_is_in) := ⟨rfl, rfl, rfl, by decide +kernel, rfl, by decide +kernel, by decide +kernel⟩
theorem ok__law_is_in (T : Txt P w K mg base) : FI P w K mg base 1 "_law_is_in" ["pairs", "address"] (spF K m__law_is_in) := by
  obtain ⟨f, fd, F, g, b⟩ := T.d__law_is_in.ex
  refine ⟨f, fd, FnG.pure F sc__law_is_in fun cdv A outer s H E hr hg => ?_, g, F.kp, b, Fun.lk F⟩
  have hu := hr.units
  have hv := hv_of hr
  have hx := hx_of hr
  have hw := hu_of hr
  unfold b__law_is_in
  exact ⟨_, [], (ss_one (s_ret (e_cmp (oNe rfl hu) l_ne (RF.e (fLcIf (own := [("first", 2), ("last", 3)]) rfl sc__law_is_in.nd (i_seq rfl (e_var 0 (pv 0) (by decide))) (blkOk_by (own := [("first", 2), ("last", 3)]) (N := ["pairs", "address", "first", "last"]) (sc := defScope s__law_is_in) (by decide +kernel)) (fun _ _ _ _ _ => (gT 2 rfl rfl (gC (gN 2 sc__law_is_in.nd rfl (.inl rfl) (by decide) off0) (gC (gN 3 sc__law_is_in.nd rfl (.inl rfl) (by decide) off0) gs_nil)))) (fun _ _ _ _ _ => (RW.t (w_and (t_cmp op_le l_cmp (e_var 2 (pv 2) (by decide)) (e_var 1 (pv 1) (by decide)) (nomark _)) (w_and1 (RW.t (w_or (t_cmp op_isN l_isN (e_var 3 (pv 3) (by decide)) e_non (nomark _)) (w_or1 (t_cmp op_le l_cmp (e_var 1 (pv 1) (by decide)) (e_var 3 (pv 3) (by decide)) (nomark _))))))))) (fun _ _ _ _ _ => e_int) (by decide) offs0)) (e_lst a_nil) (nomark _))))⟩
abbrev s__law_open : Stmt := topS 44
theorem sc__law_open : FnScope ["script", "drawn", "k", "cell"] ["script"] (defScope s__law_open) := ⟨rfl, rfl, rfl, by decide +kernel, rfl, by decide +kernel, by decide +kernel⟩
theorem ok__law_open (T : Txt P w K mg base) : FI P w K mg base 1 "_law_open" ["script"] (spOpen K) := by
  obtain ⟨f, fd, F, g, b⟩ := T.d__law_open.ex
  refine ⟨f, fd, FnG.mk' F sc__law_open (fun vs H Q E h => ?_) (fun cdv A outer s H vs Q E hr hg h => ?_), g, F.kp, b, Fun.lk F⟩
  · obtain ⟨a, ns, rfl, _⟩ := h; rfl
  · obtain ⟨a, ns, rfl, hs, hl, fin⟩ := h
    refine ⟨_, pss_cons (ps_set (i := 1) sc__law_open.nd rfl (.inl rfl) (pe_callTy (fnList (K := K) rfl) (by rfl) T.n_list (by decide +kernel) (pa_cons (pe_slice sl_list (pv 0) po_none (po_some pe_int)) pa_nil)))
      (pss_cons (ps_for PassesOwn.never rfl (pi_enumA (by rfl) T.n_enumerate (pa_cons (pe_slice sl_list (pv 0) (po_some pe_int) (po_some pe_int)) pa_nil)) (pg_tup rfl (pgs_cons (pg_name (i := 2) sc__law_open.nd rfl (.inl rfl)) (pgs_cons (pg_name (i := 3) sc__law_open.nd rfl (.inl rfl)) pgs_nil)))
        (pss_one (ps_asg (pe_op op_add (pe_ix ix_list (pv 1) (pe_op op_mod (pe_callTy call_int1 (by rfl) T.n_int (by decide +kernel) (pa_cons (pv 2) pa_nil)) pe_int) (fun _ _ => rfl)) (pv 3)) (pg_sub (pv 1) (pe_op op_mod (pe_callTy call_int1 (by rfl) T.n_int (by decide +kernel) (pa_cons (pv 2) pa_nil)) pe_int) set_list))))
      (pss_one (ps_ret (pe_lst (pa_cons (pv 1) (pa_cons pe_int (pa_cons pe_int pa_nil))))))), ?_⟩
    refine ⟨.ref a, rfl, 12, rfl, a, _, rfl, hs, fun q hq => ?_⟩
    refine ⟨q, _, rfl, .inl (.of upd_same), fun l hl1 => ?_⟩
    have s2 : SqL K (upd (upd H q (.lst (cutV (ns.map V.int) none (some 12)))) l (.lst (cutV (ns.map V.int) none (some 12)))) a (ns.map V.int) := sql_new (sql_new hs hq) hl1
    refine ⟨.ref a, rfl, 12, rfl, 63, rfl, a, _, rfl, s2, fun q2 hq2 => ?_⟩
    refine ⟨q2, _, rfl, .inl ⟨.of upd_same, ?_⟩⟩
    obtain ⟨ds, hds⟩ := cut_int ns none (some 12)
    obtain ⟨ms, hms⟩ := cut_int ns (some 12) (some 63)
    have hld : ds.length = min 12 ns.length := by rw [← cut_low ns, hds, List.length_map]
    have hlm : ms.length ≠ 0 → ds.length = 12 := fun h => by
      have := cut_high ns (by rw [hms, List.length_map]; exact h)
      omega
    rw [hds, hms]
    have hne : q2 ≠ l := fun z => by rw [z, upd_same] at hq2; cases hq2
    refine ⟨fun i m σ H => m = ms.length - i ∧ i ≤ ms.length ∧ (∃ y2 y3, σ = [some (.ref a), some (.ref l), y2, y3]) ∧ H q2 = some (.lst (ms.map V.int)) ∧ ∃ zs : List Int, H l = some (.lst (zs.map V.int)) ∧ zs.length = ds.length,
      ⟨ms.length, by simp, Nat.zero_le _, ⟨none, none, rfl⟩, upd_same, ds, by rw [upd_ne (Ne.symm hne), upd_same], rfl⟩, ?_⟩
    rintro i m σ H3 ⟨rfl, hi, ⟨y2, y3, rfl⟩, h2, zs, hz, hzl⟩
    by_cases hlt : i < ms.length
    · refine .inr ⟨⟨_, .int ms[i], .of h2, by simp [hlt]⟩, fun σ H => i < ms.length ∧ (∃ y2 y3, σ = [some (.ref a), some (.ref l), y2, y3]) ∧ H q2 = some (.lst (ms.map V.int)) ∧ ∃ zs : List Int, H l = some (.lst (zs.map V.int)) ∧ zs.length = ds.length,
        fun σ' H' ⟨_, h1, h3, h4⟩ => ⟨ms.length - (i + 1), by omega, rfl, hlt, h1, h3, h4⟩, ?_⟩
      rintro x H4 ⟨t, c, rfl, ht, rfl, hc⟩
      have hc' := hc _ (.of h2)
      have hci : c = .int ms[i] := by simpa [hlt] using hc'.symm
      subst hci
      have tl : t ≠ l := fun z => by rw [z, hz] at ht; cases ht
      have tq : t ≠ q2 := fun z => by rw [z, h2] at ht; cases ht
      refine ⟨t, _, rfl, .of upd_same, rfl, .int i, _, rfl, .int ms[i], _, rfl, rfl, ?_⟩
      have h12 : ds.length = 12 := hlm (by omega)
      have hr12 : (i : Int) % 12 = ((i % 12 : Nat) : Int) := by omega
      have hzm : i % 12 < zs.length := by omega
      have hH4 : (upd H3 t (.tup [.int i, .int ms[i]])) l = some (.lst (zs.map V.int)) := by rw [upd_ne (Ne.symm tl)]; exact hz
      have hat : atI (zs.map V.int) ((i % 12 : Nat) : Int) = some (.int zs[i % 12]) := atI_nat (by rw [List.getElem?_map, List.getElem?_eq_getElem hzm]; rfl)
      refine ⟨.ref l, rfl, .int i, rfl, .inl ⟨i, rfl, i, 12, rfl, rfl, (show (0 : Int) < 12 by decide), l, _, _, _, rfl, congrArg V.int hr12, .of hH4, hat, .int ms[i], rfl, _, _, rfl, rfl, ?_⟩⟩
      refine ⟨.ref l, rfl, .int i, rfl, .inl ⟨i, rfl, i, 12, rfl, rfl, (show (0 : Int) < 12 by decide), l, _, _, i % 12, rfl, congrArg V.int hr12, hH4, ?_, ?_⟩⟩
      · unfold ixN
        rw [if_pos (Int.natCast_nonneg _), if_pos (by rw [List.length_map]; exact_mod_cast hzm), Int.toNat_natCast]
      · refine ⟨hlt, ⟨_, _, rfl⟩, ?_, zs.set (i % 12) (zs[i % 12] + ms[i]), ?_, by simp [hzl]⟩
        · rw [upd_ne hne, upd_ne (Ne.symm tq)]; exact h2
        · rw [upd_same, List.map_set]
    · have e : i = ms.length := by omega
      subst e
      refine .inl ⟨⟨_, .of h2, by simp⟩, ?_⟩
      refine ⟨.ref l, rfl, lim_line (show 3 ≤ lim by decide), fun p hp => ?_⟩
      have hpl : p ≠ l := fun z => by rw [z, hz] at hp; cases hp
      exact fin _ p l zs upd_same (by rw [upd_ne (Ne.symm hpl)]; exact hz) hpl
abbrev s_is_within : Stmt := topS 8
theorem sc_is_within : FnScope ["thing", "low", "high"] ["thing", "low", "high"] (defScope s_is_within) := ⟨rfl, rfl, rfl, by decide +kernel, rfl, by decide +kernel, by decide +kernel⟩
theorem ok_is_within (T : Txt P w K mg base) : FI P w K mg base 1 "is_within" ["thing", "low", "high"] (spF K m_is_within) := by
  obtain ⟨f, fd, F, g, b⟩ := T.d_is_within.ex
  refine ⟨f, fd, FnG.pure F sc_is_within fun cdv A outer s H E hr hg => ?_, g, F.kp, b, Fun.lk F⟩
  have hu := hr.units
  have hv := hv_of hr
  have hx := hx_of hr
  have hw := hu_of hr
  unfold b_is_within
  exact ⟨_, [], (ss_one (s_ret (e_and (eIsi (T := "int") (by decide) rfl (e_var 0 (pv 0) (by decide)) (by rfl) T.n_isinstance (by rfl) T.n_int (by decide +kernel)) (e_and (e_not (eIsi (T := "bool") (by decide) rfl (e_var 0 (pv 0) (by decide)) (by rfl) T.n_isinstance (by rfl) T.n_bool (by decide +kernel))) (e_one (eCh op_le l_cmp op_le l_cmp (e_var 1 (pv 1) (by decide)) (e_var 0 (pv 0) (by decide)) (e_var 2 (pv 2) (by decide))))))))⟩
abbrev s_is_address : Stmt := topS 17
theorem sc_is_address : FnScope ["thing"] ["thing"] (defScope s_is_address) := ⟨rfl, rfl, rfl, by decide +kernel, rfl, by decide +kernel, by decide +kernel⟩
theorem ok_is_address (T : Txt P w K mg base) : FI P w K mg base 2 "is_address" ["thing"] (spF K m_is_address) := by
  obtain ⟨f, fd, F, g, b⟩ := T.d_is_address.ex
  refine ⟨f, fd, FnG.pure F sc_is_address fun cdv A outer s H E hr hg => ?_, g, F.kp, b, Fun.lk F⟩
  have hu := hr.units
  have hv := hv_of hr
  have hx := hx_of hr
  have hw := hu_of hr
  unfold b_is_address
  exact ⟨_, [], (ss_one (s_ret (eF (ok_is_within T) (hr.mono (by decide)) hg rfl (by rfl) (a_cons (e_var 0 (pv 0) (by decide)) (a_cons e_int (a_cons (T.c_HIGHEST_ADDRESS.e (by rfl) rfl) a_nil))))))⟩
abbrev s_is_cell : Stmt := topS 16
theorem sc_is_cell : FnScope ["thing", "word", "size", "number"] ["thing"] (defScope s_is_cell) := ⟨rfl, rfl, rfl, by decide +kernel, rfl, by decide +kernel, by decide +kernel⟩
theorem ok_is_cell (T : Txt P w K mg base) : FI P w K mg base 2 "is_cell" ["thing"] (spF K m_is_cell) := by
  obtain ⟨f, fd, F, g, b⟩ := T.d_is_cell.ex
  refine ⟨f, fd, FnG.pure F sc_is_cell fun cdv A outer s H E hr hg => ?_, g, F.kp, b, Fun.lk F⟩
  have hu := hr.units
  have hv := hv_of hr
  have hx := hx_of hr
  have hw := hu_of hr
  unfold b_is_cell
  exact ⟨_, [], (ss_cons (sIf (O' := []) (RW.t (w_or (t_not (t_val (eIsi (T := "tuple") (by decide) rfl (e_var 0 (pv 0) (by decide)) (by rfl) T.n_isinstance (by rfl) T.n_tuple (by decide +kernel)))) (w_or1 (t_cmp (oNe rfl hu) l_ne (cB (fnLen rfl) l_len (by rfl) T.n_len (by decide +kernel) (a_cons (e_var 0 (pv 0) (by decide)) a_nil)) e_int (nomark _))))) (ss_one (s_ret e_bl)) ss_nil (fun _ h => h) (by decide)) (ss_cons (sAsg (e_var 0 (pv 0) (by decide)) (gT 3 rfl rfl (gC (gN 1 sc_is_cell.nd rfl (.inl rfl) (by decide) off0) (gC (gN 2 sc_is_cell.nd rfl (.inl rfl) (by decide) off0) (gC (gN 3 sc_is_cell.nd rfl (.inl rfl) (by decide) off0) gs_nil))))) (ss_cons (sIf (O' := []) (RW.t (w_or (t_cmp (oNotIn rfl hv) l_notIn (e_var 1 (pv 1) (by decide)) (T.c_WORDS.choose_spec.e (by rfl) rfl) (by rfl)) (w_or1 (t_not (t_val (eF (ok_is_within T) (hr.mono (by decide)) hg rfl (by rfl) (a_cons (e_var 2 (pv 2) (by decide)) (a_cons e_int (a_cons (T.c_MOST_BYTES.e (by rfl) rfl) a_nil))))))))) (ss_one (s_ret e_bl)) ss_nil (fun _ h => h) (by decide)) (ss_cons (sIf (O' := []) (t_cmp op_isN l_isN (e_var 3 (pv 3) (by decide)) e_non (nomark _)) (ss_one (s_ret (e_cmp (oEq rfl hu) l_eq (e_var 1 (pv 1) (by decide)) e_str (nomark _)))) ss_nil (fun _ h => h) (by decide)) (ss_one (s_ret (eF (ok_is_within T) (hr.mono (by decide)) hg rfl (by rfl) (a_cons (e_var 3 (pv 3) (by decide)) (a_cons e_int (a_cons (T.c_HIGHEST_ADDRESS.e (by rfl) rfl) a_nil))))))))))⟩
abbrev s_is_image : Stmt := topS 18
theorem sc_is_image : FnScope ["thing", "address", "cell"] ["thing"] (defScope s_is_image) := ⟨rfl, rfl, rfl, by decide +kernel, rfl, by decide +kernel, by decide +kernel⟩
theorem ok_is_image (T : Txt P w K mg base) : FI P w K mg base 3 "is_image" ["thing"] (spF K m_is_image) := by
  obtain ⟨f, fd, F, g, b⟩ := T.d_is_image.ex
  refine ⟨f, fd, FnG.pure F sc_is_image fun cdv A outer s H E hr hg => ?_, g, F.kp, b, Fun.lk F⟩
  have hu := hr.units
  have hv := hv_of hr
  have hx := hx_of hr
  have hw := hu_of hr
  unfold b_is_image
  exact ⟨_, [], (ss_cons (sIf (O' := []) (RW.t (w_or (t_not (t_val (eIsi (T := "dict") (by decide) rfl (e_var 0 (pv 0) (by decide)) (by rfl) T.n_isinstance (by rfl) T.n_dict (by decide +kernel)))) (w_or1 (t_cmp op_gt l_cmp (cB (fnLenA rfl) l_lenA (by rfl) T.n_len (by decide +kernel) (a_cons (e_var 0 (pv 0) (by decide)) a_nil)) (T.c_MOST_CELLS.e (by rfl) rfl) (nomark _))))) (ss_one (s_ret e_bl)) ss_nil (fun _ h => h) (by decide)) (ss_one (s_ret (cB (fnAll rfl rfl) l_all (by rfl) T.n_all (by decide +kernel) (a_cons (RF.e (fLcK (own := [("address", 1), ("cell", 2)]) rfl sc_is_image.nd (ik_items 0 (pv 0) (by decide)) (blkOk_by (own := [("address", 1), ("cell", 2)]) (N := ["thing", "address", "cell"]) (sc := defScope s_is_image) (by decide +kernel)) (fun _ _ _ _ _ => (gT 2 rfl rfl (gC (gN 1 sc_is_image.nd rfl (.inl rfl) (by decide) off0) (gC (gN 2 sc_is_image.nd rfl (.inl rfl) (by decide) off0) gs_nil)))) (fun _ _ _ _ _ => (e_and (eF (ok_is_address T) (hr.mono (by decide)) hg rfl (by rfl) (a_cons (e_var 1 (pv 1) (by decide)) a_nil)) (e_one (eF (ok_is_cell T) (hr.mono (by decide)) hg rfl (by rfl) (a_cons (e_var 2 (pv 2) (by decide)) a_nil))))) (by decide) offs0)) a_nil)))))⟩
abbrev s_check_image : Stmt := topS 19
theorem sc_check_image : FnScope ["table"] ["table"] (defScope s_check_image) := ⟨rfl, rfl, rfl, by decide +kernel, rfl, by decide +kernel, by decide +kernel⟩
theorem ok_check_image (T : Txt P w K mg base) : FI P w K mg base 4 "check_image" ["table"] (spF K m_check_image) := by
  obtain ⟨f, fd, F, g, b⟩ := T.d_check_image.ex
  refine ⟨f, fd, FnG.pure F sc_check_image fun cdv A outer s H E hr hg => ?_, g, F.kp, b, Fun.lk F⟩
  have hu := hr.units
  have hv := hv_of hr
  have hx := hx_of hr
  have hw := hu_of hr
  unfold b_check_image
  exact ⟨_, _, (ss_one (sIf (O' := []) (t_not (t_val (eF (ok_is_image T) (hr.mono (by decide)) hg rfl (by rfl) (a_cons (e_var 0 (pv 0) (by decide)) a_nil)))) (ss_one s_never) ss_nil (fun _ h => h) (by decide)))⟩
abbrev s_check_number : Stmt := topS 9
theorem sc_check_number : FnScope ["number", "highest"] ["number", "highest"] (defScope s_check_number) := ⟨rfl, rfl, rfl, by decide +kernel, rfl, by decide +kernel, by decide +kernel⟩
theorem ok_check_number (T : Txt P w K mg base) : FI P w K mg base 2 "check_number" ["number", "highest"] (spF K m_check_number) := by
  obtain ⟨f, fd, F, g, b⟩ := T.d_check_number.ex
  refine ⟨f, fd, FnG.pure F sc_check_number fun cdv A outer s H E hr hg => ?_, g, F.kp, b, Fun.lk F⟩
  have hu := hr.units
  have hv := hv_of hr
  have hx := hx_of hr
  have hw := hu_of hr
  unfold b_check_number
  exact ⟨_, _, (ss_one (sIf (O' := []) (t_not (t_val (eF (ok_is_within T) (hr.mono (by decide)) hg rfl (by rfl) (a_cons (e_var 0 (pv 0) (by decide)) (a_cons e_int (a_cons (e_var 1 (pv 1) (by decide)) a_nil)))))) (ss_one s_never) ss_nil (fun _ h => h) (by decide)))⟩
abbrev s_first_at : Stmt := topS 20
theorem sc_first_at : FnScope ["addresses", "where", "low", "high", "middle"] ["addresses", "where"] (defScope s_first_at) := ⟨rfl, rfl, rfl, by decide +kernel, rfl, by decide +kernel, by decide +kernel⟩
theorem ok_first_at (T : Txt P w K mg base) : FI P w K mg base 1 "first_at" ["addresses", "where"] (spF K m_first_at) := by
  obtain ⟨f, fd, F, g, b⟩ := T.d_first_at.ex
  refine ⟨f, fd, FnG.pure F sc_first_at fun cdv A outer s H E hr hg => ?_, g, F.kp, b, Fun.lk F⟩
  have hu := hr.units
  have hv := hv_of hr
  have hx := hx_of hr
  have hw := hu_of hr
  unfold b_first_at
  exact ⟨_, [], (ss_cons (sSet 2 sc_first_at.nd rfl (.inl rfl) e_int (by decide) off0) (ss_cons (sSet 3 sc_first_at.nd rfl (.inl rfl) (cB (fnLen rfl) l_len (by rfl) T.n_len (by decide +kernel) (a_cons (e_var 0 (pv 0) (by decide)) a_nil)) (by decide) off0) (ss_cons (sWhile PassesOwn.never (t_cmp op_lt l_cmp (e_var 2 (pv 2) (by decide)) (e_var 3 (pv 3) (by decide)) (nomark _)) (ss_cons (sSet 4 sc_first_at.nd rfl (.inl rfl) (e_op op_fdiv l_div (e_op (oAdd rfl) l_add (e_var 2 (pv 2) (by decide)) (e_var 3 (pv 3) (by decide))) e_int) (by decide) off0) (ss_one (sIf (O' := []) (t_cmp op_lt l_cmp (e_ix (oIx rfl hw) l_ix (e_var 0 (pv 0) (by decide)) (e_var 4 (pv 4) (by decide)) (fun _ _ => rfl)) (e_var 1 (pv 1) (by decide)) (nomark _)) (ss_one (sSet 2 sc_first_at.nd rfl (.inl rfl) (e_op (oAdd rfl) l_add (e_var 4 (pv 4) (by decide)) e_int) (by decide) off0)) (ss_one (sSet 3 sc_first_at.nd rfl (.inl rfl) (e_var 4 (pv 4) (by decide)) (by decide) off0)) (by decide) (by decide)))) (by decide)) (ss_one (s_ret (e_if (t_cmp op_lt l_cmp (e_var 2 (pv 2) (by decide)) (cB (fnLen rfl) l_len (by rfl) T.n_len (by decide +kernel) (a_cons (e_var 0 (pv 0) (by decide)) a_nil)) (nomark _)) (e_ix (oIx rfl hw) l_ix (e_var 0 (pv 0) (by decide)) (e_var 2 (pv 2) (by decide)) (fun _ _ => rfl)) e_non))))))⟩
abbrev s_is_word : Stmt := topS 21
theorem sc_is_word : FnScope ["table", "address"] ["table", "address"] (defScope s_is_word) := ⟨rfl, rfl, rfl, by decide +kernel, rfl, by decide +kernel, by decide +kernel⟩
theorem ok_is_word (T : Txt P w K mg base) : FI P w K mg base 1 "is_word" ["table", "address"] (spF K m_is_word) := by
  obtain ⟨f, fd, F, g, b⟩ := T.d_is_word.ex
  refine ⟨f, fd, FnG.pure F sc_is_word fun cdv A outer s H E hr hg => ?_, g, F.kp, b, Fun.lk F⟩
  have hu := hr.units
  have hv := hv_of hr
  have hx := hx_of hr
  have hw := hu_of hr
  unfold b_is_word
  exact ⟨_, [], (ss_one (s_ret (e_and (e_cmp (oIn rfl hv) l_in (e_var 1 (pv 1) (by decide)) (e_var 0 (pv 0) (by decide)) (by rfl)) (e_one (e_cmp (oEq rfl hu) l_eq (e_ix (oIx rfl hw) l_ix (e_ix (oIx rfl hw) l_ix (e_var 0 (pv 0) (by decide)) (e_var 1 (pv 1) (by decide)) (fun _ _ => rfl)) e_int (fun _ _ => rfl)) e_str (nomark _))))))⟩
abbrev s_landing : Stmt := topS 39
theorem sc_landing : FnScope ["table", "addresses", "where", "passed", "at"] ["table", "addresses", "where"] (defScope s_landing) := ⟨rfl, rfl, rfl, by decide +kernel, rfl, by decide +kernel, by decide +kernel⟩
theorem ok_landing (T : Txt P w K mg base) : FI P w K mg base 2 "landing" ["table", "addresses", "where"] (spF K m_landing) := by
  obtain ⟨f, fd, F, g, b⟩ := T.d_landing.ex
  refine ⟨f, fd, FnG.pure F sc_landing fun cdv A outer s H E hr hg => ?_, g, F.kp, b, Fun.lk F⟩
  have hu := hr.units
  have hv := hv_of hr
  have hx := hx_of hr
  have hw := hu_of hr
  unfold b_landing
  exact ⟨_, [], (ss_cons (sOwn 3 sc_landing.nd rfl (.inl rfl) f_dict0 (by decide) off0) (ss_cons (sSet 4 sc_landing.nd rfl (.inl rfl) (eF (ok_first_at T) (hr.mono (by decide)) hg rfl (by rfl) (a_cons (e_var 1 (pv 1) (by decide)) (a_cons (e_var 2 (pv 2) (by decide)) a_nil))) (by decide) off0) (ss_cons (sWhile PassesOwn.never (RW.t (w_and (t_cmp op_notN l_notN (e_var 4 (pv 4) (by decide)) e_non (nomark _)) (w_and1 (t_cmp (oEq rfl hu) l_eq (e_ix (oIx rfl hw) l_ix (e_ix (oIx rfl hw) l_ix (e_var 0 (pv 0) (by decide)) (e_var 4 (pv 4) (by decide)) (fun _ _ => rfl)) e_int (fun _ _ => rfl)) e_str (nomark _))))) (ss_cons (sIf (O' := [3]) (tLook 3 (RW.t (w_or (t_cmp (oIn rfl hv) l_in (e_var 4 (pv 4) (by decide)) (e_var 3 (pv 3) (by decide)) (by rfl)) (w_or1 (t_cmp op_isN l_isN (e_ix (oIx rfl hw) l_ix (e_ix (oIx rfl hw) l_ix (e_var 0 (pv 0) (by decide)) (e_var 4 (pv 4) (by decide)) (fun _ _ => rfl)) e_int (fun _ _ => rfl)) e_non (nomark _))))) rfl) (ss_one (s_ret e_non)) ss_nil (fun _ h => h) (by decide)) (ss_cons (sPutK 3 (hu_of hr) (pv 3) (e_var 4 (pv 4) (by decide)) e_bl (by decide) off0) (ss_one (sSet 4 sc_landing.nd rfl (.inl rfl) (eF (ok_first_at T) (hr.mono (by decide)) hg rfl (by rfl) (a_cons (e_var 1 (pv 1) (by decide)) (a_cons (e_ix (oIx rfl hw) l_ix (e_ix (oIx rfl hw) l_ix (e_var 0 (pv 0) (by decide)) (e_var 4 (pv 4) (by decide)) (fun _ _ => rfl)) e_int (fun _ _ => rfl)) a_nil))) (by decide) off0)))) (by decide)) (ss_cons (sIf (O' := [3]) (RW.t (w_or (t_cmp op_isN l_isN (e_var 4 (pv 4) (by decide)) e_non (nomark _)) (w_or1 (t_cmp (oEq rfl hu) l_eq (e_ix (oIx rfl hw) l_ix (e_ix (oIx rfl hw) l_ix (e_var 0 (pv 0) (by decide)) (e_var 4 (pv 4) (by decide)) (fun _ _ => rfl)) e_int (fun _ _ => rfl)) e_str (nomark _))))) (ss_one (s_ret e_non)) ss_nil (fun _ h => h) (by decide)) (ss_cons (sIf (O' := [3]) (RW.t (w_and (t_cmp (oEq rfl hu) l_eq (e_ix (oIx rfl hw) l_ix (e_ix (oIx rfl hw) l_ix (e_var 0 (pv 0) (by decide)) (e_var 4 (pv 4) (by decide)) (fun _ _ => rfl)) e_int (fun _ _ => rfl)) e_str (nomark _)) (w_and1 (t_not (t_val (eF (ok_is_word T) (hr.mono (by decide)) hg rfl (by rfl) (a_cons (e_var 0 (pv 0) (by decide)) (a_cons (e_ix (oIx rfl hw) l_ix (e_ix (oIx rfl hw) l_ix (e_var 0 (pv 0) (by decide)) (e_var 4 (pv 4) (by decide)) (fun _ _ => rfl)) e_int (fun _ _ => rfl)) a_nil)))))))) (ss_one (s_ret e_non)) ss_nil (fun _ h => h) (by decide)) (ss_one (s_ret (e_var 4 (pv 4) (by decide)))))))))⟩
abbrev s_next_address : Stmt := topS 38
theorem sc_next_address : FnScope ["at", "cell", "total", "word", "size", "number"] ["at", "cell", "total"] (defScope s_next_address) := ⟨rfl, rfl, rfl, by decide +kernel, rfl, by decide +kernel, by decide +kernel⟩
theorem ok_next_address (T : Txt P w K mg base) : FI P w K mg base 1 "next_address" ["at", "cell", "total"] (spF K m_next_address) := by
  obtain ⟨f, fd, F, g, b⟩ := T.d_next_address.ex
  refine ⟨f, fd, FnG.pure F sc_next_address fun cdv A outer s H E hr hg => ?_, g, F.kp, b, Fun.lk F⟩
  have hu := hr.units
  have hv := hv_of hr
  have hx := hx_of hr
  have hw := hu_of hr
  unfold b_next_address
  exact ⟨_, [], (ss_cons (sAsg (e_var 1 (pv 1) (by decide)) (gT 3 rfl rfl (gC (gN 3 sc_next_address.nd rfl (.inl rfl) (by decide) off0) (gC (gN 4 sc_next_address.nd rfl (.inl rfl) (by decide) off0) (gC (gN 5 sc_next_address.nd rfl (.inl rfl) (by decide) off0) gs_nil))))) (ss_cons (sIf (O' := []) (RW.t (w_or (t_cmp (oIn rfl hv) l_in (e_var 3 (pv 3) (by decide)) (e_tup (a_cons e_str (a_cons e_str a_nil))) (by rfl)) (w_or1 (RW.t (w_and (t_cmp (oEq rfl hu) l_eq (e_var 3 (pv 3) (by decide)) e_str (nomark _)) (w_and1 (t_cmp (oEq rfl hu) l_eq (e_op op_mod l_mod (e_var 2 (pv 2) (by decide)) e_int) e_int (nomark _)))))))) (ss_one (s_ret (e_var 5 (pv 5) (by decide)))) ss_nil (fun _ h => h) (by decide)) (ss_one (s_ret (e_op (oAdd rfl) l_add (e_var 0 (pv 0) (by decide)) (e_var 4 (pv 4) (by decide)))))))⟩
abbrev s_total_behind : Stmt := topS 37
theorem sc_total_behind : FnScope ["table", "cell", "total", "word", "_", "number"] ["table", "cell", "total"] (defScope s_total_behind) := ⟨rfl, rfl, rfl, by decide +kernel, rfl, by decide +kernel, by decide +kernel⟩
theorem ok_total_behind (T : Txt P w K mg base) : FI P w K mg base 1 "total_behind" ["table", "cell", "total"] (spF K m_total_behind) := by
  obtain ⟨f, fd, F, g, b⟩ := T.d_total_behind.ex
  refine ⟨f, fd, FnG.pure F sc_total_behind fun cdv A outer s H E hr hg => ?_, g, F.kp, b, Fun.lk F⟩
  have hu := hr.units
  have hv := hv_of hr
  have hx := hx_of hr
  have hw := hu_of hr
  unfold b_total_behind
  exact ⟨_, [], (ss_cons (sAsg (e_var 1 (pv 1) (by decide)) (gT 3 rfl rfl (gC (gN 3 sc_total_behind.nd rfl (.inl rfl) (by decide) off0) (gC (gN 4 sc_total_behind.nd rfl (.inl rfl) (by decide) off0) (gC (gN 5 sc_total_behind.nd rfl (.inl rfl) (by decide) off0) gs_nil))))) (ss_cons (sIf (O' := []) (t_cmp (oEq rfl hu) l_eq (e_var 3 (pv 3) (by decide)) e_str (nomark _)) (ss_one (s_ret (e_op op_mod l_mod (e_op (oAdd rfl) l_add (e_var 2 (pv 2) (by decide)) (e_var 5 (pv 5) (by decide))) (e_op (oAdd rfl) l_add (T.c_HIGHEST.e (by rfl) rfl) e_int)))) ss_nil (fun _ h => h) (by decide)) (ss_cons (sIf (O' := []) (t_cmp (oEq rfl hu) l_eq (e_var 3 (pv 3) (by decide)) e_str (nomark _)) (ss_one (s_ret (e_op op_mod l_mod (e_op (oAdd rfl) l_add (e_var 2 (pv 2) (by decide)) (e_ix (oIx rfl hw) l_ix (e_ix (oIx rfl hw) l_ix (e_var 0 (pv 0) (by decide)) (e_var 5 (pv 5) (by decide)) (fun _ _ => rfl)) e_int (fun _ _ => rfl))) (e_op (oAdd rfl) l_add (T.c_HIGHEST.e (by rfl) rfl) e_int)))) ss_nil (fun _ h => h) (by decide)) (ss_one (s_ret (e_var 2 (pv 2) (by decide)))))))⟩
abbrev s_run_image : Stmt := topS 40
theorem sc_run_image : FnScope ["table", "where", "total", "limit", "addresses", "known", "steps", "at"] ["table", "where", "total", "limit"] (defScope s_run_image) := ⟨rfl, rfl, rfl, by decide +kernel, rfl, by decide +kernel, by decide +kernel⟩
theorem ok_run_image (T : Txt P w K mg base) : FI P w K mg base 3 "run_image" ["table", "where", "total", "limit"] (spF K m_run_image) := by
  obtain ⟨f, fd, F, g, b⟩ := T.d_run_image.ex
  refine ⟨f, fd, FnG.pure F sc_run_image fun cdv A outer s H E hr hg => ?_, g, F.kp, b, Fun.lk F⟩
  have hu := hr.units
  have hv := hv_of hr
  have hx := hx_of hr
  have hw := hu_of hr
  unfold b_run_image
  exact ⟨_, [], (ss_cons (sSet 4 sc_run_image.nd rfl (.inl rfl) (cB (fnSortedK rfl hx) l_sortedK (by rfl) T.n_sorted (by decide +kernel) (a_cons (e_var 0 (pv 0) (by decide)) a_nil)) (by decide) off0) (ss_cons (sOwn 5 sc_run_image.nd rfl (.inl rfl) f_dict0 (by decide) off0) (ss_cons (sSet 6 sc_run_image.nd rfl (.inl rfl) e_int (by decide) off0) (ss_cons (sWhile PassesOwn.never (t_cmp op_lt l_cmp (e_var 6 (pv 6) (by decide)) (e_var 3 (pv 3) (by decide)) (nomark _)) (ss_cons (sIf (O' := [5]) (tLook 5 (t_cmp (oNotIn rfl hv) l_notIn (e_var 1 (pv 1) (by decide)) (e_var 5 (pv 5) (by decide)) (by rfl)) rfl) (ss_one (sPutK 5 (hu_of hr) (pv 5) (e_var 1 (pv 1) (by decide)) (eF (ok_landing T) (hr.mono (by decide)) hg rfl (by rfl) (a_cons (e_var 0 (pv 0) (by decide)) (a_cons (e_var 4 (pv 4) (by decide)) (a_cons (e_var 1 (pv 1) (by decide)) a_nil)))) (by decide) off0)) ss_nil (by decide) (by decide)) (ss_cons (sSet 7 sc_run_image.nd rfl (.inl rfl) (eLook 5 (e_ix (oIx rfl hw) l_ix (e_var 5 (pv 5) (by decide)) (e_var 1 (pv 1) (by decide)) (fun _ _ => rfl)) rfl) (by decide) off0) (ss_cons (sIf (O' := [5]) (t_cmp op_isN l_isN (e_var 7 (pv 7) (by decide)) e_non (nomark _)) (ss_one (s_ret (e_tup (a_cons e_str (a_cons (e_var 2 (pv 2) (by decide)) (a_cons (e_var 6 (pv 6) (by decide)) a_nil)))))) ss_nil (fun _ h => h) (by decide)) (ss_cons (sAug 6 sc_run_image.nd rfl (.inl rfl) ip_add aug_add e_int (by decide) off0) (ss_cons (sIf (O' := [5]) (t_cmp (oEq rfl hu) l_eq (e_ix (oIx rfl hw) l_ix (e_ix (oIx rfl hw) l_ix (e_var 0 (pv 0) (by decide)) (e_var 7 (pv 7) (by decide)) (fun _ _ => rfl)) e_int (fun _ _ => rfl)) e_str (nomark _)) (ss_one (s_ret (e_tup (a_cons e_str (a_cons (e_var 2 (pv 2) (by decide)) (a_cons (e_var 6 (pv 6) (by decide)) a_nil)))))) ss_nil (fun _ h => h) (by decide)) (ss_cons (sSet 2 sc_run_image.nd rfl (.inl rfl) (eF (ok_total_behind T) (hr.mono (by decide)) hg rfl (by rfl) (a_cons (e_var 0 (pv 0) (by decide)) (a_cons (e_ix (oIx rfl hw) l_ix (e_var 0 (pv 0) (by decide)) (e_var 7 (pv 7) (by decide)) (fun _ _ => rfl)) (a_cons (e_var 2 (pv 2) (by decide)) a_nil)))) (by decide) off0) (ss_one (sSet 1 sc_run_image.nd rfl (.inl rfl) (eF (ok_next_address T) (hr.mono (by decide)) hg rfl (by rfl) (a_cons (e_var 7 (pv 7) (by decide)) (a_cons (e_ix (oIx rfl hw) l_ix (e_var 0 (pv 0) (by decide)) (e_var 7 (pv 7) (by decide)) (fun _ _ => rfl)) (a_cons (e_var 2 (pv 2) (by decide)) a_nil)))) (by decide) off0)))))))) (by decide)) (ss_one (s_ret (e_tup (a_cons e_str (a_cons (e_var 2 (pv 2) (by decide)) (a_cons (e_var 6 (pv 6) (by decide)) a_nil))))))))))⟩
abbrev s_run_from : Stmt := topS 42
theorem sc_run_from : FnScope ["table", "at", "total", "limit"] ["table", "at", "total", "limit"] (defScope s_run_from) := ⟨rfl, rfl, rfl, by decide +kernel, rfl, by decide +kernel, by decide +kernel⟩
theorem ok_run_from (T : Txt P w K mg base) : FI P w K mg base 5 "run_from" ["table", "at", "total", "limit"] (spF K m_run_from) := by
  obtain ⟨f, fd, F, g, b⟩ := T.d_run_from.ex
  refine ⟨f, fd, FnG.pure F sc_run_from fun cdv A outer s H E hr hg => ?_, g, F.kp, b, Fun.lk F⟩
  have hu := hr.units
  have hv := hv_of hr
  have hx := hx_of hr
  have hw := hu_of hr
  unfold b_run_from
  exact ⟨_, [], (ss_cons (sExpr (eF (ok_check_image T) (hr.mono (by decide)) hg rfl (by rfl) (a_cons (e_var 0 (pv 0) (by decide)) a_nil))) (ss_cons (sExpr (eF (ok_check_number T) (hr.mono (by decide)) hg rfl (by rfl) (a_cons (e_var 1 (pv 1) (by decide)) (a_cons (T.c_HIGHEST_ADDRESS.e (by rfl) rfl) a_nil)))) (ss_cons (sExpr (eF (ok_check_number T) (hr.mono (by decide)) hg rfl (by rfl) (a_cons (e_var 2 (pv 2) (by decide)) (a_cons (T.c_HIGHEST.e (by rfl) rfl) a_nil)))) (ss_cons (sExpr (eF (ok_check_number T) (hr.mono (by decide)) hg rfl (by rfl) (a_cons (e_var 3 (pv 3) (by decide)) (a_cons (T.c_MOST_STEPS.e (by rfl) rfl) a_nil)))) (ss_one (s_ret (eF (ok_run_image T) (hr.mono (by decide)) hg rfl (by rfl) (a_cons (e_var 0 (pv 0) (by decide)) (a_cons (e_var 1 (pv 1) (by decide)) (a_cons (e_var 2 (pv 2) (by decide)) (a_cons (e_var 3 (pv 3) (by decide)) a_nil)))))))))))⟩
abbrev s__law_runs : Stmt := topS 51
theorem sc__law_runs : FnScope ["image", "at", "total", "limit"] ["image", "at"] (defScope s__law_runs) := ⟨rfl, rfl, rfl, by decide +kernel, rfl, by decide +kernel, by decide +kernel⟩
theorem ok__law_runs (T : Txt P w K mg base) : FI P w K mg base 6 "_law_runs" ["image", "at"] (spF K m__law_runs) := by
  obtain ⟨f, fd, F, g, b⟩ := T.d__law_runs.ex
  refine ⟨f, fd, FnG.pure F sc__law_runs fun cdv A outer s H E hr hg => ?_, g, F.kp, b, Fun.lk F⟩
  have hu := hr.units
  have hv := hv_of hr
  have hx := hx_of hr
  have hw := hu_of hr
  unfold b__law_runs
  exact ⟨_, [], (ss_one (s_ret (RF.e (fLc (own := [("total", 2), ("limit", 3)]) rfl sc__law_runs.nd (i_seq rfl (e_lst (a_cons (e_tup (a_cons e_int (a_cons e_int a_nil))) (a_cons (e_tup (a_cons e_int (a_cons e_int a_nil))) (a_cons (e_tup (a_cons e_int (a_cons e_int a_nil))) (a_cons (e_tup (a_cons e_int (a_cons e_int a_nil))) (a_cons (e_tup (a_cons e_int (a_cons e_int a_nil))) a_nil))))))) (blkOk_by (own := [("total", 2), ("limit", 3)]) (N := ["image", "at", "total", "limit"]) (sc := defScope s__law_runs) (by decide +kernel)) (fun _ _ _ _ _ => (gT 2 rfl rfl (gC (gN 2 sc__law_runs.nd rfl (.inl rfl) (by decide) off0) (gC (gN 3 sc__law_runs.nd rfl (.inl rfl) (by decide) off0) gs_nil)))) (fun _ _ _ _ _ => (eF (ok_run_from T) (hr.mono (by decide)) hg rfl (by rfl) (a_cons (e_var 0 (pv 0) (by decide)) (a_cons (e_var 1 (pv 1) (by decide)) (a_cons (e_var 2 (pv 2) (by decide)) (a_cons (e_var 3 (pv 3) (by decide)) a_nil)))))) (by decide) offs0))))⟩
abbrev s_joined : Stmt := topS 26
theorem sc_joined : FnScope ["spans", "ranges", "first", "last"] ["spans"] (defScope s_joined) := ⟨rfl, rfl, rfl, by decide +kernel, rfl, by decide +kernel, by decide +kernel⟩
theorem okr_joined (T : Txt P w K mg base) : FI P w K mg base 1 "joined" ["spans"] (spFr K m_joined) := by
  obtain ⟨f, fd, F, g, b⟩ := T.d_joined.ex
  refine ⟨f, fd, FnG.fresh F sc_joined fun cdv A outer s H E hr hg => ?_, g, F.kp, b, Fun.lk F⟩
  have hu := hr.units
  have hv := hv_of hr
  have hx := hx_of hr
  have hw := hu_of hr
  unfold b_joined
  exact ⟨_, (rsf_cons (sOwn 1 sc_joined.nd rfl (.inl rfl) (f_lst a_nil) (by decide) off0) nr_set (rsf_cons (sFor PassesOwn.never rfl (i_seq rfl (cB (fnSorted rfl rfl hx) l_sorted (by rfl) T.n_sorted (by decide +kernel) (a_cons (e_var 0 (pv 0) (by decide)) a_nil))) (gT 2 rfl rfl (gC (gN 2 sc_joined.nd rfl (.inl rfl) (by decide) off0) (gC (gN 3 sc_joined.nd rfl (.inl rfl) (by decide) off0) gs_nil))) (ss_one (sIf (O' := [1]) (tLook 1 (RW.t (w_and (tTru rfl (e_var 1 (pv 1) (by decide))) (w_and1 (t_cmp op_le l_cmp (e_var 2 (pv 2) (by decide)) (e_op (oAdd rfl) l_add (e_ix (oIx rfl hw) l_ix (e_ix (oIx rfl hw) l_ix (e_var 1 (pv 1) (by decide)) (e_un un_neg l_neg e_int) (fun _ _ => rfl)) e_int (fun _ _ => rfl)) e_int) (nomark _))))) rfl) (ss_one (sPutI 1 (pv 1) (e_un un_neg l_neg e_int) (e_tup (a_cons (eLook 1 (e_ix (oIx rfl hw) l_ix (e_ix (oIx rfl hw) l_ix (e_var 1 (pv 1) (by decide)) (e_un un_neg l_neg e_int) (fun _ _ => rfl)) e_int (fun _ _ => rfl)) rfl) (a_cons (eLook 1 (cB (call_max2 rfl) l_max2 (by rfl) T.n_max (by decide +kernel) (a_cons (e_ix (oIx rfl hw) l_ix (e_ix (oIx rfl hw) l_ix (e_var 1 (pv 1) (by decide)) (e_un un_neg l_neg e_int) (fun _ _ => rfl)) e_int (fun _ _ => rfl)) (a_cons (e_var 3 (pv 3) (by decide)) a_nil))) rfl) a_nil))) (by decide) off0)) (ss_one (sApp 1 rfl (pv 1) (e_tup (a_cons (e_var 2 (pv 2) (by decide)) (a_cons (e_var 3 (pv 3) (by decide)) a_nil))) (by decide))) (by decide) (by decide))) (by decide)) (nr_for (nr_if nr_putI nr_append)) (rsf_own 1 (by decide) (pv 1))))⟩
abbrev s_onward : Stmt := topS 22
theorem sc_onward : FnScope ["table", "at", "word", "size", "number", "steps"] ["table", "at"] (defScope s_onward) := ⟨rfl, rfl, rfl, by decide +kernel, rfl, by decide +kernel, by decide +kernel⟩
theorem okr_onward (T : Txt P w K mg base) : FI P w K mg base 2 "onward" ["table", "at"] (spFr K m_onward) := by
  obtain ⟨f, fd, F, g, b⟩ := T.d_onward.ex
  refine ⟨f, fd, FnG.fresh F sc_onward fun cdv A outer s H E hr hg => ?_, g, F.kp, b, Fun.lk F⟩
  have hu := hr.units
  have hv := hv_of hr
  have hx := hx_of hr
  have hw := hu_of hr
  unfold b_onward
  exact ⟨_, (rsf_cons (sAsg (e_ix (oIx rfl hw) l_ix (e_var 0 (pv 0) (by decide)) (e_var 1 (pv 1) (by decide)) (fun _ _ => rfl)) (gT 3 rfl rfl (gC (gN 2 sc_onward.nd rfl (.inl rfl) (by decide) off0) (gC (gN 3 sc_onward.nd rfl (.inl rfl) (by decide) off0) (gC (gN 4 sc_onward.nd rfl (.inl rfl) (by decide) off0) gs_nil))))) nr_asg (rsf_if (RW.t (w_and (t_cmp (oEq rfl hu) l_eq (e_var 2 (pv 2) (by decide)) e_str (nomark _)) (w_and1 (t_not (t_val (eF (ok_is_word T) (hr.mono (by decide)) hg rfl (by rfl) (a_cons (e_var 0 (pv 0) (by decide)) (a_cons (e_var 4 (pv 4) (by decide)) a_nil)))))))) (rsf_ret (f_lst a_nil)) (rsf_cons (sOwn 5 sc_onward.nd rfl (.inl rfl) (f_lst a_nil) (by decide) off0) nr_set (rsf_cons (sIf (O' := [5]) (t_cmp (oIn rfl hv) l_in (e_var 2 (pv 2) (by decide)) (e_tup (a_cons e_str (a_cons e_str (a_cons e_str a_nil)))) (by rfl)) (ss_one (sApp 5 rfl (pv 5) (e_op (oAdd rfl) l_add (e_var 1 (pv 1) (by decide)) (e_var 3 (pv 3) (by decide))) (by decide))) ss_nil (by decide) (by decide)) (nr_if nr_append nr_next) (rsf_cons (sIf (O' := [5]) (RW.t (w_and (t_cmp (oIn rfl hv) l_in (e_var 2 (pv 2) (by decide)) (T.c_LEAPS.choose_spec.e (by rfl) rfl) (by rfl)) (w_and1 (t_cmp op_notN l_notN (e_var 4 (pv 4) (by decide)) e_non (nomark _))))) (ss_one (sApp 5 rfl (pv 5) (e_var 4 (pv 4) (by decide)) (by decide))) ss_nil (by decide) (by decide)) (nr_if nr_append nr_next) (rsf_own 5 (by decide) (pv 5)))))))⟩
abbrev s_looked_for : Stmt := topS 27
theorem sc_looked_for : FnScope ["table", "at", "addresses", "found", "waiting", "where"] ["table", "at"] (defScope s_looked_for) := ⟨rfl, rfl, rfl, by decide +kernel, rfl, by decide +kernel, by decide +kernel⟩
theorem okr_looked_for (T : Txt P w K mg base) : FI P w K mg base 3 "looked_for" ["table", "at"] (spFr K m_looked_for) := by
  obtain ⟨f, fd, F, g, b⟩ := T.d_looked_for.ex
  refine ⟨f, fd, FnG.fresh F sc_looked_for fun cdv A outer s H E hr hg => ?_, g, F.kp, b, Fun.lk F⟩
  have hu := hr.units
  have hv := hv_of hr
  have hx := hx_of hr
  have hw := hu_of hr
  unfold b_looked_for
  exact ⟨_, (rsf_cons (sSet 2 sc_looked_for.nd rfl (.inl rfl) (cB (fnSortedK rfl hx) l_sortedK (by rfl) T.n_sorted (by decide +kernel) (a_cons (e_var 0 (pv 0) (by decide)) a_nil)) (by decide) off0) nr_set (rsf_cons (sOwn 3 sc_looked_for.nd rfl (.inl rfl) f_dict0 (by decide) off0) nr_set (rsf_cons (sOwn 4 sc_looked_for.nd rfl (.inl rfl) (f_lst (a_cons (e_var 1 (pv 1) (by decide)) a_nil)) (by decide) off0) nr_set (rsf_cons (sWhile PassesOwn.never (tLook 4 (tTru rfl (e_var 4 (pv 4) (by decide))) rfl) (ss_cons (sPop 5 4 rfl sc_looked_for.nd rfl (.inl rfl) (pv 4) (by decide) (by decide) off0 off0) (ss_one (sIf (O' := [4, 3]) (tLook 3 (t_cmp (oNotIn rfl hv) l_notIn (e_var 5 (pv 5) (by decide)) (e_var 3 (pv 3) (by decide)) (by rfl)) rfl) (ss_cons (sPutK 3 (hu_of hr) (pv 3) (e_var 5 (pv 5) (by decide)) (eF (ok_first_at T) (hr.mono (by decide)) hg rfl (by rfl) (a_cons (e_var 2 (pv 2) (by decide)) (a_cons (e_var 5 (pv 5) (by decide)) a_nil))) (by decide) off0) (ss_one (sIf (O' := [4, 3]) (tLook 3 (t_cmp op_notN l_notN (e_ix (oIx rfl hw) l_ix (e_var 3 (pv 3) (by decide)) (e_var 5 (pv 5) (by decide)) (fun _ _ => rfl)) e_non (nomark _)) rfl) (ss_one (sExt 4 rfl (pv 4) (RF.e (fLook 3 (fF (okr_onward T) (hr.mono (by decide)) hg rfl (by rfl) (a_cons (e_var 0 (pv 0) (by decide)) (a_cons (e_ix (oIx rfl hw) l_ix (e_var 3 (pv 3) (by decide)) (e_var 5 (pv 5) (by decide)) (fun _ _ => rfl)) a_nil))) rfl)) (by decide) off0)) ss_nil (by decide) (by decide)))) ss_nil (by decide) (by decide)))) (by decide)) (nr_while (nr_seq nr_pop (nr_if (nr_seq nr_putK (nr_if nr_extend nr_next)) nr_next))) (rsf_own 3 (by decide) (pv 3))))))⟩
theorem ok_looked_for (T : Txt P w K mg base) : FI P w K mg base 3 "looked_for" ["table", "at"] (spF K m_looked_for) := (okr_looked_for T).plain
abbrev s_ranges_from : Stmt := topS 28
theorem sc_ranges_from : FnScope ["table", "at", "found", "spans", "where", "cell", "come_to", "word", "size", "number"] ["table", "at"] (defScope s_ranges_from) := ⟨rfl, rfl, rfl, by decide +kernel, rfl, by decide +kernel, by decide +kernel⟩
theorem okr_ranges_from (T : Txt P w K mg base) : FI P w K mg base 4 "ranges_from" ["table", "at"] (spFr K m_ranges_from) := by
  obtain ⟨f, fd, F, g, b⟩ := T.d_ranges_from.ex
  refine ⟨f, fd, FnG.fresh F sc_ranges_from fun cdv A outer s H E hr hg => ?_, g, F.kp, b, Fun.lk F⟩
  have hu := hr.units
  have hv := hv_of hr
  have hx := hx_of hr
  have hw := hu_of hr
  unfold b_ranges_from
  exact ⟨_, (rsf_cons (sSet 2 sc_ranges_from.nd rfl (.inl rfl) (eF (ok_looked_for T) (hr.mono (by decide)) hg rfl (by rfl) (a_cons (e_var 0 (pv 0) (by decide)) (a_cons (e_var 1 (pv 1) (by decide)) a_nil))) (by decide) off0) nr_set (rsf_cons (sLcK (own := [("where", 4), ("cell", 5)]) 3 rfl sc_ranges_from.nd rfl rfl (sw_true rfl rfl rfl (by decide +kernel)) (ik_items 2 (pv 2) (by decide)) (blkOk_by (own := [("where", 4), ("cell", 5)]) (N := ["table", "at", "found", "spans", "where", "cell", "come_to", "word", "size", "number"]) (sc := defScope s_ranges_from) (by decide +kernel)) (fun _ _ _ _ _ => (gT 2 rfl rfl (gC (gN 4 sc_ranges_from.nd rfl (.inl rfl) (by decide) off0) (gC (gN 5 sc_ranges_from.nd rfl (.inl rfl) (by decide) off0) gs_nil)))) (fun _ _ _ _ _ => (e_tup (a_cons (e_var 4 (pv 4) (by decide)) (a_cons (e_if (t_cmp op_isN l_isN (e_var 5 (pv 5) (by decide)) e_non (nomark _)) (T.c_ENDLESS.e (by rfl) rfl) (e_var 5 (pv 5) (by decide))) a_nil)))) (by decide) offs0 (by decide) off0) nr_set (rsf_cons (sLcKIf (own := [("cell", 5)]) 6 rfl sc_ranges_from.nd rfl rfl (sw_true rfl rfl rfl (by decide +kernel)) (ik_vals 2 (pv 2) (by decide)) (blkOk_by (own := [("cell", 5)]) (N := ["table", "at", "found", "spans", "where", "cell", "come_to", "word", "size", "number"]) (sc := defScope s_ranges_from) (by decide +kernel)) (fun _ _ _ _ _ => (gN 5 sc_ranges_from.nd rfl (.inl rfl) (by decide) off0)) (fun _ _ _ _ _ => (t_cmp op_notN l_notN (e_var 5 (pv 5) (by decide)) e_non (nomark _))) (fun _ _ _ _ _ => (e_ix (oIx rfl hw) l_ix (e_var 0 (pv 0) (by decide)) (e_var 5 (pv 5) (by decide)) (fun _ _ => rfl))) (by decide) offs0 (by decide) off0) nr_set (RSF.pre (O2 := []) (rsf_ret (fF (okr_joined T) (hr.mono (by decide)) hg rfl (by rfl) (a_cons (e_op (oAdd rfl) l_add (e_var 3 (pv 3) (by decide)) (RF.e (fLcIf (own := [("word", 7), ("size", 8), ("number", 9)]) rfl sc_ranges_from.nd (i_seq rfl (e_var 6 (pv 6) (by decide))) (blkOk_by (own := [("word", 7), ("size", 8), ("number", 9)]) (N := ["table", "at", "found", "spans", "where", "cell", "come_to", "word", "size", "number"]) (sc := defScope s_ranges_from) (by decide +kernel)) (fun _ _ _ _ _ => (gT 3 rfl rfl (gC (gN 7 sc_ranges_from.nd rfl (.inl rfl) (by decide) off0) (gC (gN 8 sc_ranges_from.nd rfl (.inl rfl) (by decide) off0) (gC (gN 9 sc_ranges_from.nd rfl (.inl rfl) (by decide) off0) gs_nil))))) (fun _ _ _ _ _ => (t_cmp (oEq rfl hu) l_eq (e_var 7 (pv 7) (by decide)) e_str (nomark _))) (fun _ _ _ _ _ => (e_tup (a_cons (e_var 9 (pv 9) (by decide)) (a_cons (e_var 9 (pv 9) (by decide)) a_nil)))) (by decide) offs0))) a_nil))) (by decide)))))⟩
theorem ok_ranges_from (T : Txt P w K mg base) : FI P w K mg base 4 "ranges_from" ["table", "at"] (spF K m_ranges_from) := (okr_ranges_from T).plain
abbrev s_depends : Stmt := topS 33
theorem sc_depends : FnScope ["table", "at", "first", "last"] ["table", "at"] (defScope s_depends) := ⟨rfl, rfl, rfl, by decide +kernel, rfl, by decide +kernel, by decide +kernel⟩
theorem okr_depends (T : Txt P w K mg base) : FI P w K mg base 5 "depends" ["table", "at"] (spFr K m_depends) := by
  obtain ⟨f, fd, F, g, b⟩ := T.d_depends.ex
  refine ⟨f, fd, FnG.fresh F sc_depends fun cdv A outer s H E hr hg => ?_, g, F.kp, b, Fun.lk F⟩
  have hu := hr.units
  have hv := hv_of hr
  have hx := hx_of hr
  have hw := hu_of hr
  unfold b_depends
  exact ⟨_, (rsf_cons (sExpr (eF (ok_check_image T) (hr.mono (by decide)) hg rfl (by rfl) (a_cons (e_var 0 (pv 0) (by decide)) a_nil))) nr_drop (rsf_cons (sExpr (eF (ok_check_number T) (hr.mono (by decide)) hg rfl (by rfl) (a_cons (e_var 1 (pv 1) (by decide)) (a_cons (T.c_HIGHEST_ADDRESS.e (by rfl) rfl) a_nil)))) nr_drop (rsf_ret (fLc (own := [("first", 2), ("last", 3)]) rfl sc_depends.nd (i_seq rfl (eF (ok_ranges_from T) (hr.mono (by decide)) hg rfl (by rfl) (a_cons (e_var 0 (pv 0) (by decide)) (a_cons (e_var 1 (pv 1) (by decide)) a_nil)))) (blkOk_by (own := [("first", 2), ("last", 3)]) (N := ["table", "at", "first", "last"]) (sc := defScope s_depends) (by decide +kernel)) (fun _ _ _ _ _ => (gT 2 rfl rfl (gC (gN 2 sc_depends.nd rfl (.inl rfl) (by decide) off0) (gC (gN 3 sc_depends.nd rfl (.inl rfl) (by decide) off0) gs_nil)))) (fun _ _ _ _ _ => (e_tup (a_cons (e_var 2 (pv 2) (by decide)) (a_cons (e_if (t_cmp (oEq rfl hu) l_eq (e_var 3 (pv 3) (by decide)) (T.c_ENDLESS.e (by rfl) rfl) (nomark _)) e_non (e_var 3 (pv 3) (by decide))) a_nil)))) (by decide) offs0))))⟩
theorem ok_depends (T : Txt P w K mg base) : FI P w K mg base 5 "depends" ["table", "at"] (spF K m_depends) := (okr_depends T).plain
abbrev s_differences : Stmt := topS 32
theorem sc_differences : FnScope ["before", "after", "addresses", "table", "address"] ["before", "after"] (defScope s_differences) := ⟨rfl, rfl, rfl, by decide +kernel, rfl, by decide +kernel, by decide +kernel⟩
theorem okr_differences (T : Txt P w K mg base) : FI P w K mg base 1 "differences" ["before", "after"] (spFr K m_differences) := by
  obtain ⟨f, fd, F, g, b⟩ := T.d_differences.ex
  refine ⟨f, fd, FnG.fresh F sc_differences fun cdv A outer s H E hr hg => ?_, g, F.kp, b, Fun.lk F⟩
  have hu := hr.units
  have hv := hv_of hr
  have hx := hx_of hr
  have hw := hu_of hr
  unfold b_differences
  exact ⟨_, (rsf_cons (sSet 2 sc_differences.nd rfl (.inl rfl) (RF.e (fKeys2 rfl rfl sc_differences.nd (by decide) (by decide) (by decide) (by rfl) T.n_sorted (a_cons (e_var 0 (pv 0) (by decide)) (a_cons (e_var 1 (pv 1) (by decide)) a_nil)) (blkOk_by (own := [("table", 3), ("address", 4)]) (N := ["before", "after", "addresses", "table", "address"]) (sc := defScope s_differences) (by decide +kernel)) (fun _ _ _ _ _ => (gN 3 sc_differences.nd rfl (.inl rfl) (by decide) off0)) (fun _ _ _ _ _ => (ik_keys 3 (pv 3) (by decide))) (fun _ _ _ _ _ => (gN 4 sc_differences.nd rfl (.inl rfl) (by decide) off0)) (fun _ _ _ _ _ => (e_var 4 (pv 4) (by decide))))) (by decide) off0) nr_set (rsf_ret (fLcIf (own := [("address", 4)]) rfl sc_differences.nd (i_seq rfl (e_var 2 (pv 2) (by decide))) (blkOk_by (own := [("address", 4)]) (N := ["before", "after", "addresses", "table", "address"]) (sc := defScope s_differences) (by decide +kernel)) (fun _ _ _ _ _ => (gN 4 sc_differences.nd rfl (.inl rfl) (by decide) off0)) (fun _ _ _ _ _ => (t_cmp (oNe rfl hu) l_ne (eGet1 (hu_of hr) (e_var 0 (pv 0) (by decide)) (e_var 4 (pv 4) (by decide)) ⟨by rfl, by rfl, by rfl, by rfl⟩) (eGet1 (hu_of hr) (e_var 1 (pv 1) (by decide)) (e_var 4 (pv 4) (by decide)) ⟨by rfl, by rfl, by rfl, by rfl⟩) (nomark _))) (fun _ _ _ _ _ => (e_tup (a_cons (e_var 4 (pv 4) (by decide)) (a_cons (eGet1 (hu_of hr) (e_var 1 (pv 1) (by decide)) (e_var 4 (pv 4) (by decide)) ⟨by rfl, by rfl, by rfl, by rfl⟩) a_nil)))) (by decide) offs0)))⟩
abbrev s_patch : Stmt := topS 35
theorem sc_patch : FnScope ["before", "after"] ["before", "after"] (defScope s_patch) := ⟨rfl, rfl, rfl, by decide +kernel, rfl, by decide +kernel, by decide +kernel⟩
theorem okr_patch (T : Txt P w K mg base) : FI P w K mg base 5 "patch" ["before", "after"] (spFr K m_patch) := by
  obtain ⟨f, fd, F, g, b⟩ := T.d_patch.ex
  refine ⟨f, fd, FnG.fresh F sc_patch fun cdv A outer s H E hr hg => ?_, g, F.kp, b, Fun.lk F⟩
  have hu := hr.units
  have hv := hv_of hr
  have hx := hx_of hr
  have hw := hu_of hr
  unfold b_patch
  exact ⟨_, (rsf_cons (sExpr (eF (ok_check_image T) (hr.mono (by decide)) hg rfl (by rfl) (a_cons (e_var 0 (pv 0) (by decide)) a_nil))) nr_drop (rsf_cons (sExpr (eF (ok_check_image T) (hr.mono (by decide)) hg rfl (by rfl) (a_cons (e_var 1 (pv 1) (by decide)) a_nil))) nr_drop (rsf_ret (fF (okr_differences T) (hr.mono (by decide)) hg rfl (by rfl) (a_cons (e_var 0 (pv 0) (by decide)) (a_cons (e_var 1 (pv 1) (by decide)) a_nil))))))⟩
theorem ok_patch (T : Txt P w K mg base) : FI P w K mg base 5 "patch" ["before", "after"] (spF K m_patch) := (okr_patch T).plain
abbrev s_is_write : Stmt := topS 29
theorem sc_is_write : FnScope ["thing"] ["thing"] (defScope s_is_write) := ⟨rfl, rfl, rfl, by decide +kernel, rfl, by decide +kernel, by decide +kernel⟩
theorem ok_is_write (T : Txt P w K mg base) : FI P w K mg base 3 "is_write" ["thing"] (spF K m_is_write) := by
  obtain ⟨f, fd, F, g, b⟩ := T.d_is_write.ex
  refine ⟨f, fd, FnG.pure F sc_is_write fun cdv A outer s H E hr hg => ?_, g, F.kp, b, Fun.lk F⟩
  have hu := hr.units
  have hv := hv_of hr
  have hx := hx_of hr
  have hw := hu_of hr
  unfold b_is_write
  exact ⟨_, [], (ss_cons (sIf (O' := []) (RW.t (w_or (t_not (t_val (eIsi (T := "tuple") (by decide) rfl (e_var 0 (pv 0) (by decide)) (by rfl) T.n_isinstance (by rfl) T.n_tuple (by decide +kernel)))) (w_or (t_cmp (oNe rfl hu) l_ne (cB (fnLen rfl) l_len (by rfl) T.n_len (by decide +kernel) (a_cons (e_var 0 (pv 0) (by decide)) a_nil)) e_int (nomark _)) (w_or1 (t_not (t_val (eF (ok_is_address T) (hr.mono (by decide)) hg rfl (by rfl) (a_cons (e_ix (oIx rfl hw) l_ix (e_var 0 (pv 0) (by decide)) e_int (fun _ _ => rfl)) a_nil)))))))) (ss_one (s_ret e_bl)) ss_nil (fun _ h => h) (by decide)) (ss_one (s_ret (e_or (e_cmp op_isN l_isN (e_ix (oIx rfl hw) l_ix (e_var 0 (pv 0) (by decide)) e_int (fun _ _ => rfl)) e_non (nomark _)) (e_one (eF (ok_is_cell T) (hr.mono (by decide)) hg rfl (by rfl) (a_cons (e_ix (oIx rfl hw) l_ix (e_var 0 (pv 0) (by decide)) e_int (fun _ _ => rfl)) a_nil)))))))⟩
abbrev s_written : Stmt := topS 30
theorem sc_written : FnScope ["table", "writes", "image", "address", "cell"] ["table", "writes"] (defScope s_written) := ⟨rfl, rfl, rfl, by decide +kernel, rfl, by decide +kernel, by decide +kernel⟩
theorem okr_written (T : Txt P w K mg base) : FI P w K mg base 1 "written" ["table", "writes"] (spFr K m_written) := by
  obtain ⟨f, fd, F, g, b⟩ := T.d_written.ex
  refine ⟨f, fd, FnG.fresh F sc_written fun cdv A outer s H E hr hg => ?_, g, F.kp, b, Fun.lk F⟩
  have hu := hr.units
  have hv := hv_of hr
  have hx := hx_of hr
  have hw := hu_of hr
  unfold b_written
  exact ⟨_, (rsf_cons (sOwn 2 sc_written.nd rfl (.inl rfl) (fDictOf rfl (by rfl) T.n_dict (e_var 0 (pv 0) (by decide))) (by decide) off0) nr_set (rsf_cons (sFor PassesOwn.never rfl (i_seq rfl (e_var 1 (pv 1) (by decide))) (gT 2 rfl rfl (gC (gN 3 sc_written.nd rfl (.inl rfl) (by decide) off0) (gC (gN 4 sc_written.nd rfl (.inl rfl) (by decide) off0) gs_nil))) (ss_one (sIf (O' := [2]) (t_cmp op_isN l_isN (e_var 4 (pv 4) (by decide)) e_non (nomark _)) (ss_one (sDPop 2 (pv 2) (e_var 3 (pv 3) (by decide)) e_non (by decide) off0 ⟨by rfl, by rfl, by rfl, by rfl⟩)) (ss_one (sPutK 2 (hu_of hr) (pv 2) (e_var 3 (pv 3) (by decide)) (e_var 4 (pv 4) (by decide)) (by decide) off0)) (by decide) (by decide))) (by decide)) (nr_for (nr_if nr_dpop nr_putK)) (rsf_own 2 (by decide) (pv 2))))⟩
theorem ok_written (T : Txt P w K mg base) : FI P w K mg base 1 "written" ["table", "writes"] (spF K m_written) := (okr_written T).plain
abbrev s_check_writes : Stmt := topS 31
theorem sc_check_writes : FnScope ["table", "writes", "write"] ["table", "writes"] (defScope s_check_writes) := ⟨rfl, rfl, rfl, by decide +kernel, rfl, by decide +kernel, by decide +kernel⟩
theorem ok_check_writes (T : Txt P w K mg base) : FI P w K mg base 4 "check_writes" ["table", "writes"] (spF K m_check_writes) := by
  obtain ⟨f, fd, F, g, b⟩ := T.d_check_writes.ex
  refine ⟨f, fd, FnG.pure F sc_check_writes fun cdv A outer s H E hr hg => ?_, g, F.kp, b, Fun.lk F⟩
  have hu := hr.units
  have hv := hv_of hr
  have hx := hx_of hr
  have hw := hu_of hr
  unfold b_check_writes
  exact ⟨_, _, (ss_cons (sIf (O' := []) (RW.t (w_or (t_not (t_val (eIsi (T := "list") (by decide) rfl (e_var 1 (pv 1) (by decide)) (by rfl) T.n_isinstance (by rfl) T.n_list (by decide +kernel)))) (w_or1 (t_cmp op_gt l_cmp (cB (fnLenA rfl) l_lenA (by rfl) T.n_len (by decide +kernel) (a_cons (e_var 1 (pv 1) (by decide)) a_nil)) (T.c_MOST_WRITES.e (by rfl) rfl) (nomark _))))) (ss_one s_never) ss_nil (fun _ h => h) (by decide)) (ss_cons (sIf (O' := []) (t_not (t_val (cB (fnAll rfl rfl) l_all (by rfl) T.n_all (by decide +kernel) (a_cons (RF.e (fLc (own := [("write", 2)]) rfl sc_check_writes.nd (i_seq rfl (e_var 1 (pv 1) (by decide))) (blkOk_by (own := [("write", 2)]) (N := ["table", "writes", "write"]) (sc := defScope s_check_writes) (by decide +kernel)) (fun _ _ _ _ _ => (gN 2 sc_check_writes.nd rfl (.inl rfl) (by decide) off0)) (fun _ _ _ _ _ => (eF (ok_is_write T) (hr.mono (by decide)) hg rfl (by rfl) (a_cons (e_var 2 (pv 2) (by decide)) a_nil))) (by decide) offs0)) a_nil)))) (ss_one s_never) ss_nil (fun _ h => h) (by decide)) (ss_one (sIf (O' := []) (t_cmp op_gt l_cmp (cB (fnLenA rfl) l_lenA (by rfl) T.n_len (by decide +kernel) (a_cons (eF (ok_written T) (hr.mono (by decide)) hg rfl (by rfl) (a_cons (e_var 0 (pv 0) (by decide)) (a_cons (e_var 1 (pv 1) (by decide)) a_nil))) a_nil)) (T.c_MOST_CELLS.e (by rfl) rfl) (nomark _)) (ss_one s_never) ss_nil (fun _ h => h) (by decide)))))⟩
abbrev s_patched : Stmt := topS 34
theorem sc_patched : FnScope ["table", "writes"] ["table", "writes"] (defScope s_patched) := ⟨rfl, rfl, rfl, by decide +kernel, rfl, by decide +kernel, by decide +kernel⟩
theorem okr_patched (T : Txt P w K mg base) : FI P w K mg base 5 "patched" ["table", "writes"] (spFr K m_patched) := by
  obtain ⟨f, fd, F, g, b⟩ := T.d_patched.ex
  refine ⟨f, fd, FnG.fresh F sc_patched fun cdv A outer s H E hr hg => ?_, g, F.kp, b, Fun.lk F⟩
  have hu := hr.units
  have hv := hv_of hr
  have hx := hx_of hr
  have hw := hu_of hr
  unfold b_patched
  exact ⟨_, (rsf_cons (sExpr (eF (ok_check_image T) (hr.mono (by decide)) hg rfl (by rfl) (a_cons (e_var 0 (pv 0) (by decide)) a_nil))) nr_drop (rsf_cons (sExpr (eF (ok_check_writes T) (hr.mono (by decide)) hg rfl (by rfl) (a_cons (e_var 0 (pv 0) (by decide)) (a_cons (e_var 1 (pv 1) (by decide)) a_nil)))) nr_drop (rsf_ret (fF (okr_written T) (hr.mono (by decide)) hg rfl (by rfl) (a_cons (e_var 0 (pv 0) (by decide)) (a_cons (e_var 1 (pv 1) (by decide)) a_nil))))))⟩
theorem ok_patched (T : Txt P w K mg base) : FI P w K mg base 5 "patched" ["table", "writes"] (spF K m_patched) := (okr_patched T).plain
abbrev s_run_cells : Stmt := topS 41
theorem sc_run_cells : FnScope ["table", "total", "limit"] ["table", "total", "limit"] (defScope s_run_cells) := ⟨rfl, rfl, rfl, by decide +kernel, rfl, by decide +kernel, by decide +kernel⟩
theorem ok_run_cells (T : Txt P w K mg base) : FI P w K mg base 5 "run_cells" ["table", "total", "limit"] (spF K m_run_cells) := by
  obtain ⟨f, fd, F, g, b⟩ := T.d_run_cells.ex
  refine ⟨f, fd, FnG.pure F sc_run_cells fun cdv A outer s H E hr hg => ?_, g, F.kp, b, Fun.lk F⟩
  have hu := hr.units
  have hv := hv_of hr
  have hx := hx_of hr
  have hw := hu_of hr
  unfold b_run_cells
  exact ⟨_, [], (ss_cons (sExpr (eF (ok_check_image T) (hr.mono (by decide)) hg rfl (by rfl) (a_cons (e_var 0 (pv 0) (by decide)) a_nil))) (ss_cons (sExpr (eF (ok_check_number T) (hr.mono (by decide)) hg rfl (by rfl) (a_cons (e_var 1 (pv 1) (by decide)) (a_cons (T.c_HIGHEST.e (by rfl) rfl) a_nil)))) (ss_cons (sExpr (eF (ok_check_number T) (hr.mono (by decide)) hg rfl (by rfl) (a_cons (e_var 2 (pv 2) (by decide)) (a_cons (T.c_MOST_STEPS.e (by rfl) rfl) a_nil)))) (ss_one (s_ret (eF (ok_run_image T) (hr.mono (by decide)) hg rfl (by rfl) (a_cons (e_var 0 (pv 0) (by decide)) (a_cons e_int (a_cons (e_var 1 (pv 1) (by decide)) (a_cons (e_var 2 (pv 2) (by decide)) a_nil))))))))))⟩
abbrev s_law : Stmt := topS 52
theorem sc_law : FnScope ["script", "pen", "turn", "image", "at", "other", "ranges", "told", "rows", "write", "made", "some", "spot"] ["script"] (defScope s_law) := ⟨rfl, rfl, rfl, by decide +kernel, rfl, by decide +kernel, by decide +kernel⟩
theorem fn_law (T : Txt P w K mg base) (h : b_c16_law mTrue (List.replicate 13 none) 0) {f : Addr} {fd : FuncData} (F : Fun K "law" "law" (topS 52) f fd) : FnG P w K mg base 7 f fd ["script"] (spLaw K) := by
  obtain ⟨fS, fdS, GS, gS, kS, bS, _⟩ := (ok__law_open T).ex
  refine FnG.law 1 F sc_law (by decide) _ _ rfl (fun cdv A outer s H E hr hg => ⟨?_, fun a dr => ?_⟩) h
  · exact ps_set (i := 1) sc_law.nd rfl (.inl rfl) (pe_callG GS (hr.mono (by decide)) (hg.le (by decide)) (by rfl) gS kS bS (pa_cons (pv 0) pa_nil))
  · have hu := hr.units
    have hv := hv_of hr
    have hx := hx_of hr
    have hw := hu_of hr
    unfold b_c16_law
    exact ⟨_, [], (ss_cons (sFor PassesOwn.never rfl (iR1 (by rfl) T.n_range (a_cons e_int a_nil)) (gN 2 sc_law.nd rfl (.inl rfl) (by decide) (offp (by decide))) (ss_cons (sSet 3 sc_law.nd rfl (.inl rfl) (eP (ok__law_draw_image T) (hr.mono (by decide)) hg rfl rfl (by rfl) (pv 1) (a_cons e_int (a_cons e_int a_nil))) (by decide) (offp (by decide))) (ss_cons (sParT [4, 5] (x_sh (eP (ok__law_one_of T) (hr.mono (by decide)) hg rfl rfl (by rfl) (pv 1) (a_cons (e_op (oAdd rfl) l_add (e_lst (a_cons e_int (a_cons (eP (ok__law_take T) (hr.mono (by decide)) hg rfl rfl (by rfl) (pv 1) (a_cons e_int a_nil)) a_nil))) (cB (fnSortedK rfl hx) l_sortedK (by rfl) T.n_sorted (by decide +kernel) (a_cons (e_var 3 (pv 3) (by decide)) a_nil))) a_nil)) (x_sh (eP (ok__law_changed T) (hr.mono (by decide)) hg rfl rfl (by rfl) (pv 1) (a_cons (e_var 3 (pv 3) (by decide)) (a_cons e_int (a_cons e_int a_nil)))) x_nil)) (by decide) (offsOp (by decide)) ⟨rfl, by decide⟩ (pg_tup rfl (pgs_cons (pg_name (i := 4) sc_law.nd rfl (.inr rfl)) (pgs_cons (pg_name (i := 5) sc_law.nd rfl (.inl rfl)) pgs_nil)))) (ss_cons (sParT [6, 7] (x_sh (eF (ok_depends T) (hr.mono (by decide)) hg rfl (by rfl) (a_cons (e_var 3 (pv 3) (by decide)) (a_cons (e_var 4 (pv 4) (by decide)) a_nil))) (x_sh (eF (ok__law_runs T) (hr.mono (by decide)) hg rfl (by rfl) (a_cons (e_var 3 (pv 3) (by decide)) (a_cons (e_var 4 (pv 4) (by decide)) a_nil))) x_nil)) (by decide) (offsOp (by decide)) ⟨rfl, by decide⟩ (pg_tup rfl (pgs_cons (pg_name (i := 6) sc_law.nd rfl (.inr rfl)) (pgs_cons (pg_name (i := 7) sc_law.nd rfl (.inl rfl)) pgs_nil)))) (ss_cons (sLcIf (own := [("write", 9)]) 8 rfl sc_law.nd rfl rfl (sw_true rfl rfl rfl (by decide +kernel)) (i_seq rfl (eF (ok_patch T) (hr.mono (by decide)) hg rfl (by rfl) (a_cons (e_var 3 (pv 3) (by decide)) (a_cons (e_var 5 (pv 5) (by decide)) a_nil)))) (blkOk_by (own := [("write", 9)]) (N := ["script", "pen", "turn", "image", "at", "other", "ranges", "told", "rows", "write", "made", "some", "spot"]) (sc := defScope s_law) (by decide +kernel)) (fun _ _ _ _ _ => (gN 9 sc_law.nd rfl (.inl rfl) (by decide) (offp (by decide)))) (fun _ _ _ _ _ => (t_not (t_val (eF (ok__law_is_in T) (hr.mono (by decide)) hg rfl (by rfl) (a_cons (e_var 6 (pv 6) (by decide)) (a_cons (e_ix (oIx rfl hw) l_ix (e_var 9 (pv 9) (by decide)) e_int (fun _ _ => rfl)) a_nil)))))) (fun _ _ _ _ _ => (e_var 9 (pv 9) (by decide))) (by decide) (offsp (by decide)) (by decide) (offp (by decide))) (RSs.pre (O := []) (ss_cons (sSet 10 sc_law.nd rfl (.inl rfl) (eF (ok_patched T) (hr.mono (by decide)) hg rfl (by rfl) (a_cons (e_var 3 (pv 3) (by decide)) (a_cons (e_var 8 (pv 8) (by decide)) a_nil))) (by decide) (offp (by decide))) (ss_cons (sIf (O' := []) (RW.t (w_or (t_cmp (oNe rfl hu) l_ne (eF (ok__law_runs T) (hr.mono (by decide)) hg rfl (by rfl) (a_cons (e_var 10 (pv 10) (by decide)) (a_cons (e_var 4 (pv 4) (by decide)) a_nil))) (e_var 7 (pv 7) (by decide)) (nomark _)) (w_or (t_cmp (oNe rfl hu) l_ne (eF (ok_depends T) (hr.mono (by decide)) hg rfl (by rfl) (a_cons (e_var 10 (pv 10) (by decide)) (a_cons (e_var 4 (pv 4) (by decide)) a_nil))) (e_var 6 (pv 6) (by decide)) (nomark _)) (w_or1 (t_cmp (oNe rfl hu) l_ne (eF (ok__law_runs T) (hr.mono (by decide)) hg rfl (by rfl) (a_cons (eF (ok_patched T) (hr.mono (by decide)) hg rfl (by rfl) (a_cons (e_var 10 (pv 10) (by decide)) (a_cons (e_var 8 (pv 8) (by decide)) a_nil))) (a_cons (e_var 4 (pv 4) (by decide)) a_nil))) (e_var 7 (pv 7) (by decide)) (nomark _)))))) (ss_one (s_ret e_bl)) ss_nil (fun _ h => h) (by decide)) (ss_cons (sLcIf (own := [("spot", 12)]) 11 rfl sc_law.nd rfl rfl (sw_true rfl rfl rfl (by decide +kernel)) (i_seq rfl (cB (fnSortedK rfl hx) l_sortedK (by rfl) T.n_sorted (by decide +kernel) (a_cons (e_var 3 (pv 3) (by decide)) a_nil))) (blkOk_by (own := [("spot", 12)]) (N := ["script", "pen", "turn", "image", "at", "other", "ranges", "told", "rows", "write", "made", "some", "spot"]) (sc := defScope s_law) (by decide +kernel)) (fun _ _ _ _ _ => (gN 12 sc_law.nd rfl (.inl rfl) (by decide) (offp (by decide)))) (fun _ _ _ _ _ => (t_cmp op_ge l_cmp (e_var 12 (pv 12) (by decide)) (e_var 4 (pv 4) (by decide)) (nomark _))) (fun _ _ _ _ _ => (e_var 12 (pv 12) (by decide))) (by decide) (offsp (by decide)) (by decide) (offp (by decide))) (RSs.pre (O := []) (ss_cons (sIf (O' := []) (RW.t (w_and (t_cmp (oNe rfl hu) l_ne (e_var 11 (pv 11) (by decide)) (e_lst a_nil) (nomark _)) (w_and1 (t_cmp (oNe rfl hu) l_ne (eF (ok__law_runs T) (hr.mono (by decide)) hg rfl (by rfl) (a_cons (e_var 3 (pv 3) (by decide)) (a_cons (e_ix (oIx rfl hw) l_ix (e_var 11 (pv 11) (by decide)) e_int (fun _ _ => rfl)) a_nil))) (e_var 7 (pv 7) (by decide)) (nomark _))))) (ss_one (s_ret e_bl)) ss_nil (fun _ h => h) (by decide)) (ss_one (sIf (O' := []) (t_cmp (oNeX rfl hu) l_neX (eF (ok_run_cells T) (hr.mono (by decide)) hg rfl (by rfl) (a_cons (e_var 3 (pv 3) (by decide)) (a_cons e_int (a_cons e_int a_nil)))) (eF (ok_run_from T) (hr.mono (by decide)) hg rfl (by rfl) (a_cons (e_var 3 (pv 3) (by decide)) (a_cons e_int (a_cons e_int (a_cons e_int a_nil))))) (nomark _)) (ss_one (s_ret e_bl)) ss_nil (fun _ h => h) (by decide)))) (by decide))))) (by decide)))))) (by decide)) (ss_one (s_ret e_bl)))⟩
end K16
end
section
namespace RC
open PySem PySem.Spec L2 RR
open PyProof.Rows hiding St
end RC
end
section
namespace RC
open PySem PySem.Spec L2 RR
open PyProof.Rows hiding St
/-- over what is made of a list of anything -/
theorem vcomp_mapOf {α : Type} {g : VG} {t : VT} {e : VE} {Γ : DEnv} {xs : List α} (f : α → D) (h : α → D) (k : ∀ x ∈ xs, ∃ Γ2, g (f x) Γ = some Γ2 ∧ t Γ2 = some true ∧ e Γ2 = some (h x)) : vcomp g t e Γ (xs.map f) = some (xs.map h) := by
  induction xs with
  | nil => rfl
  | cons d ds ih =>
    obtain ⟨Γ2, h1, h2, h3⟩ := k d (List.mem_cons_self ..)
    rw [List.map_cons]
    unfold vcomp
    rw [h1, Option.bind_some, h2, Option.bind_some, if_pos rfl, h3, Option.bind_some, ih fun d hd => k d (List.mem_cons_of_mem _ hd)]
    rfl
theorem vcomp_filterOf {α : Type} {g : VG} {t : VT} {e : VE} {Γ : DEnv} {xs : List α} (f : α → D) (q : α → Bool) (h : α → D) (k : ∀ x ∈ xs, ∃ Γ2, g (f x) Γ = some Γ2 ∧ t Γ2 = some (q x) ∧ (q x = true → e Γ2 = some (h x))) : vcomp g t e Γ (xs.map f) = some ((xs.filter q).map h) := by
  induction xs with
  | nil => rfl
  | cons d ds ih =>
    obtain ⟨Γ2, h1, h2, h3⟩ := k d (List.mem_cons_self ..)
    rw [List.map_cons]
    unfold vcomp
    rw [h1, Option.bind_some, h2, Option.bind_some, ih fun d hd => k d (List.mem_cons_of_mem _ hd)]
    cases hq : q d with
    | true => rw [if_pos rfl, h3 hq, List.filter_cons, if_pos hq]; rfl
    | false => rw [if_neg (by decide), List.filter_cons, if_neg (by rw [hq]; decide)]
theorem cAll_of (bs : List Bool) : cAll [.list (bs.map .bool)] = some (.bool (bs.all id)) := by
  show (boolsD (bs.map .bool)).map _ = _
  rw [boolsD_map]; rfl
theorem cAll_map {α : Type} (q : α → Bool) (xs : List α) : cAll [.list (xs.map fun x => .bool (q x))] = some (.bool (xs.all q)) := by
  have h := cAll_of (xs.map q)
  rw [List.map_map] at h
  refine h.trans ?_
  rw [List.all_map]; rfl
/-- a list of the values of a pure comprehension -/
theorem vLc_of {i : VI} {g : VG} {t : VT} {e : VE} {vs : List Nat} {Γ : DEnv} {ds r : List D} (h1 : i Γ = some ds) (h2 : ds.length ≤ lim) (h3 : vcomp g t e (wipeD Γ vs) ds = some r) : vLc i g t e vs Γ = some (.list r) := by
  unfold vLc
  rw [h1, Option.bind_some, if_pos h2, h3]; rfl
theorem vFun_of {N : List Str} {np : Nat} {b : VS} {ds : List D} {d : D} (h : ds.length = np) (k : b (startD N (ds.map some)) = some (.rt d)) : vFun N np b ds = some d := by
  unfold vFun
  rw [if_pos h, k]; rfl
theorem vFun_nx {N : List Str} {np : Nat} {b : VS} {ds : List D} {Γ : DEnv} (h : ds.length = np) (k : b (startD N (ds.map some)) = some (.nx Γ)) : vFun N np b ds = some .none := by
  unfold vFun
  rw [if_pos h, k]; rfl
theorem vSeq_nx {t u : VS} {Γ Γ1 : DEnv} {r : Option Rs} (h : t Γ = some (.nx Γ1)) (k : u Γ1 = r) : vSeqS t u Γ = r := by
  unfold vSeqS
  rw [h]; exact k
theorem vSeq_rt {t u : VS} {Γ : DEnv} {d : D} (h : t Γ = some (.rt d)) : vSeqS t u Γ = some (.rt d) := by
  unfold vSeqS
  rw [h]; rfl
theorem vIfS_t {t : VT} {x y : VS} {Γ : DEnv} {r : Option Rs} (h : t Γ = some true) (k : x Γ = r) : vIfS t x y Γ = r := by
  unfold vIfS
  rw [h]; exact k
theorem vIfS_f {t : VT} {x y : VS} {Γ : DEnv} {r : Option Rs} (h : t Γ = some false) (k : y Γ = r) : vIfS t x y Γ = r := by
  unfold vIfS
  rw [h]; exact k
theorem vRet_of {a : VE} {Γ : DEnv} {d : D} (h : a Γ = some d) : vRet a Γ = some (.rt d) := by
  unfold vRet
  rw [h]; rfl
theorem vSet_of {i : Nat} {a : VE} {Γ : DEnv} {d : D} (h : a Γ = some d) : vSet i a Γ = some (.nx (Γ.set i (some d))) := by
  unfold vSet
  rw [h]; rfl
theorem vDrop_of {a : VE} {Γ : DEnv} {d : D} (h : a Γ = some d) : vDrop a Γ = some (.nx Γ) := by
  unfold vDrop
  rw [h]; rfl
theorem vOp_of {f : D → D → Option D} {a b : VE} {Γ : DEnv} {x y : D} (h : a Γ = some x) (k : b Γ = some y) : vOp f a b Γ = f x y := by
  unfold vOp
  rw [h, Option.bind_some, k]; rfl
theorem vCl_of {f : List D → Option D} {a : VA} {Γ : DEnv} {x : List D} (h : a Γ = some x) : vCl f a Γ = f x := by
  unfold vCl
  rw [h]; rfl
theorem vCall_of {f : VP} {a : VA} {Γ : DEnv} {x : List D} (h : a Γ = some x) : vCall f a Γ = f x := by
  unfold vCall
  rw [h]; rfl
theorem vCons_of {a : VE} {r : VA} {Γ : DEnv} {x : D} {xs : List D} (h : a Γ = some x) (k : r Γ = some xs) : vCons a r Γ = some (x :: xs) := by
  unfold vCons
  rw [h, Option.bind_some, k]; rfl
theorem vTest_of {a : VE} {Γ : DEnv} {b : Bool} (h : a Γ = some (.bool b)) : vTest a Γ = some b := by
  unfold vTest
  rw [h]; rfl
theorem vAndV_of {a b : VE} {Γ : DEnv} {x y : Bool} (h : a Γ = some (.bool x)) (k : x = true → b Γ = some (.bool y)) : vAndV a b Γ = some (.bool (x && y)) := by
  unfold vAndV
  rw [h]
  cases x with
  | true => exact k rfl
  | false => rfl
theorem vOrV_of {a b : VE} {Γ : DEnv} {x y : Bool} (h : a Γ = some (.bool x)) (k : x = false → b Γ = some (.bool y)) : vOrV a b Γ = some (.bool (x || y)) := by
  unfold vOrV
  rw [h]
  cases x with
  | true => rfl
  | false => exact k rfl
theorem vAnd_of {a b : VT} {Γ : DEnv} {x y : Bool} (h : a Γ = some x) (k : x = true → b Γ = some y) : vAnd a b Γ = some (x && y) := by
  unfold vAnd
  rw [h]
  cases x with
  | true => exact k rfl
  | false => rfl
theorem vOr_of {a b : VT} {Γ : DEnv} {x y : Bool} (h : a Γ = some x) (k : x = false → b Γ = some y) : vOr a b Γ = some (x || y) := by
  unfold vOr
  rw [h]
  cases x with
  | true => rfl
  | false => exact k rfl
theorem vNot_t {a : VT} {Γ : DEnv} (h : a Γ = some false) : vNot a Γ = some true := by
  unfold vNot
  rw [h]; rfl
theorem vNot_f {a : VT} {Γ : DEnv} (h : a Γ = some true) : vNot a Γ = some false := by
  unfold vNot
  rw [h]; rfl
theorem vIsi_of {T : String} {a : VE} {Γ : DEnv} {x : D} (h : a Γ = some x) : vIsi T a Γ = some (.bool (isiB x T)) := by
  unfold vIsi
  rw [h]; rfl
theorem vUn_of {f : D → Option D} {a : VE} {Γ : DEnv} {x : D} (h : a Γ = some x) : vUn f a Γ = f x := by
  unfold vUn
  rw [h]; rfl
theorem vNotV_of {a : VE} {Γ : DEnv} {x : Bool} (h : a Γ = some (.bool x)) : vNotV a Γ = some (.bool (!x)) := by
  unfold vNotV
  rw [h]; rfl
theorem ix0 (x : D) (xs : List D) : dIx (.tuple (x :: xs)) (.int 0) = some x := atI_nat (j := 0) rfl
theorem ix1 (x y : D) (xs : List D) : dIx (.tuple (x :: y :: xs)) (.int 1) = some y := atI_nat (j := 1) rfl
theorem vNot_of {a : VT} {Γ : DEnv} {x : Bool} (h : a Γ = some x) : vNot a Γ = some (!x) := by
  unfold vNot
  rw [h]; rfl
theorem vWhile_go {t : VT} {b : VS} {m : Nat} {Γ : DEnv} (h : t Γ = some false) : vwhile t b (m + 1) Γ = some (.nx Γ) := by
  unfold vwhile
  rw [h]; rfl
theorem vWhile_nx {t : VT} {b : VS} {m : Nat} {Γ Γ2 : DEnv} {r : Option Rs} (h : t Γ = some true) (k : b Γ = some (.nx Γ2)) (l : vwhile t b m Γ2 = r) : vwhile t b (m + 1) Γ = r := by
  conv => lhs; unfold vwhile
  rw [h, Option.bind_some, if_pos rfl, k]; exact l
theorem vWhile_rt {t : VT} {b : VS} {m : Nat} {Γ : DEnv} {d : D} (h : t Γ = some true) (k : b Γ = some (.rt d)) : vwhile t b (m + 1) Γ = some (.rt d) := by
  conv => lhs; unfold vwhile
  rw [h, Option.bind_some, if_pos rfl, k]; rfl
theorem okR_nat {n : Nat} (h : n ≤ 1000000) : okR (n : Int) := ⟨Int.le_trans (show (-(2 ^ 62) : Int) ≤ 0 by decide) (Int.natCast_nonneg _), Int.lt_of_lt_of_le (show (n : Int) < 1000001 by omega) (show (1000001 : Int) ≤ 2 ^ 62 by decide)⟩
end RC
end
section
namespace RC
open PySem PySem.Spec L2 RR
open PyProof.Rows hiding St
inductive Row
  | plain (s a : Int)
  | stop (s : Int)
  | jump (k : Int)
  | branch (k : Int)
  | far (p : Int)
  | load (v : Int)
  | word (v : Int)
  | align (n : Int)
def Row.d : Row → D
  | .plain s a => .tuple [.str "plain", .int s, .int a]
  | .stop s => .tuple [.str "stop", .int s]
  | .jump k => .tuple [.str "jump", .int k]
  | .branch k => .tuple [.str "branch", .int k]
  | .far p => .tuple [.str "far", .int p]
  | .load v => .tuple [.str "load", .int v]
  | .word v => .tuple [.str "word", .int v]
  | .align n => .tuple [.str "align", .int n]
abbrev Part := List Row
abbrev Book := List Part
def within (x lo hi : Int) : Bool := decide (lo ≤ x) && decide (x ≤ hi)
def Row.ok : Row → Bool
  | .plain s a => within s 1 99 && within a 0 999
  | .stop s => within s 1 99
  | .jump k => within k 0 19
  | .branch k => within k 0 19
  | .far p => within p 0 4
  | .load v => within v 0 65535
  | .word v => within v 0 65535
  | .align n => n == 2 || n == 4 || n == 8 || n == 16
def Row.isJump : Row → Bool
  | .jump _ => true
  | .branch _ => true
  | _ => false
def Row.isAlign : Row → Bool
  | .align _ => true
  | _ => false
def Row.isWord : Row → Bool
  | .word _ => true
  | _ => false
def Row.goesOn : Row → Bool
  | .plain _ _ => true
  | .branch _ => true
  | .load _ => true
  | .align _ => true
  | _ => false
/-- the first number of a row -/
def Row.num : Row → Int
  | .plain s _ => s
  | .stop s => s
  | .jump k => k
  | .branch k => k
  | .far p => p
  | .load v => v
  | .word v => v
  | .align n => n
def withinD (d : D) (lo hi : Int) : Bool := match d with | .int x => within x lo hi | _ => false
theorem v_is_within_eq (d : D) (lo hi : Int) : v_is_within [d, .int lo, .int hi] = some (.bool (withinD d lo hi)) := by
  cases d with
  | int x =>
    unfold withinD within
    show Option.bind (Option.bind (if decide (lo ≤ x) = true then some (PyData.bool (decide (x ≤ hi))) else some (.bool false)) _) _ = _
    by_cases h : lo ≤ x <;> simp [h, outD]
  | _ => rfl
theorem dEq_int (i j : Int) : dEq (.int i) (.int j) = some (.bool (decide (i = j))) := by
  show some (PyData.bool (PyData.eqv (.int i) (.int j))) = _
  rw [PyData.eqv]; rfl
theorem eqv_str (a b : Str) : PyData.eqv (.str a) (.str b) = decide (a = b) := by rw [PyData.eqv]; rfl
theorem eqv_int (a b : Int) : PyData.eqv (.int a) (.int b) = decide (a = b) := by rw [PyData.eqv]; rfl
structure NoWord (w : Str) : Prop where
  h1 : ("plain" : Str) ≠ w
  h2 : ("stop" : Str) ≠ w
  h3 : ("jump" : Str) ≠ w
  h4 : ("branch" : Str) ≠ w
  h5 : ("far" : Str) ≠ w
  h6 : ("load" : Str) ≠ w
  h7 : ("word" : Str) ≠ w
  h8 : ("align" : Str) ≠ w
def keep (r : Row) : Option Row := if r.ok = true then some r else none
def rowOf : D → Option Row
  | .tuple [.str w, .int x] => if "stop" = w then keep (.stop x) else if "jump" = w then keep (.jump x) else if "branch" = w then keep (.branch x) else if "far" = w then keep (.far x) else
      if "load" = w then keep (.load x) else if "word" = w then keep (.word x) else if "align" = w then keep (.align x) else none
  | .tuple [.str w, .int x, .int y] => if "plain" = w then keep (.plain x y) else none
  | _ => none
/-- the rest of a row behind its word -/
theorem NoWord.row {w : Str} {xs : List D} (h : NoWord w) : rowOf (.tuple (.str w :: xs)) = none := by
  unfold rowOf
  split
  · rename_i e
    cases e
    rw [if_neg h.h2, if_neg h.h3, if_neg h.h4, if_neg h.h5, if_neg h.h6, if_neg h.h7, if_neg h.h8]
  · rename_i e
    cases e
    rw [if_neg h.h1]
  · rfl
end RC
end
section
namespace RC
open PySem PySem.Spec L2 RR
open PyProof.Rows hiding St
def Row.w : Row → Str
  | .plain _ _ => "plain"
  | .stop _ => "stop"
  | .jump _ => "jump"
  | .branch _ => "branch"
  | .far _ => "far"
  | .load _ => "load"
  | .word _ => "word"
  | .align _ => "align"
def natD (i : Nat) : D := .int (i : Int)
def evenP (p : Part) : Bool := p.all fun r => !r.isAlign
def goalsOf (p : Part) : List Int := (p.filter Row.isJump).map Row.num
def goalOk (p : Part) (g : Int) : Bool := match p[g.toNat]? with | some r => !r.isWord | none => false
def goalsOk (p : Part) : Bool := (goalsOf p).all (goalOk p)
def shunned (p : Part) : Bool := match p with
  | [] => false
  | r :: rs => !r.isWord && !((r :: rs).getLast (by simp)).goesOn && ((r :: rs).zip rs).all fun z => !z.1.goesOn || !z.2.isWord
def rowsOf : List D → Option Part
  | [] => some []
  | d :: ds => (rowOf d).bind fun r => (rowsOf ds).bind fun rs => some (r :: rs)
def restOk (p : Part) : Bool := (evenP p || decide ((p.filter Row.isJump).length ≤ 6)) && (goalsOk p && shunned p)
def lenOk (n m : Nat) : Bool := decide (1 ≤ n) && decide (n ≤ m)
def partOf : D → Option Part
  | .tuple ds => if lenOk ds.length 20 = true then (rowsOf ds).bind fun p => if restOk p = true then some p else none else none
  | _ => none
def partOk (p : Part) : Bool := lenOk p.length 20 && p.all Row.ok && restOk p
end RC
end
section
namespace RC
open PySem PySem.Spec L2 RR
open PyProof.Rows hiding St
end RC
end
section
namespace RC
open PySem PySem.Spec L2 RR
open PyProof.Rows hiding St
def At (b : Book) (i k : Nat) (r : Row) : Prop := ∃ p, b[i]? = some p ∧ p[k]? = some r
def rowAt (b : Book) (i k : Nat) : Option Row := (b[i]?).bind fun p => p[k]?
theorem At.row {b : Book} {i k : Nat} {r : Row} (h : At b i k r) : rowAt b i k = some r := by
  obtain ⟨p, h1, h2⟩ := h
  unfold rowAt
  rw [h1, Option.bind_some, h2]
theorem v_check_number_ok {x m : Int} (h : within x 0 m = true) : v_check_number [.int x, .int m] = some .none := by
  refine vFun_nx (Γ := startD ["number", "highest"] ([PyData.int x, PyData.int m].map some)) rfl ?_
  have e : v_is_within [.int x, .int 0, .int m] = some (.bool true) := (v_is_within_eq _ _ _).trans (by unfold withinD; dsimp only; rw [h])
  exact vIfS_f (vNot_f (vTest_of ((vCall_of rfl).trans e))) rfl
end RC
end
section
namespace RC
open PySem PySem.Spec L2 RR
open PyProof.Rows hiding St
def asc : List Nat → Bool
  | [] => true
  | x :: xs => (xs.head?.all fun y => decide (x < y)) && asc xs
end RC
end
section
namespace RC
open PySem PySem.Spec L2 RR
open PyProof.Rows hiding St
end RC
end
section
namespace RC
open PySem PySem.Spec L2 RR
open PyProof.Rows hiding St
theorem w_if {mt : MT} {t : VT} {x y : MS} {E : EndsD} {Γ : DEnv} {n : Nat} (b : Bool) (h : FT mt t) (e : t Γ = some b) (k1 : b = true → x E Γ n) (k2 : b = false → y E Γ n) : mIfS mt x y E Γ n := by
  refine h Γ n b _ e ?_
  cases b with
  | true => rw [if_pos rfl]; exact k1 rfl
  | false => rw [if_neg (by decide)]; exact k2 rfl
theorem w_ret {me : ME} {v : VE} {E : EndsD} {Γ : DEnv} {n : Nat} {d : D} (h : FE me v) (e : v Γ = some d) (k : E.rt d n) : mRet me E Γ n := h Γ n d _ e k
theorem w_exp {me : ME} {v : VE} {Γ : DEnv} {n : Nat} {d : D} {Q : D → Nat → Prop} (h : FE me v) (e : v Γ = some d) (k : Q d n) : me Γ n Q := h Γ n d _ e k
theorem w_seq {m u : MS} {E : EndsD} {Γ : DEnv} {n : Nat} (h : m { E with nx := u E } Γ n) : mSeq m u E Γ n := h
theorem s_set {m : ME} {i : Nat} {E : EndsD} {Γ : DEnv} {n : Nat} (h : m Γ n fun d n1 => E.nx (Γ.set i (some d)) n1) : mSet i m E Γ n := h
theorem s_cons {a : ME} {u : MA} {Γ : DEnv} {n : Nat} {Q : List D → Nat → Prop} (h : a Γ n fun d n1 => u Γ n1 fun ds n2 => Q (d :: ds) n2) : mCons a u Γ n Q := h
theorem s_nil {Γ : DEnv} {n : Nat} {Q : List D → Nat → Prop} (h : Q [] n) : mNil Γ n Q := h
theorem s_callP {mf : MF} {ma : MA} {Γ : DEnv} {n : Nat} {Q : D → Nat → Prop} (h : ma Γ n fun ds n1 => mf ds n1 Q) : mCallP mf ma Γ n Q := h
theorem s_C {d : D} {Γ : DEnv} {n : Nat} {Q : D → Nat → Prop} (h : Q d n) : mC d Γ n Q := h
theorem s_var {i : Nat} {Γ : DEnv} {n : Nat} {d : D} {Q : D → Nat → Prop} (e : Γ[i]? = some (some d)) (h : Q d n) : mVar i Γ n Q := ⟨d, e, h⟩
theorem q_set {me : ME} {v : VE} {u : MS} {E : EndsD} {Γ : DEnv} {n i : Nat} {d : D} (h : FE me v) (e : v Γ = some d) (k : u E (Γ.set i (some d)) n) : mSeq (mSet i me) u E Γ n := h Γ n d _ e k
theorem q_par {m : MA} {is : List Nat} {u : MS} {E : EndsD} {Γ : DEnv} {n : Nat} (h : m Γ n fun ds n1 => ds.length = is.length ∧ u E (setsD Γ is ds) n1) : mSeq (mPar is m) u E Γ n := h
theorem q_setM {m : ME} {i : Nat} {u : MS} {E : EndsD} {Γ : DEnv} {n : Nat} (h : m Γ n fun d n1 => u E (Γ.set i (some d)) n1) : mSeq (mSet i m) u E Γ n := h
theorem q_no {mt : MT} {t : VT} {x u : MS} {E : EndsD} {Γ : DEnv} {n : Nat} (h : FT mt t) (e : t Γ = some false) (k : u E Γ n) : mSeq (mIfS mt x mNext) u E Γ n := by
  refine h Γ n false _ e ?_
  rw [if_neg (by decide)]; exact k
theorem w_no {mt : MT} {t : VT} {x : MS} {E : EndsD} {Γ : DEnv} {n : Nat} (h : FT mt t) (e : t Γ = some false) (k : E.nx Γ n) : mIfS mt x mNext E Γ n := by
  refine h Γ n false _ e ?_
  rw [if_neg (by decide)]; exact k
theorem w_for {g : MG} {tb : MS} {E : EndsD} (I : List D → DEnv → Nat → Prop) (step : ∀ d ds Γ n, I (d :: ds) Γ n → ∀ K : DEnv → Nat → Prop, (∀ Γ' n', I ds Γ' n' → K Γ' n') → g d Γ fun Γ1 => tb { E with nx := K, ct := K, bk := E.nx } Γ1 n) (fin : ∀ Γ n, I [] Γ n → E.nx Γ n) : ∀ ds Γ n, I ds Γ n → forW g tb E ds Γ n
  | [], Γ, n, h => fin Γ n h
  | d :: ds, Γ, n, h => step d ds Γ n h _ fun Γ' n' h' => w_for I step fin ds Γ' n' h'
/-- one by one, behind each a fact of it; at most c draws each -/
theorem w_compY {g : MG} {e : ME} {Γ : DEnv} {N c : Nat} (P : D → D → Prop) (one : ∀ d n (R : D → Nat → Prop), n < N → (∀ y n', P d y → n' ≤ n + c → R y n') → g d Γ fun Γ2 => e Γ2 n R)
  : ∀ (ds : List D) (n : Nat) (Q : List D → Nat → Prop), n + c * ds.length < N → (∀ r n', r.length = ds.length → (∀ (i : Nat) d y, ds[i]? = some d → r[i]? = some y → P d y) → n' ≤ n + c * ds.length → Q r n') → compW g mYes e Γ ds n Q
  | [], n, Q, hN, q => q [] n rfl (fun i d y h => by simp at h) (Nat.le_add_right _ _)
  | d :: ds, n, Q, hN, q => by
    have hl : c * (d :: ds).length = c + c * ds.length := by rw [List.length_cons, Nat.mul_add, Nat.mul_one, Nat.add_comm]
    rw [hl] at hN
    unfold compW
    have := one d n (fun y n2 => compW g mYes e Γ ds n2 fun r n3 => Q (y :: r) n3) (by omega) fun y n2 hy h2 => by
      refine w_compY P one ds n2 _ (by omega) fun r n3 hr hP h4 => q (y :: r) n3 (by rw [List.length_cons, hr, List.length_cons]) (fun i d' y' e1 e2 => ?_) (by rw [hl]; omega)
      cases i with
      | zero => simp at e1 e2; subst e1 e2; exact hy
      | succ i => simp at e1 e2; exact hP i d' y' e1 e2
    exact this
end RC
end
section
namespace RC
open PySem PySem.Spec L2 RR
open PyProof.Rows hiding St
local macro_rules | `(tactic| walk_at "st") => `(tactic| first
  | refine ⟨_, rfl, ?_⟩
  | refine ⟨rfl, ?_⟩
  | refine ⟨by decide, ?_⟩
  | refine ⟨by simp only [List.length_cons, List.length_nil]; decide, ?_⟩)
theorem take_ok {k : Int} {n : Nat} {R : D → Nat → Prop} (h1 : 1 ≤ k) (h2 : k < 1073741824) (hn : n < 1048576) (q : ∀ x : Int, 0 ≤ x → x < k → R (.int x) (n + 1)) : m_take [.int k] n R := ⟨k, rfl, h1, h2, hn, q⟩
theorem one_of_ok {xs : List D} {n : Nat} {R : D → Nat → Prop} (h : 1 ≤ xs.length) (h2 : xs.length < 1073741824) (hn : n < 1048576) (q : ∀ d ∈ xs, R d (n + 1)) : m__law_one_of [.list xs] n R := by
  unfold m__law_one_of b__law_one_of
  repeat walk_at "st"
  refine ⟨by omega, by omega, hn, fun x h0 h1 => ?_⟩
  have hx : x.toNat < xs.length := by omega
  have ex : x = (x.toNat : Int) := by omega
  refine ⟨xs[x.toNat], ?_, q _ (List.getElem_mem hx)⟩
  have e := atI_nat (xs := xs) (j := x.toNat) (List.getElem?_eq_getElem hx)
  rw [← ex] at e
  exact e
theorem within_t {x lo hi : Int} (h1 : lo ≤ x) (h2 : x ≤ hi) : within x lo hi = true := by
  unfold within
  rw [decide_eq_true h1, decide_eq_true h2]; rfl
end RC
end
section
namespace RC
open PySem PySem.Spec L2 RR
open PyProof.Rows hiding St
structure Tame (k w : Nat) (d : D) : Prop where
  lay : d.canLay0 = true
  dep : d.depth ≤ k
  wt : d.weight ≤ w
  sh : d.intsShort 13 = true
  sw : d.showable = true
theorem Tame.mono {k w k' w' : Nat} {d : D} (h : Tame k w d) (hk : k ≤ k') (hw : w ≤ w') : Tame k' w' d := ⟨h.lay, Nat.le_trans h.dep hk, Nat.le_trans h.wt hw, h.sh, h.sw⟩
theorem Tame.int {x : Int} (h : x.natAbs < 10 ^ 12) : Tame 0 41 (.int x) := by
  have hl : x.natAbs.log2 < 40 ∨ x.natAbs = 0 := by
    by_cases h0 : x.natAbs = 0
    · exact .inr h0
    · exact .inl ((Nat.log2_lt h0).mpr (Nat.lt_trans h (by decide)))
  refine ⟨by simp only [PyData.canLay0], by simp [PyData.depth], ?_, ?_, ?_⟩
  · unfold PyData.weight
    split
    · omega
    · rcases hl with hl | hl
      · omega
      · rw [hl]; decide
  · unfold PyData.intsShort
    exact decide_eq_true (PyData.shown_int_le h)
  · unfold PyData.showable
    refine decide_eq_true ?_
    rcases hl with hl | hl
    · omega
    · rw [hl]; decide
theorem Tame.none : Tame 0 0 .none := ⟨by simp only [PyData.canLay0], by simp [PyData.depth], by simp [PyData.weight], by simp [PyData.intsShort], by simp [PyData.showable]⟩
theorem Tame.bool (b : Bool) : Tame 0 0 (.bool b) := ⟨by simp only [PyData.canLay0], by simp [PyData.depth], by simp [PyData.weight], by simp [PyData.intsShort], by simp [PyData.showable]⟩
theorem Tame.str {x : Str} {w : Nat} (h : PyData.strOk x = true) (hw : x.cps.size ≤ w) : Tame 0 w (.str x) := ⟨by simpa only [PyData.canLay0] using h, by simp [PyData.depth], by simpa [PyData.weight] using hw, by simp [PyData.intsShort], by simp [PyData.showable]⟩
structure TameAll (k w : Nat) (xs : List D) : Prop where
  lay : PyData.canLayAll0 xs = true
  dep : PyData.depthAll xs ≤ k
  wt : PyData.weightAll xs ≤ (w + 1) * xs.length
  sh : PyData.intsShortAll 13 xs = true
  sw : PyData.showableAll xs = true
theorem TameAll.of {k w : Nat} : ∀ {xs : List D}, (∀ x ∈ xs, Tame k w x) → TameAll k w xs
  | [], _ => ⟨by simp only [PyData.canLayAll0], by simp [PyData.depthAll], by simp [PyData.weightAll], by simp [PyData.intsShortAll], by simp [PyData.showableAll]⟩
  | x :: xs, h => by
    have h1 := h x (List.mem_cons_self ..)
    have h2 := TameAll.of fun y hy => h y (List.mem_cons_of_mem _ hy)
    have := h1.wt
    have := h2.wt
    have := h1.dep
    have := h2.dep
    refine ⟨by rw [PyData.canLayAll0, h1.lay, h2.lay]; rfl, by rw [PyData.depthAll]; omega, ?_, by rw [PyData.intsShortAll, h1.sh, h2.sh]; rfl, by rw [PyData.showableAll, h1.sw, h2.sw]; rfl⟩
    rw [PyData.weightAll, List.length_cons, Nat.mul_add, Nat.mul_one]
    omega
theorem Tame.tup {k w : Nat} {xs : List D} (h : ∀ x ∈ xs, Tame k w x) : Tame (k + 1) ((w + 1) * xs.length) (.tuple xs) := by
  have a := TameAll.of h
  exact ⟨by rw [PyData.canLay0]; exact a.lay, by rw [PyData.depth]; exact Nat.succ_le_succ a.dep, by rw [PyData.weight]; exact a.wt, by rw [PyData.intsShort]; exact a.sh, by rw [PyData.showable]; exact a.sw⟩
theorem Tame.lst {k w : Nat} {xs : List D} (h : ∀ x ∈ xs, Tame k w x) : Tame (k + 1) ((w + 1) * xs.length) (.list xs) := by
  have a := TameAll.of h
  exact ⟨by rw [PyData.canLay0]; exact a.lay, by rw [PyData.depth]; exact Nat.succ_le_succ a.dep, by rw [PyData.weight]; exact a.wt, by rw [PyData.intsShort]; exact a.sh, by rw [PyData.showable]; exact a.sw⟩
theorem Tame.shaped {k w : Nat} {d : D} (h : Tame k w d) (hk : k ≤ 64) : SeqAt.shaped d = true := by
  unfold SeqAt.shaped
  rw [h.lay, decide_eq_true (Nat.le_trans h.dep hk)]; rfl
theorem Tame.rep {k w : Nat} {d : D} (h : Tame k w d) (hk : k ≤ 64) (hw : w ≤ 2 ^ 20) : repOkD d = true := by
  have hd := decide_eq_true (Nat.le_trans h.dep hk)
  have hl : d.layable0 = true := by
    unfold PyData.layable0
    rw [h.lay, hd, decide_eq_true (Nat.le_trans h.wt hw)]; rfl
  unfold repOkD
  rw [h.sw, hd, decide_eq_true (PyData.shown_fits_of_layable0 (by decide) (by decide) hl h.sh)]; rfl
theorem Tame.eqv {k w : Nat} {d : D} (h : Tame k w d) : PyData.eqv d d = true := SeqAt.eqv_refl d h.lay
end RC
end
section
namespace RC
open PySem PySem.Spec L2 RR
open PyProof.Rows hiding St
end RC
end
section
namespace RC
open PySem PySem.Spec L2 RR
open PyProof.Rows hiding St
open PySem.W (alike dataLt minD maxD)
def pairD (q : Int × Nat) : D := .tuple [.int q.1, natD q.2]
theorem lay_pairs : ∀ xs : List (Int × Nat), PyData.canLayAll0 (xs.map pairD) = true ∧ PyData.depthAll (xs.map pairD) ≤ 1
  | [] => ⟨by simp only [List.map_nil, PyData.canLayAll0], by simp [PyData.depthAll]⟩
  | x :: xs => by
    obtain ⟨h1, h2⟩ := lay_pairs xs
    refine ⟨?_, ?_⟩
    · rw [List.map_cons, PyData.canLayAll0, h1]
      unfold pairD natD
      simp [PyData.canLay0, PyData.canLayAll0]
    · rw [List.map_cons, PyData.depthAll]
      have : (pairD x).depth = 1 := by
        unfold pairD natD
        simp [PyData.depth, PyData.depthAll]
      omega
theorem vTup_of {r : VA} {Γ : DEnv} {xs : List D} (h : r Γ = some xs) (l : xs.length ≤ lim) : vTup r Γ = some (.tuple xs) := by
  unfold vTup
  rw [h, Option.bind_some, if_pos l]
end RC
end
section
namespace RC
open PySem PySem.Spec L2 RR
open PyProof.Rows hiding St
end RC
end
section
namespace RC
open PySem PySem.Spec L2 RR
open PyProof.Rows hiding St
end RC
end
section
namespace RC
open PySem PySem.Spec L2 RR
open PyProof.Rows hiding St
structure Lay (k : Nat) (d : D) : Prop where
  lay : d.canLay0 = true
  dep : d.depth ≤ k
theorem Lay.int (x : Int) : Lay 0 (.int x) := ⟨by simp only [PyData.canLay0], by simp [PyData.depth]⟩
theorem Lay.bool (x : Bool) : Lay 0 (.bool x) := ⟨by simp only [PyData.canLay0], by simp [PyData.depth]⟩
theorem Lay.none : Lay 0 .none := ⟨by simp only [PyData.canLay0], by simp [PyData.depth]⟩
theorem Lay.str {x : Str} (h : PyData.strOk x = true) : Lay 0 (.str x) := ⟨by simpa only [PyData.canLay0] using h, by simp [PyData.depth]⟩
theorem Lay.all {k : Nat} : ∀ {xs : List D}, (∀ x ∈ xs, Lay k x) → PyData.canLayAll0 xs = true ∧ PyData.depthAll xs ≤ k
  | [], _ => ⟨by simp only [PyData.canLayAll0], by simp [PyData.depthAll]⟩
  | x :: xs, h => by
    have h1 := h x (List.mem_cons_self ..)
    obtain ⟨h2, h3⟩ := Lay.all fun y hy => h y (List.mem_cons_of_mem _ hy)
    have := h1.dep
    exact ⟨by rw [PyData.canLayAll0, h1.lay, h2]; rfl, by rw [PyData.depthAll]; omega⟩
theorem Lay.tup {k : Nat} {xs : List D} (h : ∀ x ∈ xs, Lay k x) : Lay (k + 1) (.tuple xs) := by
  obtain ⟨h1, h2⟩ := Lay.all h
  exact ⟨by rw [PyData.canLay0]; exact h1, by rw [PyData.depth]; omega⟩
theorem Lay.lst {k : Nat} {xs : List D} (h : ∀ x ∈ xs, Lay k x) : Lay (k + 1) (.list xs) := by
  obtain ⟨h1, h2⟩ := Lay.all h
  exact ⟨by rw [PyData.canLay0]; exact h1, by rw [PyData.depth]; omega⟩
theorem Lay.mono {j k : Nat} {d : D} (h : Lay j d) (hk : j ≤ k) : Lay k d := ⟨h.lay, Nat.le_trans h.dep hk⟩
theorem Lay.shaped {k : Nat} {d : D} (h : Lay k d) (hk : k ≤ 64) : SeqAt.shaped d = true := by
  unfold SeqAt.shaped
  rw [h.lay, decide_eq_true (Nat.le_trans h.dep hk)]; rfl
theorem Lay.ne {k : Nat} {d : D} (h : Lay k d) (hk : k ≤ 64) : dNe d d = some (.bool false) := by
  unfold dNe
  rw [if_pos (.inr ⟨h.shaped hk, h.shaped hk⟩), SeqAt.eqv_refl d h.lay]; rfl
theorem Lay.neX {k : Nat} {d : D} (h : Lay k d) (hk : k ≤ 64) : dNeX d d = some (.bool false) := by
  cases d with
  | dict _ => have := h.lay; cases this
  | _ => exact h.ne hk
theorem one_int (xs : List Int) {n : Nat} {R : D → Nat → Prop} (h : 1 ≤ xs.length) (h2 : xs.length < 1073741824) (hn : n < 1048576) (q : ∀ x ∈ xs, R (.int x) (n + 1)) : m__law_one_of [.list (xs.map .int)] n R :=
  one_of_ok (by rw [List.length_map]; exact h) (by rw [List.length_map]; exact h2) hn fun d hd => by
    obtain ⟨x, hx, rfl⟩ := List.mem_map.mp hd
    exact q x hx
end RC
end
section
namespace RC
open PySem PySem.Spec L2 RR
open PyProof.Rows hiding St cutD
end RC
end
section
namespace RC
open PySem PySem.Spec L2 RR
open PyProof.Rows hiding St
end RC
end
section
namespace RC
open PySem PySem.Spec L2 RR
open PyProof.Rows hiding St
end RC
end
section
namespace RC
open PySem PySem.Spec L2 RR
open PyProof.Rows hiding St
structure Seen (k w : Nat) (d : D) : Prop where
  dep : d.depth ≤ k
  wt : d.weight ≤ w
  sh : d.leavesShort 40 = true
  sw : d.showable = true
theorem Seen.mono {k w k' w' : Nat} {d : D} (h : Seen k w d) (hk : k ≤ k') (hw : w ≤ w') : Seen k' w' d := ⟨Nat.le_trans h.dep hk, Nat.le_trans h.wt hw, h.sh, h.sw⟩
theorem Seen.int {x : Int} (h : x.natAbs < 10 ^ 24) : Seen 0 80 (.int x) := by
  have hl : x.natAbs.log2 < 80 := by
    by_cases h0 : x.natAbs = 0
    · rw [h0]; decide
    · exact (Nat.log2_lt h0).mpr (Nat.lt_trans h (by decide))
  refine ⟨by simp [PyData.depth], ?_, ?_, ?_⟩
  · unfold PyData.weight
    split <;> omega
  · unfold PyData.leavesShort
    refine decide_eq_true ?_
    have e := int_text_length_le10 (k := 24) (by decide) h
    show (Str.ofString (toString x)).length ≤ 40
    rw [PySem.ofString_length]
    omega
  · unfold PyData.showable
    exact decide_eq_true (by omega)
theorem Seen.none : Seen 0 0 .none := ⟨by simp [PyData.depth], by simp [PyData.weight], by simp [PyData.leavesShort], by simp [PyData.showable]⟩
theorem Seen.bool (b : Bool) : Seen 0 0 (.bool b) := ⟨by simp [PyData.depth], by simp [PyData.weight], by simp [PyData.leavesShort], by simp [PyData.showable]⟩
theorem Seen.str {x : Str} {w : Nat} (h : x.cps.toList.all (fun c => decide (c < 16 ^ 8)) = true) (hw : x.cps.size ≤ w) : Seen 0 w (.str x) := ⟨by simp [PyData.depth], by simpa [PyData.weight] using hw, by unfold PyData.leavesShort; exact h, by simp [PyData.showable]⟩
theorem SeenAll.of {k w : Nat} : ∀ {xs : List D}, (∀ x ∈ xs, Seen k w x) → PyData.depthAll xs ≤ k ∧ PyData.weightAll xs ≤ (w + 1) * xs.length ∧ PyData.leavesShortAll 40 xs = true ∧ PyData.showableAll xs = true
  | [], _ => ⟨by simp [PyData.depthAll], by simp [PyData.weightAll], by simp [PyData.leavesShortAll], by simp [PyData.showableAll]⟩
  | x :: xs, h => by
    have h1 := h x (List.mem_cons_self ..)
    obtain ⟨a, b, c, e⟩ := SeenAll.of fun y hy => h y (List.mem_cons_of_mem _ hy)
    have := h1.wt
    have := h1.dep
    refine ⟨by rw [PyData.depthAll]; omega, ?_, by rw [PyData.leavesShortAll, h1.sh, c]; rfl, by rw [PyData.showableAll, h1.sw, e]; rfl⟩
    rw [PyData.weightAll, List.length_cons, Nat.mul_add, Nat.mul_one]
    omega
theorem Seen.tup {k w : Nat} {xs : List D} (h : ∀ x ∈ xs, Seen k w x) : Seen (k + 1) ((w + 1) * xs.length) (.tuple xs) := by
  obtain ⟨a, b, c, e⟩ := SeenAll.of h
  exact ⟨by rw [PyData.depth]; exact Nat.succ_le_succ a, by rw [PyData.weight]; exact b, by rw [PyData.leavesShort]; exact c, by rw [PyData.showable]; exact e⟩
theorem Seen.lst {k w : Nat} {xs : List D} (h : ∀ x ∈ xs, Seen k w x) : Seen (k + 1) ((w + 1) * xs.length) (.list xs) := by
  obtain ⟨a, b, c, e⟩ := SeenAll.of h
  exact ⟨by rw [PyData.depth]; exact Nat.succ_le_succ a, by rw [PyData.weight]; exact b, by rw [PyData.leavesShort]; exact c, by rw [PyData.showable]; exact e⟩
theorem Seen.rep {k w : Nat} {d : D} (h : Seen k w d) (hk : k ≤ 64) (hw : w ≤ 2 ^ 18) : repOkD d = true := by
  have hs := PyData.shown_le 40 (by decide) d h.sh
  have hw2 := h.wt
  have e : (2 : Nat) ^ 18 = 262144 := by decide
  unfold repOkD
  rw [h.sw, decide_eq_true (Nat.le_trans h.dep hk), decide_eq_true (show d.shown.length ≤ sizeLine by rw [sizeLine_eq]; omega)]; rfl
end RC
end
section
namespace RC
open PySem PySem.Spec L2 RR
open PyProof.Rows hiding St
end RC
end
section
namespace RC
open PySem PySem.Spec L2 RR
open PyProof.Rows hiding St
open PySem.W (alike dataLt dataLe)
def leP (a b : Int × Nat) : Bool := decide (a.1 < b.1 ∨ (a.1 = b.1 ∧ a.2 ≤ b.2))
theorem leP_data (a b : Int × Nat) : dataLe false id (pairD a) (pairD b) = leP a b := by
  have := congrFun (congrFun (PySem.W.dataLe_ii (fun q : Int × Nat => q.1) (fun q => (q.2 : Int))) a) b
  refine this.trans ?_
  unfold leP
  exact decide_eq_decide.mpr (by omega)
theorem leP_trans (a b c : Int × Nat) (h : leP a b = true) (k : leP b c = true) : leP a c = true := by
  unfold leP at *
  rw [decide_eq_true_eq] at *
  omega
theorem leP_total (a b : Int × Nat) : (leP a b || leP b a) = true := by
  unfold leP
  rw [Bool.or_eq_true, decide_eq_true_eq, decide_eq_true_eq]
  omega
theorem sort_pairs (xs : List (Int × Nat)) : cSorted [.list (xs.map pairD)] = some (.list ((xs.mergeSort leP).map pairD)) := by
  have e : sortD (xs.map pairD) = (xs.mergeSort leP).map pairD := (List.map_mergeSort fun a _ b _ => (leP_data a b).symm).symm
  have ok : okSort (xs.map pairD) = true := by
    unfold okSort
    obtain ⟨h1, h2⟩ := lay_pairs xs
    rw [h1, decide_eq_true (show PyData.depthAll (xs.map pairD) ≤ 60 by omega), Bool.and_true, Bool.and_true, Bool.and_eq_true, Bool.or_eq_true]
    refine ⟨?_, .inl ?_⟩
    · rw [List.all_map]
      refine List.all_eq_true.mpr fun x _ => ?_
      show ((xs.map pairD).all fun y => alike (pairD x) y) = true
      rw [List.all_map]
      refine List.all_eq_true.mpr fun y _ => ?_
      show alike (pairD x) (pairD y) = true
      unfold pairD natD
      simp [alike, PySem.W.alikeAll]
    · rw [List.all_map]
      exact List.all_eq_true.mpr fun x _ => rfl
  show (if okSort (xs.map pairD) = true then some (PyData.list (sortD (xs.map pairD))) else none) = _
  rw [if_pos ok, e]
end RC
end
section
namespace RC
open PySem PySem.Spec L2 RR
open PyProof.Rows hiding St
end RC
end
section
namespace RC
open PySem PySem.Spec L2 RR
open PyProof.Rows hiding St cutD
/-- where the runs are -/
inductive Match (p L : Nat) : Nat × Nat → Nat × Nat → Prop
  | door : Match p L (p, 0) (p, 0)
  | inn (k : Nat) : Match p L (p, k + 1) (L, k)
  | out (q k : Nat) : q ≠ p → q < L → Match p L (q, k) (q, k)
theorem Match.start {p L q : Nat} (h : q < L) : Match p L (q, 0) (q, 0) := by
  by_cases e : q = p
  · subst e; exact .door
  · exact .out q 0 e h
end RC
end
section
namespace RC
open PySem PySem.Spec L2 RR
open PyProof.Rows hiding St cutD
def shunR : Bool → Part → Bool
  | g, [] => !g
  | g, r :: rs => !(g && r.isWord) && shunR r.goesOn rs
theorem shun_tail : ∀ (rs : Part) (r : Row), (!((r :: rs).getLast (by simp)).goesOn && ((r :: rs).zip rs).all fun z => !z.1.goesOn || !z.2.isWord) = shunR r.goesOn rs
  | [], r => by simp [shunR]
  | q :: qs, r => by
    have ih := shun_tail qs q
    rw [shunR, ← ih, List.zip_cons_cons, List.all_cons, List.getLast_cons (by simp)]
    cases r.goesOn <;> cases q.isWord <;> simp [Bool.and_comm, Bool.and_assoc, Bool.and_left_comm]
theorem shunned_eq (p : Part) : shunned p = (!p.isEmpty && shunR true p) := by
  cases p with
  | nil => rfl
  | cons r rs =>
    unfold shunned
    dsimp only
    rw [Bool.and_assoc, shun_tail, shunR]
    simp
structure PartParts (p : Part) : Prop where
  l1 : 1 ≤ p.length
  l20 : p.length ≤ 20
  rows : ∀ r ∈ p, r.ok = true
  even : evenP p = true ∨ (p.filter Row.isJump).length ≤ 6
  goals : ∀ r ∈ p, r.isJump = true → ∃ q, p[r.num.toNat]? = some q ∧ q.isWord = false
  shun : shunR true p = true
theorem of_parts {p : Part} (h : PartParts p) : partOk p = true := by
  unfold partOk restOk lenOk
  simp only [Bool.and_eq_true, Bool.or_eq_true, decide_eq_true_eq]
  have hne : p ≠ [] := fun z => by have := h.l1; rw [z] at this; simp at this
  refine ⟨⟨⟨h.l1, h.l20⟩, List.all_eq_true.mpr h.rows⟩, h.even, ?_, ?_⟩
  · refine List.all_eq_true.mpr fun g hg => ?_
    obtain ⟨r, hr, rfl⟩ := List.mem_map.mp hg
    obtain ⟨h1, h2⟩ := List.mem_filter.mp hr
    obtain ⟨q, e1, e2⟩ := h.goals r h1 h2
    unfold goalOk
    rw [e1]
    dsimp only
    rw [e2]; rfl
  · rw [shunned_eq, Bool.and_eq_true]
    exact ⟨by cases p <;> simp_all, h.shun⟩
/-- what the drawn parts of these laws are -/
structure Fine (p : Part) : Prop where
  parts : PartParts p
  len : p.length ≤ 12
  few : evenP p = true ∨ (p.filter Row.isJump).length ≤ 3
theorem Fine.ok {p : Part} (h : Fine p) : partOk p = true := of_parts h.parts
def goW (w : Str) : Bool := w == "plain" || w == "branch" || w == "load" || w == "align"
def shunW : Bool → List Str → Bool
  | g, [] => !g
  | g, w :: ws => !(g && w == "word") && shunW (goW w) ws
end RC
end
section
namespace RC
open PySem PySem.Spec L2 RR
open PyProof.Rows hiding St cutD
theorem o2 {f : D → D → Option D} {a b : VE} {Γ : DEnv} {x y d : D} (h : a Γ = some x) (k : b Γ = some y) (e : f x y = some d) : vOp f a b Γ = some d := (vOp_of h k).trans e
theorem o1 {f : D → Option D} {a : VE} {Γ : DEnv} {x d : D} (h : a Γ = some x) (e : f x = some d) : vUn f a Γ = some d := (vUn_of h).trans e
theorem o_cl {f : List D → Option D} {a : VA} {Γ : DEnv} {x : List D} {d : D} (h : a Γ = some x) (e : f x = some d) : vCl f a Γ = some d := (vCl_of h).trans e
theorem o_call {f : VP} {a : VA} {Γ : DEnv} {x : List D} {d : D} (h : a Γ = some x) (e : f x = some d) : vCall f a Γ = some d := (vCall_of h).trans e
theorem o_tup {r : VA} {Γ : DEnv} {xs : List D} (h : r Γ = some xs) (l : xs.length ≤ lim) : vTup r Γ = some (.tuple xs) := vTup_of h l
theorem o_lst {r : VA} {Γ : DEnv} {xs : List D} (h : r Γ = some xs) (l : xs.length ≤ lim) : vLst r Γ = some (.list xs) := by
  unfold vLst
  rw [h, Option.bind_some, if_pos l]
theorem o_if {t : VT} {a b : VE} {Γ : DEnv} {c : Bool} {x y : D} (h : t Γ = some c) (k : c = true → a Γ = some x) (l : c = false → b Γ = some y) : vIf t a b Γ = some (if c = true then x else y) := by
  unfold vIf
  rw [h, Option.bind_some]
  cases c with
  | true => rw [if_pos rfl, if_pos rfl]; exact k rfl
  | false => rw [if_neg (by decide), if_neg (by decide)]; exact l rfl
theorem o_ifT {t : VT} {a b : VE} {Γ : DEnv} {x : D} (h : t Γ = some true) (k : a Γ = some x) : vIf t a b Γ = some x := by
  unfold vIf
  rw [h, Option.bind_some, if_pos rfl]; exact k
theorem o_ifF {t : VT} {a b : VE} {Γ : DEnv} {x : D} (h : t Γ = some false) (k : b Γ = some x) : vIf t a b Γ = some x := by
  unfold vIf
  rw [h, Option.bind_some, if_neg (by decide)]; exact k
theorem o_look {a : VE} {Γ : DEnv} {x : D} (h : a Γ = some x) (f : flatD x = true) : vLook a Γ = some x := by
  unfold vLook
  rw [h, Option.bind_some, if_pos f]
theorem o_lookL {a : VE} {Γ : DEnv} {x : D} (h : a Γ = some x) (f : flatL x = true) : vLookL a Γ = some x := by
  unfold vLookL
  rw [h, Option.bind_some, if_pos f]
theorem o_sl {a : VE} {lo hi : VO} {Γ : DEnv} {x d : D} {l h : Option Int} (e : a Γ = some x) (e1 : lo Γ = some l) (e2 : hi Γ = some h) (k : dSl l h x = some d) : vSl a lo hi Γ = some d := by
  unfold vSl
  rw [e, Option.bind_some, e1, Option.bind_some, e2, Option.bind_some]; exact k
theorem o_part {a : VE} {Γ : DEnv} {i : Int} (h : a Γ = some (.int i)) : vPart a Γ = some (some i) := by
  unfold vPart
  rw [h]; rfl
theorem s_ret {me : ME} {E : EndsD} {Γ : DEnv} {n : Nat} (h : me Γ n fun d n1 => E.rt d n1) : mRet me E Γ n := h
theorem s_lst {m : MA} {Γ : DEnv} {n : Nat} {Q : D → Nat → Prop} (h : m Γ n fun ds n1 => ds.length ≤ lim ∧ Q (.list ds) n1) : mLst m Γ n Q := h
theorem s_tup {m : MA} {Γ : DEnv} {n : Nat} {Q : D → Nat → Prop} (h : m Γ n fun ds n1 => ds.length ≤ lim ∧ Q (.tuple ds) n1) : mTup m Γ n Q := h
theorem s_op {f : D → D → Option D} {ma mb : ME} {Γ : DEnv} {n : Nat} {Q : D → Nat → Prop} (h : ma Γ n fun x n1 => mb Γ n1 fun y n2 => ∃ d, f x y = some d ∧ Q d n2) : mOp f ma mb Γ n Q := h
theorem s_un {f : D → Option D} {ma : ME} {Γ : DEnv} {n : Nat} {Q : D → Nat → Prop} (h : ma Γ n fun x n1 => ∃ d, f x = some d ∧ Q d n1) : mUn f ma Γ n Q := h
theorem s_test {me : ME} {Γ : DEnv} {n : Nat} {Q : Bool → Nat → Prop} (h : me Γ n fun d n1 => ∃ b, d = .bool b ∧ Q b n1) : mTest me Γ n Q := h
theorem s_lc {mi : MI} {g : MG} {t : MT} {e : ME} {vs : List Nat} {Γ : DEnv} {n : Nat} {Q : D → Nat → Prop} (h : mi Γ n fun ds n1 => ds.length ≤ lim ∧ compW g t e (wipeD Γ vs) ds n1 fun r n2 => Q (.list r) n2) : mLc mi g t e vs Γ n Q := h
theorem s_iseq {me : ME} {Γ : DEnv} {n : Nat} {Q : List D → Nat → Prop} (h : me Γ n fun d n1 => ∃ xs, seqD d = some xs ∧ Q xs n1) : mISeq me Γ n Q := h
theorem s_ir1 {ma : MA} {Γ : DEnv} {n : Nat} {Q : List D → Nat → Prop} (h : ma Γ n fun ds n1 => ∃ j, ds = [.int j] ∧ okR j ∧ Q (rangeD 0 j.toNat) n1) : mIR1 ma Γ n Q := h
theorem s_if {mt : MT} {x y : MS} {E : EndsD} {Γ : DEnv} {n : Nat} (h : mt Γ n fun c n1 => if c = true then x E Γ n1 else y E Γ n1) : mIfS mt x y E Γ n := h
theorem s_andM {m u : MT} {Γ : DEnv} {n : Nat} {Q : Bool → Nat → Prop} (h : m Γ n fun c n1 => if c = true then u Γ n1 Q else Q false n1) : mAnd m u Γ n Q := h
theorem w_tst {mt : MT} {v : VT} {Γ : DEnv} {n : Nat} {Q : Bool → Nat → Prop} {b : Bool} (h : FT mt v) (e : v Γ = some b) (k : Q b n) : mt Γ n Q := h Γ n b _ e k
theorem w_args {m : MA} {v : VA} {Γ : DEnv} {n : Nat} {ds : List D} {Q : List D → Nat → Prop} (h : FA m v) (e : v Γ = some ds) (k : Q ds n) : m Γ n Q := h Γ n ds _ e k
theorem w_it {m : MI} {v : VI} {Γ : DEnv} {n : Nat} {ds : List D} {Q : List D → Nat → Prop} (h : FI' m v) (e : v Γ = some ds) (k : Q ds n) : m Γ n Q := h Γ n ds _ e k
theorem s_gName {i : Nat} {d : D} {Γ : DEnv} {Q : DEnv → Prop} (h : Q (Γ.set i (some d))) : mgName i d Γ Q := h
theorem s_for {mi : MI} {g : MG} {tb : MS} {E : EndsD} {Γ : DEnv} {n : Nat} (h : mi Γ n fun ds n1 => forW g tb E ds Γ n1) : mFor mi g tb E Γ n := h
theorem q_for {mi : MI} {g : MG} {tb u : MS} {E : EndsD} {Γ : DEnv} {n : Nat} (h : mi Γ n fun ds n1 => forW g tb { E with nx := u E } ds Γ n1) : mSeq (mFor mi g tb) u E Γ n := h
end RC
end
section
namespace RC
open PySem PySem.Spec L2 RR
open PyProof.Rows hiding St cutD
local macro_rules | `(tactic| walk_at "fp") => `(tactic| with_reducible first | exact fp__law_jumps)
local macro_rules | `(tactic| walk_at "fe") => `(tactic| with_reducible first
  | exact f_Var | exact f_C | exact f_Nil | exact f_Dict0 | exact f_NoPart | exact f_Yes | exact f_gName | exact f_gNil | exact f_pNil
  | (apply f_Cl <;> walk_at "fe") | (apply f_Op <;> walk_at "fe") | (apply f_Un <;> walk_at "fe") | (apply f_Cons <;> walk_at "fe")
  | (apply f_Test <;> walk_at "fe") | (apply f_Tru <;> walk_at "fe")
  | (apply f_Call (by walk_at "fp") <;> walk_at "fe") | (apply f_CallK (by walk_at "fp") <;> walk_at "fe")
  | (apply f_Tup <;> walk_at "fe") | (apply f_Lst <;> walk_at "fe") | (apply f_Isi <;> walk_at "fe") | (apply f_Isi2 <;> walk_at "fe")
  | (apply f_Sl <;> walk_at "fe") | (apply f_Part <;> walk_at "fe")
  | (apply f_And <;> walk_at "fe") | (apply f_Or <;> walk_at "fe") | (apply f_Not <;> walk_at "fe")
  | (apply f_AndV <;> walk_at "fe") | (apply f_OrV <;> walk_at "fe") | (apply f_NotV <;> walk_at "fe")
  | (apply f_If <;> walk_at "fe") | (apply f_Chain <;> walk_at "fe") | (apply f_Look <;> walk_at "fe") | (apply f_LookL <;> walk_at "fe") | (apply f_Rev <;> walk_at "fe")
  | (apply f_ISeq <;> walk_at "fe") | (apply f_IEn <;> walk_at "fe") | (apply f_IZ <;> walk_at "fe") | (apply f_IR1 <;> walk_at "fe") | (apply f_IR2 <;> walk_at "fe") | exact f_IKeys | exact f_IVals | exact f_IItems
  | (apply f_gTup <;> walk_at "fe") | (apply f_gCons <;> walk_at "fe") | (apply f_Lc <;> walk_at "fe")
  | (apply f_Disp <;> walk_at "fe") | (apply f_pCons <;> walk_at "fe")
  | (apply f_Seq <;> walk_at "fe") | (apply f_IfS <;> walk_at "fe") | (apply f_Ret <;> walk_at "fe") | exact f_Next | (apply f_Set <;> walk_at "fe") | (apply f_Par <;> walk_at "fe") | (apply f_Asg <;> walk_at "fe") | (apply f_Drop <;> walk_at "fe") | (apply f_Append <;> walk_at "fe") | (apply f_For <;> walk_at "fe"))
local macro_rules | `(tactic| walk_at "len") => `(tactic| first | (simp only [List.length_cons, List.length_nil]; decide) | assumption)
local macro_rules | `(tactic| walk_at "ev") => `(tactic| first
  | with_reducible assumption
  | ((with_reducible apply o2) <;> walk_at "ev") | ((with_reducible apply o1) <;> walk_at "ev") | ((with_reducible apply vCons_of) <;> walk_at "ev") | ((with_reducible apply o_cl) <;> walk_at "ev") | ((with_reducible apply o_call) <;> walk_at "ev")
  | ((with_reducible apply vTest_of) <;> walk_at "ev") | ((with_reducible apply o_tup) <;> first | walk_at "len" | walk_at "ev") | ((with_reducible apply o_lst) <;> first | walk_at "len" | walk_at "ev")
  | ((with_reducible apply vNot_t) <;> walk_at "ev") | ((with_reducible apply vNot_f) <;> walk_at "ev") | ((with_reducible apply vNot_of) <;> walk_at "ev") | ((with_reducible apply vIsi_of) <;> walk_at "ev") | ((with_reducible apply vNotV_of) <;> walk_at "ev") | ((with_reducible apply o_sl) <;> walk_at "ev") | ((with_reducible apply o_part) <;> walk_at "ev")
  | rfl)
local macro_rules | `(tactic| walk_at "we") => `(tactic| (apply w_exp; (case h => walk_at "fe"); (case e => walk_at "ev")))
local macro_rules | `(tactic| walk_at "wa") => `(tactic| (apply w_args; (case h => walk_at "fe"); (case e => walk_at "ev")))
local macro_rules | `(tactic| walk_at "wt") => `(tactic| (apply w_tst; (case h => walk_at "fe"); (case e => walk_at "ev")))
local macro_rules | `(tactic| walk_at "wi") => `(tactic| (apply w_it; (case h => walk_at "fe"); (case e => walk_at "ev")))
local macro_rules | `(tactic| walk_at "qs") => `(tactic| (apply q_set; (case h => walk_at "fe"); (case e => walk_at "ev")))
local macro_rules | `(tactic| walk_at "qn") => `(tactic| (apply q_no; (case h => walk_at "fe"); (case e => walk_at "ev")))
local macro_rules | `(tactic| walk_at "wr") => `(tactic| (apply w_ret; (case h => walk_at "fe"); (case e => walk_at "ev")))
local macro_rules | `(tactic| walk_at "sp") => `(tactic| (apply s_callP; (apply w_args; (case h => walk_at "fe"); (case e => walk_at "ev"))))
local macro_rules | `(tactic| walk_at "st") => `(tactic| first
  | refine ⟨_, rfl, ?_⟩
  | refine ⟨rfl, ?_⟩
  | refine ⟨by decide, ?_⟩
  | refine ⟨by simp only [List.length_cons, List.length_nil]; decide, ?_⟩)
def okPre : Bool → List Str → Bool
  | _, [] => true
  | g, w :: ws => !(g && w == "word") && okPre (goW w) ws
def lastGo : Bool → List Str → Bool
  | g, [] => g
  | _, w :: ws => lastGo (goW w) ws
theorem shun_pre : ∀ (ws : List Str) (g : Bool), shunW g ws = (okPre g ws && !lastGo g ws)
  | [], g => rfl
  | w :: ws, g => by rw [shunW, okPre, lastGo, shun_pre ws, Bool.and_assoc]
end RC
end
section
namespace RC
open PySem PySem.Spec L2 RR
open PyProof.Rows hiding St cutD
local macro_rules | `(tactic| walk_at "fp") => `(tactic| with_reducible first | exact fp__law_w_shifted)
local macro_rules | `(tactic| walk_at "fe") => `(tactic| with_reducible first
  | exact f_Var | exact f_C | exact f_Nil | exact f_Dict0 | exact f_NoPart | exact f_Yes | exact f_gName | exact f_gNil | exact f_pNil
  | (apply f_Cl <;> walk_at "fe") | (apply f_Op <;> walk_at "fe") | (apply f_Un <;> walk_at "fe") | (apply f_Cons <;> walk_at "fe")
  | (apply f_Test <;> walk_at "fe") | (apply f_Tru <;> walk_at "fe")
  | (apply f_Call (by walk_at "fp") <;> walk_at "fe") | (apply f_CallK (by walk_at "fp") <;> walk_at "fe")
  | (apply f_Tup <;> walk_at "fe") | (apply f_Lst <;> walk_at "fe") | (apply f_Isi <;> walk_at "fe") | (apply f_Isi2 <;> walk_at "fe")
  | (apply f_Sl <;> walk_at "fe") | (apply f_Part <;> walk_at "fe")
  | (apply f_And <;> walk_at "fe") | (apply f_Or <;> walk_at "fe") | (apply f_Not <;> walk_at "fe")
  | (apply f_AndV <;> walk_at "fe") | (apply f_OrV <;> walk_at "fe") | (apply f_NotV <;> walk_at "fe")
  | (apply f_If <;> walk_at "fe") | (apply f_Chain <;> walk_at "fe") | (apply f_Look <;> walk_at "fe") | (apply f_LookL <;> walk_at "fe") | (apply f_Rev <;> walk_at "fe")
  | (apply f_ISeq <;> walk_at "fe") | (apply f_IEn <;> walk_at "fe") | (apply f_IZ <;> walk_at "fe") | (apply f_IR1 <;> walk_at "fe") | (apply f_IR2 <;> walk_at "fe") | exact f_IKeys | exact f_IVals | exact f_IItems
  | (apply f_gTup <;> walk_at "fe") | (apply f_gCons <;> walk_at "fe") | (apply f_Lc <;> walk_at "fe")
  | (apply f_Disp <;> walk_at "fe") | (apply f_pCons <;> walk_at "fe")
  | (apply f_Seq <;> walk_at "fe") | (apply f_IfS <;> walk_at "fe") | (apply f_Ret <;> walk_at "fe") | exact f_Next | (apply f_Set <;> walk_at "fe") | (apply f_Par <;> walk_at "fe") | (apply f_Asg <;> walk_at "fe") | (apply f_Drop <;> walk_at "fe") | (apply f_Append <;> walk_at "fe") | (apply f_For <;> walk_at "fe"))
local macro_rules | `(tactic| walk_at "len") => `(tactic| first | (simp only [List.length_cons, List.length_nil]; decide) | assumption)
local macro_rules | `(tactic| walk_at "ev") => `(tactic| first
  | with_reducible assumption
  | ((with_reducible apply o2) <;> walk_at "ev") | ((with_reducible apply o1) <;> walk_at "ev") | ((with_reducible apply vCons_of) <;> walk_at "ev") | ((with_reducible apply o_cl) <;> walk_at "ev") | ((with_reducible apply o_call) <;> walk_at "ev")
  | ((with_reducible apply vTest_of) <;> walk_at "ev") | ((with_reducible apply o_tup) <;> first | walk_at "len" | walk_at "ev") | ((with_reducible apply o_lst) <;> first | walk_at "len" | walk_at "ev")
  | ((with_reducible apply vNot_of) <;> walk_at "ev") | ((with_reducible apply vIsi_of) <;> walk_at "ev") | ((with_reducible apply vNotV_of) <;> walk_at "ev") | ((with_reducible apply o_sl) <;> walk_at "ev") | ((with_reducible apply o_part) <;> walk_at "ev")
  | rfl)
local macro_rules | `(tactic| walk_at "we") => `(tactic| (apply w_exp; (case h => walk_at "fe"); (case e => walk_at "ev")))
local macro_rules | `(tactic| walk_at "wa") => `(tactic| (apply w_args; (case h => walk_at "fe"); (case e => walk_at "ev")))
local macro_rules | `(tactic| walk_at "wt") => `(tactic| (apply w_tst; (case h => walk_at "fe"); (case e => walk_at "ev")))
local macro_rules | `(tactic| walk_at "wi") => `(tactic| (apply w_it; (case h => walk_at "fe"); (case e => walk_at "ev")))
local macro_rules | `(tactic| walk_at "qs") => `(tactic| (apply q_set; (case h => walk_at "fe"); (case e => walk_at "ev")))
local macro_rules | `(tactic| walk_at "qn") => `(tactic| (apply q_no; (case h => walk_at "fe"); (case e => walk_at "ev")))
local macro_rules | `(tactic| walk_at "wr") => `(tactic| (apply w_ret; (case h => walk_at "fe"); (case e => walk_at "ev")))
local macro_rules | `(tactic| walk_at "sp") => `(tactic| (apply s_callP; (apply w_args; (case h => walk_at "fe"); (case e => walk_at "ev"))))
local macro_rules | `(tactic| walk_at "st") => `(tactic| first
  | refine ⟨_, rfl, ?_⟩
  | refine ⟨rfl, ?_⟩
  | refine ⟨by decide, ?_⟩
  | refine ⟨by simp only [List.length_cons, List.length_nil]; decide, ?_⟩)
end RC
end
section
namespace RC
open PySem PySem.Spec L2 RR
open PyProof.Rows hiding St cutD
end RC
end
section
namespace RC
open PySem PySem.Spec L2 RR
open PyProof.Rows hiding St cutD
def Word8 (w : Str) : Prop := w = "plain" ∨ w = "branch" ∨ w = "load" ∨ w = "align" ∨ w = "stop" ∨ w = "jump" ∨ w = "far" ∨ w = "word"
structure WOk (ws : List Str) : Prop where
  ne : ws ≠ []
  len : ws.length ≤ 10
  shun : shunW true ws = true
  mem : ∀ w ∈ ws, Word8 w
  few : (∀ w ∈ ws, ¬ w = ("align" : Str)) ∨ (ws.countP fun w : Str => w == ("jump" : Str) || w == ("branch" : Str)) ≤ 3
theorem count_or {ws : List Str} (p q : Str → Bool) : (ws.countP fun w => p w || q w) ≤ ws.countP p + ws.countP q := by
  induction ws with
  | nil => exact Nat.le_refl _
  | cons w ws ih =>
    rw [List.countP_cons, List.countP_cons, List.countP_cons]
    cases p w <;> cases q w <;> simp <;> omega
end RC
end
section
namespace RC
open PySem PySem.Spec L2 RR
open PyProof.Rows hiding St cutD
end RC
end
section
namespace RC
open PySem PySem.Spec L2 RR
open PyProof.Rows hiding St cutD
structure AwI (many : Nat) (ws : List Str) : Prop where
  mem : ∀ w ∈ ws, Word8 w
  even : ∀ w ∈ ws, ¬ w = ("align" : Str)
  pre : okPre true ws = true
  last : ws.length = many → lastGo true ws = false
theorem AwI.ok {many : Nat} {ws : List Str} (I : AwI many ws) (h1 : 1 ≤ many) (h2 : many ≤ 10) (e : ws.length = many) : WOk ws :=
  ⟨fun z => by rw [z, List.length_nil] at e; omega, by omega, by rw [shun_pre, I.pre, I.last e]; rfl, I.mem, .inl I.even⟩
end RC
end
section
namespace RC
open PySem PySem.Spec L2 RR
open PyProof.Rows hiding St cutD
end RC
end
section
namespace RC
open PySem PySem.Spec L2 RR
open PyProof.Rows hiding St cutD
end RC
end
section
namespace RC
open PySem PySem.Spec L2 RR
open PyProof.Rows hiding St cutD
end RC
end
section
namespace RC
open PySem PySem.Spec L2 RR
open PyProof.Rows hiding St cutD
end RC
end
section
namespace RC
open PySem PySem.Spec L2 RR
open PyProof.Rows hiding St cutD
theorem vt2 {a b : VE} {Γ : DEnv} {x y : D} (h : a Γ = some x) (k : b Γ = some y) : vTup (vCons a (vCons b vNil)) Γ = some (.tuple [x, y]) := vTup_of (vCons_of h (vCons_of k rfl)) (by show 2 ≤ lim; decide)
end RC
end
section
namespace RC
open PySem PySem.Spec L2 RR
open PyProof.Rows hiding St cutD
end RC
end
section
namespace RC
open PySem PySem.Spec L2 RR
open PyProof.Rows hiding St
open PySem.W (alike dataLt dataLe)
end RC
end
section
namespace RC
open PySem PySem.Spec L2 RR
open PyProof.Rows hiding St
end RC
end
section
namespace RC
open PySem PySem.Spec L2 RR
open PyProof.Rows hiding St
end RC
end
section
namespace RC
open PySem PySem.Spec L2 RR
open PyProof.Rows hiding St cutD
end RC
namespace RC
open PySem PySem.Spec L2 RR
open PyProof.Rows hiding St cutD
end RC
end
section
namespace RC
open PySem PySem.Spec L2 RR
open PyProof.Rows hiding St cutD
end RC
end
section
namespace RC
open PySem PySem.Spec L2 RR
open PyProof.Rows hiding St cutD
open PySem.W (alike dataLt dataLe minD)
end RC
end
section
namespace RC
open PySem PySem.Spec L2 RR
open PyProof.Rows hiding St cutD
end RC
end
section
namespace RC
open PySem PySem.Spec L2 RR
open PyProof.Rows hiding St cutD
theorem vFor_of31 {i : VI} {g : VG} {b : VS} {Γ : DEnv} {ds : List D} (h : i Γ = some ds) : vFor i g b Γ = vfor g b ds Γ := by
  unfold vFor
  rw [h, Option.bind_some]
end RC
end
section
namespace RC
open PySem PySem.Spec L2 RR
open PyProof.Rows hiding St cutD
end RC
end
section
namespace RC
open PySem PySem.Spec L2 RR
open PyProof.Rows hiding St cutD
local macro_rules | `(tactic| walk_at "fp") => `(tactic| with_reducible first | exact fp__law_greatest | exact fp__law_chain | exact fp__law_jumps)
local macro_rules | `(tactic| walk_at "fe") => `(tactic| with_reducible first
  | exact f_Var | exact f_C | exact f_Nil | exact f_Dict0 | exact f_NoPart | exact f_Yes | exact f_gName | exact f_gNil | exact f_pNil
  | (apply f_Cl <;> walk_at "fe") | (apply f_Op <;> walk_at "fe") | (apply f_Un <;> walk_at "fe") | (apply f_Cons <;> walk_at "fe")
  | (apply f_Test <;> walk_at "fe") | (apply f_Tru <;> walk_at "fe")
  | (apply f_Call (by walk_at "fp") <;> walk_at "fe") | (apply f_CallK (by walk_at "fp") <;> walk_at "fe")
  | (apply f_Tup <;> walk_at "fe") | (apply f_Lst <;> walk_at "fe") | (apply f_Isi <;> walk_at "fe") | (apply f_Isi2 <;> walk_at "fe")
  | (apply f_Sl <;> walk_at "fe") | (apply f_Part <;> walk_at "fe")
  | (apply f_And <;> walk_at "fe") | (apply f_Or <;> walk_at "fe") | (apply f_Not <;> walk_at "fe")
  | (apply f_AndV <;> walk_at "fe") | (apply f_OrV <;> walk_at "fe") | (apply f_NotV <;> walk_at "fe")
  | (apply f_If <;> walk_at "fe") | (apply f_Chain <;> walk_at "fe") | (apply f_Look <;> walk_at "fe") | (apply f_LookL <;> walk_at "fe") | (apply f_Rev <;> walk_at "fe")
  | (apply f_ISeq <;> walk_at "fe") | (apply f_IEn <;> walk_at "fe") | (apply f_IZ <;> walk_at "fe") | (apply f_IR1 <;> walk_at "fe") | (apply f_IR2 <;> walk_at "fe") | exact f_IKeys | exact f_IVals | exact f_IItems
  | (apply f_gTup <;> walk_at "fe") | (apply f_gCons <;> walk_at "fe") | (apply f_Lc <;> walk_at "fe")
  | (apply f_Disp <;> walk_at "fe") | (apply f_pCons <;> walk_at "fe")
  | (apply f_Seq <;> walk_at "fe") | (apply f_IfS <;> walk_at "fe") | (apply f_Ret <;> walk_at "fe") | exact f_Next | (apply f_Set <;> walk_at "fe") | (apply f_Par <;> walk_at "fe") | (apply f_Asg <;> walk_at "fe") | (apply f_Drop <;> walk_at "fe") | (apply f_Append <;> walk_at "fe") | (apply f_For <;> walk_at "fe"))
local macro_rules | `(tactic| walk_at "len") => `(tactic| first | (simp only [List.length_cons, List.length_nil]; decide) | assumption)
local macro_rules | `(tactic| walk_at "ev") => `(tactic| first
  | with_reducible assumption
  | ((with_reducible apply o2) <;> walk_at "ev") | ((with_reducible apply o1) <;> walk_at "ev") | ((with_reducible apply vCons_of) <;> walk_at "ev") | ((with_reducible apply o_cl) <;> walk_at "ev") | ((with_reducible apply o_call) <;> walk_at "ev")
  | ((with_reducible apply vTest_of) <;> walk_at "ev") | ((with_reducible apply o_tup) <;> first | walk_at "len" | walk_at "ev") | ((with_reducible apply o_lst) <;> first | walk_at "len" | walk_at "ev")
  | ((with_reducible apply vNot_t) <;> walk_at "ev") | ((with_reducible apply vNot_f) <;> walk_at "ev") | ((with_reducible apply vNot_of) <;> walk_at "ev") | ((with_reducible apply vIsi_of) <;> walk_at "ev") | ((with_reducible apply vNotV_of) <;> walk_at "ev") | ((with_reducible apply o_sl) <;> walk_at "ev") | ((with_reducible apply o_part) <;> walk_at "ev")
  | rfl)
local macro_rules | `(tactic| walk_at "we") => `(tactic| (apply w_exp; (case h => walk_at "fe"); (case e => walk_at "ev")))
local macro_rules | `(tactic| walk_at "wa") => `(tactic| (apply w_args; (case h => walk_at "fe"); (case e => walk_at "ev")))
local macro_rules | `(tactic| walk_at "wt") => `(tactic| (apply w_tst; (case h => walk_at "fe"); (case e => walk_at "ev")))
local macro_rules | `(tactic| walk_at "wi") => `(tactic| (apply w_it; (case h => walk_at "fe"); (case e => walk_at "ev")))
local macro_rules | `(tactic| walk_at "qs") => `(tactic| (apply q_set; (case h => walk_at "fe"); (case e => walk_at "ev")))
local macro_rules | `(tactic| walk_at "qn") => `(tactic| (apply q_no; (case h => walk_at "fe"); (case e => walk_at "ev")))
local macro_rules | `(tactic| walk_at "wr") => `(tactic| (apply w_ret; (case h => walk_at "fe"); (case e => walk_at "ev")))
local macro_rules | `(tactic| walk_at "sp") => `(tactic| (apply s_callP; (apply w_args; (case h => walk_at "fe"); (case e => walk_at "ev"))))
end RC
end
section
namespace RC
open PySem PySem.Spec L2 RR
open PyProof.Rows hiding St cutD
end RC
end
section
namespace RC
open PySem PySem.Spec L2 RR
open PyProof.Rows hiding St
end RC
end
section
namespace RC
open PySem PySem.Spec L2 RR
open PyProof.Rows hiding St
end RC
end
section
namespace RC
open PySem PySem.Spec L2 RR
open PyProof.Rows hiding St cutD
structure WOk31 (ws : List Str) : Prop where
  ne : ws ≠ []
  len : ws.length ≤ 14
  shun : shunW true ws = true
  mem : ∀ w ∈ ws, Word8 w
  few : (∀ w ∈ ws, ¬ w = ("align" : Str)) ∨ (ws.countP fun w : Str => w == ("jump" : Str) || w == ("branch" : Str)) ≤ 6
def jc31 (ws : List Str) : Int := ((ws.countP fun w : Str => decide (w = ("jump" : Str)) : Nat) : Int) + ((ws.countP fun w : Str => decide (w = ("branch" : Str)) : Nat) : Int)
structure AwI31 (bends : Int) (many : Nat) (ws : List Str) : Prop where
  mem : ∀ w ∈ ws, Word8 w
  even : bends = 0 → ∀ w ∈ ws, ¬ w = ("align" : Str)
  pre : okPre true ws = true
  last : ws.length = many → lastGo true ws = false
  few : 0 < bends → jc31 ws ≤ bends
theorem AwI31.ok {bends : Int} (hb : bends = 0 ∨ bends = 3 ∨ bends = 6 ∨ bends = 4) {many : Nat} {ws : List Str} (I : AwI31 bends many ws) (h1 : 1 ≤ many) (h2 : many ≤ 14) (e : ws.length = many) : WOk31 ws := by
  refine ⟨fun z => by rw [z, List.length_nil] at e; omega, by omega, by rw [shun_pre, I.pre, I.last e]; rfl, I.mem, ?_⟩
  by_cases z : bends = 0
  · exact .inl (I.even z)
  · right
    have h := I.few (by omega)
    have hc := count_or (ws := ws) (fun w => w == ("jump" : Str)) (fun w => w == ("branch" : Str))
    have ej : ∀ x : Str, (fun w : Str => w == x) = fun w : Str => decide (w = x) := fun x => by
      funext w
      rw [Bool.eq_iff_iff]
      simp
    unfold jc31 at h
    rw [ej, ej] at hc
    refine Nat.le_trans (Nat.le_of_eq ?_) (Nat.le_trans hc (by omega))
    refine List.countP_congr fun w _ => ?_
    simp
end RC
end
section
namespace RC
open PySem PySem.Spec L2 RR
open PyProof.Rows hiding St
end RC
end
section
namespace RC
open PySem PySem.Spec L2 RR
open PyProof.Rows hiding St cutD
/-- the word that a part asks for, and one with a machine -/
def pw (d : D) : Str := match partOf d with
  | none => "part"
  | some p => if evenP p = true then "fine" else "even"
end RC
end
section
namespace RC
open PySem PySem.Spec L2 RR
open PyProof.Rows hiding St cutD
end RC
end
section
namespace RC
open PySem PySem.Spec L2 RR
open PyProof.Rows hiding St
end RC
end
section
namespace RC
open PySem PySem.Spec L2 RR
open PyProof.Rows hiding St
end RC
end
section
namespace RC
open PySem PySem.Spec L2 RR
open PyProof.Rows hiding St cutD
local macro_rules | `(tactic| walk_at "fp") => `(tactic| with_reducible first | exact fp__law_w_shifted)
local macro_rules | `(tactic| walk_at "fe") => `(tactic| with_reducible first
  | exact f_Var | exact f_C | exact f_Nil | exact f_Dict0 | exact f_NoPart | exact f_Yes | exact f_gName | exact f_gNil | exact f_pNil
  | (apply f_Cl <;> walk_at "fe") | (apply f_Op <;> walk_at "fe") | (apply f_Un <;> walk_at "fe") | (apply f_Cons <;> walk_at "fe")
  | (apply f_Test <;> walk_at "fe") | (apply f_Tru <;> walk_at "fe")
  | (apply f_Call (by walk_at "fp") <;> walk_at "fe") | (apply f_CallK (by walk_at "fp") <;> walk_at "fe")
  | (apply f_Tup <;> walk_at "fe") | (apply f_Lst <;> walk_at "fe") | (apply f_Isi <;> walk_at "fe") | (apply f_Isi2 <;> walk_at "fe")
  | (apply f_Sl <;> walk_at "fe") | (apply f_Part <;> walk_at "fe")
  | (apply f_And <;> walk_at "fe") | (apply f_Or <;> walk_at "fe") | (apply f_Not <;> walk_at "fe")
  | (apply f_AndV <;> walk_at "fe") | (apply f_OrV <;> walk_at "fe") | (apply f_NotV <;> walk_at "fe")
  | (apply f_If <;> walk_at "fe") | (apply f_Chain <;> walk_at "fe") | (apply f_Look <;> walk_at "fe") | (apply f_LookL <;> walk_at "fe") | (apply f_Rev <;> walk_at "fe")
  | (apply f_ISeq <;> walk_at "fe") | (apply f_IEn <;> walk_at "fe") | (apply f_IZ <;> walk_at "fe") | (apply f_IR1 <;> walk_at "fe") | (apply f_IR2 <;> walk_at "fe") | exact f_IKeys | exact f_IVals | exact f_IItems
  | (apply f_gTup <;> walk_at "fe") | (apply f_gCons <;> walk_at "fe") | (apply f_Lc <;> walk_at "fe")
  | (apply f_Disp <;> walk_at "fe") | (apply f_pCons <;> walk_at "fe")
  | (apply f_Seq <;> walk_at "fe") | (apply f_IfS <;> walk_at "fe") | (apply f_Ret <;> walk_at "fe") | exact f_Next | (apply f_Set <;> walk_at "fe") | (apply f_Par <;> walk_at "fe") | (apply f_Asg <;> walk_at "fe") | (apply f_Drop <;> walk_at "fe") | (apply f_Append <;> walk_at "fe") | (apply f_For <;> walk_at "fe"))
local macro_rules | `(tactic| walk_at "len") => `(tactic| first | (simp only [List.length_cons, List.length_nil]; decide) | assumption)
local macro_rules | `(tactic| walk_at "ev") => `(tactic| first
  | with_reducible assumption
  | ((with_reducible apply o2) <;> walk_at "ev") | ((with_reducible apply o1) <;> walk_at "ev") | ((with_reducible apply vCons_of) <;> walk_at "ev") | ((with_reducible apply o_cl) <;> walk_at "ev") | ((with_reducible apply o_call) <;> walk_at "ev")
  | ((with_reducible apply vTest_of) <;> walk_at "ev") | ((with_reducible apply o_tup) <;> first | walk_at "len" | walk_at "ev") | ((with_reducible apply o_lst) <;> first | walk_at "len" | walk_at "ev")
  | ((with_reducible apply vNot_of) <;> walk_at "ev") | ((with_reducible apply vIsi_of) <;> walk_at "ev") | ((with_reducible apply vNotV_of) <;> walk_at "ev") | ((with_reducible apply o_sl) <;> walk_at "ev") | ((with_reducible apply o_part) <;> walk_at "ev")
  | rfl)
local macro_rules | `(tactic| walk_at "we") => `(tactic| (apply w_exp; (case h => walk_at "fe"); (case e => walk_at "ev")))
local macro_rules | `(tactic| walk_at "wa") => `(tactic| (apply w_args; (case h => walk_at "fe"); (case e => walk_at "ev")))
local macro_rules | `(tactic| walk_at "wt") => `(tactic| (apply w_tst; (case h => walk_at "fe"); (case e => walk_at "ev")))
local macro_rules | `(tactic| walk_at "wi") => `(tactic| (apply w_it; (case h => walk_at "fe"); (case e => walk_at "ev")))
local macro_rules | `(tactic| walk_at "qs") => `(tactic| (apply q_set; (case h => walk_at "fe"); (case e => walk_at "ev")))
local macro_rules | `(tactic| walk_at "qn") => `(tactic| (apply q_no; (case h => walk_at "fe"); (case e => walk_at "ev")))
local macro_rules | `(tactic| walk_at "wr") => `(tactic| (apply w_ret; (case h => walk_at "fe"); (case e => walk_at "ev")))
local macro_rules | `(tactic| walk_at "sp") => `(tactic| (apply s_callP; (apply w_args; (case h => walk_at "fe"); (case e => walk_at "ev"))))
end RC
end
section
namespace RC
open PySem PySem.Spec L2 RR
open PyProof.Rows hiding St cutD
abbrev cl (s : Str) : List Nat := s.cps.toList
def dl (c : Nat) : Prop := c = 44 ∨ c = 41
/-- the words that stand in such data -/
abbrev wL : List Str := ["plain", "stop", "jump", "branch", "far", "load", "word", "align", "rest", "part", "0", "1"]
/-- what may stand on the one side -/
inductive G : D → Prop
  | non : G .none
  | bl (b : Bool) : G (.bool b)
  | int (i : Int) : G (.int i)
  | str {w : Str} (h : w ∈ wL) : G (.str w)
  | tup {xs : List D} (h : ∀ x ∈ xs, G x) : G (.tuple xs)
  | lst {xs : List D} (h : ∀ x ∈ xs, G x) : G (.list xs)
def mT : List D → List Nat
  | [] => [41]
  | [x] => cl (PyData.shown x) ++ [41]
  | x :: y :: r => cl (PyData.shown x) ++ ([44, 32] ++ mT (y :: r))
end RC
end
section
namespace RC
open PySem PySem.Spec L2 RR
open PyProof.Rows hiding St cutD
local macro_rules | `(tactic| walk_at "fp") => `(tactic| with_reducible first | exact fp__law_w_shifted | exact fp_is_book | exact fp_run_book | exact fp_opens | exact fp_with_part | exact fp_twin_of | exact fp_check_twin | exact fp_check_book | exact fp_check_machine | exact fp_check_part | exact fp_is_part_number | exact fp_is_within | exact fp_twin | exact fp_has_door)
local macro_rules | `(tactic| walk_at "fe") => `(tactic| with_reducible first
  | exact f_Var | exact f_C | exact f_Nil | exact f_Dict0 | exact f_NoPart | exact f_Yes | exact f_gName | exact f_gNil | exact f_pNil
  | (apply f_Cl <;> walk_at "fe") | (apply f_Op <;> walk_at "fe") | (apply f_Un <;> walk_at "fe") | (apply f_Cons <;> walk_at "fe")
  | (apply f_Test <;> walk_at "fe") | (apply f_Tru <;> walk_at "fe")
  | (apply f_Call (by walk_at "fp") <;> walk_at "fe") | (apply f_CallK (by walk_at "fp") <;> walk_at "fe")
  | (apply f_Tup <;> walk_at "fe") | (apply f_Lst <;> walk_at "fe") | (apply f_Isi <;> walk_at "fe") | (apply f_Isi2 <;> walk_at "fe")
  | (apply f_Sl <;> walk_at "fe") | (apply f_Part <;> walk_at "fe")
  | (apply f_And <;> walk_at "fe") | (apply f_Or <;> walk_at "fe") | (apply f_Not <;> walk_at "fe")
  | (apply f_AndV <;> walk_at "fe") | (apply f_OrV <;> walk_at "fe") | (apply f_NotV <;> walk_at "fe")
  | (apply f_If <;> walk_at "fe") | (apply f_Chain <;> walk_at "fe") | (apply f_Look <;> walk_at "fe") | (apply f_LookL <;> walk_at "fe") | (apply f_Rev <;> walk_at "fe")
  | (apply f_ISeq <;> walk_at "fe") | (apply f_IEn <;> walk_at "fe") | (apply f_IZ <;> walk_at "fe") | (apply f_IR1 <;> walk_at "fe") | (apply f_IR2 <;> walk_at "fe") | exact f_IKeys | exact f_IVals | exact f_IItems
  | (apply f_gTup <;> walk_at "fe") | (apply f_gCons <;> walk_at "fe") | (apply f_Lc <;> walk_at "fe")
  | (apply f_Disp <;> walk_at "fe") | (apply f_pCons <;> walk_at "fe")
  | (apply f_Seq <;> walk_at "fe") | (apply f_IfS <;> walk_at "fe") | (apply f_Ret <;> walk_at "fe") | exact f_Next | (apply f_Set <;> walk_at "fe") | (apply f_Par <;> walk_at "fe") | (apply f_Asg <;> walk_at "fe") | (apply f_Drop <;> walk_at "fe") | (apply f_Append <;> walk_at "fe") | (apply f_For <;> walk_at "fe"))
local macro_rules | `(tactic| walk_at "len") => `(tactic| first | (simp only [List.length_cons, List.length_nil]; decide) | assumption)
local macro_rules | `(tactic| walk_at "ev") => `(tactic| first
  | with_reducible assumption
  | ((with_reducible apply o2) <;> walk_at "ev") | ((with_reducible apply o1) <;> walk_at "ev") | ((with_reducible apply vCons_of) <;> walk_at "ev") | ((with_reducible apply o_cl) <;> walk_at "ev") | ((with_reducible apply o_call) <;> walk_at "ev")
  | ((with_reducible apply vTest_of) <;> walk_at "ev") | ((with_reducible apply o_tup) <;> first | walk_at "len" | walk_at "ev") | ((with_reducible apply o_lst) <;> first | walk_at "len" | walk_at "ev")
  | ((with_reducible apply vNot_of) <;> walk_at "ev") | ((with_reducible apply vIsi_of) <;> walk_at "ev") | ((with_reducible apply vNotV_of) <;> walk_at "ev") | ((with_reducible apply o_sl) <;> walk_at "ev") | ((with_reducible apply o_part) <;> walk_at "ev")
  | rfl)
local macro_rules | `(tactic| walk_at "we") => `(tactic| (apply w_exp; (case h => walk_at "fe"); (case e => walk_at "ev")))
local macro_rules | `(tactic| walk_at "wa") => `(tactic| (apply w_args; (case h => walk_at "fe"); (case e => walk_at "ev")))
local macro_rules | `(tactic| walk_at "wt") => `(tactic| (apply w_tst; (case h => walk_at "fe"); (case e => walk_at "ev")))
local macro_rules | `(tactic| walk_at "wi") => `(tactic| (apply w_it; (case h => walk_at "fe"); (case e => walk_at "ev")))
local macro_rules | `(tactic| walk_at "qs") => `(tactic| (apply q_set; (case h => walk_at "fe"); (case e => walk_at "ev")))
local macro_rules | `(tactic| walk_at "qn") => `(tactic| (apply q_no; (case h => walk_at "fe"); (case e => walk_at "ev")))
local macro_rules | `(tactic| walk_at "wr") => `(tactic| (apply w_ret; (case h => walk_at "fe"); (case e => walk_at "ev")))
local macro_rules | `(tactic| walk_at "sp") => `(tactic| (apply s_callP; (apply w_args; (case h => walk_at "fe"); (case e => walk_at "ev"))))
end RC
end
section
namespace RC
open PySem PySem.Spec L2 RR
open PyProof.Rows hiding St cutD
end RC
end
section
namespace RC
open PySem PySem.Spec L2 RR
open PyProof.Rows hiding St cutD
local macro_rules | `(tactic| walk_at "fp") => `(tactic| with_reducible first | exact fp_growth | exact fp_is_part)
local macro_rules | `(tactic| walk_at "fe") => `(tactic| with_reducible first
  | exact f_Var | exact f_C | exact f_Nil | exact f_Dict0 | exact f_NoPart | exact f_Yes | exact f_gName | exact f_gNil | exact f_pNil
  | (apply f_Cl <;> walk_at "fe") | (apply f_Op <;> walk_at "fe") | (apply f_Un <;> walk_at "fe") | (apply f_Cons <;> walk_at "fe")
  | (apply f_Test <;> walk_at "fe") | (apply f_Tru <;> walk_at "fe")
  | (apply f_Call (by walk_at "fp") <;> walk_at "fe") | (apply f_CallK (by walk_at "fp") <;> walk_at "fe")
  | (apply f_Tup <;> walk_at "fe") | (apply f_Lst <;> walk_at "fe") | (apply f_Isi <;> walk_at "fe") | (apply f_Isi2 <;> walk_at "fe")
  | (apply f_Sl <;> walk_at "fe") | (apply f_Part <;> walk_at "fe")
  | (apply f_And <;> walk_at "fe") | (apply f_Or <;> walk_at "fe") | (apply f_Not <;> walk_at "fe")
  | (apply f_AndV <;> walk_at "fe") | (apply f_OrV <;> walk_at "fe") | (apply f_NotV <;> walk_at "fe")
  | (apply f_If <;> walk_at "fe") | (apply f_Chain <;> walk_at "fe") | (apply f_Look <;> walk_at "fe") | (apply f_LookL <;> walk_at "fe") | (apply f_Rev <;> walk_at "fe")
  | (apply f_ISeq <;> walk_at "fe") | (apply f_IEn <;> walk_at "fe") | (apply f_IZ <;> walk_at "fe") | (apply f_IR1 <;> walk_at "fe") | (apply f_IR2 <;> walk_at "fe") | exact f_IKeys | exact f_IVals | exact f_IItems
  | (apply f_gTup <;> walk_at "fe") | (apply f_gCons <;> walk_at "fe") | (apply f_Lc <;> walk_at "fe")
  | (apply f_Disp <;> walk_at "fe") | (apply f_pCons <;> walk_at "fe")
  | (apply f_Seq <;> walk_at "fe") | (apply f_IfS <;> walk_at "fe") | (apply f_Ret <;> walk_at "fe") | exact f_Next | (apply f_Set <;> walk_at "fe") | (apply f_Par <;> walk_at "fe") | (apply f_Asg <;> walk_at "fe") | (apply f_Drop <;> walk_at "fe") | (apply f_Append <;> walk_at "fe") | (apply f_For <;> walk_at "fe"))
local macro_rules | `(tactic| walk_at "len") => `(tactic| first | (simp only [List.length_cons, List.length_nil]; decide) | assumption)
local macro_rules | `(tactic| walk_at "ev") => `(tactic| first
  | with_reducible assumption
  | ((with_reducible apply o2) <;> walk_at "ev") | ((with_reducible apply o1) <;> walk_at "ev") | ((with_reducible apply vCons_of) <;> walk_at "ev") | ((with_reducible apply o_cl) <;> walk_at "ev") | ((with_reducible apply o_call) <;> walk_at "ev")
  | ((with_reducible apply vTest_of) <;> walk_at "ev") | ((with_reducible apply o_tup) <;> first | walk_at "len" | walk_at "ev") | ((with_reducible apply o_lst) <;> first | walk_at "len" | walk_at "ev")
  | ((with_reducible apply vNot_t) <;> walk_at "ev") | ((with_reducible apply vNot_f) <;> walk_at "ev") | ((with_reducible apply vNot_of) <;> walk_at "ev") | ((with_reducible apply vIsi_of) <;> walk_at "ev") | ((with_reducible apply vNotV_of) <;> walk_at "ev") | ((with_reducible apply o_sl) <;> walk_at "ev") | ((with_reducible apply o_part) <;> walk_at "ev")
  | rfl)
local macro_rules | `(tactic| walk_at "we") => `(tactic| (apply w_exp; (case h => walk_at "fe"); (case e => walk_at "ev")))
local macro_rules | `(tactic| walk_at "wa") => `(tactic| (apply w_args; (case h => walk_at "fe"); (case e => walk_at "ev")))
local macro_rules | `(tactic| walk_at "wt") => `(tactic| (apply w_tst; (case h => walk_at "fe"); (case e => walk_at "ev")))
local macro_rules | `(tactic| walk_at "wi") => `(tactic| (apply w_it; (case h => walk_at "fe"); (case e => walk_at "ev")))
local macro_rules | `(tactic| walk_at "qs") => `(tactic| (apply q_set; (case h => walk_at "fe"); (case e => walk_at "ev")))
local macro_rules | `(tactic| walk_at "qn") => `(tactic| (apply q_no; (case h => walk_at "fe"); (case e => walk_at "ev")))
local macro_rules | `(tactic| walk_at "wr") => `(tactic| (apply w_ret; (case h => walk_at "fe"); (case e => walk_at "ev")))
local macro_rules | `(tactic| walk_at "sp") => `(tactic| (apply s_callP; (apply w_args; (case h => walk_at "fe"); (case e => walk_at "ev"))))
end RC
end
section
namespace RC
open PySem PySem.Spec L2 RR
open PyProof.Rows hiding St cutD
end RC
end
section
namespace RC
open PySem PySem.Spec L2 RR
open PyProof.Rows hiding St cutD
local macro_rules | `(tactic| walk_at "fp") => `(tactic| with_reducible first | exact fp_places | exact fp_misfits | exact fp_served | exact fp_grown | exact fp_shows_chain | exact fp__law_jumps | exact fp__law_size)
local macro_rules | `(tactic| walk_at "fe") => `(tactic| with_reducible first
  | exact f_Var | exact f_C | exact f_Nil | exact f_Dict0 | exact f_NoPart | exact f_Yes | exact f_gName | exact f_gNil | exact f_pNil
  | (apply f_Cl <;> walk_at "fe") | (apply f_Op <;> walk_at "fe") | (apply f_Un <;> walk_at "fe") | (apply f_Cons <;> walk_at "fe")
  | (apply f_Test <;> walk_at "fe") | (apply f_Tru <;> walk_at "fe")
  | (apply f_Call (by walk_at "fp") <;> walk_at "fe") | (apply f_CallK (by walk_at "fp") <;> walk_at "fe")
  | (apply f_Tup <;> walk_at "fe") | (apply f_Lst <;> walk_at "fe") | (apply f_Isi <;> walk_at "fe") | (apply f_Isi2 <;> walk_at "fe")
  | (apply f_Sl <;> walk_at "fe") | (apply f_Part <;> walk_at "fe")
  | (apply f_And <;> walk_at "fe") | (apply f_Or <;> walk_at "fe") | (apply f_Not <;> walk_at "fe")
  | (apply f_AndV <;> walk_at "fe") | (apply f_OrV <;> walk_at "fe") | (apply f_NotV <;> walk_at "fe")
  | (apply f_If <;> walk_at "fe") | (apply f_Chain <;> walk_at "fe") | (apply f_Look <;> walk_at "fe") | (apply f_LookL <;> walk_at "fe") | (apply f_Rev <;> walk_at "fe")
  | (apply f_ISeq <;> walk_at "fe") | (apply f_IEn <;> walk_at "fe") | (apply f_IZ <;> walk_at "fe") | (apply f_IR1 <;> walk_at "fe") | (apply f_IR2 <;> walk_at "fe") | exact f_IKeys | exact f_IVals | exact f_IItems
  | (apply f_gTup <;> walk_at "fe") | (apply f_gCons <;> walk_at "fe") | (apply f_Lc <;> walk_at "fe")
  | (apply f_Disp <;> walk_at "fe") | (apply f_pCons <;> walk_at "fe")
  | (apply f_Seq <;> walk_at "fe") | (apply f_IfS <;> walk_at "fe") | (apply f_Ret <;> walk_at "fe") | exact f_Next | (apply f_Set <;> walk_at "fe") | (apply f_Par <;> walk_at "fe") | (apply f_Asg <;> walk_at "fe") | (apply f_Drop <;> walk_at "fe") | (apply f_Append <;> walk_at "fe") | (apply f_For <;> walk_at "fe"))
local macro_rules | `(tactic| walk_at "len") => `(tactic| first | (simp only [List.length_cons, List.length_nil]; decide) | assumption)
local macro_rules | `(tactic| walk_at "ev") => `(tactic| first
  | with_reducible assumption
  | ((with_reducible apply o2) <;> walk_at "ev") | ((with_reducible apply o1) <;> walk_at "ev") | ((with_reducible apply vCons_of) <;> walk_at "ev") | ((with_reducible apply o_cl) <;> walk_at "ev") | ((with_reducible apply o_call) <;> walk_at "ev")
  | ((with_reducible apply vTest_of) <;> walk_at "ev") | ((with_reducible apply o_tup) <;> first | walk_at "len" | walk_at "ev") | ((with_reducible apply o_lst) <;> first | walk_at "len" | walk_at "ev")
  | ((with_reducible apply vNot_of) <;> walk_at "ev") | ((with_reducible apply vIsi_of) <;> walk_at "ev") | ((with_reducible apply vNotV_of) <;> walk_at "ev") | ((with_reducible apply o_sl) <;> walk_at "ev") | ((with_reducible apply o_part) <;> walk_at "ev")
  | rfl)
local macro_rules | `(tactic| walk_at "we") => `(tactic| (apply w_exp; (case h => walk_at "fe"); (case e => walk_at "ev")))
local macro_rules | `(tactic| walk_at "wa") => `(tactic| (apply w_args; (case h => walk_at "fe"); (case e => walk_at "ev")))
local macro_rules | `(tactic| walk_at "wt") => `(tactic| (apply w_tst; (case h => walk_at "fe"); (case e => walk_at "ev")))
local macro_rules | `(tactic| walk_at "wi") => `(tactic| (apply w_it; (case h => walk_at "fe"); (case e => walk_at "ev")))
local macro_rules | `(tactic| walk_at "qs") => `(tactic| (apply q_set; (case h => walk_at "fe"); (case e => walk_at "ev")))
local macro_rules | `(tactic| walk_at "qn") => `(tactic| (apply q_no; (case h => walk_at "fe"); (case e => walk_at "ev")))
local macro_rules | `(tactic| walk_at "wr") => `(tactic| (apply w_ret; (case h => walk_at "fe"); (case e => walk_at "ev")))
local macro_rules | `(tactic| walk_at "sp") => `(tactic| (apply s_callP; (apply w_args; (case h => walk_at "fe"); (case e => walk_at "ev"))))
theorem dGt_int (i j : Int) : dGt (.int i) (.int j) = some (.bool (decide (j < i))) := rfl
end RC
end
section
namespace RC
open PySem PySem.Spec L2 RR
open PyProof.Rows hiding St cutD
end RC
end
section
namespace RC
open PySem PySem.Spec L2 RR
open PyProof.Rows hiding St cutD
end RC
end
section
namespace RC
open PySem PySem.Spec L2 RR
open PyProof.Rows hiding St cutD
end RC
end
section
namespace RC
open PySem PySem.Spec L2 RR
open PyProof.Rows hiding St cutD
local macro_rules | `(tactic| walk_at "fp") => `(tactic| with_reducible first | exact fp__law_laid | exact fp__law_places_v2 | exact fp__law_misfits_v2 | exact fp__law_jumps_v2 | exact fp__law_least | exact fp_laid | exact fp_least | exact fp_bar)
local macro_rules | `(tactic| walk_at "fe") => `(tactic| with_reducible first
  | exact f_Var | exact f_C | exact f_Nil | exact f_Dict0 | exact f_NoPart | exact f_Yes | exact f_gName | exact f_gNil | exact f_pNil
  | (apply f_Cl <;> walk_at "fe") | (apply f_Op <;> walk_at "fe") | (apply f_Un <;> walk_at "fe") | (apply f_Cons <;> walk_at "fe")
  | (apply f_Test <;> walk_at "fe") | (apply f_Tru <;> walk_at "fe")
  | (apply f_Call (by walk_at "fp") <;> walk_at "fe") | (apply f_CallK (by walk_at "fp") <;> walk_at "fe")
  | (apply f_Tup <;> walk_at "fe") | (apply f_Lst <;> walk_at "fe") | (apply f_Isi <;> walk_at "fe") | (apply f_Isi2 <;> walk_at "fe")
  | (apply f_Sl <;> walk_at "fe") | (apply f_Part <;> walk_at "fe")
  | (apply f_And <;> walk_at "fe") | (apply f_Or <;> walk_at "fe") | (apply f_Not <;> walk_at "fe")
  | (apply f_AndV <;> walk_at "fe") | (apply f_OrV <;> walk_at "fe") | (apply f_NotV <;> walk_at "fe")
  | (apply f_If <;> walk_at "fe") | (apply f_Chain <;> walk_at "fe") | (apply f_Look <;> walk_at "fe") | (apply f_LookL <;> walk_at "fe") | (apply f_Rev <;> walk_at "fe")
  | (apply f_ISeq <;> walk_at "fe") | (apply f_IEn <;> walk_at "fe") | (apply f_IZ <;> walk_at "fe") | (apply f_IR1 <;> walk_at "fe") | (apply f_IR2 <;> walk_at "fe") | exact f_IKeys | exact f_IVals | exact f_IItems
  | (apply f_gTup <;> walk_at "fe") | (apply f_gCons <;> walk_at "fe") | (apply f_Lc <;> walk_at "fe")
  | (apply f_Disp <;> walk_at "fe") | (apply f_pCons <;> walk_at "fe")
  | (apply f_Seq <;> walk_at "fe") | (apply f_IfS <;> walk_at "fe") | (apply f_Ret <;> walk_at "fe") | exact f_Next | (apply f_Set <;> walk_at "fe") | (apply f_Par <;> walk_at "fe") | (apply f_Asg <;> walk_at "fe") | (apply f_Drop <;> walk_at "fe") | (apply f_Append <;> walk_at "fe") | (apply f_For <;> walk_at "fe"))
local macro_rules | `(tactic| walk_at "len") => `(tactic| first | (simp only [List.length_cons, List.length_nil]; decide) | assumption)
local macro_rules | `(tactic| walk_at "ev") => `(tactic| first
  | with_reducible assumption
  | ((with_reducible apply o2) <;> walk_at "ev") | ((with_reducible apply o1) <;> walk_at "ev") | ((with_reducible apply vCons_of) <;> walk_at "ev") | ((with_reducible apply o_cl) <;> walk_at "ev") | ((with_reducible apply o_call) <;> walk_at "ev")
  | ((with_reducible apply vTest_of) <;> walk_at "ev") | ((with_reducible apply o_tup) <;> first | walk_at "len" | walk_at "ev") | ((with_reducible apply o_lst) <;> first | walk_at "len" | walk_at "ev")
  | ((with_reducible apply vNot_t) <;> walk_at "ev") | ((with_reducible apply vNot_f) <;> walk_at "ev") | ((with_reducible apply vNot_of) <;> walk_at "ev") | ((with_reducible apply vIsi_of) <;> walk_at "ev") | ((with_reducible apply vNotV_of) <;> walk_at "ev") | ((with_reducible apply o_sl) <;> walk_at "ev") | ((with_reducible apply o_part) <;> walk_at "ev")
  | rfl)
local macro_rules | `(tactic| walk_at "we") => `(tactic| (apply w_exp; (case h => walk_at "fe"); (case e => walk_at "ev")))
local macro_rules | `(tactic| walk_at "wa") => `(tactic| (apply w_args; (case h => walk_at "fe"); (case e => walk_at "ev")))
local macro_rules | `(tactic| walk_at "wt") => `(tactic| (apply w_tst; (case h => walk_at "fe"); (case e => walk_at "ev")))
local macro_rules | `(tactic| walk_at "wi") => `(tactic| (apply w_it; (case h => walk_at "fe"); (case e => walk_at "ev")))
local macro_rules | `(tactic| walk_at "qs") => `(tactic| (apply q_set; (case h => walk_at "fe"); (case e => walk_at "ev")))
local macro_rules | `(tactic| walk_at "qn") => `(tactic| (apply q_no; (case h => walk_at "fe"); (case e => walk_at "ev")))
local macro_rules | `(tactic| walk_at "wr") => `(tactic| (apply w_ret; (case h => walk_at "fe"); (case e => walk_at "ev")))
local macro_rules | `(tactic| walk_at "sp") => `(tactic| (apply s_callP; (apply w_args; (case h => walk_at "fe"); (case e => walk_at "ev"))))
end RC
end
section
namespace RC
open PySem PySem.Spec L2 RR
open PyProof.Rows hiding St cutD
end RC
end
section
namespace RC
open PySem PySem.Spec L2 RR
open PyProof.Rows hiding St cutD
end RC
end
section
namespace RC
open PySem PySem.Spec L2 RR
open PyProof.Rows hiding St cutD
local macro_rules | `(tactic| walk_at "fp") => `(tactic| with_reducible first | exact fp_growth | exact fp_is_part)
local macro_rules | `(tactic| walk_at "fe") => `(tactic| with_reducible first
  | exact f_Var | exact f_C | exact f_Nil | exact f_Dict0 | exact f_NoPart | exact f_Yes | exact f_gName | exact f_gNil | exact f_pNil
  | (apply f_Cl <;> walk_at "fe") | (apply f_Op <;> walk_at "fe") | (apply f_Un <;> walk_at "fe") | (apply f_Cons <;> walk_at "fe")
  | (apply f_Test <;> walk_at "fe") | (apply f_Tru <;> walk_at "fe")
  | (apply f_Call (by walk_at "fp") <;> walk_at "fe") | (apply f_CallK (by walk_at "fp") <;> walk_at "fe")
  | (apply f_Tup <;> walk_at "fe") | (apply f_Lst <;> walk_at "fe") | (apply f_Isi <;> walk_at "fe") | (apply f_Isi2 <;> walk_at "fe")
  | (apply f_Sl <;> walk_at "fe") | (apply f_Part <;> walk_at "fe")
  | (apply f_And <;> walk_at "fe") | (apply f_Or <;> walk_at "fe") | (apply f_Not <;> walk_at "fe")
  | (apply f_AndV <;> walk_at "fe") | (apply f_OrV <;> walk_at "fe") | (apply f_NotV <;> walk_at "fe")
  | (apply f_If <;> walk_at "fe") | (apply f_Chain <;> walk_at "fe") | (apply f_Look <;> walk_at "fe") | (apply f_LookL <;> walk_at "fe") | (apply f_Rev <;> walk_at "fe")
  | (apply f_ISeq <;> walk_at "fe") | (apply f_IEn <;> walk_at "fe") | (apply f_IZ <;> walk_at "fe") | (apply f_IR1 <;> walk_at "fe") | (apply f_IR2 <;> walk_at "fe") | exact f_IKeys | exact f_IVals | exact f_IItems
  | (apply f_gTup <;> walk_at "fe") | (apply f_gCons <;> walk_at "fe") | (apply f_Lc <;> walk_at "fe")
  | (apply f_Disp <;> walk_at "fe") | (apply f_pCons <;> walk_at "fe")
  | (apply f_Seq <;> walk_at "fe") | (apply f_IfS <;> walk_at "fe") | (apply f_Ret <;> walk_at "fe") | exact f_Next | (apply f_Set <;> walk_at "fe") | (apply f_Par <;> walk_at "fe") | (apply f_Asg <;> walk_at "fe") | (apply f_Drop <;> walk_at "fe") | (apply f_Append <;> walk_at "fe") | (apply f_For <;> walk_at "fe"))
local macro_rules | `(tactic| walk_at "len") => `(tactic| first | (simp only [List.length_cons, List.length_nil]; decide) | assumption)
local macro_rules | `(tactic| walk_at "ev") => `(tactic| first
  | with_reducible assumption
  | ((with_reducible apply o2) <;> walk_at "ev") | ((with_reducible apply o1) <;> walk_at "ev") | ((with_reducible apply vCons_of) <;> walk_at "ev") | ((with_reducible apply o_cl) <;> walk_at "ev") | ((with_reducible apply o_call) <;> walk_at "ev")
  | ((with_reducible apply vTest_of) <;> walk_at "ev") | ((with_reducible apply o_tup) <;> first | walk_at "len" | walk_at "ev") | ((with_reducible apply o_lst) <;> first | walk_at "len" | walk_at "ev")
  | ((with_reducible apply vNot_t) <;> walk_at "ev") | ((with_reducible apply vNot_f) <;> walk_at "ev") | ((with_reducible apply vNot_of) <;> walk_at "ev") | ((with_reducible apply vIsi_of) <;> walk_at "ev") | ((with_reducible apply vNotV_of) <;> walk_at "ev") | ((with_reducible apply o_sl) <;> walk_at "ev") | ((with_reducible apply o_part) <;> walk_at "ev")
  | rfl)
local macro_rules | `(tactic| walk_at "we") => `(tactic| (apply w_exp; (case h => walk_at "fe"); (case e => walk_at "ev")))
local macro_rules | `(tactic| walk_at "wa") => `(tactic| (apply w_args; (case h => walk_at "fe"); (case e => walk_at "ev")))
local macro_rules | `(tactic| walk_at "wt") => `(tactic| (apply w_tst; (case h => walk_at "fe"); (case e => walk_at "ev")))
local macro_rules | `(tactic| walk_at "wi") => `(tactic| (apply w_it; (case h => walk_at "fe"); (case e => walk_at "ev")))
local macro_rules | `(tactic| walk_at "qs") => `(tactic| (apply q_set; (case h => walk_at "fe"); (case e => walk_at "ev")))
local macro_rules | `(tactic| walk_at "qn") => `(tactic| (apply q_no; (case h => walk_at "fe"); (case e => walk_at "ev")))
local macro_rules | `(tactic| walk_at "wr") => `(tactic| (apply w_ret; (case h => walk_at "fe"); (case e => walk_at "ev")))
local macro_rules | `(tactic| walk_at "sp") => `(tactic| (apply s_callP; (apply w_args; (case h => walk_at "fe"); (case e => walk_at "ev"))))
end RC
end
section
namespace RC
open PySem PySem.Spec L2 RR
open PyProof.Rows hiding St cutD
local macro_rules | `(tactic| walk_at "fp") => `(tactic| with_reducible first | exact fp_growth | exact fp_is_part)
local macro_rules | `(tactic| walk_at "fe") => `(tactic| with_reducible first
  | exact f_Var | exact f_C | exact f_Nil | exact f_Dict0 | exact f_NoPart | exact f_Yes | exact f_gName | exact f_gNil | exact f_pNil
  | (apply f_Cl <;> walk_at "fe") | (apply f_Op <;> walk_at "fe") | (apply f_Un <;> walk_at "fe") | (apply f_Cons <;> walk_at "fe")
  | (apply f_Test <;> walk_at "fe") | (apply f_Tru <;> walk_at "fe")
  | (apply f_Call (by walk_at "fp") <;> walk_at "fe") | (apply f_CallK (by walk_at "fp") <;> walk_at "fe")
  | (apply f_Tup <;> walk_at "fe") | (apply f_Lst <;> walk_at "fe") | (apply f_Isi <;> walk_at "fe") | (apply f_Isi2 <;> walk_at "fe")
  | (apply f_Sl <;> walk_at "fe") | (apply f_Part <;> walk_at "fe")
  | (apply f_And <;> walk_at "fe") | (apply f_Or <;> walk_at "fe") | (apply f_Not <;> walk_at "fe")
  | (apply f_AndV <;> walk_at "fe") | (apply f_OrV <;> walk_at "fe") | (apply f_NotV <;> walk_at "fe")
  | (apply f_If <;> walk_at "fe") | (apply f_Chain <;> walk_at "fe") | (apply f_Look <;> walk_at "fe") | (apply f_LookL <;> walk_at "fe") | (apply f_Rev <;> walk_at "fe")
  | (apply f_ISeq <;> walk_at "fe") | (apply f_IEn <;> walk_at "fe") | (apply f_IZ <;> walk_at "fe") | (apply f_IR1 <;> walk_at "fe") | (apply f_IR2 <;> walk_at "fe") | exact f_IKeys | exact f_IVals | exact f_IItems
  | (apply f_gTup <;> walk_at "fe") | (apply f_gCons <;> walk_at "fe") | (apply f_Lc <;> walk_at "fe")
  | (apply f_Disp <;> walk_at "fe") | (apply f_pCons <;> walk_at "fe")
  | (apply f_Seq <;> walk_at "fe") | (apply f_IfS <;> walk_at "fe") | (apply f_Ret <;> walk_at "fe") | exact f_Next | (apply f_Set <;> walk_at "fe") | (apply f_Par <;> walk_at "fe") | (apply f_Asg <;> walk_at "fe") | (apply f_Drop <;> walk_at "fe") | (apply f_Append <;> walk_at "fe") | (apply f_For <;> walk_at "fe"))
local macro_rules | `(tactic| walk_at "len") => `(tactic| first | (simp only [List.length_cons, List.length_nil]; decide) | assumption)
local macro_rules | `(tactic| walk_at "ev") => `(tactic| first
  | with_reducible assumption
  | ((with_reducible apply o2) <;> walk_at "ev") | ((with_reducible apply o1) <;> walk_at "ev") | ((with_reducible apply vCons_of) <;> walk_at "ev") | ((with_reducible apply o_cl) <;> walk_at "ev") | ((with_reducible apply o_call) <;> walk_at "ev")
  | ((with_reducible apply vTest_of) <;> walk_at "ev") | ((with_reducible apply o_tup) <;> first | walk_at "len" | walk_at "ev") | ((with_reducible apply o_lst) <;> first | walk_at "len" | walk_at "ev")
  | ((with_reducible apply vNot_t) <;> walk_at "ev") | ((with_reducible apply vNot_f) <;> walk_at "ev") | ((with_reducible apply vNot_of) <;> walk_at "ev") | ((with_reducible apply vIsi_of) <;> walk_at "ev") | ((with_reducible apply vNotV_of) <;> walk_at "ev") | ((with_reducible apply o_sl) <;> walk_at "ev") | ((with_reducible apply o_part) <;> walk_at "ev")
  | rfl)
local macro_rules | `(tactic| walk_at "we") => `(tactic| (apply w_exp; (case h => walk_at "fe"); (case e => walk_at "ev")))
local macro_rules | `(tactic| walk_at "wa") => `(tactic| (apply w_args; (case h => walk_at "fe"); (case e => walk_at "ev")))
local macro_rules | `(tactic| walk_at "wt") => `(tactic| (apply w_tst; (case h => walk_at "fe"); (case e => walk_at "ev")))
local macro_rules | `(tactic| walk_at "wi") => `(tactic| (apply w_it; (case h => walk_at "fe"); (case e => walk_at "ev")))
local macro_rules | `(tactic| walk_at "qs") => `(tactic| (apply q_set; (case h => walk_at "fe"); (case e => walk_at "ev")))
local macro_rules | `(tactic| walk_at "qn") => `(tactic| (apply q_no; (case h => walk_at "fe"); (case e => walk_at "ev")))
local macro_rules | `(tactic| walk_at "wr") => `(tactic| (apply w_ret; (case h => walk_at "fe"); (case e => walk_at "ev")))
local macro_rules | `(tactic| walk_at "sp") => `(tactic| (apply s_callP; (apply w_args; (case h => walk_at "fe"); (case e => walk_at "ev"))))
end RC
end
section
namespace RC
open PySem PySem.Spec L2 RR
open PyProof.Rows hiding St cutD
local macro_rules | `(tactic| walk_at "fp") => `(tactic| with_reducible first | exact fp_growth | exact fp_is_part)
local macro_rules | `(tactic| walk_at "fe") => `(tactic| with_reducible first
  | exact f_Var | exact f_C | exact f_Nil | exact f_Dict0 | exact f_NoPart | exact f_Yes | exact f_gName | exact f_gNil | exact f_pNil
  | (apply f_Cl <;> walk_at "fe") | (apply f_Op <;> walk_at "fe") | (apply f_Un <;> walk_at "fe") | (apply f_Cons <;> walk_at "fe")
  | (apply f_Test <;> walk_at "fe") | (apply f_Tru <;> walk_at "fe")
  | (apply f_Call (by walk_at "fp") <;> walk_at "fe") | (apply f_CallK (by walk_at "fp") <;> walk_at "fe")
  | (apply f_Tup <;> walk_at "fe") | (apply f_Lst <;> walk_at "fe") | (apply f_Isi <;> walk_at "fe") | (apply f_Isi2 <;> walk_at "fe")
  | (apply f_Sl <;> walk_at "fe") | (apply f_Part <;> walk_at "fe")
  | (apply f_And <;> walk_at "fe") | (apply f_Or <;> walk_at "fe") | (apply f_Not <;> walk_at "fe")
  | (apply f_AndV <;> walk_at "fe") | (apply f_OrV <;> walk_at "fe") | (apply f_NotV <;> walk_at "fe")
  | (apply f_If <;> walk_at "fe") | (apply f_Chain <;> walk_at "fe") | (apply f_Look <;> walk_at "fe") | (apply f_LookL <;> walk_at "fe") | (apply f_Rev <;> walk_at "fe")
  | (apply f_ISeq <;> walk_at "fe") | (apply f_IEn <;> walk_at "fe") | (apply f_IZ <;> walk_at "fe") | (apply f_IR1 <;> walk_at "fe") | (apply f_IR2 <;> walk_at "fe") | exact f_IKeys | exact f_IVals | exact f_IItems
  | (apply f_gTup <;> walk_at "fe") | (apply f_gCons <;> walk_at "fe") | (apply f_Lc <;> walk_at "fe")
  | (apply f_Disp <;> walk_at "fe") | (apply f_pCons <;> walk_at "fe")
  | (apply f_Seq <;> walk_at "fe") | (apply f_IfS <;> walk_at "fe") | (apply f_Ret <;> walk_at "fe") | exact f_Next | (apply f_Set <;> walk_at "fe") | (apply f_Par <;> walk_at "fe") | (apply f_Asg <;> walk_at "fe") | (apply f_Drop <;> walk_at "fe") | (apply f_Append <;> walk_at "fe") | (apply f_For <;> walk_at "fe"))
local macro_rules | `(tactic| walk_at "len") => `(tactic| first | (simp only [List.length_cons, List.length_nil]; decide) | assumption)
local macro_rules | `(tactic| walk_at "ev") => `(tactic| first
  | with_reducible assumption
  | ((with_reducible apply o2) <;> walk_at "ev") | ((with_reducible apply o1) <;> walk_at "ev") | ((with_reducible apply vCons_of) <;> walk_at "ev") | ((with_reducible apply o_cl) <;> walk_at "ev") | ((with_reducible apply o_call) <;> walk_at "ev")
  | ((with_reducible apply vTest_of) <;> walk_at "ev") | ((with_reducible apply o_tup) <;> first | walk_at "len" | walk_at "ev") | ((with_reducible apply o_lst) <;> first | walk_at "len" | walk_at "ev")
  | ((with_reducible apply vNot_t) <;> walk_at "ev") | ((with_reducible apply vNot_f) <;> walk_at "ev") | ((with_reducible apply vNot_of) <;> walk_at "ev") | ((with_reducible apply vIsi_of) <;> walk_at "ev") | ((with_reducible apply vNotV_of) <;> walk_at "ev") | ((with_reducible apply o_sl) <;> walk_at "ev") | ((with_reducible apply o_part) <;> walk_at "ev")
  | rfl)
local macro_rules | `(tactic| walk_at "we") => `(tactic| (apply w_exp; (case h => walk_at "fe"); (case e => walk_at "ev")))
local macro_rules | `(tactic| walk_at "wa") => `(tactic| (apply w_args; (case h => walk_at "fe"); (case e => walk_at "ev")))
local macro_rules | `(tactic| walk_at "wt") => `(tactic| (apply w_tst; (case h => walk_at "fe"); (case e => walk_at "ev")))
local macro_rules | `(tactic| walk_at "wi") => `(tactic| (apply w_it; (case h => walk_at "fe"); (case e => walk_at "ev")))
local macro_rules | `(tactic| walk_at "qs") => `(tactic| (apply q_set; (case h => walk_at "fe"); (case e => walk_at "ev")))
local macro_rules | `(tactic| walk_at "qn") => `(tactic| (apply q_no; (case h => walk_at "fe"); (case e => walk_at "ev")))
local macro_rules | `(tactic| walk_at "wr") => `(tactic| (apply w_ret; (case h => walk_at "fe"); (case e => walk_at "ev")))
local macro_rules | `(tactic| walk_at "sp") => `(tactic| (apply s_callP; (apply w_args; (case h => walk_at "fe"); (case e => walk_at "ev"))))
end RC
end
section
namespace RC
open PySem PySem.Spec L2 RR
open PyProof.Rows hiding St cutD
local macro_rules | `(tactic| walk_at "fp") => `(tactic| with_reducible first | exact fp_growth | exact fp_is_part | exact fp_twin_of | exact fp_with_part | exact fp_opens | exact fp_is_book | exact fp_is_part_number | exact fp_is_within)
local macro_rules | `(tactic| walk_at "fe") => `(tactic| with_reducible first
  | exact f_Var | exact f_C | exact f_Nil | exact f_Dict0 | exact f_NoPart | exact f_Yes | exact f_gName | exact f_gNil | exact f_pNil
  | (apply f_Cl <;> walk_at "fe") | (apply f_Op <;> walk_at "fe") | (apply f_Un <;> walk_at "fe") | (apply f_Cons <;> walk_at "fe")
  | (apply f_Test <;> walk_at "fe") | (apply f_Tru <;> walk_at "fe")
  | (apply f_Call (by walk_at "fp") <;> walk_at "fe") | (apply f_CallK (by walk_at "fp") <;> walk_at "fe")
  | (apply f_Tup <;> walk_at "fe") | (apply f_Lst <;> walk_at "fe") | (apply f_Isi <;> walk_at "fe") | (apply f_Isi2 <;> walk_at "fe")
  | (apply f_Sl <;> walk_at "fe") | (apply f_Part <;> walk_at "fe")
  | (apply f_And <;> walk_at "fe") | (apply f_Or <;> walk_at "fe") | (apply f_Not <;> walk_at "fe")
  | (apply f_AndV <;> walk_at "fe") | (apply f_OrV <;> walk_at "fe") | (apply f_NotV <;> walk_at "fe")
  | (apply f_If <;> walk_at "fe") | (apply f_Chain <;> walk_at "fe") | (apply f_Look <;> walk_at "fe") | (apply f_LookL <;> walk_at "fe") | (apply f_Rev <;> walk_at "fe")
  | (apply f_ISeq <;> walk_at "fe") | (apply f_IEn <;> walk_at "fe") | (apply f_IZ <;> walk_at "fe") | (apply f_IR1 <;> walk_at "fe") | (apply f_IR2 <;> walk_at "fe") | exact f_IKeys | exact f_IVals | exact f_IItems
  | (apply f_gTup <;> walk_at "fe") | (apply f_gCons <;> walk_at "fe") | (apply f_Lc <;> walk_at "fe")
  | (apply f_Disp <;> walk_at "fe") | (apply f_pCons <;> walk_at "fe")
  | (apply f_Seq <;> walk_at "fe") | (apply f_IfS <;> walk_at "fe") | (apply f_Ret <;> walk_at "fe") | exact f_Next | (apply f_Set <;> walk_at "fe") | (apply f_Par <;> walk_at "fe") | (apply f_Asg <;> walk_at "fe") | (apply f_Drop <;> walk_at "fe") | (apply f_Append <;> walk_at "fe") | (apply f_For <;> walk_at "fe"))
local macro_rules | `(tactic| walk_at "len") => `(tactic| first | (simp only [List.length_cons, List.length_nil]; decide) | assumption)
local macro_rules | `(tactic| walk_at "ev") => `(tactic| first
  | with_reducible assumption
  | ((with_reducible apply o2) <;> walk_at "ev") | ((with_reducible apply o1) <;> walk_at "ev") | ((with_reducible apply vCons_of) <;> walk_at "ev") | ((with_reducible apply o_cl) <;> walk_at "ev") | ((with_reducible apply o_call) <;> walk_at "ev")
  | ((with_reducible apply vTest_of) <;> walk_at "ev") | ((with_reducible apply o_tup) <;> first | walk_at "len" | walk_at "ev") | ((with_reducible apply o_lst) <;> first | walk_at "len" | walk_at "ev")
  | ((with_reducible apply vNot_t) <;> walk_at "ev") | ((with_reducible apply vNot_f) <;> walk_at "ev") | ((with_reducible apply vNot_of) <;> walk_at "ev") | ((with_reducible apply vIsi_of) <;> walk_at "ev") | ((with_reducible apply vNotV_of) <;> walk_at "ev") | ((with_reducible apply o_sl) <;> walk_at "ev") | ((with_reducible apply o_part) <;> walk_at "ev")
  | rfl)
local macro_rules | `(tactic| walk_at "we") => `(tactic| (apply w_exp; (case h => walk_at "fe"); (case e => walk_at "ev")))
local macro_rules | `(tactic| walk_at "wa") => `(tactic| (apply w_args; (case h => walk_at "fe"); (case e => walk_at "ev")))
local macro_rules | `(tactic| walk_at "wt") => `(tactic| (apply w_tst; (case h => walk_at "fe"); (case e => walk_at "ev")))
local macro_rules | `(tactic| walk_at "wi") => `(tactic| (apply w_it; (case h => walk_at "fe"); (case e => walk_at "ev")))
local macro_rules | `(tactic| walk_at "qs") => `(tactic| (apply q_set; (case h => walk_at "fe"); (case e => walk_at "ev")))
local macro_rules | `(tactic| walk_at "qn") => `(tactic| (apply q_no; (case h => walk_at "fe"); (case e => walk_at "ev")))
local macro_rules | `(tactic| walk_at "wr") => `(tactic| (apply w_ret; (case h => walk_at "fe"); (case e => walk_at "ev")))
local macro_rules | `(tactic| walk_at "sp") => `(tactic| (apply s_callP; (apply w_args; (case h => walk_at "fe"); (case e => walk_at "ev"))))
end RC
end
section
namespace RC
open PySem PySem.Spec L2 RR
open PyProof.Rows hiding St cutD
local macro_rules | `(tactic| walk_at "fp") => `(tactic| with_reducible first | exact fp__law_w_shifted | exact fp_is_book | exact fp_run_book | exact fp_opens | exact fp_twin | exact fp_has_door)
local macro_rules | `(tactic| walk_at "fe") => `(tactic| with_reducible first
  | exact f_Var | exact f_C | exact f_Nil | exact f_Dict0 | exact f_NoPart | exact f_Yes | exact f_gName | exact f_gNil | exact f_pNil
  | (apply f_Cl <;> walk_at "fe") | (apply f_Op <;> walk_at "fe") | (apply f_Un <;> walk_at "fe") | (apply f_Cons <;> walk_at "fe")
  | (apply f_Test <;> walk_at "fe") | (apply f_Tru <;> walk_at "fe")
  | (apply f_Call (by walk_at "fp") <;> walk_at "fe") | (apply f_CallK (by walk_at "fp") <;> walk_at "fe")
  | (apply f_Tup <;> walk_at "fe") | (apply f_Lst <;> walk_at "fe") | (apply f_Isi <;> walk_at "fe") | (apply f_Isi2 <;> walk_at "fe")
  | (apply f_Sl <;> walk_at "fe") | (apply f_Part <;> walk_at "fe")
  | (apply f_And <;> walk_at "fe") | (apply f_Or <;> walk_at "fe") | (apply f_Not <;> walk_at "fe")
  | (apply f_AndV <;> walk_at "fe") | (apply f_OrV <;> walk_at "fe") | (apply f_NotV <;> walk_at "fe")
  | (apply f_If <;> walk_at "fe") | (apply f_Chain <;> walk_at "fe") | (apply f_Look <;> walk_at "fe") | (apply f_LookL <;> walk_at "fe") | (apply f_Rev <;> walk_at "fe")
  | (apply f_ISeq <;> walk_at "fe") | (apply f_IEn <;> walk_at "fe") | (apply f_IZ <;> walk_at "fe") | (apply f_IR1 <;> walk_at "fe") | (apply f_IR2 <;> walk_at "fe") | exact f_IKeys | exact f_IVals | exact f_IItems
  | (apply f_gTup <;> walk_at "fe") | (apply f_gCons <;> walk_at "fe") | (apply f_Lc <;> walk_at "fe")
  | (apply f_Disp <;> walk_at "fe") | (apply f_pCons <;> walk_at "fe")
  | (apply f_Seq <;> walk_at "fe") | (apply f_IfS <;> walk_at "fe") | (apply f_Ret <;> walk_at "fe") | exact f_Next | (apply f_Set <;> walk_at "fe") | (apply f_Par <;> walk_at "fe") | (apply f_Asg <;> walk_at "fe") | (apply f_Drop <;> walk_at "fe") | (apply f_Append <;> walk_at "fe") | (apply f_For <;> walk_at "fe"))
local macro_rules | `(tactic| walk_at "len") => `(tactic| first | (simp only [List.length_cons, List.length_nil]; decide) | assumption)
local macro_rules | `(tactic| walk_at "ev") => `(tactic| first
  | with_reducible assumption
  | ((with_reducible apply o2) <;> walk_at "ev") | ((with_reducible apply o1) <;> walk_at "ev") | ((with_reducible apply vCons_of) <;> walk_at "ev") | ((with_reducible apply o_cl) <;> walk_at "ev") | ((with_reducible apply o_call) <;> walk_at "ev")
  | ((with_reducible apply vTest_of) <;> walk_at "ev") | ((with_reducible apply o_tup) <;> first | walk_at "len" | walk_at "ev") | ((with_reducible apply o_lst) <;> first | walk_at "len" | walk_at "ev")
  | ((with_reducible apply vNot_t) <;> walk_at "ev") | ((with_reducible apply vNot_f) <;> walk_at "ev") | ((with_reducible apply vNot_of) <;> walk_at "ev") | ((with_reducible apply vIsi_of) <;> walk_at "ev") | ((with_reducible apply vNotV_of) <;> walk_at "ev") | ((with_reducible apply o_sl) <;> walk_at "ev") | ((with_reducible apply o_part) <;> walk_at "ev")
  | rfl)
local macro_rules | `(tactic| walk_at "we") => `(tactic| (apply w_exp; (case h => walk_at "fe"); (case e => walk_at "ev")))
local macro_rules | `(tactic| walk_at "wa") => `(tactic| (apply w_args; (case h => walk_at "fe"); (case e => walk_at "ev")))
local macro_rules | `(tactic| walk_at "wt") => `(tactic| (apply w_tst; (case h => walk_at "fe"); (case e => walk_at "ev")))
local macro_rules | `(tactic| walk_at "wi") => `(tactic| (apply w_it; (case h => walk_at "fe"); (case e => walk_at "ev")))
local macro_rules | `(tactic| walk_at "qs") => `(tactic| (apply q_set; (case h => walk_at "fe"); (case e => walk_at "ev")))
local macro_rules | `(tactic| walk_at "qn") => `(tactic| (apply q_no; (case h => walk_at "fe"); (case e => walk_at "ev")))
local macro_rules | `(tactic| walk_at "wr") => `(tactic| (apply w_ret; (case h => walk_at "fe"); (case e => walk_at "ev")))
local macro_rules | `(tactic| walk_at "sp") => `(tactic| (apply s_callP; (apply w_args; (case h => walk_at "fe"); (case e => walk_at "ev"))))
end RC
end
section
namespace RC
open PySem PySem.Spec L2 RR
open PyProof.Rows hiding St cutD
local macro_rules | `(tactic| walk_at "fp") => `(tactic| with_reducible first | exact fp_growth | exact fp_is_part | exact fp_twin_of | exact fp_with_part | exact fp_opens | exact fp_is_book | exact fp_is_part_number | exact fp_is_within)
local macro_rules | `(tactic| walk_at "fe") => `(tactic| with_reducible first
  | exact f_Var | exact f_C | exact f_Nil | exact f_Dict0 | exact f_NoPart | exact f_Yes | exact f_gName | exact f_gNil | exact f_pNil
  | (apply f_Cl <;> walk_at "fe") | (apply f_Op <;> walk_at "fe") | (apply f_Un <;> walk_at "fe") | (apply f_Cons <;> walk_at "fe")
  | (apply f_Test <;> walk_at "fe") | (apply f_Tru <;> walk_at "fe")
  | (apply f_Call (by walk_at "fp") <;> walk_at "fe") | (apply f_CallK (by walk_at "fp") <;> walk_at "fe")
  | (apply f_Tup <;> walk_at "fe") | (apply f_Lst <;> walk_at "fe") | (apply f_Isi <;> walk_at "fe") | (apply f_Isi2 <;> walk_at "fe")
  | (apply f_Sl <;> walk_at "fe") | (apply f_Part <;> walk_at "fe")
  | (apply f_And <;> walk_at "fe") | (apply f_Or <;> walk_at "fe") | (apply f_Not <;> walk_at "fe")
  | (apply f_AndV <;> walk_at "fe") | (apply f_OrV <;> walk_at "fe") | (apply f_NotV <;> walk_at "fe")
  | (apply f_If <;> walk_at "fe") | (apply f_Chain <;> walk_at "fe") | (apply f_Look <;> walk_at "fe") | (apply f_LookL <;> walk_at "fe") | (apply f_Rev <;> walk_at "fe")
  | (apply f_ISeq <;> walk_at "fe") | (apply f_IEn <;> walk_at "fe") | (apply f_IZ <;> walk_at "fe") | (apply f_IR1 <;> walk_at "fe") | (apply f_IR2 <;> walk_at "fe") | exact f_IKeys | exact f_IVals | exact f_IItems
  | (apply f_gTup <;> walk_at "fe") | (apply f_gCons <;> walk_at "fe") | (apply f_Lc <;> walk_at "fe")
  | (apply f_Disp <;> walk_at "fe") | (apply f_pCons <;> walk_at "fe")
  | (apply f_Seq <;> walk_at "fe") | (apply f_IfS <;> walk_at "fe") | (apply f_Ret <;> walk_at "fe") | exact f_Next | (apply f_Set <;> walk_at "fe") | (apply f_Par <;> walk_at "fe") | (apply f_Asg <;> walk_at "fe") | (apply f_Drop <;> walk_at "fe") | (apply f_Append <;> walk_at "fe") | (apply f_For <;> walk_at "fe"))
local macro_rules | `(tactic| walk_at "len") => `(tactic| first | (simp only [List.length_cons, List.length_nil]; decide) | assumption)
local macro_rules | `(tactic| walk_at "ev") => `(tactic| first
  | with_reducible assumption
  | ((with_reducible apply o2) <;> walk_at "ev") | ((with_reducible apply o1) <;> walk_at "ev") | ((with_reducible apply vCons_of) <;> walk_at "ev") | ((with_reducible apply o_cl) <;> walk_at "ev") | ((with_reducible apply o_call) <;> walk_at "ev")
  | ((with_reducible apply vTest_of) <;> walk_at "ev") | ((with_reducible apply o_tup) <;> first | walk_at "len" | walk_at "ev") | ((with_reducible apply o_lst) <;> first | walk_at "len" | walk_at "ev")
  | ((with_reducible apply vNot_t) <;> walk_at "ev") | ((with_reducible apply vNot_f) <;> walk_at "ev") | ((with_reducible apply vNot_of) <;> walk_at "ev") | ((with_reducible apply vIsi_of) <;> walk_at "ev") | ((with_reducible apply vNotV_of) <;> walk_at "ev") | ((with_reducible apply o_sl) <;> walk_at "ev") | ((with_reducible apply o_part) <;> walk_at "ev")
  | rfl)
local macro_rules | `(tactic| walk_at "we") => `(tactic| (apply w_exp; (case h => walk_at "fe"); (case e => walk_at "ev")))
local macro_rules | `(tactic| walk_at "wa") => `(tactic| (apply w_args; (case h => walk_at "fe"); (case e => walk_at "ev")))
local macro_rules | `(tactic| walk_at "wt") => `(tactic| (apply w_tst; (case h => walk_at "fe"); (case e => walk_at "ev")))
local macro_rules | `(tactic| walk_at "wi") => `(tactic| (apply w_it; (case h => walk_at "fe"); (case e => walk_at "ev")))
local macro_rules | `(tactic| walk_at "qs") => `(tactic| (apply q_set; (case h => walk_at "fe"); (case e => walk_at "ev")))
local macro_rules | `(tactic| walk_at "qn") => `(tactic| (apply q_no; (case h => walk_at "fe"); (case e => walk_at "ev")))
local macro_rules | `(tactic| walk_at "wr") => `(tactic| (apply w_ret; (case h => walk_at "fe"); (case e => walk_at "ev")))
local macro_rules | `(tactic| walk_at "sp") => `(tactic| (apply s_callP; (apply w_args; (case h => walk_at "fe"); (case e => walk_at "ev"))))
end RC
end
section
namespace RC
open PySem PySem.Spec L2 RR
open PyProof.Rows hiding St cutD
end RC
end
section
namespace RC
open PySem PySem.Spec L2 RR
open PyProof.Rows hiding St cutD
structure Inv66 (b : Book) (st : List Int × List D) : Prop where
  l1 : st.1.length = b.length
  l2 : st.2.length = b.length
  r1 : ∀ x ∈ st.1, 0 ≤ x ∧ x ≤ 1980
  r2 : ∀ d ∈ st.2, d = .none ∨ ∃ k : Nat, k < 40 ∧ d = natD k
theorem Inv66.start (b : Book) : Inv66 b (List.replicate b.length 0, List.replicate b.length .none) :=
  ⟨by rw [List.length_replicate], by rw [List.length_replicate], fun x hx => by rw [(List.mem_replicate.mp hx).2]; decide, fun d hd => .inl (List.mem_replicate.mp hd).2⟩
end RC
end
section
namespace RC
open PySem PySem.Spec L2 RR
open PyProof.Rows hiding St cutD
end RC
end
section
namespace RC
open PySem PySem.Spec L2 RR
open PyProof.Rows hiding St cutD
end RC
end
section
namespace RC
open PySem PySem.Spec L2 RR
open PyProof.Rows hiding St cutD
end RC
end
section
namespace RC
open PySem PySem.Spec L2 RR
open PyProof.Rows hiding St cutD
end RC
end
section
namespace RC
open PySem PySem.Spec L2 RR
open PyProof.Rows hiding St cutD
end RC
end
section
namespace RC
open PySem PySem.Spec L2 RR
open PyProof.Rows hiding St cutD
theorem dAdd_ls {xs ys : List D} (h : xs.length + ys.length ≤ 1000) : dAdd (.list xs) (.list ys) = some (.list (xs ++ ys)) := if_pos (Nat.le_trans h (by decide))
end RC
end
section
namespace RC
open PySem PySem.Spec L2 RR
open PyProof.Rows hiding St cutD
open PySem.W (alike dataLt dataLe)
end RC
end
section
namespace RC
open PySem PySem.Spec L2 RR
open PyProof.Rows hiding St cutD
end RC
end
section
namespace RC
open PySem PySem.Spec L2 RR
open PyProof.Rows hiding St cutD
structure Cell where
  w : Str
  s : Int
  n : Option Int
def optI : Option Int → D
  | none => .none
  | some i => .int i
def Cell.d (c : Cell) : D := .tuple [.str c.w, .int c.s, optI c.n]
def optC : Option Cell → D
  | none => .none
  | some c => c.d
abbrev Img := List (Int × Cell)
def ent (q : Int × Cell) : D × D := (.int q.1, q.2.d)
def imD (m : Img) : D := .dict (m.map ent)
def getC (m : Img) (a : Int) : Option Cell := (m.find? fun q => decide (q.1 = a)).map (·.2)
def putC (m : Img) (a : Int) (c : Cell) : Img := if (m.any fun q => decide (q.1 = a)) = true then m.map (fun q => if q.1 = a then (q.1, c) else q) else m ++ [(a, c)]
def dropC (m : Img) (a : Int) : Img := m.filter fun q => decide (q.1 ≠ a)
instance : DecidableEq Cell := fun a b => by
  cases a; cases b
  rw [Cell.mk.injEq]
  infer_instance
theorem eqv_opt (a b : Option Int) : PyData.eqv (optI a) (optI b) = decide (a = b) := by
  cases a <;> cases b
  · simp [optI, PyData.eqv]
  · simp [optI, PyData.eqv]
  · simp [optI, PyData.eqv]
  · rw [optI, optI, eqv_int]
    exact decide_eq_decide.mpr (by simp)
theorem eqv_cell (a b : Cell) : PyData.eqv a.d b.d = decide (a = b) := by
  have e : PyData.eqv a.d b.d = (decide (a.w = b.w) && (decide (a.s = b.s) && (decide (a.n = b.n) && true))) := by
    unfold Cell.d
    rw [PyData.eqv, PyData.eqvAll, PyData.eqvAll, PyData.eqvAll, PyData.eqvAll, eqv_str, eqv_int, eqv_opt]
  rw [e, Bool.eq_iff_iff]
  cases a; cases b
  simp
theorem lay_opt (n : Option Int) : Lay 0 (optI n) := by
  cases n with
  | none => exact ⟨by simp [optI, PyData.canLay0], by simp [optI, PyData.depth]⟩
  | some i => exact Lay.int i
theorem lay_cell {c : Cell} (h : PyData.strOk c.w = true) : Lay 1 c.d := Lay.tup (k := 0) fun x hx => by
  simp only [List.mem_cons, List.not_mem_nil, or_false] at hx
  rcases hx with rfl | rfl | rfl
  · exact Lay.str h
  · exact Lay.int _
  · exact lay_opt _
theorem lay_optC {c : Option Cell} (h : ∀ x, c = some x → PyData.strOk x.w = true) : Lay 1 (optC c) := by
  cases c with
  | none => exact (lay_opt none).mono (by decide)
  | some c => exact lay_cell (h c rfl)
theorem eqv_optC (a b : Option Cell) : PyData.eqv (optC a) (optC b) = decide (a = b) := by
  cases a <;> cases b
  · simp [optC, PyData.eqv]
  · simp [optC, PyData.eqv, Cell.d]
  · simp [optC, PyData.eqv, Cell.d]
  · rw [optC, optC, eqv_cell]
    exact decide_eq_decide.mpr (by simp)
theorem dNe_optC {a b : Option Cell} (h : ∀ x, a = some x → PyData.strOk x.w = true) (k : ∀ x, b = some x → PyData.strOk x.w = true) : dNe (optC a) (optC b) = some (.bool (!decide (a = b))) := by
  unfold dNe
  rw [if_pos (.inr ⟨(lay_optC h).shaped (by decide), (lay_optC k).shaped (by decide)⟩), eqv_optC]
theorem find_im (m : Img) (a : Int) : ((m.map ent).find? fun q => PyData.eqv q.1 (.int a)) = (m.find? fun q => decide (q.1 = a)).map ent := by
  rw [List.find?_map]
  congr 1
theorem look_im (m : Img) (a : Int) : dLook (m.map ent) (.int a) = (getC m a).map Cell.d := by
  unfold dLook getC
  rw [find_im, Option.map_map, Option.map_map]
  rfl
theorem look_get (m : Img) (a : Int) : (dLook (m.map ent) (.int a)).getD .none = optC (getC m a) := by
  rw [look_im]
  cases getC m a <;> rfl
theorem in_im (m : Img) (a : Int) : dIn (.int a) (imD m) = some (.bool (getC m a).isSome) := by
  show (if isKey (.int a) = true then some (PyData.bool (dLook _ _).isSome) else none) = _
  rw [if_pos (show isKey (.int a) = true from rfl), look_im, Option.isSome_map]
theorem ix_im {m : Img} {a : Int} {c : Cell} (h : getC m a = some c) : dIx (imD m) (.int a) = some c.d := by
  show (if isKey (.int a) = true then dLook _ _ else none) = _
  rw [if_pos (show isKey (.int a) = true from rfl), look_im, h]; rfl
theorem get1_im {va vk : VE} {Γ : DEnv} {m : Img} {a : Int} (h : va Γ = some (imD m)) (k : vk Γ = some (.int a)) : vGet1 va vk Γ = some (optC (getC m a)) := by
  unfold vGet1
  rw [h, Option.bind_some]
  show Option.bind (some (m.map ent)) _ = _
  rw [Option.bind_some, k, Option.bind_some, if_pos (show isKey (.int a) = true from rfl), look_get]
theorem put_im (m : Img) (a : Int) (c : Cell) : putD (m.map ent) (.inl a) c.d = (putC m a c).map ent := by
  unfold putD putC
  have e : ((m.map ent).any fun q => decide (keyOf q.1 = some (.inl a))) = m.any fun q => decide (q.1 = a) := by
    rw [List.any_map]
    congr 1
    funext q
    show decide (some (Sum.inl q.1 : Key) = some (.inl a)) = _
    exact decide_eq_decide.mpr ⟨fun h => Sum.inl.inj (Option.some.inj h), fun h => by rw [h]⟩
  rw [e]
  split
  · rw [List.map_map, List.map_map]
    refine List.map_congr_left fun q _ => ?_
    show (if keyOf (.int q.1) = some (Sum.inl a : Key) then _ else _) = ent (if q.1 = a then (q.1, c) else q)
    by_cases h : q.1 = a
    · rw [if_pos h, if_pos (by rw [h]; rfl)]; rfl
    · rw [if_neg h, if_neg (show ¬ RR.keyOf (.int q.1) = some (Sum.inl a) from fun z => h (Sum.inl.inj (Option.some.inj z)))]
  · rw [List.map_append]; rfl
theorem drop_im (m : Img) (a : Int) : dropD (m.map ent) (.inl a) = (dropC m a).map ent := by
  unfold dropD dropC
  rw [List.filter_map]
  congr 1
  refine congrArg (fun f => List.filter f m) ?_
  funext q
  show decide (some (Sum.inl q.1 : Key) ≠ some (.inl a)) = _
  exact decide_eq_decide.mpr ⟨fun h z => h (by rw [z]), fun h z => h (Sum.inl.inj (Option.some.inj z))⟩
def keysI (m : Img) : List Int := m.map (·.1)
theorem get_mem {m : Img} {a : Int} {c : Cell} (h : getC m a = some c) : (a, c) ∈ m := by
  unfold getC at h
  obtain ⟨q, h1, rfl⟩ := Option.map_eq_some_iff.mp h
  have h2 := List.find?_some h1
  have h3 : q.1 = a := of_decide_eq_true h2
  subst h3
  exact List.mem_of_find?_eq_some h1
theorem get_cons (q : Int × Cell) (m : Img) (b : Int) : getC (q :: m) b = if q.1 = b then some q.2 else getC m b := by
  unfold getC
  rw [List.find?_cons]
  by_cases e : q.1 = b
  · rw [if_pos e, decide_eq_true e]; rfl
  · rw [if_neg e, decide_eq_false e]
theorem get_nil (b : Int) : getC [] b = none := rfl
theorem get_some_iff {m : Img} {a : Int} : (getC m a).isSome = true ↔ a ∈ keysI m := by
  unfold getC keysI
  rw [Option.isSome_map, List.find?_isSome]
  constructor
  · rintro ⟨q, h1, h2⟩
    exact List.mem_map.mpr ⟨q, h1, of_decide_eq_true h2⟩
  · intro h
    obtain ⟨q, h1, h2⟩ := List.mem_map.mp h
    exact ⟨q, h1, decide_eq_true h2⟩
theorem get_map_put (a : Int) (c : Cell) (b : Int) : ∀ m : Img, getC (m.map fun q => if q.1 = a then (q.1, c) else q) b = if b = a then (if a ∈ keysI m then some c else none) else getC m b
  | [] => by
    rw [List.map_nil, get_nil]
    split
    · rw [if_neg (by unfold keysI; simp)]
    · rfl
  | q :: m => by
    rw [List.map_cons, get_cons, get_cons, get_map_put a c b m]
    unfold keysI
    rw [List.map_cons]
    by_cases e : q.1 = a
    · rw [if_pos e]
      by_cases e2 : b = a
      · rw [if_pos (show ((q.1, c) : Int × Cell).1 = b by rw [e2]; exact e), if_pos e2, if_pos (by rw [e]; exact List.mem_cons_self ..)]
      · rw [if_neg (show ¬ ((q.1, c) : Int × Cell).1 = b from fun z => e2 (z.symm.trans e)), if_neg e2, if_neg e2, if_neg (fun z : q.1 = b => e2 (z.symm.trans e))]
    · rw [if_neg e]
      by_cases e2 : b = a
      · rw [if_neg (fun z : q.1 = b => e (z.trans e2)), if_pos e2, if_pos e2]
        have : a ∈ q.1 :: m.map (·.1) ↔ a ∈ m.map (·.1) := by
          rw [List.mem_cons]
          exact ⟨fun h => h.elim (fun z => absurd z.symm e) id, .inr⟩
        simp only [this]
      · rw [if_neg e2, if_neg e2]
theorem get_append (m : Img) (q : Int × Cell) (b : Int) : getC (m ++ [q]) b = (getC m b).or (if q.1 = b then some q.2 else none) := by
  induction m with
  | nil => rw [List.nil_append, get_cons, get_nil, Option.none_or]
  | cons z m ih =>
    rw [List.cons_append, get_cons, get_cons, ih]
    split
    · rfl
    · rfl
theorem any_keys (m : Img) (a : Int) : (m.any fun q => decide (q.1 = a)) = true ↔ a ∈ keysI m := by
  unfold keysI
  rw [List.any_eq_true, List.mem_map]
  exact ⟨fun ⟨q, h1, h2⟩ => ⟨q, h1, of_decide_eq_true h2⟩, fun ⟨q, h1, h2⟩ => ⟨q, h1, decide_eq_true h2⟩⟩
theorem get_putC (m : Img) (a : Int) (c : Cell) (b : Int) : getC (putC m a c) b = if b = a then some c else getC m b := by
  unfold putC
  by_cases h : (m.any fun q => decide (q.1 = a)) = true
  · rw [if_pos h, get_map_put]
    split
    · rw [if_pos ((any_keys m a).mp h)]
    · rfl
  · rw [if_neg h, get_append]
    by_cases e : b = a
    · rw [if_pos e, if_pos e.symm]
      have : getC m b = none := by
        cases z : getC m b with
        | none => rfl
        | some x => exact absurd ((any_keys m a).mpr (e ▸ get_some_iff.mp (by rw [z]; rfl))) h
      rw [this]; rfl
    · rw [if_neg e, if_neg (fun z => e z.symm), Option.or_none]
theorem get_dropC (m : Img) (a b : Int) : getC (dropC m a) b = if b = a then none else getC m b := by
  unfold dropC
  induction m with
  | nil => split <;> rfl
  | cons q m ih =>
    rw [List.filter_cons, get_cons]
    by_cases e : q.1 = a
    · rw [if_neg (by simpa using e), ih]
      by_cases e2 : b = a
      · rw [if_pos e2, if_pos e2]
      · rw [if_neg e2, if_neg e2, if_neg (fun z => e2 (z.symm.trans e))]
    · rw [if_pos (by simpa using e), get_cons, ih]
      by_cases e3 : q.1 = b
      · rw [if_pos e3, if_pos e3, if_neg (fun z => e (e3.trans z))]
      · rw [if_neg e3, if_neg e3]
theorem nodup_putC {m : Img} (nd : (keysI m).Nodup) (a : Int) (c : Cell) : (keysI (putC m a c)).Nodup := by
  unfold putC keysI at *
  split
  · rw [List.map_map]
    refine (Eq.subst (motive := List.Nodup) ?_ nd)
    refine List.map_congr_left fun q _ => ?_
    show q.1 = (if q.1 = a then (q.1, c) else q).1
    split <;> rfl
  · rename_i h
    rw [List.map_append]
    refine List.nodup_append.mpr ⟨nd, by simp, fun x hx y hy z => ?_⟩
    rw [List.map_singleton, List.mem_singleton] at hy
    obtain ⟨q, hq, e⟩ := List.mem_map.mp hx
    exact h (List.any_eq_true.mpr ⟨q, hq, decide_eq_true (by rw [e, z, hy])⟩)
theorem nodup_dropC {m : Img} (nd : (keysI m).Nodup) (a : Int) : (keysI (dropC m a)).Nodup := nd.sublist ((List.filter_sublist).map _)
theorem len_putC (m : Img) (a : Int) (c : Cell) : (putC m a c).length ≤ m.length + 1 := by
  unfold putC
  split
  · rw [List.length_map]; omega
  · rw [List.length_append]; exact Nat.le_refl _
theorem len_dropC (m : Img) (a : Int) : (dropC m a).length ≤ m.length := List.length_filter_le _ _
theorem mem_putC {m : Img} {a : Int} {c : Cell} {q : Int × Cell} (h : q ∈ putC m a c) : q ∈ m ∨ q = (a, c) := by
  unfold putC at h
  split at h
  · obtain ⟨z, hz, e⟩ := List.mem_map.mp h
    split at e
    · rename_i hza
      exact .inr (by rw [← e, hza])
    · exact .inl (e ▸ hz)
  · rcases List.mem_append.mp h with h | h
    · exact .inl h
    · exact .inr (List.mem_singleton.mp h)
theorem mem_dropC {m : Img} {a : Int} {q : Int × Cell} (h : q ∈ dropC m a) : q ∈ m := (List.mem_filter.mp h).1
end RC
end
section
namespace RC
open PySem PySem.Spec L2 RR
open PyProof.Rows hiding St cutD
def W8 (w : Str) : Prop := w = ("plain" : Str) ∨ w = ("stop" : Str) ∨ w = ("jump" : Str) ∨ w = ("branch" : Str) ∨ w = ("far" : Str) ∨ w = ("island" : Str) ∨ w = ("load" : Str) ∨ w = ("word" : Str)
theorem W8.ok {w : Str} (h : W8 w) : PyData.strOk w = true := by
  rcases h with rfl | rfl | rfl | rfl | rfl | rfl | rfl | rfl <;> decide +kernel
structure CellOk (c : Cell) : Prop where
  w8 : W8 c.w
  s1 : 1 ≤ c.s
  s99 : c.s ≤ 99
  non : c.n = none → c.w = ("island" : Str)
  num : ∀ i, c.n = some i → 0 ≤ i ∧ i ≤ 1000000000
structure ImOk (m : Img) : Prop where
  nd : (keysI m).Nodup
  cell : ∀ q ∈ m, CellOk q.2
  key : ∀ q ∈ m, 0 ≤ q.1 ∧ q.1 ≤ 1000000000
theorem ImOk.get {m : Img} (h : ImOk m) {a : Int} {c : Cell} (e : getC m a = some c) : CellOk c := h.cell _ (get_mem e)
theorem ImOk.str {m : Img} (h : ImOk m) {a : Int} : ∀ c, getC m a = some c → PyData.strOk c.w = true := fun c e => (h.get e).w8.ok
theorem imOk_nil : ImOk [] := ⟨List.nodup_nil, (fun q h => nomatch h), fun q h => nomatch h⟩
theorem ImOk.put {m : Img} (h : ImOk m) {a : Int} {c : Cell} (ha : 0 ≤ a ∧ a ≤ 1000000000) (hc : CellOk c) : ImOk (putC m a c) := ⟨nodup_putC h.nd a c, fun q hq => (mem_putC hq).elim (h.cell q) fun z => by rw [z]; exact hc, fun q hq => (mem_putC hq).elim (h.key q) fun z => by rw [z]; exact ha⟩
theorem ImOk.drop {m : Img} (h : ImOk m) (a : Int) : ImOk (dropC m a) := ⟨nodup_dropC h.nd a, fun q hq => h.cell q (mem_dropC hq), fun q hq => h.key q (mem_dropC hq)⟩
theorem within_int {x lo hi : Int} (h1 : lo ≤ x) (h2 : x ≤ hi) : withinD (.int x) lo hi = true := within_t h1 h2
theorem words_in {w : Str} (h : W8 w) : dNotIn (.str w) c_WORDS = some (.bool false) := by
  rcases h with rfl | rfl | rfl | rfl | rfl | rfl | rfl | rfl <;> rfl
theorem v_is_cell_ok {c : Cell} (h : CellOk c) : v_is_cell [c.d] = some (.bool true) := by
  refine vFun_of rfl ?_
  refine vSeq_nx (Γ1 := [some c.d, none, none, none]) (vIfS_f rfl rfl) (vSeq_nx (Γ1 := [some c.d, some (.str c.w), some (.int c.s), some (optI c.n)]) rfl (vSeq_nx (Γ1 := [some c.d, some (.str c.w), some (.int c.s), some (optI c.n)]) (vIfS_f (vOr_of (x := false) (y := false) (vTest_of (o2 rfl rfl (words_in h.w8))) fun _ => vNot_of (vTest_of ((vCall_of (vCons_of rfl (vCons_of rfl (vCons_of rfl rfl)))).trans ((v_is_within_eq _ _ _).trans (congrArg (fun b => some (PyData.bool b)) (within_int h.s1 h.s99)))))) rfl) ?_))
  cases hn : c.n with
  | none =>
    refine vSeq_rt (vIfS_t rfl (vRet_of ?_))
    refine o2 rfl rfl ?_
    rw [h.non hn]; rfl
  | some i =>
    obtain ⟨h1, h2⟩ := h.num i hn
    refine vSeq_nx (vIfS_f rfl rfl) (vRet_of ((vCall_of (vCons_of rfl (vCons_of rfl (vCons_of rfl rfl)))).trans ((v_is_within_eq _ _ _).trans (congrArg (fun b => some (PyData.bool b)) (within_int h1 h2)))))
theorem v_is_address_ok {a : Int} (h : 0 ≤ a ∧ a ≤ 1000000000) : v_is_address [.int a] = some (.bool true) :=
  vFun_of rfl (vRet_of ((vCall_of (vCons_of rfl (vCons_of rfl (vCons_of rfl rfl)))).trans ((v_is_within_eq _ _ _).trans (congrArg (fun b => some (PyData.bool b)) (within_int h.1 h.2)))))
theorem len_im (m : Img) : cLenA [imD m] = some (.int (m.length : Int)) := by
  show some (PyData.int ((m.map ent).length : Int)) = _
  rw [List.length_map]
theorem v_is_image_ok {m : Img} (h : ImOk m) (hl : m.length ≤ 300) : v_is_image [imD m] = some (.bool true) := by
  refine vFun_of rfl ?_
  refine vSeq_nx (vIfS_f (vOr_of (x := false) (y := false) rfl fun _ => vTest_of (o2 (o_cl (vCons_of rfl rfl) (len_im m)) rfl ?_)) rfl) (vRet_of ?_)
  · exact (dGt_int _ _).trans (congrArg (fun b => some (PyData.bool b)) (decide_eq_false (by omega)))
  · refine (vCl_of (vCons_of (vLc_of (ds := (m.map ent).map fun q => .tuple [q.1, q.2]) rfl (by rw [List.length_map, List.length_map]; exact Nat.le_trans hl (by decide)) ?_) rfl)).trans (cAll_map (xs := m) fun _ => true) |>.trans ?_
    · rw [List.map_map]
      refine vcomp_mapOf (fun q => .tuple [(ent q).1, (ent q).2]) (fun _ => .bool true) fun q hq => ⟨_, rfl, rfl, ?_⟩
      exact (vAndV_of (x := true) ((vCall_of (vCons_of rfl rfl)).trans (v_is_address_ok (h.key q hq))) fun _ => (vCall_of (vCons_of rfl rfl)).trans (v_is_cell_ok (h.cell q hq))).trans rfl
    · rw [List.all_eq_true.mpr fun _ _ => rfl]
theorem v_check_image_ok {m : Img} (h : ImOk m) (hl : m.length ≤ 300) : v_check_image [imD m] = some .none :=
  vFun_nx (Γ := [some (imD m)]) rfl (vIfS_f (vNot_f (vTest_of ((vCall_of (vCons_of rfl rfl)).trans (v_is_image_ok h hl)))) rfl)
abbrev Wr := Int × Option Cell
def wrD (x : Wr) : D := .tuple [.int x.1, optC x.2]
def addrs2 (m m' : Img) : List Int := setI (keysI m ++ keysI m')
def diffL (m m' : Img) : List Wr := ((addrs2 m m').filter fun a => !decide (getC m a = getC m' a)).map fun a => (a, getC m' a)
theorem intsOf_ints : ∀ ns : List Int, intsOf (ns.map .int) = some ns
  | [] => rfl
  | n :: ns => by
    show (intsOf (ns.map .int)).bind _ = _
    rw [intsOf_ints ns]; rfl
theorem asInts_ints : ∀ ns : List Int, asInts (ns.map .int) = some ns
  | [] => rfl
  | n :: ns => by
    rw [List.map_cons, asInts, asInts_ints ns]; rfl
theorem foI_asc (ks : List Int) : (foI ks).Pairwise (· < ·) ∧ ∀ j, j ∈ foI ks ↔ j ∈ ks := by
  have go : ∀ (ks acc : List Int), acc.Pairwise (· < ·) → (ks.foldl (fun a k => insI k a) acc).Pairwise (· < ·) ∧ ∀ j, j ∈ ks.foldl (fun a k => insI k a) acc ↔ j ∈ acc ∨ j ∈ ks := fun ks => by
    induction ks with
    | nil => intro acc h; exact ⟨h, fun j => by simp⟩
    | cons k ks ih =>
      intro acc h
      obtain ⟨h1, h2⟩ := ih (insI k acc) (insI_asc k h)
      refine ⟨h1, fun j => ?_⟩
      rw [List.foldl_cons, h2, insI_mem, List.mem_cons]
      constructor
      · rintro ((h | h) | h)
        · exact .inr (.inl h)
        · exact .inl h
        · exact .inr (.inr h)
      · rintro (h | h | h)
        · exact .inl (.inr h)
        · exact .inl (.inl h)
        · exact .inr h
  obtain ⟨h1, h2⟩ := go ks [] .nil
  exact ⟨h1, fun j => (h2 j).trans (by simp)⟩
theorem foI_set (ks : List Int) : foI ks = setI ks := (setI_eq (foI_asc ks).1 (foI_asc ks).2).symm
theorem keys_ints (m : Img) : (m.map ent).map (·.1) = (keysI m).map .int := by
  unfold keysI
  rw [List.map_map, List.map_map]; rfl
theorem diff_comp {Γ0 : DEnv} {m m' : Img} {i : Nat} {v : VI} {t : VT} {e : VE} (hm : ImOk m) (hm' : ImOk m') (hl : (addrs2 m m').length ≤ 1000) (hv : v Γ0 = some ((addrs2 m m').map .int))
    (ht : ∀ a, t ((wipeD Γ0 [i]).set i (some (.int a))) = some (!decide (getC m a = getC m' a))) (he : ∀ a, e ((wipeD Γ0 [i]).set i (some (.int a))) = some (wrD (a, getC m' a))) :
    vLc v (vgName i) t e [i] Γ0 = some (.list ((diffL m m').map wrD)) := by
  refine (vLc_of hv (by rw [List.length_map]; exact Nat.le_trans hl (by decide)) (vcomp_filterOf PyData.int (fun a => !decide (getC m a = getC m' a)) (fun a => wrD (a, getC m' a)) fun a _ => ⟨_, rfl, ht a, fun _ => he a⟩)).trans ?_
  unfold diffL
  rw [List.map_map]; rfl
theorem addrs2_len (m m' : Img) : (addrs2 m m').length ≤ m.length + m'.length := by
  have := setI_len (keysI m ++ keysI m')
  unfold keysI at this
  rw [List.length_append, List.length_map, List.length_map] at this
  exact this
theorem v_differences_eq {m m' : Img} (hm : ImOk m) (hm' : ImOk m') (hl : m.length + m'.length < 60) : v_differences [imD m, imD m'] = some (.list ((diffL m m').map wrD)) := by
  refine vFun_of rfl ?_
  have al := addrs2_len m m'
  have ek : vKeys2 0 1 3 4 (startD ["before", "after", "addresses", "table", "address"] ([imD m, imD m'].map some)) = some (.list ((addrs2 m m').map .int)) := by
    unfold vKeys2
    show Option.bind (some (m.map ent)) _ = _
    rw [Option.bind_some]
    show Option.bind (some (m'.map ent)) _ = _
    rw [Option.bind_some, keys_ints, keys_ints, ← List.map_append, intsOf_ints, Option.bind_some, if_pos ⟨by show 3 < 5; decide, by show 4 < 5; decide, by unfold keysI; rw [List.length_append, List.length_map, List.length_map]; exact hl⟩, foI_set]
    rfl
  refine vSeq_nx (Γ1 := [some (imD m), some (imD m'), some (.list ((addrs2 m m').map .int)), none, none]) ((vSet_of ek).trans rfl) (vRet_of ?_)
  refine diff_comp hm hm' (by omega) rfl (fun a => ?_) fun a => ?_
  · exact vTest_of (o2 (get1_im rfl rfl) (get1_im rfl rfl) (dNe_optC hm.str hm'.str))
  · exact vt2 rfl (get1_im rfl rfl)
theorem v_patch_eq {m m' : Img} (hm : ImOk m) (hm' : ImOk m') (hl : m.length + m'.length < 60) : v_patch [imD m, imD m'] = some (.list ((diffL m m').map wrD)) := by
  refine vFun_of rfl (vSeq_nx (vDrop_of (Eq.trans rfl (v_check_image_ok hm (by omega)))) (vSeq_nx (vDrop_of (Eq.trans rfl (v_check_image_ok hm' (by omega)))) (vRet_of ((vCall_of (vCons_of rfl (vCons_of rfl rfl))).trans (v_differences_eq hm hm' hl)))))
def wr1 (m : Img) (x : Wr) : Img := match x.2 with
  | none => dropC m x.1
  | some c => putC m x.1 c
def wrs (m : Img) (xs : List Wr) : Img := xs.foldl wr1 m
theorem get_wr1 (m : Img) (x : Wr) (b : Int) : getC (wr1 m x) b = if b = x.1 then x.2 else getC m b := by
  obtain ⟨a, c⟩ := x
  cases c with
  | none => exact get_dropC m a b
  | some c => exact get_putC m a c b
structure WrOk (x : Wr) : Prop where
  key : 0 ≤ x.1 ∧ x.1 ≤ 1000000000
  cell : ∀ c, x.2 = some c → CellOk c
theorem wr1_ok {m : Img} (h : ImOk m) {x : Wr} (k : WrOk x) : ImOk (wr1 m x) := by
  obtain ⟨a, c⟩ := x
  cases c with
  | none => exact h.drop a
  | some c => exact h.put k.key (k.cell c rfl)
theorem wrs_ok : ∀ {xs : List Wr} {m : Img}, ImOk m → (∀ x ∈ xs, WrOk x) → ImOk (wrs m xs)
  | [], m, h, _ => h
  | x :: xs, m, h, k => wrs_ok (xs := xs) (wr1_ok h (k x (List.mem_cons_self ..))) fun y hy => k y (List.mem_cons_of_mem _ hy)
theorem wr1_len (m : Img) (x : Wr) : (wr1 m x).length ≤ m.length + 1 := by
  obtain ⟨a, c⟩ := x
  cases c with
  | none => exact Nat.le_trans (len_dropC m a) (Nat.le_succ _)
  | some c => exact len_putC m a c
theorem wrs_len : ∀ (xs : List Wr) (m : Img), (wrs m xs).length ≤ m.length + xs.length
  | [], m => Nat.le_refl _
  | x :: xs, m => by
    have h1 := wrs_len xs (wr1 m x)
    have h2 := wr1_len m x
    show (wrs (wr1 m x) xs).length ≤ m.length + (xs.length + 1)
    omega
theorem putK_im {i : Nat} {ek ev : VE} {Γ : DEnv} {m : Img} {a : Int} {c : Cell} (h : dictAt i Γ = some (m.map ent)) (hk : ek Γ = some (.int a)) (hv : ev Γ = some c.d) (hl : m.length ≤ 1000) : vPutK i ek ev Γ = some (.nx (Γ.set i (some (imD (putC m a c))))) := by
  unfold vPutK
  rw [hv, Option.bind_some, h, Option.bind_some, hk, Option.bind_some]
  show Option.bind (some (Sum.inl a : Key)) _ = _
  rw [Option.bind_some, if_pos (by rw [List.length_map]; exact Nat.lt_of_le_of_lt hl (by decide)), put_im]; rfl
theorem dpop_im {i : Nat} {ek ex : VE} {Γ : DEnv} {m : Img} {a : Int} {x : D} (h : dictAt i Γ = some (m.map ent)) (hk : ek Γ = some (.int a)) (hx : ex Γ = some x) : vDPop i ek ex Γ = some (.nx (Γ.set i (some (imD (dropC m a))))) := by
  unfold vDPop
  rw [h, Option.bind_some, hk, Option.bind_some, hx, Option.bind_some]
  show Option.bind (some (Sum.inl a : Key)) _ = _
  rw [Option.bind_some, drop_im]; rfl
def wtE (m0 : Img) (xs : List Wr) (m : Img) (x3 x4 : Option D) : DEnv := [some (imD m0), some (.list (xs.map wrD)), some (imD m), x3, x4]
theorem wt_loop (m0 : Img) (xs : List Wr) : ∀ (ys : List Wr) (m : Img) (x3 x4 : Option D), m.length + ys.length ≤ 1000 → ∃ y3 y4, vfor (vgTup 2 (vgCons (vgName 3) (vgCons (vgName 4) vgNil))) (vIfS (vTest (vOp dIsN (vVar 4) (vC .none))) (vDPop 2 (vVar 3) (vC .none)) (vPutK 2 (vVar 3) (vVar 4))) (ys.map wrD) (wtE m0 xs m x3 x4) = some (.nx (wtE m0 xs (wrs m ys) y3 y4))
  | [], m, x3, x4, _ => ⟨x3, x4, rfl⟩
  | y :: ys, m, x3, x4, hl => by
    rw [List.length_cons] at hl
    have h2 := wr1_len m y
    obtain ⟨y3, y4, ih⟩ := wt_loop m0 xs ys (wr1 m y) (some (.int y.1)) (some (optC y.2)) (by omega)
    refine ⟨y3, y4, ?_⟩
    rw [List.map_cons]
    unfold vfor
    rw [show vgTup 2 (vgCons (vgName 3) (vgCons (vgName 4) vgNil)) (wrD y) (wtE m0 xs m x3 x4) = some (wtE m0 xs m (some (.int y.1)) (some (optC y.2))) from rfl, Option.bind_some]
    have turn : vIfS (vTest (vOp dIsN (vVar 4) (vC .none))) (vDPop 2 (vVar 3) (vC .none)) (vPutK 2 (vVar 3) (vVar 4)) (wtE m0 xs m (some (.int y.1)) (some (optC y.2))) = some (.nx (wtE m0 xs (wr1 m y) (some (.int y.1)) (some (optC y.2)))) := by
      obtain ⟨a, c⟩ := y
      cases c with
      | none => exact vIfS_t rfl ((dpop_im (x := .none) rfl rfl rfl).trans rfl)
      | some c => exact vIfS_f rfl ((putK_im rfl rfl rfl (by omega)).trans rfl)
    rw [turn, Option.bind_some]
    exact ih
theorem v_written_eq {m : Img} {xs : List Wr} (hl : m.length + xs.length ≤ 1000) : v_written [imD m, .list (xs.map wrD)] = some (imD (wrs m xs)) := by
  refine vFun_of rfl ?_
  obtain ⟨y3, y4, h⟩ := wt_loop m xs xs m none none hl
  refine vSeq_nx (Γ1 := wtE m xs m none none) rfl (vSeq_nx (Γ1 := wtE m xs (wrs m xs) y3 y4) ?_ (vRet_of rfl))
  exact (vFor_of31 (ds := xs.map wrD) rfl).trans h
theorem v_is_write_ok {x : Wr} (h : WrOk x) : v_is_write [wrD x] = some (.bool true) := by
  obtain ⟨a, c⟩ := x
  refine vFun_of rfl ?_
  refine vSeq_nx (Γ1 := [some (wrD (a, c))]) (vIfS_f (vOr_of (x := false) (y := false) rfl fun _ => vOr_of (x := false) (y := false) rfl fun _ => vNot_of (vTest_of ((vCall_of (vCons_of (o2 rfl rfl (ix0 _ _)) rfl)).trans (v_is_address_ok h.key)))) rfl) (vRet_of ?_)
  cases c with
  | none => rfl
  | some c =>
    exact (vOrV_of (x := false) (y := true) rfl fun _ => (vCall_of (vCons_of (o2 rfl rfl (ix1 _ _ _)) rfl)).trans (v_is_cell_ok (h.cell c rfl))).trans rfl
theorem v_check_writes_ok {m : Img} {xs : List Wr} (hw : ∀ x ∈ xs, WrOk x) (hl : m.length + xs.length ≤ 300) : v_check_writes [imD m, .list (xs.map wrD)] = some .none := by
  refine vFun_nx (Γ := [some (imD m), some (.list (xs.map wrD)), none]) rfl ?_
  have l1 : cLenA [.list (xs.map wrD)] = some (.int (xs.length : Int)) := by
    show some (PyData.int ((xs.map wrD).length : Int)) = _
    rw [List.length_map]
  have wl := wrs_len xs m
  refine vSeq_nx (Γ1 := [some (imD m), some (.list (xs.map wrD)), none]) (vIfS_f (vOr_of (x := false) (y := false) rfl fun _ => vTest_of (o2 (o_cl (vCons_of rfl rfl) l1) rfl ?_)) rfl) (vSeq_nx (Γ1 := [some (imD m), some (.list (xs.map wrD)), none]) (vIfS_f (vNot_f (vTest_of ?_)) rfl) (vIfS_f (vTest_of (o2 (o_cl (vCons_of ((vCall_of (vCons_of rfl (vCons_of rfl rfl))).trans (v_written_eq (by omega))) rfl) (len_im _)) rfl ?_)) rfl))
  · exact (dGt_int _ _).trans (congrArg (fun b => some (PyData.bool b)) (decide_eq_false (by show ¬ (600 : Int) < _; omega)))
  · refine (vCl_of (vCons_of (vLc_of (ds := xs.map wrD) rfl (by rw [List.length_map]; exact Nat.le_trans (show _ ≤ 300 by omega) (by decide)) (vcomp_mapOf wrD (fun _ => .bool true) fun x hx => ⟨_, rfl, rfl, (vCall_of (vCons_of rfl rfl)).trans (v_is_write_ok (hw x hx))⟩)) rfl)).trans ((cAll_map (xs := xs) fun _ => true).trans ?_)
    rw [List.all_eq_true.mpr fun _ _ => rfl]
  · exact (dGt_int _ _).trans (congrArg (fun b => some (PyData.bool b)) (decide_eq_false (by show ¬ (300 : Int) < _; omega)))
theorem v_patched_eq {m : Img} {xs : List Wr} (hm : ImOk m) (hw : ∀ x ∈ xs, WrOk x) (hl : m.length + xs.length ≤ 300) : v_patched [imD m, .list (xs.map wrD)] = some (imD (wrs m xs)) := by
  refine vFun_of rfl (vSeq_nx (vDrop_of (Eq.trans rfl (v_check_image_ok hm (by omega)))) (vSeq_nx (vDrop_of (Eq.trans rfl (v_check_writes_ok hw hl))) (vRet_of ((vCall_of (vCons_of rfl (vCons_of rfl rfl))).trans (v_written_eq (by omega))))))
end RC
end
section
namespace RC
open PySem PySem.Spec L2 RR
open PyProof.Rows hiding St cutD
theorem addrs2_mem {m m' : Img} {a : Int} : a ∈ addrs2 m m' ↔ a ∈ keysI m ∨ a ∈ keysI m' := by
  unfold addrs2
  rw [setI_mem, List.mem_append]
theorem diffL_mem {m m' : Img} {x : Wr} (h : x ∈ diffL m m') : x.2 = getC m' x.1 ∧ getC m x.1 ≠ getC m' x.1 ∧ (x.1 ∈ keysI m ∨ x.1 ∈ keysI m') := by
  obtain ⟨a, ha, rfl⟩ := List.mem_map.mp h
  obtain ⟨h1, h2⟩ := List.mem_filter.mp ha
  exact ⟨rfl, by simpa using h2, addrs2_mem.mp h1⟩
theorem key_ok {m : Img} (h : ImOk m) {a : Int} (k : a ∈ keysI m) : 0 ≤ a ∧ a ≤ 1000000000 := by
  obtain ⟨q, hq, rfl⟩ := List.mem_map.mp k
  exact h.key q hq
theorem diffL_ok {m m' : Img} (hm : ImOk m) (hm' : ImOk m') : ∀ x ∈ diffL m m', WrOk x := fun x hx => by
  obtain ⟨h1, _, h3⟩ := diffL_mem hx
  exact ⟨h3.elim (key_ok hm) (key_ok hm'), fun c hc => hm'.get (h1.symm.trans hc)⟩
theorem diffL_len (m m' : Img) : (diffL m m').length ≤ m.length + m'.length := by
  unfold diffL
  rw [List.length_map]
  exact Nat.le_trans (List.length_filter_le _ _) (addrs2_len m m')
theorem W8.size {w : Str} (h : W8 w) : Seen 0 6 (.str w) := by
  rcases h with rfl | rfl | rfl | rfl | rfl | rfl | rfl | rfl <;> exact Seen.str (by decide +kernel) (by decide +kernel)
end RC
end
section
namespace RC
open PySem PySem.Spec L2 RR
open PyProof.Rows hiding St cutD
theorem ints_of_all : ∀ {r : List D} {P : Int → Prop}, (∀ (i : Nat) y, r[i]? = some y → ∃ x, y = .int x ∧ P x) → ∃ xs : List Int, r = xs.map .int ∧ ∀ x ∈ xs, P x
  | [], P, _ => ⟨[], rfl, fun x h => nomatch h⟩
  | y :: r, P, h => by
    obtain ⟨x, rfl, hx⟩ := h 0 y rfl
    obtain ⟨xs, rfl, hxs⟩ := ints_of_all (r := r) (P := P) fun i y e => h (i + 1) y e
    refine ⟨x :: xs, rfl, fun z hz => ?_⟩
    rcases List.mem_cons.mp hz with rfl | hz
    · exact hx
    · exact hxs z hz
theorem strs_of_all : ∀ {r : List D} {P : Str → Prop}, (∀ (i : Nat) y, r[i]? = some y → ∃ x, y = .str x ∧ P x) → ∃ xs : List Str, r = xs.map .str ∧ ∀ x ∈ xs, P x
  | [], P, _ => ⟨[], rfl, fun x h => nomatch h⟩
  | y :: r, P, h => by
    obtain ⟨x, rfl, hx⟩ := h 0 y rfl
    obtain ⟨xs, rfl, hxs⟩ := strs_of_all (r := r) (P := P) fun i y e => h (i + 1) y e
    refine ⟨x :: xs, rfl, fun z hz => ?_⟩
    rcases List.mem_cons.mp hz with rfl | hz
    · exact hx
    · exact hxs z hz
def diE (most width : Nat) (spots : List Int) (ws : List D) (chosen : List Str) (m : Img) (x8 x9 x10 x11 : Option D) : DEnv := [none, some (.int (most : Int)), some (.int (width : Int)), some (.list (spots.map .int)), none, some (.list ws), some (.list (chosen.map .str)), some (imD m), x8, x9, x10, x11]
abbrev diB : MS := (mSeq (mSet 11 (mCallP m__law_one_of (mCons (mOp dAdd (mOp dMul (mVar 3) (mC (.int 3))) (mLst (mCons (mVar 8) (mCons (mCallP m__law_take (mCons (mOp dAdd (mVar 2) (mC (.int 10))) mNil)) mNil)))) mNil))) (mSeq (mIfS (mTest (mOp dIn (mVar 10) (mTup (mCons (mC (.str "plain")) (mCons (mC (.str "word")) (mCons (mC (.str "stop")) mNil)))))) (mSet 11 (mCallP m__law_one_of (mCons (mLst (mCons (mC (.int 0)) (mCons (mC (.int 1)) (mCons (mC (.int 2)) (mCons (mC (.int 999)) (mCons (mC (.int 65535)) mNil)))))) mNil))) (mIfS (mAnd (mTest (mOp dEq (mVar 10) (mC (.str "load")))) (mAnd (mTest (mOp dNe (mVar 9) (mLst mNil))) (mTest (mOp dGt (mCallP m__law_take (mCons (mC (.int 5)) mNil)) (mC (.int 0)))))) (mSet 11 (mCallP m__law_one_of (mCons (mVar 9) mNil))) (mIfS (mAnd (mTest (mOp dEq (mVar 10) (mC (.str "island")))) (mTest (mOp dEq (mCallP m__law_take (mCons (mC (.int 5)) mNil)) (mC (.int 0))))) (mSet 11 (mC .none)) mNext))) (mPutK 7 (mVar 8) (mTup (mCons (mVar 10) (mCons (mOp dAdd (mC (.int 1)) (mCallP m__law_one_of (mCons (mLst (mCons (mC (.int 0)) (mCons (mC (.int 1)) (mCons (mC (.int 3)) (mCons (mCallP m__law_take (mCons (mC (.int 99)) mNil)) mNil))))) mNil))) (mCons (mVar 11) mNil)))))))
structure DrOk (width : Nat) (m : Img) : Prop where
  ok : ImOk m
  key : ∀ q ∈ m, q.1 < (width : Int)
  num : ∀ q ∈ m, ∀ i, q.2.n = some i → i < 131072
theorem ints_ne (xs : List Int) : dNe (.list (xs.map .int)) (.list []) = some (.bool (!xs.isEmpty)) := by
  have t0 : SeqAt.shaped (PyData.list []) = true := by decide +kernel
  have l1 : Lay 1 (.list (xs.map .int)) := Lay.lst fun y hy => by
    obtain ⟨x, _, rfl⟩ := List.mem_map.mp hy
    exact Lay.int x
  unfold dNe
  rw [if_pos (.inr ⟨l1.shaped (by decide), t0⟩)]
  cases xs <;> rfl
theorem pos_putC (m : Img) (a : Int) (c : Cell) : 1 ≤ (putC m a c).length := by
  unfold putC
  split
  · rename_i h
    rw [List.length_map]
    cases m with
    | nil => cases h
    | cons _ _ => rw [List.length_cons]; omega
  · rw [List.length_append]; exact Nat.le_add_left _ _
theorem di_put {most width : Nat} {spots : List Int} {ws : List D} {chosen : List Str} {m : Img} {a : Int} {w : Str} {x9 : Option D} {num : Option Int} {n : Nat} {E : EndsD} (hw : W8 w) (ha : 0 ≤ a ∧ a < (width : Int)) (hwd : width ≤ 60) (h : DrOk width m) (hl : m.length ≤ 100) (hn : n < 900000)
    (h1 : num = none → w = ("island" : Str)) (h2 : ∀ i, num = some i → 0 ≤ i ∧ i < 131072)
    (k : ∀ m', DrOk width m' → m'.length ≤ m.length + 1 → 1 ≤ m'.length → E.nx (diE most width spots ws chosen m' (some (.int a)) x9 (some (.str w)) (some (optI num))) (n + 2)) :
    mPutK 7 (mVar 8) (mTup (mCons (mVar 10) (mCons (mOp dAdd (mC (.int 1)) (mCallP m__law_one_of (mCons (mLst (mCons (mC (.int 0)) (mCons (mC (.int 1)) (mCons (mC (.int 3)) (mCons (mCallP m__law_take (mCons (mC (.int 99)) mNil)) mNil))))) mNil))) (mCons (mVar 11) mNil)))) E (diE most width spots ws chosen m (some (.int a)) x9 (some (.str w)) (some (optI num))) n := by
  refine s_tup (s_cons (s_var (d := .str w) rfl (s_cons (s_op (s_C (s_callP (s_cons (s_lst (s_cons (s_C (s_cons (s_C (s_cons (s_C (s_cons (s_callP (s_cons (s_C (s_nil ?_)))))))))))))))))))
  with_reducible refine take_ok (by decide) (by decide) (by omega) fun x x0 x1 => ?_
  refine s_nil ⟨by show 4 ≤ lim; decide, s_nil ?_⟩
  refine one_int [0, 1, 3, x] (by show 1 ≤ 4; decide) (by show 4 < 1073741824; decide) (by omega) fun z hz => ?_
  have hz2 : 0 ≤ z ∧ z < 99 := by
    simp only [List.mem_cons, List.not_mem_nil, or_false] at hz
    omega
  refine ⟨.int (1 + z), rfl, s_cons (s_var (d := optI num) rfl (s_nil ⟨by show 3 ≤ lim; decide, ?_⟩))⟩
  refine ⟨m.map ent, rfl, .int a, rfl, .inl a, rfl, by rw [List.length_map]; exact Nat.lt_of_le_of_lt hl (by decide), ?_⟩
  have hc : CellOk ⟨w, 1 + z, num⟩ := ⟨hw, by dsimp only; omega, by dsimp only; omega, h1, fun i e => by have := h2 i e; omega⟩
  have hk := k (putC m a ⟨w, 1 + z, num⟩) ⟨h.ok.put (by omega) hc, fun q hq => (mem_putC hq).elim (h.key q) fun e => by rw [e]; exact ha.2, fun q hq => (mem_putC hq).elim (h.num q) fun e i hi => by rw [e] at hi; exact (h2 i hi).2⟩ (len_putC m a _) (pos_putC m a _)
  have e : (diE most width spots ws chosen m (some (.int a)) x9 (some (.str w)) (some (optI num))).set 7 (some (.dict (putD (m.map ent) (.inl a) (.tuple [.str w, .int (1 + z), optI num])))) = diE most width spots ws chosen (putC m a ⟨w, 1 + z, num⟩) (some (.int a)) x9 (some (.str w)) (some (optI num)) := by
    rw [show (PyData.tuple [.str w, .int (1 + z), optI num]) = (Cell.mk w (1 + z) num).d from rfl, put_im]
    rfl
  have hk2 := e ▸ hk
  exact hk2
theorem di_turn {most width : Nat} {spots : List Int} {ws : List D} {chosen : List Str} {vals : List Int} {m : Img} {a : Int} {w : Str} {x11 : Option D} {n : Nat} {E : EndsD} (hw : W8 w) (ha : 0 ≤ a ∧ a < (width : Int)) (hwd : width ≤ 60) (hs : ∀ x ∈ spots, 0 ≤ x ∧ x < (width : Int)) (hsl : spots.length ≤ 60) (hv : ∀ x ∈ vals, 0 ≤ x ∧ x < (width : Int)) (hvl : vals.length ≤ 60) (h : DrOk width m) (hl : m.length ≤ 100) (hn : n < 890000)
    (k : ∀ m' y11 n', DrOk width m' → m'.length ≤ m.length + 1 → 1 ≤ m'.length → n' ≤ n + 6 → E.nx (diE most width spots ws chosen m' (some (.int a)) (some (.list (vals.map .int))) (some (.str w)) y11) n') :
    diB E (diE most width spots ws chosen m (some (.int a)) (some (.list (vals.map .int))) (some (.str w)) x11) n := by
  have el : vOp dMul (vVar 3) (vC (.int 3)) (diE most width spots ws chosen m (some (.int a)) (some (.list (vals.map .int))) (some (.str w)) x11) = some (.list ((spots ++ (spots ++ (spots ++ []))).map .int)) := by
    refine o2 (x := .list (spots.map .int)) (y := .int 3) rfl rfl ?_
    show (if _ then _ else _) = _
    rw [if_pos ?_]
    · show some (PyData.list (List.replicate 3 (spots.map .int)).flatten) = _
      congr 2
      show (spots.map PyData.int ++ (spots.map .int ++ (spots.map .int ++ []))) = _
      rw [List.map_append, List.map_append, List.map_append]; rfl
    · first
        | (refine ⟨?_, by decide, by decide⟩; rw [List.length_map]; show spots.length * 3 ≤ lim; exact Nat.le_trans (show _ ≤ 180 by omega) (by decide))
        | (rw [List.length_map]; show spots.length * 3 ≤ lim; exact Nat.le_trans (show _ ≤ 180 by omega) (by decide))
  refine q_setM (s_callP (s_cons (s_op (w_exp (f_Op f_Var f_C) el (s_lst (s_cons (s_var (d := .int a) rfl (s_cons (s_callP (s_cons (w_exp (d := .int ((width + 10 : Nat) : Int)) (f_Op f_Var f_C) (o2 (x := .int (width : Int)) (y := .int 10) rfl rfl rfl) (s_nil ?_))))))))))))
  with_reducible refine take_ok (by omega) (by omega) (by omega) fun x x0 x1 => ?_
  refine s_nil ⟨by show 2 ≤ lim; decide, ⟨.list (((spots ++ (spots ++ (spots ++ []))) ++ [a, x]).map .int), ?_, s_nil ?_⟩⟩
  · have e := dAdd_ls (xs := (spots ++ (spots ++ (spots ++ []))).map PyData.int) (ys := [a, x].map .int) ?_
    · rw [List.map_append (l₁ := spots ++ (spots ++ (spots ++ [])))]; exact e
    simp only [List.length_map, List.length_append, List.length_nil, List.length_cons]
    exact Nat.le_trans (show _ ≤ 200 by omega) (by decide)
  refine one_int _ (by simp only [List.length_append, List.length_cons]; omega) (by simp only [List.length_append, List.length_cons, List.length_nil]; omega) (by omega) fun num hnum => ?_
  have hnum2 : 0 ≤ num ∧ num < 131072 := by
    rcases List.mem_append.mp hnum with z | z
    · have : num ∈ spots := by
        simp only [List.append_nil, List.mem_append] at z
        rcases z with z | z | z <;> exact z
      have := hs num this
      omega
    · simp only [List.mem_cons, List.not_mem_nil, or_false] at z
      omega
  have fin : ∀ (num : Option Int) (n' : Nat), n' ≤ n + 4 → (num = none → w = ("island" : Str)) → (∀ i, num = some i → 0 ≤ i ∧ i < 131072) → mPutK 7 (mVar 8) (mTup (mCons (mVar 10) (mCons (mOp dAdd (mC (.int 1)) (mCallP m__law_one_of (mCons (mLst (mCons (mC (.int 0)) (mCons (mC (.int 1)) (mCons (mC (.int 3)) (mCons (mCallP m__law_take (mCons (mC (.int 99)) mNil)) mNil))))) mNil))) (mCons (mVar 11) mNil)))) E (diE most width spots ws chosen m (some (.int a)) (some (.list (vals.map .int))) (some (.str w)) (some (optI num))) n' := fun num n' hn' h1 h2 =>
    di_put hw ha hwd h hl (by omega) h1 h2 fun m' d1 d2 d3 => k m' _ _ d1 d2 d3 (by omega)
  have hin : ∃ b, dIn (.str w) (.tuple [.str "plain", .str "word", .str "stop"]) = some (.bool b) := by
    rcases hw with rfl | rfl | rfl | rfl | rfl | rfl | rfl | rfl <;> exact ⟨_, rfl⟩
  obtain ⟨b, hin⟩ := hin
  have hld : ∃ b, dEq (.str w) (.str "load") = some (.bool b) := by
    rcases hw with rfl | rfl | rfl | rfl | rfl | rfl | rfl | rfl <;> exact ⟨_, rfl⟩
  have hil : ∃ b, dEq (.str w) (.str "island") = some (.bool b) ∧ (b = true → w = ("island" : Str)) := by
    rcases hw with rfl | rfl | rfl | rfl | rfl | rfl | rfl | rfl <;> first | exact ⟨_, rfl, fun _ => rfl⟩ | exact ⟨_, rfl, fun z => nomatch z⟩
  obtain ⟨bl, hld⟩ := hld
  obtain ⟨bi, hil, hi2⟩ := hil
  refine w_seq (w_if b (f_Test (f_Op f_Var (f_Tup (f_Cons f_C (f_Cons f_C (f_Cons f_C f_Nil)))))) (vTest_of (o2 rfl (vTup_of (vCons_of rfl (vCons_of rfl (vCons_of rfl rfl))) (by show 3 ≤ lim; decide)) hin)) (fun _ => ?_) fun _ => ?_)
  · refine s_set (s_callP (s_cons (s_lst (s_cons (s_C (s_cons (s_C (s_cons (s_C (s_cons (s_C (s_cons (s_C (s_nil ⟨by show 5 ≤ lim; decide, s_nil ?_⟩))))))))))))))
    refine one_int [0, 1, 2, 999, 65535] (by show 1 ≤ 5; decide) (by show 5 < 1073741824; decide) (by omega) fun v hv => ?_
    refine fin (some v) _ (by omega) (fun z => nomatch z) fun i e => ?_
    cases e
    simp only [List.mem_cons, List.not_mem_nil, or_false] at hv
    omega
  refine s_if (s_andM (w_tst (b := bl) (f_Test (f_Op f_Var f_C)) (vTest_of (o2 rfl rfl hld)) ?_))
  have isl : ∀ n', n' ≤ n + 3 → mIfS (mAnd (mTest (mOp dEq (mVar 10) (mC (.str "island")))) (mTest (mOp dEq (mCallP m__law_take (mCons (mC (.int 5)) mNil)) (mC (.int 0))))) (mSet 11 (mC .none)) mNext { E with nx := mPutK 7 (mVar 8) (mTup (mCons (mVar 10) (mCons (mOp dAdd (mC (.int 1)) (mCallP m__law_one_of (mCons (mLst (mCons (mC (.int 0)) (mCons (mC (.int 1)) (mCons (mC (.int 3)) (mCons (mCallP m__law_take (mCons (mC (.int 99)) mNil)) mNil))))) mNil))) (mCons (mVar 11) mNil)))) E } (diE most width spots ws chosen m (some (.int a)) (some (.list (vals.map .int))) (some (.str w)) (some (optI (some num)))) n' := fun n' hn' => by
    refine s_if (s_andM (w_tst (b := bi) (f_Test (f_Op f_Var f_C)) (vTest_of (o2 rfl rfl hil)) ?_))
    cases hb : bi with
    | false =>
      rw [if_neg (by decide), if_neg (by decide)]
      exact fin (some num) _ (by omega) (fun z => nomatch z) fun i e => by cases e; exact hnum2
    | true =>
      rw [if_pos rfl]
      refine s_test (s_op (s_callP (s_cons (s_C (s_nil ?_)))))
      with_reducible refine take_ok (by decide) (by decide) (by omega) fun y y0 y1 => ?_
      refine s_C ⟨.bool (decide (y = 0)), dEq_int _ _, decide (y = 0), rfl, ?_⟩
      by_cases hy : y = 0
      · rw [decide_eq_true hy, if_pos rfl]
        exact s_set (s_C (fin none _ (by omega) (fun _ => hi2 hb) fun i e => nomatch e))
      · rw [decide_eq_false hy, if_neg (by decide)]
        exact fin (some num) _ (by omega) (fun z => nomatch z) fun i e => by cases e; exact hnum2
  cases bl with
  | false =>
    rw [if_neg (by decide), if_neg (by decide)]
    exact isl _ (by omega)
  | true =>
    rw [if_pos rfl]
    refine s_andM (w_tst (b := !vals.isEmpty) (f_Test (f_Op f_Var (f_Lst f_Nil))) (vTest_of (o2 rfl rfl (ints_ne vals))) ?_)
    cases hve : vals.isEmpty with
    | true =>
      rw [Bool.not_true, if_neg (by decide), if_neg (by decide)]
      exact isl _ (by omega)
    | false =>
      rw [Bool.not_false, if_pos rfl]
      refine s_test (s_op (s_callP (s_cons (s_C (s_nil ?_)))))
      with_reducible refine take_ok (by decide) (by decide) (by omega) fun y y0 y1 => ?_
      refine s_C ⟨.bool (decide (0 < y)), dGt_int _ _, decide (0 < y), rfl, ?_⟩
      by_cases hy : 0 < y
      · rw [decide_eq_true hy, if_pos rfl]
        refine s_set (s_callP (s_cons (s_var (d := .list (vals.map .int)) rfl (s_nil ?_))))
        refine one_int vals (by
          cases vals with
          | nil => cases hve
          | cons _ _ => rw [List.length_cons]; omega) (by omega) (by omega) fun v hvv => ?_
        refine fin (some v) _ (by omega) (fun z => nomatch z) fun i e => ?_
        cases e
        have := hv v hvv
        omega
      · rw [decide_eq_false hy, if_neg (by decide)]
        exact isl _ (by omega)
end RC
end
section
namespace RC
open PySem PySem.Spec L2 RR
open PyProof.Rows hiding St cutD
def w15 : List D := [.str "plain", .str "plain", .str "plain", .str "plain", .str "stop", .str "jump", .str "far", .str "branch", .str "island", .str "load", .str "word", .str "branch", .str "island", .str "load", .str "word"]
theorem w15_w8 : ∀ d ∈ w15, ∃ w : Str, d = .str w ∧ W8 w := by
  intro d h
  unfold w15 at h
  simp only [List.mem_cons, List.not_mem_nil, or_false] at h
  rcases h with rfl | rfl | rfl | rfl | rfl | rfl | rfl | rfl | rfl | rfl | rfl | rfl | rfl | rfl | rfl <;> exact ⟨_, rfl, by unfold W8; simp⟩
theorem zip_is : ∀ (xs : List Int) (ws : List Str), zipD (xs.map .int) (ws.map .str) = (List.zip xs ws).map fun q => PyData.tuple [.int q.1, .str q.2]
  | [], _ => by cases ‹List Str› <;> rfl
  | _ :: _, [] => rfl
  | x :: xs, w :: ws => by
    show PyData.tuple _ :: zipD (xs.map .int) (ws.map .str) = _
    rw [zip_is xs ws]; rfl
theorem di_vals {most width : Nat} {spots : List Int} {chosen : List Str} (hl : spots.length ≤ 60) (hc : ∀ w ∈ chosen, W8 w) :
    vLc (vIZ (vCons (vVar 3) (vCons (vVar 6) vNil))) (vgTup 2 (vgCons (vgName 8) (vgCons (vgName 10) vgNil))) (vTest (vOp dEq (vVar 10) (vC (.str "word")))) (vVar 8) [8, 10] (diE most width spots w15 chosen [] none none none none) = some (.list ((((List.zip spots chosen).filter fun q => decide (q.2 = ("word" : Str))).map (·.1)).map .int)) := by
  refine vLc_of (ds := (List.zip spots chosen).map fun q => PyData.tuple [.int q.1, .str q.2]) (by rw [← zip_is]; rfl) (by rw [List.length_map]; exact Nat.le_trans (List.length_zip ▸ Nat.min_le_left _ _) (Nat.le_trans hl (by decide))) ?_
  rw [List.map_map]
  refine vcomp_filterOf _ (fun q : Int × Str => decide (q.2 = ("word" : Str))) (fun q : Int × Str => PyData.int q.1) fun q hq => ?_
  obtain ⟨a, w⟩ := q
  have hw := hc w (List.of_mem_zip hq).2
  refine ⟨diE most width spots w15 chosen [] (some (.int a)) none (some (.str w)) none, rfl, vTest_of (b := decide (w = ("word" : Str))) (o2 (x := .str w) (y := .str "word") rfl rfl ?_), fun _ => rfl⟩
  rcases hw with rfl | rfl | rfl | rfl | rfl | rfl | rfl | rfl <;> rfl
theorem s_dict0 {Γ : DEnv} {n : Nat} {Q : D → Nat → Prop} (h : Q (.dict []) n) : mDict0 Γ n Q := h
theorem s_dictOf {me : ME} {Γ : DEnv} {n : Nat} {Q : D → Nat → Prop} (h : me Γ n fun d n1 => ∃ kvs, d = .dict kvs ∧ Q d n1) : mDictOf me Γ n Q := h
theorem di_loop {most width : Nat} {spots : List Int} {chosen : List Str} {vals : List Int} {E : EndsD} (hwd : width ≤ 60) (hs : ∀ x ∈ spots, 0 ≤ x ∧ x < (width : Int)) (hsl : spots.length ≤ 60) (hc : ∀ w ∈ chosen, W8 w) (hv : ∀ x ∈ vals, 0 ≤ x ∧ x < (width : Int)) (hvl : vals.length ≤ 60) {N B : Nat} (hB : N + 6 * spots.length < 890000) (hne : 1 ≤ spots.length) (hcl : chosen.length = spots.length) {n : Nat} (hn : n ≤ N)
    (k : ∀ m' x8 x10 y11 n', DrOk width m' → 1 ≤ m'.length → m'.length ≤ spots.length → n' ≤ N + 6 * spots.length → E.nx (diE most width spots w15 chosen m' x8 (some (.list (vals.map .int))) x10 y11) n') :
    forW (mgTup 2 (mgCons (mgName 8) (mgCons (mgName 10) mgNil))) diB E ((List.zip spots chosen).map fun q => .tuple [.int q.1, .str q.2]) (diE most width spots w15 chosen [] none (some (.list (vals.map .int))) none none) n := by
  have hz : (List.zip spots chosen).length = spots.length := by rw [List.length_zip, hcl, Nat.min_self]
  refine w_for (I := fun ds Γ n' => ∃ (i : Nat) (m : Img) (x8 x10 x11 : Option D), Γ = diE most width spots w15 chosen m x8 (some (.list (vals.map .int))) x10 x11 ∧ ds = ((List.zip spots chosen).drop i).map (fun q => .tuple [.int q.1, .str q.2]) ∧ i ≤ spots.length ∧ DrOk width m ∧ m.length ≤ i ∧ (1 ≤ i → 1 ≤ m.length) ∧ n' ≤ N + 6 * i) (fun d ds Γ n' hI K hK => ?_) (fun Γ n' hI => ?_) _ _ _ ⟨0, [], none, none, none, rfl, by rw [List.drop_zero], Nat.zero_le _, ⟨imOk_nil, (fun q h => nomatch h), fun q h => nomatch h⟩, Nat.le_refl _, fun z => absurd z (by decide), by omega⟩
  · obtain ⟨i, m, x8, x10, x11, rfl, e, hi, hm, hml, hpos, hn'⟩ := hI
    have hlt : i < (List.zip spots chosen).length := by
      rcases Nat.lt_or_ge i (List.zip spots chosen).length with z | z
      · exact z
      · rw [List.drop_eq_nil_of_le z] at e; exact nomatch e
    rw [List.drop_eq_getElem_cons hlt, List.map_cons] at e
    obtain ⟨e1, e2⟩ := List.cons.inj e
    have hq := List.getElem_mem hlt
    generalize ((List.zip spots chosen)[i]) = q at e1 hq
    obtain ⟨a, w⟩ := q
    obtain ⟨ha, hw⟩ := List.of_mem_zip hq
    rw [e1]
    refine ⟨[.int a, .str w], rfl, rfl, .int a, [.str w], rfl, .str w, [], rfl, rfl, ?_⟩
    show diB _ (diE most width spots w15 chosen m (some (.int a)) (some (.list (vals.map .int))) (some (.str w)) x11) n'
    exact di_turn (hc w hw) (hs a ha) hwd hs hsl hv hvl hm (by omega) (by omega) fun m' y11 n2 d1 d2 d3 d4 => hK _ _ ⟨i + 1, m', _, _, _, rfl, e2, by omega, d1, by omega, fun _ => d3, by omega⟩
  · obtain ⟨i, m, x8, x10, x11, rfl, e, hi, hm, hml, hpos, hn'⟩ := hI
    have hge : (List.zip spots chosen).length ≤ i := by
      rcases Nat.lt_or_ge i (List.zip spots chosen).length with z | z
      · rw [List.drop_eq_getElem_cons z] at e; exact nomatch e
      · exact z
    have : i = spots.length := by omega
    subst this
    exact k m _ _ _ _ hm (hpos (by omega)) hml hn'
theorem w_draw_image {most width : Nat} {n : Nat} {R : D → Nat → Prop} (hm : 1 ≤ most ∧ most ≤ 12) (hw : 1 ≤ width ∧ width ≤ 40) (hn : n < 800000) (k : ∀ m n', DrOk width m → 1 ≤ m.length → m.length ≤ most → n' ≤ n + 100 → R (imD m) n') : m__law_draw_image [.int (most : Int), .int (width : Int)] n R := by
  unfold m__law_draw_image b__law_draw_image
  refine ⟨rfl, ?_⟩
  refine q_setM (s_un (s_lc (s_ir1 (s_cons (s_op (s_C (s_callP (s_cons (s_var (d := .int (most : Int)) rfl (s_nil ?_))))))))))
  with_reducible refine take_ok (by omega) (by omega) (by omega) fun x x0 x1 => ?_
  refine ⟨.int (1 + x), rfl, s_nil ⟨1 + x, rfl, ?_, by rw [rangeD_len]; exact Nat.le_trans (show _ ≤ 12 by omega) (by decide), ?_⟩⟩
  · first | exact ⟨by omega, by omega⟩ | (show _ ≤ _; exact Int.le_trans (show _ ≤ 12 by omega) (by decide))
  refine w_compY (N := 890000) (c := 1) (fun _ y => ∃ v, y = .int v ∧ 0 ≤ v ∧ v < (width : Int)) (fun d n1 R hn1 hR => s_gName (s_callP (s_cons (s_var (d := .int (width : Int)) rfl (s_nil ?_))))) _ _ _ (by rw [rangeD_len]; omega) fun r n2 hr hP hn2 => ?_
  · with_reducible refine take_ok (by omega) (by omega) (by omega) fun v v0 v1 => ?_
    exact hR _ _ ⟨v, rfl, v0, v1⟩ (Nat.le_refl _)
  rw [rangeD_len] at hr hn2
  obtain ⟨xs, rfl, hxs⟩ := ints_of_all (r := r) (P := fun v => 0 ≤ v ∧ v < (width : Int)) fun i y e => by
    have hi : i < (rangeD 0 (1 + x).toNat).length := by
      rw [rangeD_len, ← hr]; exact (List.getElem?_eq_some_iff.mp e).1
    exact hP i _ y (List.getElem?_eq_getElem hi) e
  rw [List.length_map] at hr
  have hsm : ∀ v ∈ setI xs, 0 ≤ v ∧ v < (width : Int) := fun v hv => hxs v (setI_mem.mp hv)
  have hsl : (setI xs).length ≤ xs.length := setI_len xs
  have hs1 : 1 ≤ (setI xs).length := by
    cases xs with
    | nil => exact absurd hr (by show 0 ≠ _; omega)
    | cons y ys =>
      have := (setI_mem (ns := y :: ys) (j := y)).mpr List.mem_cons_self
      exact List.length_pos_of_mem this
  refine ⟨.list ((setI xs).map .int), ?_, ?_⟩
  · show (asInts (xs.map .int)).bind _ = _
    rw [asInts_ints, Option.bind_some, if_pos (by omega)]
  generalize hS : setI xs = spots at *
  refine q_set (d := .list w15) (f_Op (f_Op (f_Op (f_Lst (f_Cons f_C f_Nil)) f_C) (f_Lst (f_Cons f_C (f_Cons f_C (f_Cons f_C f_Nil))))) (f_Op (f_Lst (f_Cons f_C (f_Cons f_C (f_Cons f_C (f_Cons f_C f_Nil))))) f_C)) rfl ?_
  refine q_par (s_cons (s_lc (s_iseq (s_var (d := .list (spots.map .int)) rfl ⟨_, rfl, by rw [List.length_map]; exact Nat.le_trans (show _ ≤ 12 by omega) (by decide), ?_⟩))))
  refine w_compY (N := 890000) (c := 1) (fun _ y => ∃ w, y = .str w ∧ W8 w) (fun d n1 R hn1 hR => s_gName (s_callP (s_cons (s_var (d := .list w15) rfl (s_nil ?_))))) _ _ _ (by rw [List.length_map]; omega) fun r n3 hr3 hP3 hn3 => ?_
  · refine one_of_ok (by show 1 ≤ 15; decide) (by show 15 < 1073741824; decide) (by omega) fun d hd => ?_
    exact hR _ _ (w15_w8 d hd) (Nat.le_refl _)
  rw [List.length_map] at hr3 hn3
  obtain ⟨chosen, rfl, hch⟩ := strs_of_all (r := r) (P := W8) fun i y e => by
    have hi : i < (spots.map PyData.int).length := by
      rw [List.length_map, ← hr3]; exact (List.getElem?_eq_some_iff.mp e).1
    exact hP3 i _ y (List.getElem?_eq_getElem hi) e
  rw [List.length_map] at hr3
  refine s_cons (s_dict0 (s_nil ⟨rfl, ?_⟩))
  have hcw : ∀ w ∈ chosen, W8 w := hch
  refine q_set (f_Lc (f_IZ (f_Cons f_Var (f_Cons f_Var f_Nil))) (f_gTup (f_gCons f_gName (f_gCons f_gName f_gNil))) (f_Test (f_Op f_Var f_C)) f_Var) (di_vals (most := most) (width := width) (spots := spots) (chosen := chosen) (by omega) hcw) ?_
  generalize hV : ((List.zip spots chosen).filter fun q => decide (q.2 = ("word" : Str))).map (·.1) = vals
  have hv : ∀ v ∈ vals, 0 ≤ v ∧ v < (width : Int) := by
    intro v hv
    rw [← hV] at hv
    obtain ⟨q, hq, rfl⟩ := List.mem_map.mp hv
    exact hsm _ (List.of_mem_zip (List.mem_filter.mp hq).1).1
  have hvl : vals.length ≤ 60 := by
    rw [← hV, List.length_map]
    refine Nat.le_trans (List.length_filter_le _ _) ?_
    rw [List.length_zip]; omega
  refine q_for (w_it (f_IZ (f_Cons f_Var (f_Cons f_Var f_Nil))) (ds := (List.zip spots chosen).map fun q => PyData.tuple [.int q.1, .str q.2]) ?_ ?_)
  · rw [← zip_is]; rfl
  refine di_loop (by omega) hsm (by omega) hcw hv hvl (N := n3) (B := 0) (by omega) hs1 hr3 (Nat.le_refl _) fun m' x8 x10 y11 n' d1 d2 d3 d4 => ?_
  exact s_ret (s_var (d := imD m') rfl (k m' n' d1 d2 (by omega) (by omega)))
end RC
end
section
namespace RC
open PySem PySem.Spec L2 RR
open PyProof.Rows hiding St cutD
theorem okSort_ints (xs : List Int) : okSort (xs.map .int) = true := by
  unfold okSort
  have c : PyData.canLayAll0 (xs.map .int) = true := by
    induction xs with
    | nil => rfl
    | cons x xs ih => show (true && PyData.canLayAll0 (xs.map .int)) = true; rw [ih]; rfl
  have dp : PyData.depthAll (xs.map .int) ≤ 0 := by
    induction xs with
    | nil => exact Nat.le_refl _
    | cons x xs ih =>
      have c2 : PyData.canLayAll0 (xs.map .int) = true := (Bool.and_eq_true_iff.mp c).2
      show max 0 (PyData.depthAll (xs.map .int)) ≤ 0
      have := ih c2
      omega
  rw [c, Bool.and_true, Bool.and_eq_true, Bool.and_eq_true, Bool.or_eq_true]
  refine ⟨⟨?_, .inr ?_⟩, decide_eq_true (by omega)⟩
  · rw [List.all_eq_true]
    intro x hx
    rw [List.all_eq_true]
    intro y hy
    obtain ⟨a, _, rfl⟩ := List.mem_map.mp hx
    obtain ⟨b, _, rfl⟩ := List.mem_map.mp hy
    rfl
  · rw [List.all_eq_true]
    intro x hx
    obtain ⟨a, _, rfl⟩ := List.mem_map.mp hx
    rfl
theorem sortedK_im (m : Img) : ∃ ks : List Int, cSortedK [imD m] = some (.list (ks.map .int)) ∧ ks.length = m.length ∧ ∀ a, a ∈ ks → a ∈ keysI m := by
  have hp : (sortD ((keysI m).map .int)).Perm ((keysI m).map .int) := List.mergeSort_perm _ _
  have : ∀ (i : Nat) y, (sortD ((keysI m).map .int))[i]? = some y → ∃ x, y = .int x ∧ x ∈ keysI m := fun i y e => by
    have := hp.mem_iff.mp (List.mem_of_getElem? e)
    obtain ⟨x, hx, rfl⟩ := List.mem_map.mp this
    exact ⟨x, rfl, hx⟩
  obtain ⟨ks, e, hk⟩ := ints_of_all (P := fun x => x ∈ keysI m) this
  refine ⟨ks, ?_, ?_, hk⟩
  · have ak : ((m.map ent).all fun q => isKey q.1) = true := List.all_eq_true.mpr fun q hq => by
      obtain ⟨z, _, rfl⟩ := List.mem_map.mp hq
      rfl
    show (if _ ∧ _ then _ else _) = _
    rw [keys_ints, if_pos ⟨ak, okSort_ints _⟩, e]
  · have := hp.length_eq
    rw [e, List.length_map, List.length_map] at this
    rw [this]; unfold keysI; rw [List.length_map]
theorem vals_im (m : Img) : dValsL (imD m) = some (.list (m.map fun q => q.2.d)) := by
  show some (PyData.list ((m.map ent).map (·.2))) = _
  rw [List.map_map]; rfl
def chE (image : Img) (width many : Nat) (m other : Img) (x6 x7 : Option D) : DEnv := [none, some (imD image), some (.int (width : Int)), some (.int (many : Int)), some (imD m), some (imD other), x6, x7]
abbrev chB : MS := (mSeq (mSet 7 (mCallP m__law_one_of (mCons (mOp dAdd (mOp dAdd (mOp dMul (mCl cSortedK (mCons (mVar 1) mNil)) (mC (.int 2))) (mCl cSortedK (mCons (mVar 5) mNil))) (mLst (mCons (mCallP m__law_take (mCons (mVar 2) mNil)) mNil))) mNil))) (mIfS (mTest (mOp dEq (mCallP m__law_take (mCons (mC (.int 3)) mNil)) (mC (.int 0)))) (mDPop 4 (mVar 7) (mC .none)) (mPutK 4 (mVar 7) (mCallP m__law_one_of (mCons (mOp dAdd (mUn dValsL (mVar 5)) (mUn dValsL (mVar 1))) mNil)))))
theorem DrOk.putC' {width : Nat} {m : Img} (h : DrOk width m) (hwd : width ≤ 60) {a : Int} {c : Cell} (ha : 0 ≤ a ∧ a < (width : Int)) (hc : CellOk c) (hn : ∀ i, c.n = some i → i < 131072) : DrOk width (putC m a c) :=
  ⟨h.ok.put (by omega) hc, fun q hq => (mem_putC hq).elim (h.key q) fun e => by rw [e]; exact ha.2, fun q hq => (mem_putC hq).elim (h.num q) fun e i hi => by rw [e] at hi; exact hn i hi⟩
theorem DrOk.dropC' {width : Nat} {m : Img} (h : DrOk width m) (a : Int) : DrOk width (dropC m a) := ⟨h.ok.drop a, fun q hq => h.key q (mem_dropC hq), fun q hq => h.num q (mem_dropC hq)⟩
theorem DrOk.kk {width : Nat} {m : Img} (h : DrOk width m) {a : Int} (k : a ∈ keysI m) : 0 ≤ a ∧ a < (width : Int) := by
  obtain ⟨q, hq, rfl⟩ := List.mem_map.mp k
  exact ⟨(h.ok.key q hq).1, h.key q hq⟩
theorem dMul2 {xs : List D} (h : xs.length ≤ 100) : dMul (.list xs) (.int 2) = some (.list (xs ++ (xs ++ []))) := by
  show (if _ then _ else _) = _
  rw [if_pos ?_]
  · rfl
  · first
      | (refine ⟨?_, by decide, by decide⟩; show xs.length * 2 ≤ lim; exact Nat.le_trans (show _ ≤ 200 by omega) (by decide))
      | (show xs.length * 2 ≤ lim; exact Nat.le_trans (show _ ≤ 200 by omega) (by decide))
theorem ch_turn {image m other : Img} {width many : Nat} {x6 x7 : Option D} {n : Nat} {E : EndsD} (hi : DrOk width image) (hil : image.length ≤ 30) (ho : DrOk width other) (hol : 1 ≤ other.length ∧ other.length ≤ 30) (hm : DrOk width m) (hml : m.length ≤ 100) (hwd : 1 ≤ width ∧ width ≤ 60) (hn : n < 890000)
    (k : ∀ m' y7 n', DrOk width m' → m'.length ≤ m.length + 1 → n' ≤ n + 4 → E.nx (chE image width many m' other x6 y7) n') : chB E (chE image width many m other x6 x7) n := by
  obtain ⟨k1, ek1, hl1, hk1⟩ := sortedK_im image
  obtain ⟨k2, ek2, hl2, hk2⟩ := sortedK_im other
  have e1 : vOp dAdd (vOp dMul (vCl cSortedK (vCons (vVar 1) vNil)) (vC (.int 2))) (vCl cSortedK (vCons (vVar 5) vNil)) (chE image width many m other x6 x7) = some (.list (((k1 ++ (k1 ++ [])) ++ k2).map .int)) := by
    refine o2 (o2 (o_cl (x := [imD image]) rfl ek1) (y := .int 2) rfl (dMul2 (by rw [List.length_map]; omega))) (o_cl (x := [imD other]) rfl ek2) ?_
    have e := dAdd_ls (xs := (k1 ++ (k1 ++ [])).map PyData.int) (ys := k2.map .int) (by simp only [List.length_map, List.length_append, List.length_nil]; omega)
    rw [List.map_append (l₁ := k1 ++ (k1 ++ [])), ← e, List.map_append, List.map_append]; rfl
  refine q_setM (s_callP (s_cons (s_op (w_exp (f_Op (f_Op (f_Cl (f_Cons f_Var f_Nil)) f_C) (f_Cl (f_Cons f_Var f_Nil))) e1 (s_lst (s_cons (s_callP (s_cons (s_var (d := .int (width : Int)) rfl (s_nil ?_))))))))))
  with_reducible refine take_ok (by omega) (by omega) (by omega) fun x x0 x1 => ?_
  refine s_nil ⟨by show 1 ≤ lim; decide, ⟨.list ((((k1 ++ (k1 ++ [])) ++ k2) ++ [x]).map .int), ?_, s_nil ?_⟩⟩
  · rw [List.map_append (l₁ := ((k1 ++ (k1 ++ [])) ++ k2))]
    exact dAdd_ls (ys := [x].map PyData.int) (by simp only [List.length_map, List.length_append, List.length_nil, List.length_cons]; omega)
  refine one_int _ (by simp only [List.length_append, List.length_cons]; omega) (by simp only [List.length_append, List.length_cons, List.length_nil]; omega) (by omega) fun a ha => ?_
  have ha2 : 0 ≤ a ∧ a < (width : Int) := by
    simp only [List.append_nil, List.mem_append, List.mem_cons, List.not_mem_nil, or_false] at ha
    rcases ha with ((z | z) | z) | rfl
    · exact hi.kk (hk1 a z)
    · exact hi.kk (hk1 a z)
    · exact ho.kk (hk2 a z)
    · exact ⟨x0, x1⟩
  show mIfS _ _ _ E (chE image width many m other x6 (some (.int a))) _
  refine s_if (s_test (s_op (s_callP (s_cons (s_C (s_nil ?_))))))
  with_reducible refine take_ok (by decide) (by decide) (by omega) fun y y0 y1 => ?_
  refine s_C ⟨.bool (decide (y = 0)), dEq_int _ _, decide (y = 0), rfl, ?_⟩
  by_cases hy : y = 0
  · rw [decide_eq_true hy, if_pos rfl]
    refine ⟨m.map ent, rfl, s_var (d := .int a) rfl (s_C ⟨.inl a, rfl, ?_⟩)⟩
    rw [drop_im]
    exact k (dropC m a) _ _ (hm.dropC' a) (Nat.le_trans (len_dropC m a) (Nat.le_succ _)) (by omega)
  · rw [decide_eq_false hy, if_neg (by decide)]
    have e2 : vOp dAdd (vUn dValsL (vVar 5)) (vUn dValsL (vVar 1)) (chE image width many m other x6 (some (.int a))) = some (.list ((other ++ image).map fun q => q.2.d)) := by
      refine o2 (o1 (x := imD other) rfl (vals_im other)) (o1 (x := imD image) rfl (vals_im image)) ?_
      rw [List.map_append]
      exact dAdd_ls (by rw [List.length_map, List.length_map]; omega)
    refine s_callP (s_cons (w_exp (f_Op (f_Un f_Var) (f_Un f_Var)) e2 (s_nil ?_)))
    refine one_of_ok (by rw [List.length_map, List.length_append]; omega) (by rw [List.length_map, List.length_append]; omega) (by omega) fun d hd => ?_
    obtain ⟨q, hq, rfl⟩ := List.mem_map.mp hd
    have hc : CellOk q.2 ∧ ∀ i, q.2.n = some i → i < 131072 := by
      rcases List.mem_append.mp hq with z | z
      · exact ⟨ho.ok.cell q z, ho.num q z⟩
      · exact ⟨hi.ok.cell q z, hi.num q z⟩
    refine ⟨m.map ent, rfl, s_var (d := .int a) rfl ⟨.inl a, rfl, by rw [List.length_map]; exact Nat.lt_of_le_of_lt hml (by decide), ?_⟩⟩
    rw [put_im]
    exact k (putC m a q.2) _ _ (hm.putC' hwd.2 ha2 hc.1 hc.2) (len_putC m a _) (by omega)
end RC
end
section
namespace RC
open PySem PySem.Spec L2 RR
open PyProof.Rows hiding St cutD
def lge : List Int → Int → Option Int
  | [], _ => none
  | k :: ks, a => if a ≤ k then some (match lge ks a with | none => k | some j => min k j) else lge ks a
theorem lge_spec : ∀ (ks : List Int) (a : Int), (∀ v, lge ks a = some v → v ∈ ks ∧ a ≤ v ∧ ∀ k ∈ ks, a ≤ k → v ≤ k) ∧ (lge ks a = none → ∀ k ∈ ks, k < a)
  | [], a => ⟨fun v h => (nomatch h), fun _ k h => nomatch h⟩
  | k :: ks, a => by
    obtain ⟨h1, h2⟩ := lge_spec ks a
    unfold lge
    by_cases hk : a ≤ k
    · rw [if_pos hk]
      refine ⟨fun v hv => ?_, fun h => nomatch h⟩
      cases hv
      cases e : lge ks a with
      | none =>
        refine ⟨List.mem_cons_self, hk, fun j hj hja => ?_⟩
        rcases List.mem_cons.mp hj with rfl | hj
        · exact Int.le_refl _
        · have := h2 e j hj; omega
      | some j =>
        obtain ⟨g1, g2, g3⟩ := h1 j e
        dsimp only
        refine ⟨?_, by omega, fun i hi hia => ?_⟩
        · rcases Int.le_total k j with z | z
          · rw [Int.min_eq_left z]; exact List.mem_cons_self
          · rw [Int.min_eq_right z]; exact List.mem_cons_of_mem _ g1
        · rcases List.mem_cons.mp hi with rfl | hi
          · omega
          · have := g3 i hi hia; omega
    · rw [if_neg hk]
      refine ⟨fun v hv => ?_, fun h j hj => ?_⟩
      · obtain ⟨g1, g2, g3⟩ := h1 v hv
        refine ⟨List.mem_cons_of_mem _ g1, g2, fun i hi hia => ?_⟩
        rcases List.mem_cons.mp hi with rfl | hi
        · omega
        · exact g3 i hi hia
      · rcases List.mem_cons.mp hj with rfl | hj
        · omega
        · exact h2 h j hj
theorem lge_some {ks : List Int} {a v : Int} (h1 : v ∈ ks) (h2 : a ≤ v) (h3 : ∀ k ∈ ks, a ≤ k → v ≤ k) : lge ks a = some v := by
  cases e : lge ks a with
  | none => have := (lge_spec ks a).2 e v h1; omega
  | some w =>
    obtain ⟨g1, g2, g3⟩ := (lge_spec ks a).1 w e
    have := g3 v h1 h2
    have := h3 w g1 g2
    rw [show w = v by omega]
theorem lge_none {ks : List Int} {a : Int} (h : ∀ k ∈ ks, k < a) : lge ks a = none := by
  cases e : lge ks a with
  | none => rfl
  | some w =>
    obtain ⟨g1, g2, g3⟩ := (lge_spec ks a).1 w e
    have := h w g1; omega
theorem lge_congr {ks ls : List Int} (h : ∀ k, k ∈ ks ↔ k ∈ ls) (a : Int) : lge ks a = lge ls a := by
  cases e : lge ls a with
  | none => exact lge_none fun k hk => (lge_spec ls a).2 e k ((h k).mp hk)
  | some v =>
    obtain ⟨g1, g2, g3⟩ := (lge_spec ls a).1 v e
    exact lge_some ((h v).mpr g1) g2 fun k hk => g3 k ((h k).mp hk)
def nxt (m : Img) (a : Int) : Option Int := lge (keysI m) a
theorem nxt_mem {m : Img} {a v : Int} (h : nxt m a = some v) : v ∈ keysI m := ((lge_spec _ a).1 v h).1
theorem nxt_get {m : Img} {a v : Int} (h : nxt m a = some v) : ∃ c, getC m v = some c := Option.isSome_iff_exists.mp (get_some_iff.mpr (nxt_mem h))
theorem le_int' (a b : Int) : PySem.W.dataLe false id (PyData.int a) (.int b) = decide (a ≤ b) := congrFun (congrFun (PySem.W.dataLe_int (fun x : Int => x)) a) b
def sortK (m : Img) : List Int := (keysI m).mergeSort fun a b => decide (a ≤ b)
theorem sortK_mem {m : Img} {a : Int} : a ∈ sortK m ↔ a ∈ keysI m := List.mem_mergeSort
theorem sortK_len (m : Img) : (sortK m).length = m.length := by
  unfold sortK keysI
  rw [(List.mergeSort_perm _ _).length_eq, List.length_map]
theorem sortK_asc {m : Img} (h : (keysI m).Nodup) : (sortK m).Pairwise (· < ·) := by
  have s := List.pairwise_mergeSort (le := fun a b : Int => decide (a ≤ b)) (fun a b c h1 h2 => by rw [decide_eq_true_eq] at *; omega) (fun a b => by rw [Bool.or_eq_true, decide_eq_true_eq, decide_eq_true_eq]; omega) (keysI m)
  have nd : (sortK m).Nodup := (List.mergeSort_perm _ _).nodup_iff.mpr h
  exact (s.and nd).imp fun ⟨x, y⟩ => by
    have := of_decide_eq_true x
    omega
theorem sortedK_eq (m : Img) : cSortedK [imD m] = some (.list ((sortK m).map .int)) := by
  have ak : ((m.map ent).all fun q => isKey q.1) = true := List.all_eq_true.mpr fun q hq => by
    obtain ⟨z, _, rfl⟩ := List.mem_map.mp hq
    rfl
  show (if _ ∧ _ then _ else _) = _
  rw [keys_ints, if_pos ⟨ak, okSort_ints _⟩]
  unfold sortD sortK
  have e : ((keysI m).map PyData.int).mergeSort (PySem.W.dataLe false id) = ((keysI m).mergeSort fun a b => decide (a ≤ b)).map .int := (List.map_mergeSort fun a _ b _ => (le_int' a b).symm).symm
  rw [e]
abbrev faT : VT := vTest (vOp dLt (vVar 2) (vVar 3))
abbrev faB : VS := (vSeqS (vSet 4 (vOp dDiv (vOp dAdd (vVar 2) (vVar 3)) (vC (.int 2)))) (vIfS (vTest (vOp dLt (vOp dIx (vVar 0) (vVar 4)) (vVar 1))) (vSet 2 (vOp dAdd (vVar 4) (vC (.int 1)))) (vSet 3 (vVar 4))))
def faE (ks : List Int) (a : Int) (lo hi : Nat) (x4 : Option D) : DEnv := [some (.list (ks.map .int)), some (.int a), some (.int (lo : Int)), some (.int (hi : Int)), x4]
theorem fa_loop {ks : List Int} {a : Int} (asc : ks.Pairwise (· < ·)) : ∀ (f : Nat) (lo hi : Nat) (x4 : Option D), hi - lo < f → lo ≤ hi → hi ≤ ks.length → (∀ i (h : i < ks.length), i < lo → ks[i] < a) → (∀ i (h : i < ks.length), hi ≤ i → a ≤ ks[i]) →
    ∃ l y4, vwhile faT faB f (faE ks a lo hi x4) = some (.nx (faE ks a l l y4)) ∧ l ≤ ks.length ∧ (∀ i (h : i < ks.length), i < l → ks[i] < a) ∧ (∀ i (h : i < ks.length), l ≤ i → a ≤ ks[i])
  | 0, lo, hi, x4, hf, _, _, _, _ => absurd hf (Nat.not_lt_zero _)
  | f + 1, lo, hi, x4, hf, h1, h2, h3, h4 => by
    have et : faT (faE ks a lo hi x4) = some (decide ((lo : Int) < (hi : Int))) := vTest_of (o2 rfl rfl rfl)
    by_cases hlt : lo < hi
    · rw [decide_eq_true (by omega)] at et
      have hm : (lo + hi) / 2 < ks.length := by omega
      have ed : vOp dDiv (vOp dAdd (vVar 2) (vVar 3)) (vC (.int 2)) (faE ks a lo hi x4) = some (.int (((lo + hi) / 2 : Nat) : Int)) := by
        refine o2 (x := .int ((lo : Int) + (hi : Int))) (y := .int 2) (o2 (x := .int (lo : Int)) (y := .int (hi : Int)) rfl rfl rfl) rfl ?_
        exact (if_pos (e := none) (show (0 : Int) < 2 ∧ (2 : Int) < 1073741824 by decide)).trans (congrArg (fun z => some (PyData.int z)) (by omega))
      have ei : vTest (vOp dLt (vOp dIx (vVar 0) (vVar 4)) (vVar 1)) (faE ks a lo hi (some (.int (((lo + hi) / 2 : Nat) : Int)))) = some (decide (ks[(lo + hi) / 2] < a)) :=
        vTest_of (o2 (x := .int ks[(lo + hi) / 2]) (y := .int a) (o2 (x := .list (ks.map .int)) (y := .int (((lo + hi) / 2 : Nat) : Int)) rfl rfl (atI_nat (by rw [List.getElem?_map, List.getElem?_eq_getElem hm]; rfl))) rfl rfl)
      by_cases hc : ks[(lo + hi) / 2] < a
      · rw [decide_eq_true hc] at ei
        have eb : faB (faE ks a lo hi x4) = some (.nx (faE ks a ((lo + hi) / 2 + 1) hi (some (.int (((lo + hi) / 2 : Nat) : Int))))) := by
          refine vSeq_nx (vSet_of ed) ?_
          refine vIfS_t ei ?_
          refine vSet_of (d := .int (((lo + hi) / 2 + 1 : Nat) : Int)) (o2 (x := .int (((lo + hi) / 2 : Nat) : Int)) (y := .int 1) rfl rfl ?_)
          exact congrArg (fun z => some (PyData.int z)) (by omega)
        obtain ⟨l, y4, e, g⟩ := fa_loop (a := a) asc f ((lo + hi) / 2 + 1) hi (some (.int (((lo + hi) / 2 : Nat) : Int))) (by omega) (by omega) h2 (fun i h hi2 => by
          rcases Nat.lt_or_ge i ((lo + hi) / 2) with z | z
          · have := List.pairwise_iff_getElem.mp asc i _ h hm z
            omega
          · have : i = (lo + hi) / 2 := by omega
            subst this; exact hc) h4
        exact ⟨l, y4, vWhile_nx et eb e, g⟩
      · rw [decide_eq_false hc] at ei
        have eb : faB (faE ks a lo hi x4) = some (.nx (faE ks a lo ((lo + hi) / 2) (some (.int (((lo + hi) / 2 : Nat) : Int))))) := by
          refine vSeq_nx (vSet_of ed) ?_
          refine vIfS_f ei ?_
          exact vSet_of (d := .int (((lo + hi) / 2 : Nat) : Int)) rfl
        obtain ⟨l, y4, e, g⟩ := fa_loop (a := a) asc f lo ((lo + hi) / 2) (some (.int (((lo + hi) / 2 : Nat) : Int))) (by omega) (by omega) (by omega) h3 (fun i h hi2 => by
          rcases Nat.lt_or_ge ((lo + hi) / 2) i with z | z
          · have := List.pairwise_iff_getElem.mp asc _ i hm h z
            omega
          · have : i = (lo + hi) / 2 := by omega
            subst this; omega)
        exact ⟨l, y4, vWhile_nx et eb e, g⟩
    · rw [decide_eq_false (by omega)] at et
      have : lo = hi := by omega
      subst this
      exact ⟨lo, x4, vWhile_go et, h2, h3, h4⟩
theorem v_first_at_eq {ks : List Int} {a : Int} (asc : ks.Pairwise (· < ·)) (hl : ks.length ≤ 1000) : v_first_at [.list (ks.map .int), .int a] = some (optI (lge ks a)) := by
  refine vFun_of rfl ?_
  have hl2 : (ks.map PyData.int).length = ks.length := List.length_map ..
  refine vSeq_nx (vSet_of (d := .int 0) rfl) ?_
  refine vSeq_nx (vSet_of (d := .int (ks.length : Int)) (o_cl (x := [.list (ks.map .int)]) rfl (by rw [← hl2]; rfl))) ?_
  obtain ⟨l, y4, e, g1, g2, g3⟩ := fa_loop (a := a) asc fuel 0 ks.length none (by show ks.length - 0 < 100000; omega) (Nat.zero_le _) (Nat.le_refl _) (fun i h h2 => absurd h2 (Nat.not_lt_zero _)) (fun i h h2 => by omega)
  refine vSeq_nx (show vWhile faT faB _ = _ from e) ?_
  have et : vTest (vOp dLt (vVar 2) (vCl cLen (vCons (vVar 0) vNil))) (faE ks a l l y4) = some (decide ((l : Int) < (ks.length : Int))) := vTest_of (o2 (x := .int (l : Int)) (y := .int (ks.length : Int)) rfl (o_cl (x := [.list (ks.map .int)]) rfl (by rw [← hl2]; rfl)) rfl)
  by_cases hlt : l < ks.length
  · rw [decide_eq_true (by omega)] at et
    have el : lge ks a = some ks[l] := lge_some (List.getElem_mem hlt) (g3 l hlt (Nat.le_refl _)) fun k hk hak => by
      obtain ⟨i, hi, rfl⟩ := List.getElem_of_mem hk
      rcases Nat.lt_trichotomy i l with z | z | z
      · have := g2 i hi z; omega
      · subst z; exact Int.le_refl _
      · have := List.pairwise_iff_getElem.mp asc l i hlt hi z; omega
    rw [el]
    exact vRet_of (o_ifT et (o2 (x := .list (ks.map .int)) (y := .int (l : Int)) rfl rfl (atI_nat (by rw [List.getElem?_map, List.getElem?_eq_getElem hlt]; rfl))))
  · rw [decide_eq_false (by omega)] at et
    have el : lge ks a = none := lge_none fun k hk => by
      obtain ⟨i, hi, rfl⟩ := List.getElem_of_mem hk
      exact g2 i hi (by omega)
    rw [el]
    exact vRet_of (o_ifF et rfl)
theorem v_first_im {m : Img} {a : Int} (h : ImOk m) (hl : m.length ≤ 300) : v_first_at [.list ((sortK m).map .int), .int a] = some (optI (nxt m a)) := by
  rw [v_first_at_eq (sortK_asc h.nd) (by rw [sortK_len]; omega)]
  exact congrArg (fun z => some (optI z)) (lge_congr (fun k => sortK_mem) a)
end RC
end
section
namespace RC
open PySem PySem.Spec L2 RR
open PyProof.Rows hiding St cutD
theorem dEq_str54 (a b : Str) : dEq (.str a) (.str b) = some (.bool (decide (a = b))) := by
  show some (PyData.bool (PyData.eqv (.str a) (.str b))) = _
  rw [PyData.eqv]; rfl
def entF {α : Type} (f : α → D) (q : Int × α) : D × D := (.int q.1, f q.2)
theorem look_F {α : Type} (f : α → D) (xs : List (Int × α)) (a : Int) : dLook (xs.map (entF f)) (.int a) = (xs.find? fun q => decide (q.1 = a)).map fun q => f q.2 := by
  unfold dLook
  rw [List.find?_map, Option.map_map]
  rfl
theorem put_F {α : Type} (f : α → D) {xs : List (Int × α)} {a : Int} {v : α} (h : ∀ q ∈ xs, q.1 ≠ a) : putD (xs.map (entF f)) (.inl a) (f v) = (xs ++ [(a, v)]).map (entF f) := by
  unfold putD
  rw [if_neg, List.map_append]
  · rfl
  · intro z
    rw [List.any_map, List.any_eq_true] at z
    obtain ⟨q, hq, e⟩ := z
    have e2 := of_decide_eq_true e
    exact h q hq (Sum.inl.inj (Option.some.inj e2))
theorem putK_F {α : Type} (f : α → D) {i : Nat} {ek ev : VE} {Γ : DEnv} {xs : List (Int × α)} {a : Int} {v : α} (h : dictAt i Γ = some (xs.map (entF f))) (hk : ek Γ = some (.int a)) (hv : ev Γ = some (f v)) (hl : xs.length ≤ 1000) (hn : ∀ q ∈ xs, q.1 ≠ a) : vPutK i ek ev Γ = some (.nx (Γ.set i (some (.dict ((xs ++ [(a, v)]).map (entF f)))))) := by
  unfold vPutK
  rw [hv, Option.bind_some, h, Option.bind_some, hk, Option.bind_some]
  show Option.bind (some (Sum.inl a : Key)) _ = _
  rw [Option.bind_some, if_pos (by rw [List.length_map]; exact Nat.lt_of_le_of_lt hl (by decide)), put_F f hn]
theorem find_key {α : Type} {xs : List (Int × α)} {a : Int} : (xs.find? fun q => decide (q.1 = a)).isSome = decide (a ∈ xs.map (·.1)) := by
  rw [Bool.eq_iff_iff, List.find?_isSome, decide_eq_true_eq, List.mem_map]
  exact ⟨fun ⟨q, h1, h2⟩ => ⟨q, h1, of_decide_eq_true h2⟩, fun ⟨q, h1, h2⟩ => ⟨q, h1, decide_eq_true h2⟩⟩
theorem in_F {α : Type} (f : α → D) (xs : List (Int × α)) (a : Int) : dIn (.int a) (.dict (xs.map (entF f))) = some (.bool (decide (a ∈ xs.map (·.1)))) := by
  show (if isKey (.int a) = true then some (PyData.bool (dLook _ _).isSome) else none) = _
  rw [if_pos (show isKey (.int a) = true from rfl), look_F, Option.isSome_map, find_key]
theorem notIn_F {α : Type} (f : α → D) (xs : List (Int × α)) (a : Int) : dNotIn (.int a) (.dict (xs.map (entF f))) = some (.bool (!decide (a ∈ xs.map (·.1)))) := by
  show (if isKey (.int a) = true then some (PyData.bool (!(dLook _ _).isSome)) else none) = _
  rw [if_pos (show isKey (.int a) = true from rfl), look_F, Option.isSome_map, find_key]
theorem ix_F {α : Type} (f : α → D) {xs : List (Int × α)} {a : Int} {v : α} (h : xs.find? (fun q => decide (q.1 = a)) = some (a, v)) : dIx (.dict (xs.map (entF f))) (.int a) = some (f v) := by
  show (if isKey (.int a) = true then dLook _ _ else none) = _
  rw [if_pos (show isKey (.int a) = true from rfl), look_F, h]; rfl
def isWo (m : Img) : Option Int → Bool
  | none => false
  | some i => match getC m i with
    | some c => decide (c.w = ("word" : Str))
    | none => false
theorem v_is_word_eq {m : Img} {i : Int} : v_is_word [imD m, .int i] = some (.bool (isWo m (some i))) := by
  refine vFun_of rfl (vRet_of ?_)
  cases h : getC m i with
  | none =>
    have e := vAndV_of (a := vOp dIn (vVar 1) (vVar 0)) (b := vOp dEq (vOp dIx (vOp dIx (vVar 0) (vVar 1)) (vC (.int 0))) (vC (.str "word"))) (Γ := [some (imD m), some (.int i)]) (x := false) (y := false) (o2 (x := .int i) (y := imD m) rfl rfl (by rw [in_im, h]; rfl)) (fun z => nomatch z)
    exact e.trans (by unfold isWo; dsimp only; rw [h]; rfl)
  | some c =>
    have e := vAndV_of (a := vOp dIn (vVar 1) (vVar 0)) (b := vOp dEq (vOp dIx (vOp dIx (vVar 0) (vVar 1)) (vC (.int 0))) (vC (.str "word"))) (Γ := [some (imD m), some (.int i)]) (x := true) (y := decide (c.w = ("word" : Str))) (o2 (x := .int i) (y := imD m) rfl rfl (by rw [in_im, h]; rfl)) (fun z => o2 (x := .str c.w) (y := .str "word") (o2 (x := c.d) (y := .int 0) (o2 (x := imD m) (y := .int i) rfl rfl (ix_im h)) rfl rfl) rfl (dEq_str54 _ _))
    exact e.trans (by unfold isWo; dsimp only; rw [h]; rfl)
def finL (m : Img) : Option Int → Option Int
  | none => none
  | some k => match getC m k with
    | none => none
    | some c => if c.w = ("word" : Str) then none else if c.w = ("load" : Str) ∧ isWo m c.n = false then none else some k
def landF (m : Img) : Nat → List Int → Option Int → Option Int
  | 0, _, _ => none
  | f + 1, ps, h => match h with
    | none => none
    | some k => match getC m k with
      | none => none
      | some c => if c.w = ("island" : Str) then (if k ∈ ps then none else match c.n with | none => none | some t => landF m f (ps ++ [k]) (nxt m t)) else finL m (some k)
def laE (m : Img) (ks : D) (w : Int) (ps : List Int) (h : Option Int) : DEnv := [some (imD m), some ks, some (.int w), some (.dict ((ps.map fun k => (k, ())).map (entF fun _ => .bool true))), some (optI h)]
abbrev laT : VT := (vAnd (vTest (vOp dIsNotN (vVar 4) (vC .none))) (vTest (vOp dEq (vOp dIx (vOp dIx (vVar 0) (vVar 4)) (vC (.int 0))) (vC (.str "island")))))
abbrev laB : VS := (vSeqS (vIfS (vOr (vTest (vOp dIn (vVar 4) (vVar 3))) (vTest (vOp dIsN (vOp dIx (vOp dIx (vVar 0) (vVar 4)) (vC (.int 2))) (vC .none)))) (vRet (vC .none)) vNext) (vSeqS (vPutK 3 (vVar 4) (vC (.bool true))) (vSet 4 (vCall v_first_at (vCons (vVar 1) (vCons (vOp dIx (vOp dIx (vVar 0) (vVar 4)) (vC (.int 2))) vNil))))))
abbrev laR : VS := (vSeqS (vIfS (vOr (vTest (vOp dIsN (vVar 4) (vC .none))) (vTest (vOp dEq (vOp dIx (vOp dIx (vVar 0) (vVar 4)) (vC (.int 0))) (vC (.str "word"))))) (vRet (vC .none)) vNext) (vSeqS (vIfS (vAnd (vTest (vOp dEq (vOp dIx (vOp dIx (vVar 0) (vVar 4)) (vC (.int 0))) (vC (.str "load")))) (vNot (vTest (vCall v_is_word (vCons (vVar 0) (vCons (vOp dIx (vOp dIx (vVar 0) (vVar 4)) (vC (.int 2))) vNil)))))) (vRet (vC .none)) vNext) (vRet (vVar 4))))
theorem isNone_opt (n : Option Int) : dIsN (optI n) .none = some (.bool n.isNone) := by cases n <;> rfl
theorem isNotN_opt (n : Option Int) : dIsNotN (optI n) .none = some (.bool n.isSome) := by cases n <;> rfl
theorem nodup_len : ∀ {xs ys : List Int}, xs.Nodup → (∀ x ∈ xs, x ∈ ys) → xs.length ≤ ys.length
  | [], ys, _, _ => Nat.zero_le _
  | x :: xs, ys, h, k => by
    obtain ⟨h1, h2⟩ := List.nodup_cons.mp h
    have hx : x ∈ ys := k x List.mem_cons_self
    have := nodup_len (ys := ys.erase x) h2 fun y hy => by
      refine (List.mem_erase_of_ne fun z => h1 (by rw [← z]; exact hy)).mpr (k y (List.mem_cons_of_mem _ hy))
    rw [List.length_erase_of_mem hx] at this
    have := List.length_pos_of_mem hx
    rw [List.length_cons]; omega
theorem la_fin {m : Img} {ks : D} {w : Int} {ps : List Int} {h : Option Int} (ok : ImOk m) (hk : ∀ k, h = some k → k ∈ keysI m) : laR (laE m ks w ps h) = some (.rt (optI (finL m h))) := by
  cases h with
  | none => exact vSeq_rt (vIfS_t (vOr_of (x := true) (y := true) (vTest_of (o2 (x := .none) (y := .none) rfl rfl rfl)) fun z => nomatch z) (vRet_of rfl))
  | some k =>
    obtain ⟨c, hc⟩ := Option.isSome_iff_exists.mp (get_some_iff.mpr (hk k rfl))
    have co := ok.get hc
    have e0 : vOp dIx (vOp dIx (vVar 0) (vVar 4)) (vC (.int 0)) (laE m ks w ps (some k)) = some (.str c.w) := o2 (x := c.d) (y := .int 0) (o2 (x := imD m) (y := .int k) rfl rfl (ix_im hc)) rfl rfl
    have e2 : vOp dIx (vOp dIx (vVar 0) (vVar 4)) (vC (.int 2)) (laE m ks w ps (some k)) = some (optI c.n) := o2 (x := c.d) (y := .int 2) (o2 (x := imD m) (y := .int k) rfl rfl (ix_im hc)) rfl rfl
    have t1 : vOr (vTest (vOp dIsN (vVar 4) (vC .none))) (vTest (vOp dEq (vOp dIx (vOp dIx (vVar 0) (vVar 4)) (vC (.int 0))) (vC (.str "word")))) (laE m ks w ps (some k)) = some (false || decide (c.w = ("word" : Str))) :=
      vOr_of (vTest_of (o2 (x := .int k) (y := .none) rfl rfl rfl)) fun _ => vTest_of (o2 e0 rfl (dEq_str54 _ _))
    rw [Bool.false_or] at t1
    have ef : finL m (some k) = if c.w = ("word" : Str) then none else if c.w = ("load" : Str) ∧ isWo m c.n = false then none else some k := by
      show (match getC m k with | none => none | some c => _) = _
      rw [hc]
    rw [ef]
    by_cases h1 : c.w = ("word" : Str)
    · rw [decide_eq_true h1] at t1
      rw [if_pos h1]
      exact vSeq_rt (vIfS_t t1 (vRet_of rfl))
    · rw [decide_eq_false h1] at t1
      rw [if_neg h1]
      refine vSeq_nx (vIfS_f t1 rfl) ?_
      by_cases h2 : c.w = ("load" : Str)
      · obtain ⟨i, hi⟩ : ∃ i, c.n = some i := by
          cases hn : c.n with
          | none => have := co.non hn; rw [h2] at this; exact absurd this (by decide)
          | some i => exact ⟨i, rfl⟩
        have t2 : vAnd (vTest (vOp dEq (vOp dIx (vOp dIx (vVar 0) (vVar 4)) (vC (.int 0))) (vC (.str "load")))) (vNot (vTest (vCall v_is_word (vCons (vVar 0) (vCons (vOp dIx (vOp dIx (vVar 0) (vVar 4)) (vC (.int 2))) vNil))))) (laE m ks w ps (some k)) = some (true && !isWo m (some i)) :=
          vAnd_of (vTest_of (o2 e0 rfl ((dEq_str54 _ _).trans (by rw [decide_eq_true h2])))) fun _ => vNot_of (vTest_of (o_call (vCons_of (x := imD m) rfl (vCons_of e2 rfl)) (by rw [hi]; exact v_is_word_eq)))
        rw [Bool.true_and] at t2
        rw [hi]
        cases hw : isWo m (some i) with
        | true =>
          rw [hw] at t2
          rw [if_neg fun z => nomatch z.2]
          exact vSeq_nx (vIfS_f t2 rfl) (vRet_of rfl)
        | false =>
          rw [hw] at t2
          rw [if_pos ⟨h2, rfl⟩]
          exact vSeq_rt (vIfS_t t2 (vRet_of rfl))
      · rw [if_neg fun z => h2 z.1]
        exact vSeq_nx (vIfS_f (vAnd_of (x := false) (y := false) (vTest_of (o2 e0 rfl ((dEq_str54 _ _).trans (by rw [decide_eq_false h2])))) fun z => nomatch z) rfl) (vRet_of rfl)
theorem la_loop {m : Img} {w : Int} (ok : ImOk m) (hl : m.length ≤ 300) : ∀ (F f : Nat) (ps : List Int) (h : Option Int), f < F → ps.length + f = m.length + 1 → ps.Nodup → (∀ p ∈ ps, p ∈ keysI m) → (∀ k, h = some k → k ∈ keysI m) →
    ∃ r, vwhile laT laB F (laE m (.list ((sortK m).map .int)) w ps h) = some r ∧ ((r = .rt .none ∧ landF m f ps h = none) ∨ (∃ ps' h', r = .nx (laE m (.list ((sortK m).map .int)) w ps' h') ∧ (∀ k, h' = some k → k ∈ keysI m) ∧ landF m f ps h = finL m h'))
  | 0, f, ps, h, hf, _, _, _, _ => absurd hf (Nat.not_lt_zero _)
  | F + 1, 0, ps, h, _, hps, nd, hsub, _ => by
    have := nodup_len nd hsub
    unfold keysI at this
    rw [List.length_map] at this
    omega
  | F + 1, f + 1, ps, h, hF, hps, nd, hsub, hk => by
    cases h with
    | none => exact ⟨_, vWhile_go (vAnd_of (x := false) (y := false) (vTest_of (o2 (x := .none) (y := .none) rfl rfl rfl)) fun z => nomatch z), .inr ⟨ps, none, rfl, (fun k z => nomatch z), rfl⟩⟩
    | some k =>
      obtain ⟨c, hc⟩ := Option.isSome_iff_exists.mp (get_some_iff.mpr (hk k rfl))
      have co := ok.get hc
      have e0 : vOp dIx (vOp dIx (vVar 0) (vVar 4)) (vC (.int 0)) (laE m (.list ((sortK m).map .int)) w ps (some k)) = some (.str c.w) := o2 (x := c.d) (y := .int 0) (o2 (x := imD m) (y := .int k) rfl rfl (ix_im hc)) rfl rfl
      have e2 : ∀ ps', vOp dIx (vOp dIx (vVar 0) (vVar 4)) (vC (.int 2)) (laE m (.list ((sortK m).map .int)) w ps' (some k)) = some (optI c.n) := fun ps' => o2 (x := c.d) (y := .int 2) (o2 (x := imD m) (y := .int k) rfl rfl (ix_im hc)) rfl rfl
      have et : laT (laE m (.list ((sortK m).map .int)) w ps (some k)) = some (true && decide (c.w = ("island" : Str))) := vAnd_of (vTest_of (o2 (x := .int k) (y := .none) rfl rfl rfl)) fun _ => vTest_of (o2 e0 rfl (dEq_str54 _ _))
      rw [Bool.true_and] at et
      have ef : landF m (f + 1) ps (some k) = if c.w = ("island" : Str) then (if k ∈ ps then none else match c.n with | none => none | some t => landF m f (ps ++ [k]) (nxt m t)) else finL m (some k) := by
        show (match getC m k with | none => none | some c => _) = _
        rw [hc]
      rw [ef]
      by_cases h1 : c.w = ("island" : Str)
      · rw [decide_eq_true h1] at et
        rw [if_pos h1]
        have emap : (ps.map fun k => (k, ())).map (·.1) = ps := by rw [List.map_map]; exact List.map_id' ps
        have t1 : vOr (vTest (vOp dIn (vVar 4) (vVar 3))) (vTest (vOp dIsN (vOp dIx (vOp dIx (vVar 0) (vVar 4)) (vC (.int 2))) (vC .none))) (laE m (.list ((sortK m).map .int)) w ps (some k)) = some (decide (k ∈ ps) || c.n.isNone) :=
          vOr_of (vTest_of (o2 (x := .int k) (y := .dict ((ps.map fun k => (k, ())).map (entF fun _ => .bool true))) rfl rfl (by rw [in_F, emap]))) fun _ => vTest_of (o2 (e2 ps) rfl (isNone_opt _))
        by_cases h2 : k ∈ ps
        · rw [decide_eq_true h2, Bool.true_or] at t1
          rw [if_pos h2]
          exact ⟨_, vWhile_rt et (vSeq_rt (vIfS_t t1 (vRet_of rfl))), .inl ⟨rfl, rfl⟩⟩
        · rw [decide_eq_false h2, Bool.false_or] at t1
          rw [if_neg h2]
          cases hn : c.n with
          | none =>
            rw [hn] at t1
            exact ⟨_, vWhile_rt et (vSeq_rt (vIfS_t t1 (vRet_of rfl))), .inl ⟨rfl, rfl⟩⟩
          | some t =>
            rw [hn] at t1
            have e2 := e2 (ps ++ [k])
            rw [hn] at e2
            have hpl := nodup_len nd hsub
            unfold keysI at hpl
            rw [List.length_map] at hpl
            have ep : vPutK 3 (vVar 4) (vC (.bool true)) (laE m (.list ((sortK m).map .int)) w ps (some k)) = some (.nx (laE m (.list ((sortK m).map .int)) w (ps ++ [k]) (some k))) := by
              rw [putK_F (v := ()) (fun _ => PyData.bool true) (xs := ps.map fun k => (k, ())) (a := k) rfl rfl rfl (by rw [List.length_map]; omega) (fun q hq => by
                obtain ⟨p, hp, rfl⟩ := List.mem_map.mp hq
                exact fun z => h2 (z ▸ hp))]
              unfold laE
              rw [show (ps ++ [k]).map (fun k => (k, ())) = ps.map (fun k => (k, ())) ++ [(k, ())] from List.map_append]; rfl
            have eb : laB (laE m (.list ((sortK m).map .int)) w ps (some k)) = some (.nx (laE m (.list ((sortK m).map .int)) w (ps ++ [k]) (nxt m t))) := by
              refine vSeq_nx (vIfS_f t1 rfl) (vSeq_nx ep ?_)
              exact vSet_of (o_call (vCons_of (x := .list ((sortK m).map .int)) rfl (vCons_of e2 rfl)) (v_first_im ok hl))
            obtain ⟨r, g1, g2⟩ := la_loop (w := w) ok hl F f (ps ++ [k]) (nxt m t) (by omega) (by rw [List.length_append]; show _ + 1 + f = _; omega) (List.nodup_append.mpr ⟨nd, List.nodup_cons.mpr ⟨List.not_mem_nil, List.nodup_nil⟩, fun a ha b hb e => by
              rw [List.mem_singleton] at hb
              exact h2 (by rw [← hb, ← e]; exact ha)⟩) (fun p hp => by
              rcases List.mem_append.mp hp with z | z
              · exact hsub p z
              · rw [List.mem_singleton.mp z]; exact hk k rfl) (fun j hj => nxt_mem hj)
            exact ⟨r, vWhile_nx et eb g1, g2⟩
      · rw [decide_eq_false h1] at et
        rw [if_neg h1]
        exact ⟨_, vWhile_go et, .inr ⟨ps, some k, rfl, hk, rfl⟩⟩
def landI (m : Img) (w : Int) : Option Int := landF m (m.length + 1) [] (nxt m w)
theorem v_landing_eq {m : Img} {w : Int} (ok : ImOk m) (hl : m.length ≤ 300) : v_landing [imD m, .list ((sortK m).map .int), .int w] = some (optI (landI m w)) := by
  refine vFun_of rfl ?_
  refine vSeq_nx (vSet_of (d := .dict []) rfl) ?_
  refine vSeq_nx (vSet_of (o_call (vCons_of (x := .list ((sortK m).map .int)) rfl (vCons_of (x := .int w) rfl rfl)) (v_first_im ok hl))) ?_
  obtain ⟨r, g1, g2⟩ := la_loop (w := w) ok hl fuel (m.length + 1) [] (nxt m w) (by show _ < 100000; omega) (by show 0 + _ = _; omega) List.nodup_nil (fun p h => nomatch h) (fun j hj => nxt_mem hj)
  rcases g2 with ⟨rfl, e⟩ | ⟨ps', h', rfl, hk, e⟩
  · refine vSeq_rt (show vWhile laT laB _ = _ from g1.trans ?_)
    unfold landI
    rw [e]; rfl
  · refine vSeq_nx (show vWhile laT laB _ = _ from g1) ?_
    refine (la_fin ok hk).trans ?_
    unfold landI
    rw [e]
end RC
end
section
namespace RC
open PySem PySem.Spec L2 RR
open PyProof.Rows hiding St cutD
def numA (m : Img) : Option Int → Int
  | none => 0
  | some i => match getC m i with
    | some d => d.n.getD 0
    | none => 0
def totB (m : Img) (c : Cell) (t : Int) : Int := if c.w = ("plain" : Str) then (t + c.n.getD 0) % 65536 else if c.w = ("load" : Str) then (t + numA m c.n) % 65536 else t
def nextA (k : Int) (c : Cell) (t : Int) : Int := if c.w = ("jump" : Str) ∨ c.w = ("far" : Str) ∨ (c.w = ("branch" : Str) ∧ t % 2 = 1) then c.n.getD 0 else k + c.s
def endI (w : Str) (t : Int) (s : Nat) : D := .tuple [.str w, .int t, .int (s : Int)]
def runH (m : Img) : Nat → Option Int → Int → Nat → D
  | 0, _, t, s => endI "limit" t s
  | _ + 1, none, t, s => endI "lost" t s
  | r + 1, some k, t, s => match getC m k with
    | none => endI "lost" t s
    | some c => if c.w = ("stop" : Str) then endI "stop" t (s + 1) else runH m r (landI m (nextA k c (totB m c t))) (totB m c t) (s + 1)
structure Cnt (m : Img) (c : Cell) : Prop where
  ok : CellOk c
  ni : c.w ≠ ("island" : Str)
  nw : c.w ≠ ("word" : Str)
  ld : c.w = ("load" : Str) → isWo m c.n = true
theorem finL_some {m : Img} (ok : ImOk m) {h : Option Int} {k : Int} (e : finL m h = some k) : ∃ c, h = some k ∧ getC m k = some c ∧ c.w ≠ ("word" : Str) ∧ (c.w = ("load" : Str) → isWo m c.n = true) := by
  cases h with
  | none => cases e
  | some j =>
    unfold finL at e
    dsimp only at e
    split at e
    · cases e
    · rename_i c hc
      split at e
      · cases e
      · rename_i h1
        split at e
        · cases e
        · rename_i h2
          cases e
          exact ⟨c, rfl, hc, h1, fun z => by
            cases hw : isWo m c.n with
            | true => rfl
            | false => exact absurd ⟨z, hw⟩ h2⟩
theorem landF_some {m : Img} (ok : ImOk m) : ∀ {f : Nat} {ps : List Int} {h : Option Int} {k : Int}, landF m f ps h = some k → ∃ c, getC m k = some c ∧ Cnt m c
  | 0, ps, h, k, e => nomatch e
  | f + 1, ps, none, k, e => nomatch e
  | f + 1, ps, some j, k, e => by
    unfold landF at e
    dsimp only at e
    split at e
    · cases e
    · rename_i c hc
      split at e
      · split at e
        · cases e
        · split at e
          · cases e
          · exact landF_some ok e
      · rename_i h1
        obtain ⟨c2, e1, e2, e3, e4⟩ := finL_some ok e
        cases e1
        rw [hc] at e2
        cases e2
        exact ⟨c, hc, ok.get hc, h1, e3, e4⟩
theorem isWo_get {m : Img} (ok : ImOk m) {n : Option Int} (h : isWo m n = true) : ∃ i d j, n = some i ∧ getC m i = some d ∧ d.n = some j ∧ d.w = ("word" : Str) := by
  cases n with
  | none => cases h
  | some i =>
    unfold isWo at h
    dsimp only at h
    split at h
    · rename_i d hd
      have hw := of_decide_eq_true h
      cases hn : d.n with
      | none => have := (ok.get hd).non hn; rw [hw] at this; exact absurd this (by decide)
      | some j => exact ⟨i, d, j, rfl, hd, hn, hw⟩
    · cases h
theorem dMod_pos (x : Int) : dMod (.int x) (.int 65536) = some (.int (x % 65536)) := if_pos (e := none) (show (0 : Int) < 65536 by decide)
theorem dMod_2 (x : Int) : dMod (.int x) (.int 2) = some (.int (x % 2)) := if_pos (e := none) (show (0 : Int) < 2 by decide)
theorem v_total_behind_eq {m : Img} {c : Cell} {t : Int} (ok : ImOk m) (hc : Cnt m c) : v_total_behind [imD m, c.d, .int t] = some (.int (totB m c t)) := by
  refine vFun_of rfl ?_
  obtain ⟨w, s, n⟩ := c
  obtain ⟨⟨w8, s1, s2, non, num⟩, ni, nw, ld⟩ := hc
  dsimp only at *
  have na : vAsg (vVar 1) (vgTup 3 (vgCons (vgName 3) (vgCons (vgName 4) (vgCons (vgName 5) vgNil)))) [some (imD m), some (Cell.d ⟨w, s, n⟩), some (.int t), none, none, none] = some (.nx [some (imD m), some (Cell.d ⟨w, s, n⟩), some (.int t), some (.str w), some (.int s), some (optI n)]) := rfl
  refine vSeq_nx na ?_
  have t1 : vTest (vOp dEq (vVar 3) (vC (.str "plain"))) [some (imD m), some (Cell.d ⟨w, s, n⟩), some (.int t), some (.str w), some (.int s), some (optI n)] = some (decide (w = ("plain" : Str))) := vTest_of (o2 rfl rfl (dEq_str54 _ _))
  have t2 : vTest (vOp dEq (vVar 3) (vC (.str "load"))) [some (imD m), some (Cell.d ⟨w, s, n⟩), some (.int t), some (.str w), some (.int s), some (optI n)] = some (decide (w = ("load" : Str))) := vTest_of (o2 rfl rfl (dEq_str54 _ _))
  unfold totB
  dsimp only
  by_cases h1 : w = ("plain" : Str)
  · rw [decide_eq_true h1] at t1
    rw [if_pos h1]
    cases n with
    | none => have := non rfl; rw [h1] at this; exact absurd this (by decide)
    | some i => exact vSeq_rt (vIfS_t t1 (vRet_of (o2 (x := .int (t + i)) (y := .int 65536) (o2 (x := .int t) (y := .int i) rfl rfl rfl) rfl (dMod_pos _))))
  · rw [decide_eq_false h1] at t1
    rw [if_neg h1]
    refine vSeq_nx (vIfS_f t1 rfl) ?_
    by_cases h2 : w = ("load" : Str)
    · rw [decide_eq_true h2] at t2
      rw [if_pos h2]
      obtain ⟨i, d, j, rfl, hd, hj, _⟩ := isWo_get ok (ld h2)
      have en : numA m (some i) = j := by
        unfold numA
        dsimp only
        rw [hd]
        show d.n.getD 0 = j
        rw [hj]; rfl
      rw [en]
      exact vSeq_rt (vIfS_t t2 (vRet_of (o2 (x := .int (t + j)) (y := .int 65536) (o2 (x := .int t) (y := .int j) rfl (o2 (x := d.d) (y := .int 2) (o2 (x := imD m) (y := .int i) rfl rfl (ix_im hd)) rfl (by show some (optI d.n) = _; rw [hj]; rfl)) rfl) rfl (dMod_pos _))))
    · rw [decide_eq_false h2] at t2
      rw [if_neg h2]
      exact vSeq_nx (vIfS_f t2 rfl) (vRet_of rfl)
theorem v_next_address_eq {m : Img} {c : Cell} {k t : Int} (hc : Cnt m c) : v_next_address [.int k, c.d, .int t] = some (.int (nextA k c t)) := by
  refine vFun_of rfl ?_
  obtain ⟨w, s, n⟩ := c
  obtain ⟨⟨w8, s1, s2, non, num⟩, ni, nw, ld⟩ := hc
  dsimp only at *
  obtain ⟨i, rfl⟩ : ∃ i, n = some i := by
    cases n with
    | none => exact absurd (non rfl) ni
    | some i => exact ⟨i, rfl⟩
  have na : vAsg (vVar 1) (vgTup 3 (vgCons (vgName 3) (vgCons (vgName 4) (vgCons (vgName 5) vgNil)))) [some (.int k), some (Cell.d ⟨w, s, some i⟩), some (.int t), none, none, none] = some (.nx [some (.int k), some (Cell.d ⟨w, s, some i⟩), some (.int t), some (.str w), some (.int s), some (.int i)]) := rfl
  refine vSeq_nx na ?_
  have tj : vTest (vOp dIn (vVar 3) (vTup (vCons (vC (.str "jump")) (vCons (vC (.str "far")) vNil)))) [some (.int k), some (Cell.d ⟨w, s, some i⟩), some (.int t), some (.str w), some (.int s), some (.int i)] = some (decide (w = ("jump" : Str) ∨ w = ("far" : Str))) := by
    rcases w8 with rfl | rfl | rfl | rfl | rfl | rfl | rfl | rfl <;> rfl
  have tb : vTest (vOp dEq (vVar 3) (vC (.str "branch"))) [some (.int k), some (Cell.d ⟨w, s, some i⟩), some (.int t), some (.str w), some (.int s), some (.int i)] = some (decide (w = ("branch" : Str))) := vTest_of (o2 rfl rfl (dEq_str54 _ _))
  have to : vTest (vOp dEq (vOp dMod (vVar 2) (vC (.int 2))) (vC (.int 1))) [some (.int k), some (Cell.d ⟨w, s, some i⟩), some (.int t), some (.str w), some (.int s), some (.int i)] = some (decide (t % 2 = 1)) := vTest_of (o2 (x := .int (t % 2)) (y := .int 1) (o2 (x := .int t) (y := .int 2) rfl rfl (dMod_2 t)) rfl (dEq_int _ _))
  have tt := vOr_of tj fun _ => vAnd_of tb fun _ => to
  unfold nextA
  dsimp only
  by_cases h : w = ("jump" : Str) ∨ w = ("far" : Str) ∨ (w = ("branch" : Str) ∧ t % 2 = 1)
  · rw [if_pos h]
    refine vSeq_rt (vIfS_t (tt.trans ?_) (vRet_of rfl))
    rw [show (decide (w = ("jump" : Str) ∨ w = ("far" : Str)) || (decide (w = ("branch" : Str)) && decide (t % 2 = 1))) = true from ?_]
    rw [Bool.or_eq_true, Bool.and_eq_true, decide_eq_true_eq, decide_eq_true_eq, decide_eq_true_eq]
    rcases h with h | h | h
    · exact .inl (.inl h)
    · exact .inl (.inr h)
    · exact .inr h
  · rw [if_neg h]
    refine vSeq_nx (vIfS_f (tt.trans ?_) rfl) (vRet_of rfl)
    rw [show (decide (w = ("jump" : Str) ∨ w = ("far" : Str)) || (decide (w = ("branch" : Str)) && decide (t % 2 = 1))) = false from ?_]
    rw [Bool.eq_false_iff]
    intro z
    rw [Bool.or_eq_true, Bool.and_eq_true, decide_eq_true_eq, decide_eq_true_eq, decide_eq_true_eq] at z
    rcases z with (z | z) | z
    · exact h (.inl z)
    · exact h (.inr (.inl z))
    · exact h (.inr (.inr z))
def riE (m : Img) (w t : Int) (L : Nat) (kn : List (Int × Option Int)) (s : Nat) (x7 : Option D) : DEnv := [some (imD m), some (.int w), some (.int t), some (.int (L : Int)), some (.list ((sortK m).map .int)), some (.dict (kn.map (entF optI))), some (.int (s : Int)), x7]
abbrev riT : VT := (vTest (vOp dLt (vVar 6) (vVar 3)))
abbrev riB : VS := (vSeqS (vIfS (vTest (vOp dNotIn (vVar 1) (vVar 5))) (vPutK 5 (vVar 1) (vCall v_landing (vCons (vVar 0) (vCons (vVar 4) (vCons (vVar 1) vNil))))) vNext) (vSeqS (vSet 7 (vLook (vOp dIx (vVar 5) (vVar 1)))) (vSeqS (vIfS (vTest (vOp dIsN (vVar 7) (vC .none))) (vRet (vTup (vCons (vC (.str "lost")) (vCons (vVar 2) (vCons (vVar 6) vNil))))) vNext) (vSeqS (vAug 6 dAddI (vC (.int 1))) (vSeqS (vIfS (vTest (vOp dEq (vOp dIx (vOp dIx (vVar 0) (vVar 7)) (vC (.int 0))) (vC (.str "stop")))) (vRet (vTup (vCons (vC (.str "stop")) (vCons (vVar 2) (vCons (vVar 6) vNil))))) vNext) (vSeqS (vSet 2 (vCall v_total_behind (vCons (vVar 0) (vCons (vOp dIx (vVar 0) (vVar 7)) (vCons (vVar 2) vNil))))) (vSet 1 (vCall v_next_address (vCons (vVar 7) (vCons (vOp dIx (vVar 0) (vVar 7)) (vCons (vVar 2) vNil)))))))))))
theorem ri_loop {m : Img} {L : Nat} (ok : ImOk m) (hl : m.length ≤ 300) (hL : L ≤ 1000) : ∀ (F r : Nat) (w t : Int) (kn : List (Int × Option Int)) (s : Nat) (x7 : Option D), r < F → s + r = L → kn.length ≤ s → (∀ q ∈ kn, q.2 = landI m q.1) →
    ∃ R, vwhile riT riB F (riE m w t L kn s x7) = some R ∧ (R = .rt (runH m r (landI m w) t s) ∨ ∃ w' t' kn' s' x', R = .nx (riE m w' t' L kn' s' x') ∧ runH m r (landI m w) t s = endI "limit" t' s')
  | 0, r, w, t, kn, s, x7, h, _, _, _ => absurd h (Nat.not_lt_zero _)
  | F + 1, 0, w, t, kn, s, x7, _, h, _, _ => by
    have et : riT (riE m w t L kn s x7) = some false := (vTest_of (o2 (x := .int (s : Int)) (y := .int (L : Int)) rfl rfl rfl)).trans (congrArg some (decide_eq_false (show ¬ (s : Int) < (L : Int) by omega)))
    exact ⟨_, vWhile_go et, .inr ⟨w, t, kn, s, x7, rfl, rfl⟩⟩
  | F + 1, r + 1, w, t, kn, s, x7, hF, h, hk, hkn => by
    have et : riT (riE m w t L kn s x7) = some true := (vTest_of (o2 (x := .int (s : Int)) (y := .int (L : Int)) rfl rfl rfl)).trans (congrArg some (decide_eq_true (show (s : Int) < (L : Int) by omega)))
    have tn : vTest (vOp dNotIn (vVar 1) (vVar 5)) (riE m w t L kn s x7) = some (!decide (w ∈ kn.map (·.1))) := vTest_of (o2 (x := .int w) (y := .dict (kn.map (entF optI))) rfl rfl (notIn_F _ _ _))
    have first : ∃ kn' : List (Int × Option Int), vIfS (vTest (vOp dNotIn (vVar 1) (vVar 5))) (vPutK 5 (vVar 1) (vCall v_landing (vCons (vVar 0) (vCons (vVar 4) (vCons (vVar 1) vNil))))) vNext (riE m w t L kn s x7) = some (.nx (riE m w t L kn' s x7)) ∧ kn'.length ≤ s + 1 ∧ (∀ q ∈ kn', q.2 = landI m q.1) ∧ kn'.find? (fun q => decide (q.1 = w)) = some (w, landI m w) := by
      by_cases hw : w ∈ kn.map (·.1)
      · rw [decide_eq_true hw] at tn
        refine ⟨kn, vIfS_f tn rfl, by omega, hkn, ?_⟩
        have : (kn.find? fun q => decide (q.1 = w)).isSome = true := by rw [find_key, decide_eq_true hw]
        obtain ⟨q, hq⟩ := Option.isSome_iff_exists.mp this
        have h1 : q.1 = w := of_decide_eq_true (by have := List.find?_some hq; exact this)
        have h2 := hkn q (List.mem_of_find?_eq_some hq)
        rw [hq]
        obtain ⟨a, b⟩ := q
        dsimp only at h1 h2
        rw [h2, h1]
      · rw [decide_eq_false hw] at tn
        have hn : ∀ q ∈ kn, q.1 ≠ w := fun q hq z => hw (List.mem_map.mpr ⟨q, hq, z⟩)
        refine ⟨kn ++ [(w, landI m w)], vIfS_t tn ?_, by rw [List.length_append]; show _ + 1 ≤ _; omega, fun q hq => ?_, ?_⟩
        · exact putK_F optI rfl rfl (o_call (vCons_of (x := imD m) rfl (vCons_of (x := .list ((sortK m).map .int)) rfl (vCons_of (x := .int w) rfl rfl))) (v_landing_eq ok hl)) (by omega) hn
        · rcases List.mem_append.mp hq with z | z
          · exact hkn q z
          · rw [List.mem_singleton.mp z]
        · rw [List.find?_append, List.find?_eq_none.mpr fun q hq => by rw [decide_eq_true_eq]; exact hn q hq]
          rw [Option.none_or, List.find?_cons_of_pos (by exact decide_eq_true rfl)]
    obtain ⟨kn', g1, g2, g3, g4⟩ := first
    have e7 : vLook (vOp dIx (vVar 5) (vVar 1)) (riE m w t L kn' s x7) = some (optI (landI m w)) := o_look (o2 (x := .dict (kn'.map (entF optI))) (y := .int w) rfl rfl (ix_F optI g4)) (by cases landI m w <;> rfl)
    cases hla : landI m w with
    | none =>
      rw [hla] at e7
      exact ⟨_, vWhile_rt et (vSeq_nx g1 (vSeq_nx (vSet_of e7) (vSeq_rt (vIfS_t (vTest_of (o2 (x := .none) (y := .none) rfl rfl rfl)) (vRet_of rfl))))), .inl rfl⟩
    | some k =>
      rw [hla] at e7
      obtain ⟨c, hc, cn⟩ := landF_some ok (show landF m (m.length + 1) [] (nxt m w) = some k from hla)
      have es : vTest (vOp dEq (vOp dIx (vOp dIx (vVar 0) (vVar 7)) (vC (.int 0))) (vC (.str "stop"))) (riE m w t L kn' (s + 1) (some (.int k))) = some (decide (c.w = ("stop" : Str))) := vTest_of (o2 (x := .str c.w) (y := .str "stop") (o2 (x := c.d) (y := .int 0) (o2 (x := imD m) (y := .int k) rfl rfl (ix_im hc)) rfl rfl) rfl (dEq_str54 _ _))
      have er : runH m (r + 1) (some k) t s = if c.w = ("stop" : Str) then endI "stop" t (s + 1) else runH m r (landI m (nextA k c (totB m c t))) (totB m c t) (s + 1) := by
        show (match getC m k with | none => _ | some c => _) = _
        rw [hc]
      rw [er]
      have pre : ∀ {u : VS} {res : Option Rs}, u (riE m w t L kn' (s + 1) (some (.int k))) = res → (vSeqS (vIfS (vTest (vOp dNotIn (vVar 1) (vVar 5))) (vPutK 5 (vVar 1) (vCall v_landing (vCons (vVar 0) (vCons (vVar 4) (vCons (vVar 1) vNil))))) vNext) (vSeqS (vSet 7 (vLook (vOp dIx (vVar 5) (vVar 1)))) (vSeqS (vIfS (vTest (vOp dIsN (vVar 7) (vC .none))) (vRet (vTup (vCons (vC (.str "lost")) (vCons (vVar 2) (vCons (vVar 6) vNil))))) vNext) (vSeqS (vAug 6 dAddI (vC (.int 1))) u)))) (riE m w t L kn s x7) = res := fun {u res} hu =>
        vSeq_nx g1 (vSeq_nx (vSet_of e7) (vSeq_nx (vIfS_f (vTest_of (o2 (x := .int k) (y := .none) rfl rfl rfl)) rfl) (vSeq_nx (Γ1 := riE m w t L kn' (s + 1) (some (.int k))) rfl hu)))
      by_cases hs : c.w = ("stop" : Str)
      · rw [decide_eq_true hs] at es
        rw [if_pos hs]
        exact ⟨_, vWhile_rt et (pre (vSeq_rt (vIfS_t es (vRet_of rfl)))), .inl rfl⟩
      · rw [decide_eq_false hs] at es
        rw [if_neg hs]
        obtain ⟨R, q1, q2⟩ := ri_loop ok hl hL F r (nextA k c (totB m c t)) (totB m c t) kn' (s + 1) (some (.int k)) (by omega) (by omega) g2 g3
        refine ⟨R, vWhile_nx et (pre (vSeq_nx (vIfS_f es rfl) (vSeq_nx (vSet_of (o_call (vCons_of (x := imD m) rfl (vCons_of (o2 (x := imD m) (y := .int k) rfl rfl (ix_im hc)) (vCons_of (x := .int t) rfl rfl))) (v_total_behind_eq ok cn))) (vSet_of (o_call (vCons_of (x := .int k) rfl (vCons_of (o2 (x := imD m) (y := .int k) rfl rfl (ix_im hc)) (vCons_of (x := .int (totB m c t)) rfl rfl))) (v_next_address_eq cn)))))) q1, q2⟩
theorem cSortedKE_im (m : Img) : cSortedKE [imD m] = some (.list ((sortK m).map .int)) := by
  rw [← cSortedK_E, sortedK_eq]
theorem v_run_image_eq {m : Img} {w t : Int} {L : Nat} (ok : ImOk m) (hl : m.length ≤ 300) (hL : L ≤ 1000) : v_run_image [imD m, .int w, .int t, .int (L : Int)] = some (runH m L (landI m w) t 0) := by
  refine vFun_of rfl ?_
  refine vSeq_nx (vSet_of (o_cl (x := [imD m]) rfl (cSortedKE_im m))) ?_
  refine vSeq_nx (vSet_of (d := .dict []) rfl) (vSeq_nx (vSet_of (d := .int 0) rfl) ?_)
  obtain ⟨R, q1, q2⟩ := ri_loop ok hl hL fuel L w t [] 0 none (by show L < 100000; omega) (Nat.zero_add _) (Nat.le_refl _) (fun q h => nomatch h)
  rcases q2 with rfl | ⟨w', t', kn', s', x', rfl, e⟩
  · exact vSeq_rt (show vWhile riT riB _ = _ from q1)
  · refine vSeq_nx (show vWhile riT riB _ = _ from q1) ?_
    rw [e]
    exact vRet_of rfl
end RC
end
section
namespace RC
open PySem PySem.Spec L2 RR
open PyProof.Rows hiding St cutD
theorem cnt_some {m : Img} {c : Cell} (h : Cnt m c) : ∃ i, c.n = some i := by
  cases hn : c.n with
  | none => exact absurd (h.ok.non hn) h.ni
  | some i => exact ⟨i, rfl⟩
end RC
end
section
namespace RC
open PySem PySem.Spec L2 RR
open PyProof.Rows hiding St cutD
abbrev Rg := List (Int × Int)
def canR (rs : Rg) : Prop := rs.Pairwise (fun a b => b.2 + 1 < a.1) ∧ ∀ q ∈ rs, q.1 ≤ q.2
def memR (rs : Rg) (x : Int) : Prop := ∃ q ∈ rs, q.1 ≤ x ∧ x ≤ q.2
theorem memR_cons {q : Int × Int} {rs : Rg} {x : Int} : memR (q :: rs) x ↔ (q.1 ≤ x ∧ x ≤ q.2) ∨ memR rs x := by
  unfold memR
  constructor
  · rintro ⟨p, hp, h⟩
    rcases List.mem_cons.mp hp with rfl | hp
    · exact .inl h
    · exact .inr ⟨p, hp, h⟩
  · rintro (h | ⟨p, hp, h⟩)
    · exact ⟨q, List.mem_cons_self, h⟩
    · exact ⟨p, List.mem_cons_of_mem _ hp, h⟩
theorem memR_nil {x : Int} : ¬ memR [] x := fun ⟨_, h, _⟩ => nomatch h
theorem can_cons {q : Int × Int} {rs : Rg} : canR (q :: rs) ↔ (∀ r ∈ rs, r.2 + 1 < q.1) ∧ q.1 ≤ q.2 ∧ canR rs := by
  unfold canR
  rw [List.pairwise_cons]
  constructor
  · rintro ⟨⟨h1, h2⟩, h3⟩
    exact ⟨h1, h3 q List.mem_cons_self, h2, fun r hr => h3 r (List.mem_cons_of_mem _ hr)⟩
  · rintro ⟨h1, h2, h3, h4⟩
    refine ⟨⟨h1, h3⟩, fun r hr => ?_⟩
    rcases List.mem_cons.mp hr with rfl | hr
    · exact h2
    · exact h4 r hr
theorem below {q : Int × Int} {rs : Rg} (h : ∀ r ∈ rs, r.2 + 1 < q.1) {x : Int} (k : memR rs x) : x + 1 < q.1 := by
  obtain ⟨r, hr, h1, h2⟩ := k
  have := h r hr
  omega
def addR (rs : Rg) (f l : Int) : Rg := match rs with
  | [] => [(f, l)]
  | q :: t => if f ≤ q.2 + 1 then (q.1, if l > q.2 then l else q.2) :: t else (f, l) :: q :: t
theorem addR_ok {rs : Rg} {f l : Int} (h : canR rs) (hf : f ≤ l) (hb : ∀ q ∈ rs, q.1 ≤ f) : canR (addR rs f l) ∧ (∀ x, memR (addR rs f l) x ↔ memR rs x ∨ (f ≤ x ∧ x ≤ l)) ∧ ∀ q ∈ addR rs f l, q.1 ≤ f := by
  cases rs with
  | nil => exact ⟨can_cons.mpr ⟨(fun r hr => nomatch hr), hf, h⟩, fun x => memR_cons.trans ⟨fun z => z.elim .inr fun y => absurd y memR_nil, fun z => z.elim (fun y => absurd y memR_nil) .inl⟩, fun q hq => by rw [List.mem_singleton.mp hq]; exact Int.le_refl _⟩
  | cons q t =>
    obtain ⟨a1, a2, a3⟩ := can_cons.mp h
    have hq := hb q List.mem_cons_self
    unfold addR
    dsimp only
    by_cases hc : f ≤ q.2 + 1
    · rw [if_pos hc]
      refine ⟨can_cons.mpr ⟨a1, ?_, a3⟩, fun x => ?_, fun p hp => ?_⟩
      · show q.1 ≤ if l > q.2 then l else q.2
        split <;> omega
      · rw [memR_cons, memR_cons]
        dsimp only
        have m : (q.1 ≤ x ∧ x ≤ if l > q.2 then l else q.2) ↔ (q.1 ≤ x ∧ x ≤ q.2) ∨ (f ≤ x ∧ x ≤ l) := by
          split <;> constructor <;> intro z <;> omega
        rw [m]
        constructor
        · rintro ((z | z) | z)
          · exact .inl (.inl z)
          · exact .inr z
          · exact .inl (.inr z)
        · rintro ((z | z) | z)
          · exact .inl (.inl z)
          · exact .inr z
          · exact .inl (.inr z)
      · rcases List.mem_cons.mp hp with rfl | hp
        · exact hq
        · exact hb p (List.mem_cons_of_mem _ hp)
    · rw [if_neg hc]
      refine ⟨can_cons.mpr ⟨fun r hr => ?_, hf, h⟩, fun x => ?_, fun p hp => ?_⟩
      · rcases List.mem_cons.mp hr with rfl | hr
        · show r.2 + 1 < f; omega
        · have := a1 r hr
          show r.2 + 1 < f; omega
      · rw [memR_cons]
        exact ⟨fun z => z.elim .inr .inl, fun z => z.elim .inr .inl⟩
      · rcases List.mem_cons.mp hp with rfl | hp
        · exact Int.le_refl _
        · exact hb p hp
def joinR (rs : Rg) (xs : List (Int × Int)) : Rg := xs.foldl (fun rs q => addR rs q.1 q.2) rs
theorem joinR_ok : ∀ {xs : List (Int × Int)} {rs : Rg}, canR rs → (∀ q ∈ xs, q.1 ≤ q.2) → xs.Pairwise (fun a b => a.1 ≤ b.1) → (∀ q ∈ rs, ∀ x ∈ xs, q.1 ≤ x.1) → canR (joinR rs xs) ∧ ∀ x, memR (joinR rs xs) x ↔ memR rs x ∨ ∃ q ∈ xs, q.1 ≤ x ∧ x ≤ q.2
  | [], rs, h, _, _, _ => ⟨h, fun x => ⟨.inl, fun z => z.elim id fun ⟨q, hq, _⟩ => nomatch hq⟩⟩
  | p :: xs, rs, h, h1, h2, h3 => by
    obtain ⟨p1, p2⟩ := List.pairwise_cons.mp h2
    obtain ⟨a1, a2, a3⟩ := addR_ok h (h1 p List.mem_cons_self) fun q hq => h3 q hq p List.mem_cons_self
    obtain ⟨b1, b2⟩ := joinR_ok (xs := xs) a1 (fun q hq => h1 q (List.mem_cons_of_mem _ hq)) p2 fun q hq x hx => Int.le_trans (a3 q hq) (p1 x hx)
    refine ⟨b1, fun x => (b2 x).trans ?_⟩
    rw [a2 x]
    constructor
    · rintro ((z | z) | ⟨q, hq, z⟩)
      · exact .inl z
      · exact .inr ⟨p, List.mem_cons_self, z⟩
      · exact .inr ⟨q, List.mem_cons_of_mem _ hq, z⟩
    · rintro (z | ⟨q, hq, z⟩)
      · exact .inl (.inl z)
      · rcases List.mem_cons.mp hq with rfl | hq
        · exact .inl (.inr z)
        · exact .inr ⟨q, hq, z⟩
end RC
end
section
namespace RC
open PySem PySem.Spec L2 RR
open PyProof.Rows hiding St cutD
theorem v_run_from_eq {m : Img} {w t : Int} {L : Nat} (ok : ImOk m) (hl : m.length ≤ 300) (hL : L ≤ 1000) (hw : 0 ≤ w ∧ w ≤ 1000000000) (ht : 0 ≤ t ∧ t ≤ 65535) : v_run_from [imD m, .int w, .int t, .int (L : Int)] = some (runH m L (landI m w) t 0) := by
  refine vFun_of rfl (vSeq_nx (vDrop_of (Eq.trans rfl (v_check_image_ok ok hl))) (vSeq_nx (vDrop_of (o_call (x := [.int w, .int 1000000000]) rfl (v_check_number_ok (within_t hw.1 hw.2)))) (vSeq_nx (vDrop_of (o_call (x := [.int t, .int 65535]) rfl (v_check_number_ok (within_t ht.1 ht.2)))) (vSeq_nx (vDrop_of (o_call (x := [.int (L : Int), .int 1000]) rfl (v_check_number_ok (within_t (by omega) (by omega))))) (vRet_of (o_call (x := [imD m, .int w, .int t, .int (L : Int)]) rfl (v_run_image_eq ok hl hL)))))))
theorem v_run_cells_eq {m : Img} {t : Int} {L : Nat} (ok : ImOk m) (hl : m.length ≤ 300) (hL : L ≤ 1000) (ht : 0 ≤ t ∧ t ≤ 65535) : v_run_cells [imD m, .int t, .int (L : Int)] = some (runH m L (landI m 0) t 0) := by
  refine vFun_of rfl (vSeq_nx (vDrop_of (Eq.trans rfl (v_check_image_ok ok hl))) (vSeq_nx (vDrop_of (o_call (x := [.int t, .int 65535]) rfl (v_check_number_ok (within_t ht.1 ht.2)))) (vSeq_nx (vDrop_of (o_call (x := [.int (L : Int), .int 1000]) rfl (v_check_number_ok (within_t (by omega) (by omega))))) (vRet_of (o_call (x := [imD m, .int 0, .int t, .int (L : Int)]) rfl (v_run_image_eq ok hl hL))))))
theorem runH_end (m : Img) : ∀ (r : Nat) (o : Option Int) (t : Int) (s : Nat), ∃ w t' s', runH m r o t s = endI w t' s' ∧ PyData.strOk w = true
  | 0, o, t, s => ⟨_, _, _, rfl, by decide +kernel⟩
  | r + 1, none, t, s => ⟨_, _, _, rfl, by decide +kernel⟩
  | r + 1, some k, t, s => by
    show ∃ w t' s', (match getC m k with | none => _ | some c => _) = endI w t' s' ∧ _
    cases getC m k with
    | none => exact ⟨_, _, _, rfl, by decide +kernel⟩
    | some c =>
      dsimp only
      split
      · exact ⟨_, _, _, rfl, by decide +kernel⟩
      · exact runH_end m r _ _ _
theorem endI_lay {w : Str} {t : Int} {s : Nat} (h : PyData.strOk w = true) : Lay 1 (endI w t s) := Lay.tup (k := 0) fun x hx => by
  simp only [List.mem_cons, List.not_mem_nil, or_false] at hx
  rcases hx with rfl | rfl | rfl
  · exact Lay.str h
  · exact Lay.int _
  · exact Lay.int _
structure Im54 (m : Img) : Prop where
  ok : ImOk m
  key : ∀ a ∈ keysI m, a < 36
theorem Im54.put {m : Img} (h : Im54 m) {a : Int} {c : Cell} (ha : 0 ≤ a ∧ a < 36) (hc : CellOk c) : Im54 (putC m a c) := ⟨h.ok.put (by omega) hc, fun b hb => by
  obtain ⟨q, hq, rfl⟩ := List.mem_map.mp hb
  rcases mem_putC hq with z | z
  · exact h.key _ (List.mem_map_of_mem z)
  · rw [z]; exact ha.2⟩
theorem flat_ints (xs : List Int) : flatL (.list (xs.map .int)) = true := by
  show (xs.map PyData.int).all flatD = true
  rw [List.all_eq_true]
  intro y hy
  obtain ⟨x, _, rfl⟩ := List.mem_map.mp hy
  rfl
end RC
end
section
namespace RC
open PySem PySem.Spec L2 RR
open PyProof.Rows hiding St cutD
def leads (m : Img) (k : Int) (c : Cell) : List Int :=
  if c.w = ("load" : Str) ∧ isWo m c.n = false then [] else
    (if c.w = ("plain" : Str) ∨ c.w = ("branch" : Str) ∨ c.w = ("load" : Str) then [k + c.s] else []) ++ (if c.w = ("jump" : Str) ∨ c.w = ("branch" : Str) ∨ c.w = ("far" : Str) ∨ c.w = ("island" : Str) then c.n.toList else [])
theorem leads_len {m : Img} {k : Int} {c : Cell} : (leads m k c).length ≤ 2 := by
  unfold leads
  split
  · exact Nat.zero_le _
  · rw [List.length_append]
    split <;> split <;> cases c.n <;> simp
theorem v_onward_eq {m : Img} {k : Int} {c : Cell} (ok : ImOk m) (hc : getC m k = some c) : v_onward [imD m, .int k] = some (.list ((leads m k c).map .int)) := by
  have co := ok.get hc
  refine vFun_of rfl ?_
  obtain ⟨w, s, n⟩ := c
  obtain ⟨w8, s1, s2, non, num⟩ := co
  dsimp only at *
  have ea : vAsg (vOp dIx (vVar 0) (vVar 1)) (vgTup 3 (vgCons (vgName 2) (vgCons (vgName 3) (vgCons (vgName 4) vgNil)))) [some (imD m), some (.int k), none, none, none, none] = some (.nx [some (imD m), some (.int k), some (.str w), some (.int s), some (optI n), none]) := by
    unfold vAsg
    rw [o2 (x := imD m) (y := .int k) (d := Cell.d ⟨w, s, n⟩) rfl rfl (ix_im hc)]; rfl
  refine vSeq_nx ea ?_
  have adds : vOp dAdd (vVar 1) (vVar 3) [some (imD m), some (.int k), some (.str w), some (.int s), some (optI n), some (.list [])] = some (.int (k + s)) := o2 (x := .int k) (y := .int s) rfl rfl rfl
  cases n with
  | none =>
    have hw := non rfl
    subst hw
    rfl
  | some i =>
    rcases w8 with rfl | rfl | rfl | rfl | rfl | rfl | rfl | rfl
    all_goals first
      | rfl
      | skip
    have t1 : vAnd (vTest (vOp dEq (vVar 2) (vC (.str "load")))) (vNot (vTest (vCall v_is_word (vCons (vVar 0) (vCons (vVar 4) vNil))))) [some (imD m), some (.int k), some (.str "load"), some (.int s), some (.int i), none] = some (true && !isWo m (some i)) := vAnd_of (x := true) rfl fun _ => vNot_of (vTest_of (o_call (vCons_of (x := imD m) rfl (vCons_of (x := .int i) rfl rfl)) v_is_word_eq))
    rw [Bool.true_and] at t1
    cases hw : isWo m (some i) with
    | false =>
      rw [hw] at t1
      have e : leads m k ⟨"load", s, some i⟩ = [] := if_pos ⟨rfl, hw⟩
      rw [e]
      exact vSeq_rt (vIfS_t t1 (vRet_of rfl))
    | true =>
      rw [hw] at t1
      have e : leads m k ⟨"load", s, some i⟩ = [k + s] := by
        unfold leads
        rw [if_neg fun z => by rw [hw] at z; exact nomatch z.2]
        rfl
      rw [e]
      exact vSeq_nx (vIfS_f t1 rfl) rfl
abbrev Fd := List (Int × Option Int)
def leadsM (m : Img) : Option Int → List Int
  | none => []
  | some k => match getC m k with
    | none => []
    | some c => leads m k c
def walkF (m : Img) : Nat → List Int → Fd → Fd
  | 0, _, fd => fd
  | _ + 1, [], fd => fd
  | f + 1, w :: ws, fd => if w ∈ fd.map (·.1) then walkF m f ws fd else walkF m f ((leadsM m (nxt m w)).reverse ++ ws) (fd ++ [(w, nxt m w)])
def univ (m : Img) (at_ : Int) : List Int := at_ :: m.flatMap fun q => leadsM m (some q.1)
theorem leadsM_len {m : Img} {o : Option Int} : (leadsM m o).length ≤ 2 := by
  cases o with
  | none => exact Nat.zero_le _
  | some k =>
    unfold leadsM
    dsimp only
    split
    · exact Nat.zero_le _
    · exact leads_len
theorem univ_len (m : Img) (a : Int) : (univ m a).length ≤ 1 + 2 * m.length := by
  unfold univ
  rw [List.length_cons]
  have : ∀ xs : Img, (xs.flatMap fun q => leadsM m (some q.1)).length ≤ 2 * xs.length := by
    intro xs
    induction xs with
    | nil => exact Nat.le_refl _
    | cons q xs ih =>
      rw [List.flatMap_cons, List.length_append, List.length_cons]
      have := leadsM_len (m := m) (o := some q.1)
      omega
  have := this m
  omega
theorem leads_univ {m : Img} {a w : Int} : ∀ x ∈ leadsM m (nxt m w), x ∈ univ m a := fun x hx => by
  cases h : nxt m w with
  | none => rw [h] at hx; exact nomatch hx
  | some k =>
    rw [h] at hx
    obtain ⟨q, hq, e⟩ := List.mem_map.mp (nxt_mem h)
    exact List.mem_cons_of_mem _ (List.mem_flatMap.mpr ⟨q, hq, by rw [e]; exact hx⟩)
structure Wk (m : Img) (a : Int) (ws : List Int) (fd : Fd) : Prop where
  nd : (fd.map (·.1)).Nodup
  fu : ∀ x ∈ fd.map (·.1), x ∈ univ m a
  wu : ∀ x ∈ ws, x ∈ univ m a
  fv : ∀ q ∈ fd, q.2 = nxt m q.1
def measW (m : Img) (a : Int) (ws : List Int) (fd : Fd) : Nat := ws.length + 3 * ((univ m a).length - fd.length)
theorem Wk.len {m : Img} {a : Int} {ws : List Int} {fd : Fd} (h : Wk m a ws fd) : fd.length ≤ (univ m a).length := by
  have := nodup_len h.nd h.fu
  rw [List.length_map] at this
  exact this
theorem Wk.skip {m : Img} {a w : Int} {ws : List Int} {fd : Fd} (h : Wk m a (w :: ws) fd) : Wk m a ws fd := ⟨h.nd, h.fu, fun x hx => h.wu x (List.mem_cons_of_mem _ hx), h.fv⟩
theorem Wk.add {m : Img} {a w : Int} {ws : List Int} {fd : Fd} (h : Wk m a (w :: ws) fd) (hn : w ∉ fd.map (·.1)) : Wk m a ((leadsM m (nxt m w)).reverse ++ ws) (fd ++ [(w, nxt m w)]) ∧ measW m a ((leadsM m (nxt m w)).reverse ++ ws) (fd ++ [(w, nxt m w)]) + 1 ≤ measW m a (w :: ws) fd := by
  have g : Wk m a ((leadsM m (nxt m w)).reverse ++ ws) (fd ++ [(w, nxt m w)]) := by
    refine ⟨?_, fun x hx => ?_, fun x hx => ?_, fun q hq => ?_⟩
    · rw [List.map_append]
      refine List.nodup_append.mpr ⟨h.nd, List.nodup_cons.mpr ⟨List.not_mem_nil, List.nodup_nil⟩, fun x hx y hy e => ?_⟩
      have hy2 : y = w := List.mem_singleton.mp hy
      exact hn (by rw [← hy2, ← e]; exact hx)
    · rw [List.map_append] at hx
      rcases List.mem_append.mp hx with z | z
      · exact h.fu x z
      · rw [show x = w from List.mem_singleton.mp z]; exact h.wu w List.mem_cons_self
    · rcases List.mem_append.mp hx with z | z
      · exact leads_univ x (List.mem_reverse.mp z)
      · exact h.wu x (List.mem_cons_of_mem _ z)
    · rcases List.mem_append.mp hq with z | z
      · exact h.fv q z
      · rw [List.mem_singleton.mp z]
  refine ⟨g, ?_⟩
  have := g.len
  have := leadsM_len (m := m) (o := nxt m w)
  unfold measW
  simp only [List.length_append, List.length_reverse, List.length_cons, List.length_nil] at *
  omega
theorem Wk.skipM {m : Img} {a w : Int} {ws : List Int} {fd : Fd} : measW m a ws fd + 1 ≤ measW m a (w :: ws) fd := by
  unfold measW
  rw [List.length_cons]; omega
theorem snoc_ne {α : Type} (zs : List α) (z : α) : (zs ++ [z]).isEmpty = false := by cases zs <;> rfl
theorem pop_rev {w : D} {ws : List D} : ((w :: ws).reverse).getLast? = some w ∧ ((w :: ws).reverse).dropLast = ws.reverse := by
  rw [List.reverse_cons, List.getLast?_append, List.dropLast_concat]
  exact ⟨rfl, rfl⟩
def wkE (m : Img) (a : D) (fd : Fd) (ws : List Int) (x5 : Option D) : DEnv := [some (imD m), some a, some (.list ((sortK m).map .int)), some (.dict (fd.map (entF optI))), some (.list (ws.map PyData.int).reverse), x5]
abbrev wkB : VS := (vSeqS (vPop 5 4) (vIfS (vTest (vOp dNotIn (vVar 5) (vVar 3))) (vSeqS (vPutK 3 (vVar 5) (vCall v_first_at (vCons (vVar 2) (vCons (vVar 5) vNil)))) (vIfS (vTest (vOp dIsNotN (vOp dIx (vVar 3) (vVar 5)) (vC .none))) (vExtend 4 (vLookL (vCall v_onward (vCons (vVar 0) (vCons (vOp dIx (vVar 3) (vVar 5)) vNil))))) vNext)) vNext))
theorem wk_loop {m : Img} {a : Int} (ok : ImOk m) (hl : m.length ≤ 100) : ∀ (F f : Nat) (ws : List Int) (fd : Fd) (x5 : Option D), Wk m a ws fd → measW m a ws fd < F → measW m a ws fd < f → measW m a ws fd ≤ 900 →
    ∃ y5, vwhile (vTru (vVar 4)) wkB F (wkE m (.int a) fd ws x5) = some (.nx (wkE m (.int a) (walkF m f ws fd) [] y5))
  | 0, f, ws, fd, x5, _, h, _, _ => absurd h (Nat.not_lt_zero _)
  | F + 1, 0, ws, fd, x5, _, _, h, _ => absurd h (Nat.not_lt_zero _)
  | F + 1, f + 1, [], fd, x5, _, _, _, _ => ⟨x5, vWhile_go rfl⟩
  | F + 1, f + 1, w :: ws, fd, x5, hk, hF, hf, h9 => by
    have et : vTru (vVar 4) (wkE m (.int a) fd (w :: ws) x5) = some true := by
      show (some (PyData.list ((w :: ws).map PyData.int).reverse)).bind truD = _
      rw [List.map_cons, List.reverse_cons]
      show some (!(_ ++ [_]).isEmpty) = _
      rw [snoc_ne]; rfl
    have ep : vPop 5 4 (wkE m (.int a) fd (w :: ws) x5) = some (.nx (wkE m (.int a) fd ws (some (.int w)))) := by
      unfold vPop
      show Option.bind (some (((w :: ws).map PyData.int).reverse)) _ = _
      rw [Option.bind_some, List.map_cons, (pop_rev (w := PyData.int w) (ws := ws.map .int)).1, Option.bind_some, (pop_rev (w := PyData.int w) (ws := ws.map .int)).2]; rfl
    have tn : vTest (vOp dNotIn (vVar 5) (vVar 3)) (wkE m (.int a) fd ws (some (.int w))) = some (!decide (w ∈ fd.map (·.1))) := vTest_of (o2 (x := .int w) (y := .dict (fd.map (entF optI))) rfl rfl (notIn_F _ _ _))
    unfold walkF
    by_cases hw : w ∈ fd.map (·.1)
    · rw [decide_eq_true hw] at tn
      rw [if_pos hw]
      have hm := Wk.skipM (m := m) (a := a) (w := w) (ws := ws) (fd := fd)
      obtain ⟨y5, e⟩ := wk_loop (a := a) ok hl F f ws fd (some (.int w)) hk.skip (by omega) (by omega) (by omega)
      exact ⟨y5, vWhile_nx et (vSeq_nx ep (vIfS_f tn rfl)) e⟩
    · rw [decide_eq_false hw] at tn
      rw [if_neg hw]
      obtain ⟨g1, g2⟩ := hk.add hw
      have hfl := hk.len
      have hul := univ_len m a
      have hn : ∀ q ∈ fd, q.1 ≠ w := fun q hq z => hw (List.mem_map.mpr ⟨q, hq, z⟩)
      have e1 : vPutK 3 (vVar 5) (vCall v_first_at (vCons (vVar 2) (vCons (vVar 5) vNil))) (wkE m (.int a) fd ws (some (.int w))) = some (.nx (wkE m (.int a) (fd ++ [(w, nxt m w)]) ws (some (.int w)))) := putK_F optI rfl rfl (o_call (vCons_of (x := .list ((sortK m).map .int)) rfl (vCons_of (x := .int w) rfl rfl)) (v_first_im ok (by omega))) (by omega) hn
      have ei : vOp dIx (vVar 3) (vVar 5) (wkE m (.int a) (fd ++ [(w, nxt m w)]) ws (some (.int w))) = some (optI (nxt m w)) := o2 (x := .dict ((fd ++ [(w, nxt m w)]).map (entF optI))) (y := .int w) rfl rfl (ix_F optI (by
        rw [List.find?_append, List.find?_eq_none.mpr fun q hq => by rw [decide_eq_true_eq]; exact hn q hq]
        rw [Option.none_or, List.find?_cons_of_pos (by exact decide_eq_true rfl)]))
      obtain ⟨y5, e⟩ := wk_loop (a := a) ok hl F f ((leadsM m (nxt m w)).reverse ++ ws) (fd ++ [(w, nxt m w)]) (some (.int w)) g1 (by omega) (by omega) (by omega)
      refine ⟨y5, vWhile_nx et (vSeq_nx ep (vIfS_t tn (vSeq_nx e1 ?_))) e⟩
      have t2 : vTest (vOp dIsNotN (vOp dIx (vVar 3) (vVar 5)) (vC .none)) (wkE m (.int a) (fd ++ [(w, nxt m w)]) ws (some (.int w))) = some (nxt m w).isSome := vTest_of (o2 ei rfl (isNotN_opt _))
      cases hx : nxt m w with
      | none =>
        rw [hx] at t2
        exact vIfS_f t2 rfl
      | some k =>
        rw [hx] at t2 ei
        obtain ⟨c, hc⟩ := nxt_get hx
        have elm : leadsM m (some k) = leads m k c := by
          unfold leadsM
          dsimp only
          rw [hc]
        refine vIfS_t t2 ?_
        have eo : vLookL (vCall v_onward (vCons (vVar 0) (vCons (vOp dIx (vVar 3) (vVar 5)) vNil))) (wkE m (.int a) (fd ++ [(w, some k)]) ws (some (.int w))) = some (.list ((leads m k c).map .int)) := o_lookL (o_call (vCons_of (x := imD m) rfl (vCons_of ei rfl)) (v_onward_eq ok hc)) (flat_ints _)
        unfold vExtend
        show Option.bind (some ((ws.map PyData.int).reverse)) _ = _
        rw [Option.bind_some, eo, Option.bind_some]
        show Option.bind (some ((leads m k c).map PyData.int)) _ = _
        have hll := leads_len (m := m) (k := k) (c := c)
        have hwl : ws.length ≤ 900 := by
          unfold measW at h9
          rw [List.length_cons] at h9; omega
        rw [Option.bind_some, if_pos (by rw [List.length_reverse, List.length_map, List.length_map]; exact Nat.le_trans (show _ ≤ 902 by omega) (by decide)), elm]
        unfold wkE
        rw [show (((leads m k c).reverse ++ ws).map PyData.int).reverse = (ws.map PyData.int).reverse ++ (leads m k c).map .int from by rw [List.map_append, List.reverse_append, List.map_reverse, List.reverse_reverse]]; rfl
def foundW (m : Img) (a : Int) : Fd := walkF m 900 [a] []
theorem wk0 (m : Img) (a : Int) : Wk m a [a] [] := ⟨List.nodup_nil, fun x h => (nomatch h), fun x hx => by rw [List.mem_singleton.mp hx]; exact List.mem_cons_self, fun q h => nomatch h⟩
theorem meas0 {m : Img} {a : Int} (hl : m.length ≤ 60) : measW m a [a] [] ≤ 400 := by
  have := univ_len m a
  unfold measW
  show 1 + 3 * (_ - 0) ≤ 400
  omega
theorem v_looked_for_eq {m : Img} {a : Int} (ok : ImOk m) (hl : m.length ≤ 60) : v_looked_for [imD m, .int a] = some (.dict ((foundW m a).map (entF optI))) := by
  have hm := meas0 (a := a) hl
  refine vFun_of rfl ?_
  refine vSeq_nx (vSet_of (o_cl (x := [imD m]) rfl (cSortedKE_im m))) ?_
  refine vSeq_nx (vSet_of (d := .dict []) rfl) (vSeq_nx (vSet_of (d := .list [.int a]) rfl) ?_)
  obtain ⟨y5, e⟩ := wk_loop (a := a) ok (by omega) fuel 900 [a] [] none (wk0 m a) (by show _ < 100000; omega) (by omega) (by omega)
  exact vSeq_nx (show vWhile _ _ _ = _ from e) (vRet_of rfl)
def prD (q : Int × Option Int) : D := .tuple [.int q.1, optI q.2]
def cellAt (m : Img) (o : Option Int) : Option Cell := o.bind (getC m)
theorem app_of {i : Nat} {e : VE} {Γ : DEnv} {xs : List D} {d : D} (h : vVar i Γ = some (.list xs)) (k : e Γ = some d) (l : xs.length ≤ 1000) : vAppend i e Γ = some (.nx (Γ.set i (some (.list (xs ++ [d]))))) := by
  unfold vAppend
  rw [h, Option.bind_some]
  show Option.bind (some xs) _ = _
  rw [Option.bind_some, k, Option.bind_some, if_pos (Nat.lt_of_le_of_lt l (by decide))]
end RC
end
section
namespace RC
open PySem PySem.Spec L2 RR
open PyProof.Rows hiding St cutD
theorem last_ix (d : D) (xs : List D) : dIx (.list (d :: xs).reverse) (.int (-1)) = some d := by
  show atI (d :: xs).reverse (-1) = _
  unfold atI ixN
  rw [if_neg (by decide), List.length_reverse, if_pos (by simp only [List.length_cons]; omega), Option.bind_some]
  have e : (((d :: xs).length : Int) + -1).toNat = xs.length := by simp only [List.length_cons]; omega
  have e2 : (-1 + ((d :: xs).length : Int)).toNat = xs.length := by simp only [List.length_cons]; omega
  have g : (d :: xs).reverse[xs.length]? = some d := by
    rw [List.reverse_cons, List.getElem?_append_right (by rw [List.length_reverse]; exact Nat.le_refl _), List.length_reverse, Nat.sub_self]; rfl
  first | rw [e, g] | rw [e2, g]
theorem ixN_last (d : D) (xs : List D) : ixN (d :: xs).reverse.length (-1) = some xs.length := by
  unfold ixN
  rw [if_neg (by decide), List.length_reverse, if_pos (by simp only [List.length_cons]; omega)]
  refine congrArg some ?_
  simp only [List.length_cons]; omega
theorem set_snoc {α : Type} (d e : α) : ∀ ys : List α, (ys ++ [d]).set ys.length e = ys ++ [e]
  | [] => rfl
  | y :: ys => by
    show y :: (ys ++ [d]).set ys.length e = _
    rw [set_snoc d e ys]; rfl
theorem putI_last {i : Nat} {ev : VE} {Γ : DEnv} {d e : D} {xs : List D} (h : listAt i Γ = some (d :: xs).reverse) (hv : ev Γ = some e) : vPutI i (vUn dNeg (vC (.int 1))) ev Γ = some (.nx (Γ.set i (some (.list (e :: xs).reverse)))) := by
  unfold vPutI
  rw [hv, Option.bind_some, h, Option.bind_some]
  show (ixN (d :: xs).reverse.length (-1)).bind _ = _
  rw [ixN_last, Option.bind_some]
  have : (d :: xs).reverse.set xs.length e = (e :: xs).reverse := by
    rw [List.reverse_cons, List.reverse_cons, ← List.length_reverse, set_snoc]
  rw [this]
def spD (q : Int × Int) : D := .tuple [.int q.1, .int q.2]
def joE (S : D) (rs : Rg) (x2 x3 : Option D) : DEnv := [some S, some (.list (rs.map spD).reverse), x2, x3]
abbrev joB : VS := (vIfS (vAnd (vTru (vVar 1)) (vTest (vOp dLe (vVar 2) (vOp dAdd (vOp dIx (vOp dIx (vVar 1) (vUn dNeg (vC (.int 1)))) (vC (.int 1))) (vC (.int 1)))))) (vPutI 1 (vUn dNeg (vC (.int 1))) (vTup (vCons (vLook (vOp dIx (vOp dIx (vVar 1) (vUn dNeg (vC (.int 1)))) (vC (.int 0)))) (vCons (vLook (vCl cMax2 (vCons (vOp dIx (vOp dIx (vVar 1) (vUn dNeg (vC (.int 1)))) (vC (.int 1))) (vCons (vVar 3) vNil)))) vNil)))) (vAppend 1 (vTup (vCons (vVar 2) (vCons (vVar 3) vNil)))))
theorem jo_turn {S : D} {rs : Rg} {f l : Int} (hl : rs.length ≤ 900) : joB (joE S rs (some (.int f)) (some (.int l))) = some (.nx (joE S (addR rs f l) (some (.int f)) (some (.int l)))) := by
  have ta : ∀ rs : Rg, vTup (vCons (vVar 2) (vCons (vVar 3) vNil)) (joE S rs (some (.int f)) (some (.int l))) = some (spD (f, l)) := fun rs => vTup_of (vCons_of rfl (vCons_of rfl rfl)) (by show 2 ≤ lim; decide)
  cases rs with
  | nil =>
    refine vIfS_f (vAnd_of (x := false) (y := false) rfl fun z => nomatch z) ((app_of (xs := []) rfl (ta []) (by decide)).trans ?_)
    rfl
  | cons q t =>
    have eL : vOp dIx (vVar 1) (vUn dNeg (vC (.int 1))) (joE S (q :: t) (some (.int f)) (some (.int l))) = some (spD q) := o2 (x := .list ((q :: t).map spD).reverse) (y := .int (-1)) rfl rfl (by rw [List.map_cons]; exact last_ix _ _)
    have e1 : vOp dIx (vOp dIx (vVar 1) (vUn dNeg (vC (.int 1)))) (vC (.int 1)) (joE S (q :: t) (some (.int f)) (some (.int l))) = some (.int q.2) := o2 eL (y := .int 1) rfl rfl
    have e0 : vOp dIx (vOp dIx (vVar 1) (vUn dNeg (vC (.int 1)))) (vC (.int 0)) (joE S (q :: t) (some (.int f)) (some (.int l))) = some (.int q.1) := o2 eL (y := .int 0) rfl rfl
    have t1 : vTru (vVar 1) (joE S (q :: t) (some (.int f)) (some (.int l))) = some true := by
      show (some (PyData.list ((q :: t).map spD).reverse)).bind truD = _
      rw [List.map_cons, List.reverse_cons]
      show some (!(_ ++ [_]).isEmpty) = _
      rw [snoc_ne]; rfl
    have t2 : vTest (vOp dLe (vVar 2) (vOp dAdd (vOp dIx (vOp dIx (vVar 1) (vUn dNeg (vC (.int 1)))) (vC (.int 1))) (vC (.int 1)))) (joE S (q :: t) (some (.int f)) (some (.int l))) = some (decide (f ≤ q.2 + 1)) := vTest_of (o2 (x := .int f) (y := .int (q.2 + 1)) rfl (o2 e1 (y := .int 1) rfl rfl) rfl)
    have tt := vAnd_of t1 fun _ => t2
    rw [Bool.true_and] at tt
    unfold addR
    dsimp only
    by_cases hc : f ≤ q.2 + 1
    · rw [decide_eq_true hc] at tt
      rw [if_pos hc]
      refine vIfS_t tt ((putI_last (d := spD q) (xs := t.map spD) (e := spD (q.1, if l > q.2 then l else q.2)) (by show some ((q :: t).map spD).reverse = _; rw [List.map_cons]) ?_).trans ?_)
      · exact vTup_of (vCons_of (o_look e0 rfl) (vCons_of (o_look (o_cl (x := [.int q.2, .int l]) (vCons_of e1 (vCons_of rfl rfl)) (show cMax2 [.int q.2, .int l] = some (.int (if l > q.2 then l else q.2)) from rfl)) rfl) rfl)) (by show 2 ≤ lim; decide)
      · unfold joE
        rw [List.map_cons]; rfl
    · rw [decide_eq_false hc] at tt
      rw [if_neg hc]
      refine vIfS_f tt ((app_of (xs := ((q :: t).map spD).reverse) rfl (ta _) (by rw [List.length_reverse, List.length_map]; omega)).trans ?_)
      unfold joE
      rw [show (((f, l) :: q :: t).map spD).reverse = ((q :: t).map spD).reverse ++ [spD (f, l)] from by rw [List.map_cons, List.reverse_cons]]; rfl
theorem addR_len (rs : Rg) (f l : Int) : (addR rs f l).length ≤ rs.length + 1 := by
  cases rs with
  | nil => exact Nat.le_refl _
  | cons q t =>
    unfold addR
    dsimp only
    split <;> simp only [List.length_cons] <;> omega
theorem jo_loop {S : D} : ∀ (xs : List (Int × Int)) (rs : Rg) (x2 x3 : Option D), rs.length + xs.length ≤ 900 → ∃ y2 y3, vfor (vgTup 2 (vgCons (vgName 2) (vgCons (vgName 3) vgNil))) joB (xs.map spD) (joE S rs x2 x3) = some (.nx (joE S (joinR rs xs) y2 y3))
  | [], rs, x2, x3, _ => ⟨x2, x3, rfl⟩
  | q :: xs, rs, x2, x3, hl => by
    rw [List.length_cons] at hl
    have := addR_len rs q.1 q.2
    obtain ⟨y2, y3, ih⟩ := jo_loop (S := S) xs (addR rs q.1 q.2) (some (.int q.1)) (some (.int q.2)) (by omega)
    refine ⟨y2, y3, ?_⟩
    rw [List.map_cons]
    unfold vfor
    rw [show vgTup 2 (vgCons (vgName 2) (vgCons (vgName 3) vgNil)) (spD q) (joE S rs x2 x3) = some (joE S rs (some (.int q.1)) (some (.int q.2))) from rfl, Option.bind_some, jo_turn (by omega), Option.bind_some]
    exact ih
/-- as the code sorts them -/
def srtS (S : List (Int × Int)) : List (Int × Int) := ((S.map fun q => (q.1, q.2.toNat)).mergeSort leP).map fun q => (q.1, (q.2 : Int))
theorem srtS_mem {S : List (Int × Int)} (h : ∀ q ∈ S, 0 ≤ q.2) {q : Int × Int} : q ∈ srtS S ↔ q ∈ S := by
  unfold srtS
  rw [List.mem_map]
  constructor
  · rintro ⟨p, hp, rfl⟩
    obtain ⟨r, hr, rfl⟩ := List.mem_map.mp (List.mem_mergeSort.mp hp)
    have := h r hr
    rw [show (((r.1, r.2.toNat) : Int × Nat).1, ((((r.1, r.2.toNat) : Int × Nat).2 : Nat) : Int)) = r from Prod.ext rfl (by show ((r.2.toNat : Nat) : Int) = r.2; omega)]
    exact hr
  · intro hq
    have := h q hq
    exact ⟨(q.1, q.2.toNat), List.mem_mergeSort.mpr (List.mem_map_of_mem hq), Prod.ext rfl (by show ((q.2.toNat : Nat) : Int) = q.2; omega)⟩
theorem srtS_len (S : List (Int × Int)) : (srtS S).length = S.length := by
  unfold srtS
  rw [List.length_map, (List.mergeSort_perm _ _).length_eq, List.length_map]
theorem srtS_asc (S : List (Int × Int)) : (srtS S).Pairwise (fun a b => a.1 ≤ b.1) := by
  unfold srtS
  rw [List.pairwise_map]
  refine (List.pairwise_mergeSort leP_trans leP_total _).imp fun {a b} h => ?_
  unfold leP at h
  have := of_decide_eq_true h
  show a.1 ≤ b.1
  omega
theorem cSortedE_sp {S : List (Int × Int)} (h : ∀ q ∈ S, 0 ≤ q.2) : cSortedE [.list (S.map spD)] = some (.list ((srtS S).map spD)) := by
  have e : S.map spD = (S.map fun q => (q.1, q.2.toNat)).map pairD := by
    rw [List.map_map]
    refine List.map_congr_left fun q hq => ?_
    have := h q hq
    show PyData.tuple [.int q.1, .int q.2] = .tuple [.int q.1, .int ((q.2.toNat : Nat) : Int)]
    rw [show ((q.2.toNat : Nat) : Int) = q.2 by omega]
  rw [← cSorted_E, e, sort_pairs]
  unfold srtS
  rw [List.map_map]; rfl
theorem v_joined_eq {S : List (Int × Int)} (h : ∀ q ∈ S, 0 ≤ q.2) (hl : S.length ≤ 900) : v_joined [.list (S.map spD)] = some (.list ((joinR [] (srtS S)).map spD).reverse) := by
  refine vFun_of rfl ?_
  refine vSeq_nx (vSet_of (d := .list []) rfl) ?_
  obtain ⟨y2, y3, e⟩ := jo_loop (S := .list (S.map spD)) (srtS S) [] none none (by rw [srtS_len]; show 0 + _ ≤ 900; omega)
  refine vSeq_nx ?_ (vRet_of (Γ := joE (.list (S.map spD)) (joinR [] (srtS S)) y2 y3) rfl)
  refine (vFor_of31 (ds := (srtS S).map spD) ?_).trans e
  show (vCl cSortedE (vCons (vVar 0) vNil) _).bind seqD = _
  rw [o_cl (x := [.list (S.map spD)]) rfl (cSortedE_sp h)]; rfl
def cOf (m : Img) (q : Int × Option Int) : D := match cellAt m q.2 with | some c => c.d | none => .none
def isLd (m : Img) (q : Int × Option Int) : Bool := match cellAt m q.2 with | some c => decide (c.w = ("load" : Str)) | none => false
def ldP (m : Img) (q : Int × Option Int) : Int × Int := match cellAt m q.2 with | some c => (c.n.getD 0, c.n.getD 0) | none => (0, 0)
theorem cOf_eq {m : Img} {q : Int × Option Int} {c : Cell} (h : cellAt m q.2 = some c) : cOf m q = c.d ∧ isLd m q = decide (c.w = ("load" : Str)) ∧ ldP m q = (c.n.getD 0, c.n.getD 0) := by
  unfold cOf isLd ldP
  rw [h]
  exact ⟨rfl, rfl, rfl⟩
def spansW (m : Img) (fd : Fd) : List (Int × Int) := fd.map (fun q => (q.1, q.2.getD 2000000000)) ++ ((fd.filter (·.2.isSome)).filter (isLd m)).map (ldP m)
theorem v_ranges_from_eq {m : Img} {a : Int} (ok : ImOk m) (hl : m.length ≤ 60) (hn : ∀ q ∈ spansW m (foundW m a), 0 ≤ q.2) (hv : ∀ q ∈ foundW m a, ∀ k, q.2 = some k → ∃ c, getC m k = some c) (hfl : (foundW m a).length ≤ 400) : v_ranges_from [imD m, .int a] = some (.list ((joinR [] (srtS (spansW m (foundW m a)))).map spD).reverse) := by
  generalize hF : foundW m a = fd at *
  have ef := v_looked_for_eq (a := a) ok hl
  rw [hF] at ef
  refine vFun_of rfl ?_
  refine vSeq_nx (vSet_of (o_call (vCons_of (x := imD m) rfl (vCons_of (x := .int a) rfl rfl)) ef)) ?_
  refine vSeq_nx (vSet_of (d := .list ((fd.map fun q => (q.1, q.2.getD 2000000000)).map spD)) ?_) ?_
  · refine vLc_of (ds := fd.map fun q => PyData.tuple [.int q.1, optI q.2]) ?_ (by rw [List.length_map]; exact Nat.le_trans hfl (by decide)) ?_
    · show some ((fd.map (entF optI)).map fun q => PyData.tuple [q.1, q.2]) = _
      rw [List.map_map]; rfl
    · rw [List.map_map]
      refine vcomp_mapOf (fun q : Int × Option Int => PyData.tuple [.int q.1, optI q.2]) _ fun q hq => ⟨_, rfl, rfl, ?_⟩
      obtain ⟨w, o⟩ := q
      cases o <;> rfl
  let ds : List (Int × Option Int) := fd.filter (·.2.isSome)
  have hc : ∀ q ∈ ds, ∃ c, cellAt m q.2 = some c := fun q hq => by
    obtain ⟨h1, h2⟩ := List.mem_filter.mp hq
    obtain ⟨k, hk⟩ := Option.isSome_iff_exists.mp h2
    obtain ⟨c, hc⟩ := hv q h1 k hk
    exact ⟨c, by unfold cellAt; rw [hk, Option.bind_some]; exact hc⟩
  refine vSeq_nx (vSet_of (d := .list (ds.map (cOf m))) ?_) ?_
  · refine vLc_of (ds := fd.map fun q => optI q.2) ?_ (by rw [List.length_map]; exact Nat.le_trans hfl (by decide)) ?_
    · show some ((fd.map (entF optI)).map (·.2)) = _
      rw [List.map_map]; rfl
    · refine vcomp_filterOf (fun q : Int × Option Int => optI q.2) (fun q => q.2.isSome) _ fun q hq => ⟨_, rfl, ?_, fun hs => ?_⟩
      · exact vTest_of (o2 (x := optI q.2) rfl rfl (isNotN_opt _))
      · obtain ⟨c, hc⟩ := hc q (List.mem_filter.mpr ⟨hq, hs⟩)
        obtain ⟨k, hk⟩ := Option.isSome_iff_exists.mp hs
        rw [(cOf_eq hc).1]
        unfold cellAt at hc
        rw [hk, Option.bind_some] at hc
        exact o2 (x := imD m) (y := .int k) rfl (by show some (optI q.2) = _; rw [hk]; rfl) (ix_im hc)
  refine vRet_of (o_call (vCons_of (x := .list ((spansW m fd).map spD)) ?_ rfl) (v_joined_eq hn (by
    unfold spansW
    rw [List.length_append, List.length_map, List.length_map]
    have h1 := List.length_filter_le (isLd m) (fd.filter (·.2.isSome))
    have h2 := List.length_filter_le (fun q : Int × Option Int => q.2.isSome) fd
    omega)))
  have e2 : vLc (vISeq (vVar 6)) (vgTup 3 (vgCons (vgName 7) (vgCons (vgName 8) (vgCons (vgName 9) vgNil)))) (vTest (vOp dEq (vVar 7) (vC (.str "load")))) (vTup (vCons (vVar 9) (vCons (vVar 9) vNil))) [7, 8, 9] [some (imD m), some (.int a), some (.dict (fd.map (entF optI))), some (.list ((fd.map fun q => (q.1, q.2.getD 2000000000)).map spD)), none, none, some (.list (ds.map (cOf m))), none, none, none] = some (.list (((ds.filter (isLd m)).map (ldP m)).map spD)) := by
    have hdl : ds.length ≤ 400 := Nat.le_trans (List.length_filter_le _ _) hfl
    refine vLc_of (ds := ds.map (cOf m)) rfl (by rw [List.length_map]; exact Nat.le_trans hdl (by decide)) ?_
    rw [show ((ds.filter (isLd m)).map (ldP m)).map spD = (ds.filter (isLd m)).map (spD ∘ ldP m) from List.map_map]
    refine vcomp_filterOf (cOf m) (isLd m) (spD ∘ ldP m) fun q hq => ?_
    obtain ⟨c, hc⟩ := hc q hq
    obtain ⟨h1, h2⟩ := List.mem_filter.mp hq
    obtain ⟨k, hk⟩ := Option.isSome_iff_exists.mp h2
    obtain ⟨g1, g2, g3⟩ := cOf_eq hc
    have co : CellOk c := by
      unfold cellAt at hc
      rw [hk, Option.bind_some] at hc
      exact ok.get hc
    rw [g1, g2]
    show ∃ Γ2, _ ∧ _ ∧ (_ → _ = some (spD (ldP m q)))
    rw [g3]
    obtain ⟨w, s, n⟩ := c
    refine ⟨[some (imD m), some (.int a), some (.dict (fd.map (entF optI))), some (.list ((fd.map fun q => (q.1, q.2.getD 2000000000)).map spD)), none, none, some (.list (ds.map (cOf m))), some (.str w), some (.int s), some (optI n)], rfl, vTest_of (o2 (x := .str w) (y := .str "load") rfl rfl (dEq_str54 _ _)), fun hw => ?_⟩
    have hw := of_decide_eq_true hw
    cases n with
    | none => have := co.non rfl; dsimp only at this hw; rw [hw] at this; exact absurd this (by decide)
    | some i => exact vTup_of (vCons_of rfl (vCons_of rfl rfl)) (by show 2 ≤ lim; decide)
  refine o2 (x := .list ((fd.map fun q => (q.1, q.2.getD 2000000000)).map spD)) rfl e2 ?_
  have h1 := List.length_filter_le (isLd m) ds
  have h2 := List.length_filter_le (fun q : Int × Option Int => q.2.isSome) fd
  rw [dAdd_ls (by rw [List.length_map, List.length_map, List.length_map, List.length_map]; show _ + _ ≤ 1000; have : ds.length ≤ fd.length := h2; omega)]
  unfold spansW
  rw [List.map_append]
def outR (rs : Rg) : Fd := rs.map fun q => (q.1, if q.2 = 2000000000 then none else some q.2)
theorem v_depends_eq {m : Img} {a : Int} (ok : ImOk m) (hl : m.length ≤ 60) (ha : 0 ≤ a ∧ a ≤ 1000000000) (hn : ∀ q ∈ spansW m (foundW m a), 0 ≤ q.2) (hv : ∀ q ∈ foundW m a, ∀ k, q.2 = some k → ∃ c, getC m k = some c) (hfl : (foundW m a).length ≤ 400) (hjl : (joinR [] (srtS (spansW m (foundW m a)))).length ≤ 1000) : v_depends [imD m, .int a] = some (.list ((outR (joinR [] (srtS (spansW m (foundW m a))))).map prD).reverse) := by
  refine vFun_of rfl (vSeq_nx (vDrop_of (Eq.trans rfl (v_check_image_ok ok (by omega)))) (vSeq_nx (vDrop_of (o_call (x := [.int a, .int 1000000000]) rfl (v_check_number_ok (within_t ha.1 ha.2)))) (vRet_of ?_)))
  have er := v_ranges_from_eq ok hl hn hv hfl
  generalize joinR [] (srtS (spansW m (foundW m a))) = rs at *
  rw [show ((outR rs).map prD).reverse = rs.reverse.map fun q => prD (q.1, if q.2 = 2000000000 then none else some q.2) by unfold outR; rw [List.map_map, ← List.map_reverse]; rfl]
  refine vLc_of (ds := rs.reverse.map spD) ?_ (by rw [List.length_map, List.length_reverse]; exact Nat.le_trans hjl (by decide)) ?_
  · show (vCall v_ranges_from _ _).bind seqD = _
    rw [o_call (x := [imD m, .int a]) rfl er, ← List.map_reverse]; rfl
  · refine vcomp_mapOf spD _ fun q hq => ⟨_, rfl, rfl, ?_⟩
    refine vTup_of (vCons_of (x := .int q.1) rfl (vCons_of (o_if (c := decide (q.2 = 2000000000)) (x := .none) (y := .int q.2) (vTest_of (o2 (x := .int q.2) (y := .int 2000000000) rfl rfl (dEq_int _ _))) (fun _ => rfl) fun _ => rfl) rfl)) (by show 2 ≤ lim; decide) |>.trans ?_
    unfold prD
    by_cases h : q.2 = 2000000000
    · rw [decide_eq_true h, if_pos rfl]
      show _ = some (PyData.tuple [.int q.1, optI (if q.2 = 2000000000 then none else some q.2)])
      rw [if_pos h]; rfl
    · rw [decide_eq_false h, if_neg (by decide)]
      show _ = some (PyData.tuple [.int q.1, optI (if q.2 = 2000000000 then none else some q.2)])
      rw [if_neg h]; rfl
end RC
end
section
namespace RC
open PySem PySem.Spec L2 RR
open PyProof.Rows hiding St cutD
theorem walk_ok {m : Img} {a : Int} : ∀ {f : Nat} {ws : List Int} {fd : Fd}, Wk m a ws fd → Wk m a [] (walkF m f ws fd) ∧ ∀ q ∈ fd, q ∈ walkF m f ws fd
  | 0, ws, fd, h => ⟨⟨h.nd, h.fu, (fun x hx => nomatch hx), h.fv⟩, fun q hq => hq⟩
  | f + 1, [], fd, h => ⟨h, fun q hq => hq⟩
  | f + 1, w :: ws, fd, h => by
    unfold walkF
    split
    · exact walk_ok h.skip
    · rename_i hw
      obtain ⟨g1, g2⟩ := walk_ok (f := f) (h.add hw).1
      exact ⟨g1, fun q hq => g2 q (List.mem_append_left _ hq)⟩
theorem found_ok (m : Img) (a : Int) : Wk m a [] (foundW m a) ∧ (a, nxt m a) ∈ foundW m a := by
  refine ⟨(walk_ok (wk0 m a)).1, ?_⟩
  unfold foundW
  show (a, nxt m a) ∈ walkF m (899 + 1) [a] []
  unfold walkF
  rw [if_neg (by exact List.not_mem_nil)]
  exact (walk_ok ((wk0 m a).add List.not_mem_nil).1).2 _ (List.mem_append_right _ (List.mem_singleton_self _))
theorem found_len {m : Img} {a : Int} (hl : m.length ≤ 60) : (foundW m a).length ≤ 121 := by
  have := (found_ok m a).1.len
  have := univ_len m a
  omega
def inQ (q : Int × Option Int) (x : Int) : Bool := decide (q.1 ≤ x) && (match q.2 with | none => true | some l => decide (x ≤ l))
def inP (P : Fd) (x : Int) : Bool := P.any fun q => inQ q x
theorem v__law_is_in_eq {P : Fd} {x : Int} (hl : P.length ≤ 1000) : v__law_is_in [.list (P.map prD), .int x] = some (.bool (inP P x)) := by
  refine vFun_of rfl (vRet_of ?_)
  have e1 : vLc (vISeq (vVar 0)) (vgTup 2 (vgCons (vgName 2) (vgCons (vgName 3) vgNil))) (vAnd (vTest (vOp dLe (vVar 2) (vVar 1))) (vOr (vTest (vOp dIsN (vVar 3) (vC .none))) (vTest (vOp dLe (vVar 1) (vVar 3))))) (vC (.int 0)) [2, 3] [some (.list (P.map prD)), some (.int x), none, none] = some (.list (((P.filter fun q => inQ q x).map fun _ => (0 : Int)).map .int)) := by
    refine vLc_of (ds := P.map prD) rfl (by rw [List.length_map]; exact Nat.le_trans hl (by decide)) ?_
    rw [List.map_map]
    refine vcomp_filterOf prD (fun q => inQ q x) _ fun q hq => ⟨[some (.list (P.map prD)), some (.int x), some (.int q.1), some (optI q.2)], rfl, ?_, fun _ => rfl⟩
    refine vAnd_of (x := decide (q.1 ≤ x)) (vTest_of (o2 (x := .int q.1) (y := .int x) rfl rfl rfl)) fun _ => ?_
    cases q.2 with
    | none => exact vOr_of (x := true) (y := true) (vTest_of (o2 (x := .none) (y := .none) rfl rfl rfl)) fun z => nomatch z
    | some l =>
      refine (vOr_of (x := false) (y := decide (x ≤ l)) (vTest_of (o2 (x := .int l) (y := .none) rfl rfl rfl)) fun _ => vTest_of (o2 (x := .int x) (y := .int l) rfl rfl rfl)).trans ?_
      rw [Bool.false_or]
  refine (o2 e1 (y := .list []) rfl (ints_ne _)).trans ?_
  refine congrArg (fun b => some (PyData.bool b)) ?_
  unfold inP
  rw [Bool.eq_iff_iff, List.any_eq_true, Bool.not_eq_true', ← Bool.not_eq_true, List.isEmpty_iff, List.map_eq_nil_iff, List.filter_eq_nil_iff]
  exact ⟨fun h => Classical.byContradiction fun z => h fun q hq hx => z ⟨q, hq, hx⟩, fun ⟨q, hq, hx⟩ h => h q hq hx⟩
end RC
end
section
namespace RC
open PySem PySem.Spec L2 RR
open PyProof.Rows hiding St cutD
theorem inP_iff {P : Fd} {x : Int} : inP P x = true ↔ ∃ q ∈ P, q.1 ≤ x ∧ ∀ l, q.2 = some l → x ≤ l := by
  unfold inP inQ
  rw [List.any_eq_true]
  constructor
  · rintro ⟨q, hq, h⟩
    rw [Bool.and_eq_true, decide_eq_true_eq] at h
    refine ⟨q, hq, h.1, fun l hl => ?_⟩
    have h2 := h.2
    rw [hl] at h2
    exact of_decide_eq_true h2
  · rintro ⟨q, hq, h1, h2⟩
    refine ⟨q, hq, ?_⟩
    rw [Bool.and_eq_true, decide_eq_true_eq]
    refine ⟨h1, ?_⟩
    cases hl : q.2 with
    | none => rfl
    | some l => exact decide_eq_true (h2 l hl)
def depW (m : Img) (a : Int) : Fd := outR (joinR [] (srtS (spansW m (foundW m a))))
theorem found_get {m : Img} {a : Int} : ∀ q ∈ foundW m a, ∀ k, q.2 = some k → ∃ c, getC m k = some c := fun q hq k hk => by
  rw [(found_ok m a).1.fv q hq] at hk
  exact nxt_get hk
end RC
end
section
namespace RC
open PySem PySem.Spec L2 RR
open PyProof.Rows hiding St cutD
theorem walk_sub {m : Img} : ∀ {f : Nat} {ws : List Int} {fd : Fd}, ∀ q ∈ fd, q ∈ walkF m f ws fd
  | 0, ws, fd, q, hq => hq
  | f + 1, [], fd, q, hq => hq
  | f + 1, w :: ws, fd, q, hq => by
    unfold walkF
    split
    · exact walk_sub q hq
    · exact walk_sub q (List.mem_append_left _ hq)
theorem walk_closed {m : Img} {a : Int} : ∀ {f : Nat} {ws : List Int} {fd : Fd}, Wk m a ws fd → measW m a ws fd < f → (∀ q ∈ fd, ∀ x ∈ leadsM m q.2, x ∈ fd.map (·.1) ∨ x ∈ ws) → ∀ q ∈ walkF m f ws fd, ∀ x ∈ leadsM m q.2, x ∈ (walkF m f ws fd).map (·.1)
  | 0, ws, fd, _, h, _ => absurd h (Nat.not_lt_zero _)
  | f + 1, [], fd, _, _, hc => fun q hq x hx => (hc q hq x hx).elim id fun z => nomatch z
  | f + 1, w :: ws, fd, hk, hf, hc => by
    unfold walkF
    split
    · rename_i hw
      have := Wk.skipM (m := m) (a := a) (w := w) (ws := ws) (fd := fd)
      exact walk_closed hk.skip (by omega) fun q hq x hx => (hc q hq x hx).elim .inl fun z => by
        rcases List.mem_cons.mp z with rfl | z
        · exact .inl hw
        · exact .inr z
    · rename_i hw
      obtain ⟨g1, g2⟩ := hk.add hw
      refine walk_closed g1 (by omega) fun q hq x hx => ?_
      rcases List.mem_append.mp hq with z | z
      · rcases hc q z x hx with y | y
        · left; rw [List.map_append]; exact List.mem_append_left _ y
        · rcases List.mem_cons.mp y with rfl | y
          · left; rw [List.map_append]; exact List.mem_append_right _ (List.mem_singleton_self _)
          · right; exact List.mem_append_right _ y
      · rw [List.mem_singleton.mp z] at hx
        right; exact List.mem_append_left _ (List.mem_reverse.mpr hx)
def Fk (m : Img) (a w : Int) : Prop := w ∈ (foundW m a).map (·.1)
theorem fk_start (m : Img) (a : Int) : Fk m a a := List.mem_map.mpr ⟨_, (found_ok m a).2, rfl⟩
theorem fk_pair {m : Img} {a w : Int} (h : Fk m a w) : (w, nxt m w) ∈ foundW m a := by
  obtain ⟨q, hq, rfl⟩ := List.mem_map.mp h
  have := (found_ok m a).1.fv q hq
  rw [← this]; exact hq
theorem fk_leads {m : Img} {a w : Int} (hl : m.length ≤ 60) (h : Fk m a w) : ∀ x ∈ leadsM m (nxt m w), Fk m a x := fun x hx => by
  have hm := meas0 (a := a) hl
  exact walk_closed (f := 900) (wk0 m a) (by omega) (fun q hq => nomatch hq) _ (fk_pair h) x hx
def Dep (m : Img) (a x : Int) : Prop := ∃ q ∈ spansW m (foundW m a), q.1 ≤ x ∧ x ≤ q.2
theorem dep_from {m : Img} {a w : Int} (h : Fk m a w) {x : Int} (h1 : w ≤ x) (h2 : x ≤ (nxt m w).getD 2000000000) : Dep m a x := by
  refine ⟨(w, (nxt m w).getD 2000000000), ?_, h1, h2⟩
  unfold spansW
  exact List.mem_append_left _ (List.mem_map.mpr ⟨_, fk_pair h, rfl⟩)
theorem dep_load {m : Img} {a w k i : Int} {c : Cell} (h : Fk m a w) (hk : nxt m w = some k) (hc : getC m k = some c) (hL : c.w = ("load" : Str)) (hi : c.n = some i) : Dep m a i := by
  have hc2 : cellAt m (nxt m w) = some c := by unfold cellAt; rw [hk, Option.bind_some]; exact hc
  obtain ⟨_, g2, g3⟩ := cOf_eq (q := (w, nxt m w)) hc2
  refine ⟨(i, i), ?_, Int.le_refl _, Int.le_refl _⟩
  unfold spansW
  refine List.mem_append_right _ (List.mem_map.mpr ⟨(w, nxt m w), List.mem_filter.mpr ⟨List.mem_filter.mpr ⟨fk_pair h, by rw [hk]; rfl⟩, by rw [g2]; exact decide_eq_true hL⟩, ?_⟩)
  rw [g3, hi]; rfl
structure Ag (m m' : Img) (a : Int) : Prop where
  ok : ImOk m
  ok' : ImOk m'
  len : m.length ≤ 60
  len' : m'.length ≤ 99
  ag : ∀ x, Dep m a x → getC m' x = getC m x
theorem Ag.nxt {m m' : Img} {a w : Int} (h : Ag m m' a) (hw : Fk m a w) : nxt m' w = nxt m w := by
  cases hn : RC.nxt m w with
  | none =>
    refine lge_none fun k hk => ?_
    have hlt : k ≤ 1000000000 := (key_ok h.ok' hk).2
    rcases Int.lt_or_le k w with z | z
    · exact z
    · exfalso
      have := h.ag k (dep_from hw z (by rw [hn]; show k ≤ 2000000000; omega))
      have hs := get_some_iff.mpr hk
      rw [this] at hs
      have hk2 := get_some_iff.mp hs
      have := (lge_spec _ _).2 hn k hk2
      omega
  | some k =>
    obtain ⟨g1, g2, g3⟩ := (lge_spec _ _).1 k hn
    have e : ∀ x, w ≤ x → x ≤ k → getC m' x = getC m x := fun x h1 h2 => h.ag x (dep_from hw h1 (by rw [hn]; exact h2))
    refine lge_some (get_some_iff.mp (by rw [e k g2 (Int.le_refl _)]; exact get_some_iff.mpr g1)) g2 fun j hj hwj => ?_
    rcases Int.lt_or_le j k with z | z
    · exfalso
      have hs := get_some_iff.mpr hj
      rw [e j hwj (by omega)] at hs
      have := g3 j (get_some_iff.mp hs) hwj
      omega
    · exact z
theorem Ag.cell {m m' : Img} {a w k : Int} (h : Ag m m' a) (hw : Fk m a w) (hk : RC.nxt m w = some k) : getC m' k = getC m k := by
  have g := (lge_spec _ _).1 k hk
  exact h.ag k (dep_from hw g.2.1 (by rw [hk]; exact Int.le_refl _))
theorem Ag.load {m m' : Img} {a w k : Int} {c : Cell} (h : Ag m m' a) (hw : Fk m a w) (hk : RC.nxt m w = some k) (hc : getC m k = some c) (hL : c.w = ("load" : Str)) : isWo m' c.n = isWo m c.n ∧ numA m' c.n = numA m c.n := by
  cases hn : c.n with
  | none => exact ⟨rfl, rfl⟩
  | some i =>
    have := h.ag i (dep_load hw hk hc hL hn)
    unfold isWo numA
    dsimp only
    rw [this]
    exact ⟨rfl, rfl⟩
theorem Ag.leads {m m' : Img} {a w : Int} (h : Ag m m' a) (hw : Fk m a w) : leadsM m' (RC.nxt m w) = leadsM m (RC.nxt m w) := by
  cases hk : RC.nxt m w with
  | none => rfl
  | some k =>
    unfold leadsM
    dsimp only
    rw [h.cell hw hk]
    cases hc : getC m k with
    | none => rfl
    | some c =>
      dsimp only
      unfold RC.leads
      by_cases hL : c.w = ("load" : Str)
      · rw [(h.load hw hk hc hL).1]
      · rw [if_neg (c := c.w = ("load" : Str) ∧ isWo m' c.n = false) fun z => hL z.1, if_neg (c := c.w = ("load" : Str) ∧ isWo m c.n = false) fun z => hL z.1]
theorem walk_ag {m m' : Img} {P : Int → Prop} (hP : ∀ w, P w → RC.nxt m' w = RC.nxt m w ∧ leadsM m' (RC.nxt m w) = leadsM m (RC.nxt m w)) : ∀ (f : Nat) (ws : List Int) (fd : Fd), (∀ q ∈ walkF m f ws fd, P q.1) → walkF m' f ws fd = walkF m f ws fd
  | 0, ws, fd, _ => rfl
  | f + 1, [], fd, _ => rfl
  | f + 1, w :: ws, fd, h => by
    unfold walkF at h ⊢
    split
    · rename_i hw
      rw [if_pos hw] at h
      exact walk_ag hP f ws fd h
    · rename_i hw
      rw [if_neg hw] at h
      obtain ⟨e1, e2⟩ := hP w (h _ (walk_sub (w, RC.nxt m w) (List.mem_append_right _ (List.mem_singleton_self _))))
      rw [e1, e2]
      exact walk_ag hP f _ _ h
theorem Ag.found {m m' : Img} {a : Int} (h : Ag m m' a) : foundW m' a = foundW m a := by
  unfold foundW
  exact walk_ag (P := Fk m a) (fun w hw => ⟨h.nxt hw, h.leads hw⟩) 900 [a] [] fun q hq => List.mem_map_of_mem hq
theorem Ag.spans {m m' : Img} {a : Int} (h : Ag m m' a) : spansW m' (foundW m' a) = spansW m (foundW m a) := by
  rw [h.found]
  have hc : ∀ q ∈ foundW m a, cellAt m' q.2 = cellAt m q.2 := fun q hq => by
    have hv := (found_ok m a).1.fv q hq
    cases hk : q.2 with
    | none => rfl
    | some k =>
      rw [hv] at hk
      exact h.cell (List.mem_map_of_mem hq) hk
  unfold spansW
  refine congrArg ((foundW m a).map (fun q => (q.1, q.2.getD 2000000000)) ++ ·) ?_
  have e1 : ((foundW m a).filter (·.2.isSome)).filter (isLd m') = ((foundW m a).filter (·.2.isSome)).filter (isLd m) := List.filter_congr fun q hq => by
    unfold isLd
    rw [hc q (List.mem_filter.mp hq).1]
  rw [e1]
  refine List.map_congr_left fun q hq => ?_
  unfold ldP
  rw [hc q (List.mem_filter.mp (List.mem_filter.mp hq).1).1]
theorem Ag.depW {m m' : Img} {a : Int} (h : Ag m m' a) : depW m' a = depW m a := by
  unfold RC.depW
  rw [h.spans]
theorem land_fuel {m : Img} : ∀ (f g : Nat) (ps : List Int) (o : Option Int), m.length + 1 ≤ ps.length + f → m.length + 1 ≤ ps.length + g → ps.Nodup → (∀ p ∈ ps, p ∈ keysI m) → landF m f ps o = landF m g ps o
  | 0, g, ps, o, h, _, nd, hs => by
    have := nodup_len nd hs
    unfold keysI at this
    rw [List.length_map] at this
    omega
  | f + 1, 0, ps, o, _, h, nd, hs => by
    have := nodup_len nd hs
    unfold keysI at this
    rw [List.length_map] at this
    omega
  | f + 1, g + 1, ps, none, _, _, _, _ => rfl
  | f + 1, g + 1, ps, some k, h1, h2, nd, hs => by
    unfold landF
    dsimp only
    cases hc : getC m k with
    | none => rfl
    | some c =>
      dsimp only
      split
      · split
        · rfl
        · rename_i hk
          cases c.n with
          | none => rfl
          | some t =>
            exact land_fuel f g (ps ++ [k]) (nxt m t) (by rw [List.length_append]; show _ ≤ _ + 1 + f; omega) (by rw [List.length_append]; show _ ≤ _ + 1 + g; omega) (List.nodup_append.mpr ⟨nd, List.nodup_cons.mpr ⟨List.not_mem_nil, List.nodup_nil⟩, fun a ha b hb e => by
              rw [List.mem_singleton] at hb
              exact hk (by rw [← hb, ← e]; exact ha)⟩) fun p hp => by
              rcases List.mem_append.mp hp with z | z
              · exact hs p z
              · rw [List.mem_singleton.mp z]; exact get_some_iff.mp (by rw [hc]; rfl)
      · rfl
theorem landI_fuel {m : Img} {w : Int} (f : Nat) (h : m.length + 1 ≤ f) : landI m w = landF m f [] (nxt m w) := land_fuel _ _ _ _ (by show _ ≤ 0 + _; omega) (by show _ ≤ 0 + _; omega) List.nodup_nil fun p h => nomatch h
theorem Ag.fin {m m' : Img} {a w k : Int} (h : Ag m m' a) (hw : Fk m a w) (hk : RC.nxt m w = some k) : finL m' (some k) = finL m (some k) := by
  unfold finL
  dsimp only
  rw [h.cell hw hk]
  cases hc : getC m k with
  | none => rfl
  | some c =>
    dsimp only
    by_cases hL : c.w = ("load" : Str)
    · rw [(h.load hw hk hc hL).1]
    · rw [if_neg (c := c.w = ("load" : Str) ∧ isWo m' c.n = false) fun z => hL z.1, if_neg (c := c.w = ("load" : Str) ∧ isWo m c.n = false) fun z => hL z.1]
theorem Ag.land {m m' : Img} {a : Int} (h : Ag m m' a) : ∀ (f : Nat) (ps : List Int) (w : Int), Fk m a w → landF m' f ps (RC.nxt m w) = landF m f ps (RC.nxt m w) ∧ ∀ k, landF m f ps (RC.nxt m w) = some k → ∃ w', Fk m a w' ∧ RC.nxt m w' = some k
  | 0, ps, w, _ => ⟨rfl, fun k e => nomatch e⟩
  | f + 1, ps, w, hw => by
    cases hk : RC.nxt m w with
    | none => exact ⟨rfl, fun k e => nomatch e⟩
    | some k =>
      have e1 := h.cell hw hk
      have e2 := h.fin hw hk
      unfold landF
      dsimp only
      rw [e1, e2]
      cases hc : getC m k with
      | none => exact ⟨rfl, fun k e => nomatch e⟩
      | some c =>
        dsimp only
        by_cases hI : c.w = ("island" : Str)
        · rw [if_pos hI, if_pos hI]
          by_cases hp : k ∈ ps
          · rw [if_pos hp, if_pos hp]; exact ⟨rfl, fun k e => nomatch e⟩
          · rw [if_neg hp, if_neg hp]
            cases hn : c.n with
            | none => exact ⟨rfl, fun k e => nomatch e⟩
            | some t =>
              dsimp only
              have ht : Fk m a t := by
                refine fk_leads h.len hw t ?_
                rw [hk]
                unfold leadsM
                dsimp only
                rw [hc]
                dsimp only
                unfold RC.leads
                rw [if_neg fun z => by rw [hI] at z; exact absurd z.1 (by decide), hn, if_pos (c := c.w = ("jump" : Str) ∨ c.w = ("branch" : Str) ∨ c.w = ("far" : Str) ∨ c.w = ("island" : Str)) (.inr (.inr (.inr hI)))]
                exact List.mem_append_right _ (List.mem_singleton_self _)
              have ih := Ag.land h f (ps ++ [k]) t ht
              rw [h.nxt ht]
              exact ih
        · rw [if_neg hI, if_neg hI]
          refine ⟨rfl, fun j e => ?_⟩
          obtain ⟨c2, e1, _, _, _⟩ := finL_some h.ok e
          cases e1
          exact ⟨w, hw, hk⟩
theorem Ag.landI {m m' : Img} {a w : Int} (h : Ag m m' a) (hw : Fk m a w) : landI m' w = landI m w ∧ ∀ k, landI m w = some k → ∃ w', Fk m a w' ∧ RC.nxt m w' = some k := by
  have l1 := h.len
  have l2 := h.len'
  rw [landI_fuel (m := m') 100 (by omega), landI_fuel (m := m) 100 (by omega), h.nxt hw]
  exact h.land 100 [] w hw
theorem Ag.run {m m' : Img} {a : Int} (h : Ag m m' a) : ∀ (r : Nat) (w t : Int) (s : Nat), Fk m a w → runH m' r (RC.landI m' w) t s = runH m r (RC.landI m w) t s
  | 0, w, t, s, _ => rfl
  | r + 1, w, t, s, hw => by
    obtain ⟨e, hk⟩ := h.landI hw
    rw [e]
    cases hl : RC.landI m w with
    | none => rfl
    | some k =>
      obtain ⟨w', hw', hk'⟩ := hk k hl
      obtain ⟨c, hc, cn⟩ := landF_some h.ok (show landF m (m.length + 1) [] (RC.nxt m w) = some k from hl)
      have hc' : getC m' k = some c := (h.cell hw' hk').trans hc
      have er : ∀ m0 : Img, getC m0 k = some c → runH m0 (r + 1) (some k) t s = if c.w = ("stop" : Str) then endI "stop" t (s + 1) else runH m0 r (RC.landI m0 (nextA k c (totB m0 c t))) (totB m0 c t) (s + 1) := fun m0 hc0 => by
        show (match getC m0 k with | none => _ | some c => _) = _
        rw [hc0] <;> rfl
      rw [er m' hc', er m hc]
      by_cases hs : c.w = ("stop" : Str)
      · rw [if_pos hs, if_pos hs]
      · rw [if_neg hs, if_neg hs]
        have et : totB m' c t = totB m c t := by
          unfold totB
          by_cases hL : c.w = ("load" : Str)
          · rw [(h.load hw' hk' hc hL).2]
          · rw [if_neg (c := c.w = ("load" : Str)) hL, if_neg (c := c.w = ("load" : Str)) hL]
        rw [et]
        refine Ag.run h r _ _ _ ?_
        refine fk_leads h.len hw' _ ?_
        rw [hk']
        unfold leadsM
        dsimp only
        rw [hc]
        dsimp only
        obtain ⟨i, hi⟩ := cnt_some cn
        unfold RC.leads nextA
        rw [if_neg fun z => by rw [cn.ld z.1] at z; exact nomatch z.2]
        by_cases hj : c.w = ("jump" : Str) ∨ c.w = ("far" : Str) ∨ (c.w = ("branch" : Str) ∧ totB m c t % 2 = 1)
        · rw [if_pos hj, hi]
          refine List.mem_append_right _ ?_
          rw [if_pos]
          · exact List.mem_singleton_self _
          · rcases hj with z | z | z
            · exact .inl z
            · exact .inr (.inr (.inl z))
            · exact .inr (.inl z.1)
        · rw [if_neg hj]
          refine List.mem_append_left _ ?_
          rw [if_pos]
          · exact List.mem_singleton_self _
          · rcases cn.ok.w8 with z | z | z | z | z | z | z | z
            · exact .inl z
            · exact absurd z hs
            · exact absurd (.inl z) hj
            · exact .inr (.inl z)
            · exact absurd (.inr (.inl z)) hj
            · exact absurd z cn.ni
            · exact .inr (.inr z)
            · exact absurd z cn.nw
end RC
end
section
namespace RC
open PySem PySem.Spec L2 RR
open PyProof.Rows hiding St cutD
theorem w_draw_image60 {most width : Nat} {n : Nat} {R : D → Nat → Prop} (hm : 1 ≤ most ∧ most ≤ 12) (hw : 1 ≤ width ∧ width ≤ 60) (hn : n < 800000) (k : ∀ m n', DrOk width m → 1 ≤ m.length → m.length ≤ most → n' ≤ n + 100 → R (imD m) n') : m__law_draw_image [.int (most : Int), .int (width : Int)] n R := by
  unfold m__law_draw_image b__law_draw_image
  refine ⟨rfl, ?_⟩
  refine q_setM (s_un (s_lc (s_ir1 (s_cons (s_op (s_C (s_callP (s_cons (s_var (d := .int (most : Int)) rfl (s_nil ?_))))))))))
  with_reducible refine take_ok (by omega) (by omega) (by omega) fun x x0 x1 => ?_
  refine ⟨.int (1 + x), rfl, s_nil ⟨1 + x, rfl, ?_, by rw [rangeD_len]; exact Nat.le_trans (show _ ≤ 12 by omega) (by decide), ?_⟩⟩
  · first | exact ⟨by omega, by omega⟩ | (show _ ≤ _; exact Int.le_trans (show _ ≤ 12 by omega) (by decide))
  refine w_compY (N := 890000) (c := 1) (fun _ y => ∃ v, y = .int v ∧ 0 ≤ v ∧ v < (width : Int)) (fun d n1 R hn1 hR => s_gName (s_callP (s_cons (s_var (d := .int (width : Int)) rfl (s_nil ?_))))) _ _ _ (by rw [rangeD_len]; omega) fun r n2 hr hP hn2 => ?_
  · with_reducible refine take_ok (by omega) (by omega) (by omega) fun v v0 v1 => ?_
    exact hR _ _ ⟨v, rfl, v0, v1⟩ (Nat.le_refl _)
  rw [rangeD_len] at hr hn2
  obtain ⟨xs, rfl, hxs⟩ := ints_of_all (r := r) (P := fun v => 0 ≤ v ∧ v < (width : Int)) fun i y e => by
    have hi : i < (rangeD 0 (1 + x).toNat).length := by
      rw [rangeD_len, ← hr]; exact (List.getElem?_eq_some_iff.mp e).1
    exact hP i _ y (List.getElem?_eq_getElem hi) e
  rw [List.length_map] at hr
  have hsm : ∀ v ∈ setI xs, 0 ≤ v ∧ v < (width : Int) := fun v hv => hxs v (setI_mem.mp hv)
  have hsl : (setI xs).length ≤ xs.length := setI_len xs
  have hs1 : 1 ≤ (setI xs).length := by
    cases xs with
    | nil => exact absurd hr (by show 0 ≠ _; omega)
    | cons y ys =>
      have := (setI_mem (ns := y :: ys) (j := y)).mpr List.mem_cons_self
      exact List.length_pos_of_mem this
  refine ⟨.list ((setI xs).map .int), ?_, ?_⟩
  · show (asInts (xs.map .int)).bind _ = _
    rw [asInts_ints, Option.bind_some, if_pos (by omega)]
  generalize hS : setI xs = spots at *
  refine q_set (d := .list w15) (f_Op (f_Op (f_Op (f_Lst (f_Cons f_C f_Nil)) f_C) (f_Lst (f_Cons f_C (f_Cons f_C (f_Cons f_C f_Nil))))) (f_Op (f_Lst (f_Cons f_C (f_Cons f_C (f_Cons f_C (f_Cons f_C f_Nil))))) f_C)) rfl ?_
  refine q_par (s_cons (s_lc (s_iseq (s_var (d := .list (spots.map .int)) rfl ⟨_, rfl, by rw [List.length_map]; exact Nat.le_trans (show _ ≤ 12 by omega) (by decide), ?_⟩))))
  refine w_compY (N := 890000) (c := 1) (fun _ y => ∃ w, y = .str w ∧ W8 w) (fun d n1 R hn1 hR => s_gName (s_callP (s_cons (s_var (d := .list w15) rfl (s_nil ?_))))) _ _ _ (by rw [List.length_map]; omega) fun r n3 hr3 hP3 hn3 => ?_
  · refine one_of_ok (by show 1 ≤ 15; decide) (by show 15 < 1073741824; decide) (by omega) fun d hd => ?_
    exact hR _ _ (w15_w8 d hd) (Nat.le_refl _)
  rw [List.length_map] at hr3 hn3
  obtain ⟨chosen, rfl, hch⟩ := strs_of_all (r := r) (P := W8) fun i y e => by
    have hi : i < (spots.map PyData.int).length := by
      rw [List.length_map, ← hr3]; exact (List.getElem?_eq_some_iff.mp e).1
    exact hP3 i _ y (List.getElem?_eq_getElem hi) e
  rw [List.length_map] at hr3
  refine s_cons (s_dict0 (s_nil ⟨rfl, ?_⟩))
  have hcw : ∀ w ∈ chosen, W8 w := hch
  refine q_set (f_Lc (f_IZ (f_Cons f_Var (f_Cons f_Var f_Nil))) (f_gTup (f_gCons f_gName (f_gCons f_gName f_gNil))) (f_Test (f_Op f_Var f_C)) f_Var) (di_vals (most := most) (width := width) (spots := spots) (chosen := chosen) (by omega) hcw) ?_
  generalize hV : ((List.zip spots chosen).filter fun q => decide (q.2 = ("word" : Str))).map (·.1) = vals
  have hv : ∀ v ∈ vals, 0 ≤ v ∧ v < (width : Int) := by
    intro v hv
    rw [← hV] at hv
    obtain ⟨q, hq, rfl⟩ := List.mem_map.mp hv
    exact hsm _ (List.of_mem_zip (List.mem_filter.mp hq).1).1
  have hvl : vals.length ≤ 60 := by
    rw [← hV, List.length_map]
    refine Nat.le_trans (List.length_filter_le _ _) ?_
    rw [List.length_zip]; omega
  refine q_for (w_it (f_IZ (f_Cons f_Var (f_Cons f_Var f_Nil))) (ds := (List.zip spots chosen).map fun q => PyData.tuple [.int q.1, .str q.2]) ?_ ?_)
  · rw [← zip_is]; rfl
  refine di_loop (by omega) hsm (by omega) hcw hv hvl (N := n3) (B := 0) (by omega) hs1 hr3 (Nat.le_refl _) fun m' x8 x10 y11 n' d1 d2 d3 d4 => ?_
  exact s_ret (s_var (d := imD m') rfl (k m' n' d1 d2 (by omega) (by omega)))
theorem w_changed60 {image : Img} {width many : Nat} {n : Nat} {R : D → Nat → Prop} (hi : DrOk width image) (hil : image.length ≤ 30) (hw : 1 ≤ width ∧ width ≤ 60) (hm : 1 ≤ many ∧ many ≤ 12) (hn : n < 700000) (k : ∀ m n', DrOk width m → m.length ≤ image.length + many → n' ≤ n + 200 → R (imD m) n') : m__law_changed [imD image, .int (width : Int), .int (many : Int)] n R := by
  unfold m__law_changed b__law_changed
  refine ⟨rfl, ?_⟩
  refine q_par (s_cons (s_dictOf (s_var (d := imD image) rfl ⟨_, rfl, s_cons (s_callP (s_cons (s_C (s_cons (s_var (d := .int (width : Int)) rfl (s_nil ?_))))))⟩)))
  refine w_draw_image60 (most := 6) (by decide) hw (by omega) fun other n1 d1 d2 d3 d4 => s_nil ⟨rfl, ?_⟩
  refine q_for (s_ir1 (s_cons (s_op (s_C (s_callP (s_cons (s_var (d := .int (many : Int)) rfl (s_nil ?_))))))))
  with_reducible refine take_ok (by omega) (by omega) (by omega) fun x x0 x1 => ?_
  refine ⟨.int (1 + x), rfl, s_nil ⟨1 + x, rfl, ?_, ?_⟩⟩
  · first | exact ⟨by omega, by omega⟩ | (show _ ≤ _; exact Int.le_trans (show _ ≤ 12 by omega) (by decide))
  show forW _ _ _ _ (chE image width many image other none none) _
  have hR : (rangeD 0 (1 + x).toNat).length ≤ many := by rw [rangeD_len]; omega
  generalize rangeD 0 (1 + x).toNat = rs at hR
  refine w_for (I := fun ds Γ n' => ∃ (m : Img) (x6 x7 : Option D), Γ = chE image width many m other x6 x7 ∧ DrOk width m ∧ m.length + ds.length ≤ image.length + many ∧ ds.length ≤ many ∧ n' + 4 * ds.length ≤ n1 + 1 + 4 * many) (fun d ds Γ n' hI K hK => ?_) (fun Γ n' hI => ?_) _ _ _ ⟨image, none, none, rfl, hi, by omega, hR, by omega⟩
  · obtain ⟨m, x6, x7, rfl, h1, h2, h3, h4⟩ := hI
    rw [List.length_cons] at h2 h3 h4
    refine s_gName ?_
    show chB _ (chE image width many m other (some d) x7) n'
    exact ch_turn hi hil d1 ⟨d2, by omega⟩ h1 (by omega) ⟨hw.1, by omega⟩ (by omega) fun m' y7 n2 g1 g2 g3 => hK _ _ ⟨m', _, _, rfl, g1, by omega, by omega, by omega⟩
  · obtain ⟨m, x6, x7, rfl, h1, h2, h3, h4⟩ := hI
    rw [List.length_nil] at h2 h4
    exact s_ret (s_var (d := imD m) rfl (k m n' h1 (by omega) (by omega)))
theorem DrOk.wide {m : Img} (h : DrOk 40 m) : DrOk 60 m := ⟨h.ok, fun q hq => by have := h.key q hq; omega, h.num⟩
def tl16 : List (Int × Nat) := [(0, 30), (1, 30), (65535, 7), (6, 0), (7, 100)]
def runs16 (m : Img) (a : Int) : List D := tl16.map fun q => runH m q.2 (landI m a) q.1 0
theorem v__law_runs_eq {m : Img} {a : Int} (ok : ImOk m) (hl : m.length ≤ 300) (ha : 0 ≤ a ∧ a ≤ 1000000000) : v__law_runs [imD m, .int a] = some (.list (runs16 m a)) := by
  refine vFun_of rfl (vRet_of ?_)
  refine vLc_of (ds := tl16.map fun q => .tuple [.int q.1, .int (q.2 : Int)]) rfl (by show 5 ≤ lim; decide) ?_
  refine vcomp_mapOf (fun q : Int × Nat => PyData.tuple [.int q.1, .int (q.2 : Int)]) _ fun q hq => ⟨[some (imD m), some (.int a), some (.int q.1), some (.int (q.2 : Int))], rfl, rfl, ?_⟩
  have hb : 0 ≤ q.1 ∧ q.1 ≤ 65535 ∧ q.2 ≤ 1000 := by
    unfold tl16 at hq
    simp only [List.mem_cons, List.not_mem_nil, or_false] at hq
    rcases hq with rfl | rfl | rfl | rfl | rfl <;> decide
  exact o_call (vCons_of (x := imD m) rfl (vCons_of (x := .int a) rfl (vCons_of (x := .int q.1) rfl (vCons_of (x := .int (q.2 : Int)) rfl rfl)))) (v_run_from_eq ok hl hb.2.2 ha ⟨hb.1, hb.2.1⟩)
theorem runs16_ne (m : Img) (a : Int) : dNe (.list (runs16 m a)) (.list (runs16 m a)) = some (.bool false) := by
  refine (Lay.lst (k := 1) fun x hx => ?_).ne (by decide)
  obtain ⟨q, _, rfl⟩ := List.mem_map.mp hx
  obtain ⟨w, t, s, e, ek⟩ := runH_end m q.2 (landI m a) q.1 0
  rw [e]
  exact endI_lay ek
theorem joinR_len : ∀ (xs : List (Int × Int)) (rs : Rg), (joinR rs xs).length ≤ rs.length + xs.length
  | [], rs => Nat.le_refl _
  | q :: xs, rs => by
    have h1 := addR_len rs q.1 q.2
    have h2 := joinR_len xs (addR rs q.1 q.2)
    show (joinR (addR rs q.1 q.2) xs).length ≤ _
    rw [List.length_cons]; omega
theorem spans_len (m : Img) (fd : Fd) : (spansW m fd).length ≤ 2 * fd.length := by
  unfold spansW
  rw [List.length_append, List.length_map, List.length_map]
  have h1 := List.length_filter_le (isLd m) (fd.filter (·.2.isSome))
  have h2 := List.length_filter_le (fun q : Int × Option Int => q.2.isSome) fd
  omega
theorem univ_low {m : Img} {a : Int} (ok : ImOk m) (ha : 0 ≤ a ∧ a ≤ 1000000000) : ∀ x ∈ univ m a, 0 ≤ x ∧ x ≤ 1000000099 := fun x hx => by
  unfold univ at hx
  rcases List.mem_cons.mp hx with rfl | hx
  · omega
  · obtain ⟨q, hq, hx⟩ := List.mem_flatMap.mp hx
    have hkq := ok.key q hq
    unfold leadsM at hx
    dsimp only at hx
    cases hc : getC m q.1 with
    | none => rw [hc] at hx; exact nomatch hx
    | some c =>
      rw [hc] at hx
      dsimp only at hx
      have co := ok.get hc
      have s1 := co.s1
      have s2 := co.s99
      unfold leads at hx
      split at hx
      · exact nomatch hx
      · rcases List.mem_append.mp hx with z | z
        · split at z
          · rw [List.mem_singleton.mp z]; omega
          · exact nomatch z
        · split at z
          · rw [Option.mem_toList] at z
            have z : c.n = some x := z
            have := co.num x z
            omega
          · exact nomatch z
theorem spans_ok {m : Img} {a : Int} (ok : ImOk m) (ha : 0 ≤ a ∧ a ≤ 1000000000) : ∀ p ∈ spansW m (foundW m a), 0 ≤ p.1 ∧ p.1 ≤ p.2 := fun p hp => by
  obtain ⟨w, _⟩ := found_ok m a
  unfold spansW at hp
  rcases List.mem_append.mp hp with z | z
  · obtain ⟨q, hq, rfl⟩ := List.mem_map.mp z
    have hu := univ_low ok ha q.1 (w.fu q.1 (List.mem_map_of_mem hq))
    have hx := w.fv q hq
    refine ⟨hu.1, ?_⟩
    cases hk : q.2 with
    | none => show q.1 ≤ 2000000000; omega
    | some k =>
      rw [hk] at hx
      exact ((lge_spec _ _).1 k hx.symm).2.1
  · obtain ⟨q, hq, rfl⟩ := List.mem_map.mp z
    obtain ⟨h1, h2⟩ := List.mem_filter.mp hq
    obtain ⟨h3, h4⟩ := List.mem_filter.mp h1
    obtain ⟨k, hk⟩ := Option.isSome_iff_exists.mp h4
    obtain ⟨c, hc⟩ := found_get q h3 k hk
    obtain ⟨_, g2, g3⟩ := cOf_eq (q := q) (show cellAt m q.2 = some c by unfold cellAt; rw [hk, Option.bind_some]; exact hc)
    rw [g3]
    refine ⟨?_, Int.le_refl _⟩
    cases hn : c.n with
    | none => exact Int.le_refl _
    | some i => exact ((ok.get hc).num i hn).1
theorem dep_eq {m : Img} {a : Int} (ok : ImOk m) (hl : m.length ≤ 60) (ha : 0 ≤ a ∧ a ≤ 1000000000) : v_depends [imD m, .int a] = some (.list ((depW m a).map prD).reverse) := by
  have hf := found_len (a := a) hl
  have h1 := joinR_len (srtS (spansW m (foundW m a))) []
  rw [srtS_len] at h1
  have h2 := spans_len m (foundW m a)
  have h3 : ([] : Rg).length = 0 := rfl
  exact v_depends_eq ok hl ha (fun p hp => by have := spans_ok ok ha p hp; omega) found_get (by omega) (by omega)
theorem dep_in {m : Img} {a x : Int} (ok : ImOk m) (ha : 0 ≤ a ∧ a ≤ 1000000000) (h : Dep m a x) : inP (depW m a).reverse x = true := by
  have hS := spans_ok ok ha
  have h0 : ∀ p ∈ spansW m (foundW m a), 0 ≤ p.2 := fun p hp => by have := hS p hp; omega
  obtain ⟨j1, j2⟩ := joinR_ok (xs := srtS (spansW m (foundW m a))) (rs := []) ⟨.nil, fun q h => nomatch h⟩ (fun p hp => (hS p ((srtS_mem h0).mp hp)).2) (srtS_asc _) fun q h => nomatch h
  obtain ⟨p, hp, h1, h2⟩ := h
  obtain ⟨q, hq, h3, h4⟩ := (j2 x).mpr (.inr ⟨p, (srtS_mem h0).mpr hp, h1, h2⟩)
  refine inP_iff.mpr ⟨(q.1, if q.2 = 2000000000 then none else some q.2), List.mem_reverse.mpr (List.mem_map.mpr ⟨q, hq, rfl⟩), h3, fun l hl => ?_⟩
  dsimp only at hl
  split at hl
  · cases hl
  · cases hl; exact h4
theorem dep_len {m : Img} {a : Int} (hl : m.length ≤ 60) : (depW m a).length ≤ 242 := by
  have hf := found_len (a := a) hl
  have h1 := joinR_len (srtS (spansW m (foundW m a))) []
  rw [srtS_len] at h1
  have h2 := spans_len m (foundW m a)
  have h3 : ([] : Rg).length = 0 := rfl
  unfold depW outR
  rw [List.length_map]; omega
theorem dep_ne (fd : Fd) : dNe (.list (fd.map prD).reverse) (.list (fd.map prD).reverse) = some (.bool false) := by
  refine (Lay.lst (k := 1) fun x hx => ?_).ne (by decide)
  obtain ⟨q, _, rfl⟩ := List.mem_map.mp (List.mem_reverse.mp hx)
  refine Lay.tup (k := 0) fun y hy => ?_
  simp only [List.mem_cons, List.not_mem_nil, or_false] at hy
  rcases hy with rfl | rfl
  · exact Lay.int _
  · exact lay_opt _
theorem wrs_off : ∀ (xs : List Wr) (m : Img) (b : Int), (∀ x ∈ xs, x.1 ≠ b) → getC (wrs m xs) b = getC m b
  | [], m, b, _ => rfl
  | x :: xs, m, b, h => by
    show getC (wrs (wr1 m x) xs) b = _
    rw [wrs_off xs _ b fun y hy => h y (List.mem_cons_of_mem _ hy), get_wr1, if_neg fun z => h x List.mem_cons_self z.symm]
def rows16 (m o : Img) (a : Int) : List Wr := (diffL m o).filter fun x => !inP (depW m a).reverse x.1
abbrev B16 : MS := (mSeq (mPar [6, 7] (mCons (mCall m_depends (mCons (mVar 3) (mCons (mVar 4) mNil))) (mCons (mCall m__law_runs (mCons (mVar 3) (mCons (mVar 4) mNil))) mNil))) (mSeq (mSet 8 (mLc (mISeq (mCall m_patch (mCons (mVar 3) (mCons (mVar 5) mNil)))) (mgName 9) (mNot (mTest (mCall m__law_is_in (mCons (mVar 6) (mCons (mOp dIx (mVar 9) (mC (.int 0))) mNil))))) (mVar 9) [9])) (mSeq (mSet 10 (mCall m_patched (mCons (mVar 3) (mCons (mVar 8) mNil)))) (mSeq (mIfS (mOr (mTest (mOp dNe (mCall m__law_runs (mCons (mVar 10) (mCons (mVar 4) mNil))) (mVar 7))) (mOr (mTest (mOp dNe (mCall m_depends (mCons (mVar 10) (mCons (mVar 4) mNil))) (mVar 6))) (mTest (mOp dNe (mCall m__law_runs (mCons (mCall m_patched (mCons (mVar 10) (mCons (mVar 8) mNil))) (mCons (mVar 4) mNil))) (mVar 7))))) (mRet (mC (.bool false))) mNext) (mSeq (mSet 11 (mLc (mISeq (mCl cSortedK (mCons (mVar 3) mNil))) (mgName 12) (mTest (mOp dGe (mVar 12) (mVar 4))) (mVar 12) [12])) (mSeq (mIfS (mAnd (mTest (mOp dNe (mVar 11) (mLst mNil))) (mTest (mOp dNe (mCall m__law_runs (mCons (mVar 3) (mCons (mOp dIx (mVar 11) (mC (.int 0))) mNil))) (mVar 7)))) (mRet (mC (.bool false))) mNext) (mIfS (mTest (mOp dNeX (mCall m_run_cells (mCons (mVar 3) (mCons (mC (.int 5)) (mCons (mC (.int 20)) mNil)))) (mCall m_run_from (mCons (mVar 3) (mCons (mC (.int 0)) (mCons (mC (.int 5)) (mCons (mC (.int 20)) mNil))))))) (mRet (mC (.bool false))) mNext)))))))
abbrev E16 (x2 : Option D) (m o : Img) (a : Int) (x8 x10 x11 : Option D) : DEnv := [none, none, x2, some (imD m), some (.int a), some (imD o), some (.list ((depW m a).map prD).reverse), some (.list (runs16 m a)), x8, none, x10, x11, none]
theorem b16 {x2 x6 x7 x8 x10 x11 : Option D} {m o : Img} {a : Int} {n : Nat} {E : EndsD} (hm : ImOk m) (ho : ImOk o) (hml : m.length ≤ 12) (hol : o.length ≤ 24) (ha : 0 ≤ a ∧ a ≤ 1000000000)
    (k : ∀ y6 y7 y8 y10 y11, E.nx [none, none, x2, some (imD m), some (.int a), some (imD o), y6, y7, y8, none, y10, y11, none] n) : B16 E [none, none, x2, some (imD m), some (.int a), some (imD o), x6, x7, x8, none, x10, x11, none] n := by
  have dl := diffL_len m o
  have dok := diffL_ok hm ho
  have ed := dep_eq hm (by omega) ha
  have er := v__law_runs_eq hm (by omega) ha
  refine q_par (w_args (ds := [.list ((depW m a).map prD).reverse, .list (runs16 m a)]) (f_Cons (f_Call fp_depends (f_Cons f_Var (f_Cons f_Var f_Nil))) (f_Cons (f_Call fp__law_runs (f_Cons f_Var (f_Cons f_Var f_Nil))) f_Nil)) (vCons_of (o_call (vCons_of (x := imD m) rfl (vCons_of (x := .int a) rfl rfl)) ed) (vCons_of (o_call (vCons_of (x := imD m) rfl (vCons_of (x := .int a) rfl rfl)) er) rfl)) ⟨rfl, ?_⟩)
  show (mSeq _ _) E (E16 x2 m o a x8 x10 x11) n
  have hrl : (rows16 m o a).length ≤ 36 := Nat.le_trans (List.length_filter_le _ _) (by omega)
  have hrm : ∀ x ∈ rows16 m o a, WrOk x ∧ inP (depW m a).reverse x.1 = false := fun x hx => by
    obtain ⟨h1, h2⟩ := List.mem_filter.mp hx
    exact ⟨dok x h1, by rw [Bool.not_eq_true'] at h2; exact h2⟩
  have erows : vLc (vISeq (vCall v_patch (vCons (vVar 3) (vCons (vVar 5) vNil)))) (vgName 9) (vNot (vTest (vCall v__law_is_in (vCons (vVar 6) (vCons (vOp dIx (vVar 9) (vC (.int 0))) vNil))))) (vVar 9) [9] (E16 x2 m o a x8 x10 x11) = some (.list ((rows16 m o a).map wrD)) := by
    refine vLc_of (ds := (diffL m o).map wrD) ?_ (by rw [List.length_map]; exact Nat.le_trans (show _ ≤ 36 by omega) (by decide)) ?_
    · show (vCall v_patch _ _).bind seqD = _
      rw [o_call (vCons_of (x := imD m) rfl (vCons_of (x := imD o) rfl rfl)) (v_patch_eq hm ho (by omega))]; rfl
    · refine vcomp_filterOf wrD (fun x => !inP (depW m a).reverse x.1) wrD fun x hx => ⟨[none, none, x2, some (imD m), some (.int a), some (imD o), some (.list ((depW m a).map prD).reverse), some (.list (runs16 m a)), x8, some (wrD x), x10, x11, none], rfl, ?_, fun _ => rfl⟩
      refine vNot_of (vTest_of (o_call (vCons_of (x := .list ((depW m a).reverse.map prD)) (by show some _ = _; rw [List.map_reverse]) (vCons_of (x := .int x.1) (o2 (x := wrD x) (y := .int 0) rfl rfl rfl) rfl)) (v__law_is_in_eq ?_)))
      have := dep_len (m := m) (a := a) (by omega)
      rw [List.length_reverse]; omega
  refine q_set (d := .list ((rows16 m o a).map wrD)) (f_Lc (f_ISeq (f_Call fp_patch (f_Cons f_Var (f_Cons f_Var f_Nil)))) f_gName (f_Not (f_Test (f_Call fp__law_is_in (f_Cons f_Var (f_Cons (f_Op f_Var f_C) f_Nil))))) f_Var) erows ?_
  generalize hX : rows16 m o a = xs at hrl hrm
  have l1 := wrs_len xs m
  have l2 := wrs_len xs (wrs m xs)
  have ok1 := wrs_ok hm (xs := xs) fun x hx => (hrm x hx).1
  have ok2 := wrs_ok ok1 (xs := xs) fun x hx => (hrm x hx).1
  have ep1 := v_patched_eq (m := m) (xs := xs) hm (fun x hx => (hrm x hx).1) (by omega)
  have ep2 := v_patched_eq (m := wrs m xs) (xs := xs) ok1 (fun x hx => (hrm x hx).1) (by omega)
  have off : ∀ x, Dep m a x → ∀ y ∈ xs, y.1 ≠ x := fun x hx y hy z => by
    have h1 := dep_in hm ha hx
    rw [← z, (hrm y hy).2] at h1
    cases h1
  have ag1 : Ag m (wrs m xs) a := ⟨hm, ok1, by omega, by omega, fun x hx => wrs_off xs m x (off x hx)⟩
  have ag2 : Ag m (wrs (wrs m xs) xs) a := ⟨hm, ok2, by omega, by omega, fun x hx => (wrs_off xs _ x (off x hx)).trans (wrs_off xs m x (off x hx))⟩
  have r1 : runs16 (wrs m xs) a = runs16 m a := List.map_congr_left fun q _ => ag1.run q.2 a q.1 0 (fk_start m a)
  have r2 : runs16 (wrs (wrs m xs) xs) a = runs16 m a := List.map_congr_left fun q _ => ag2.run q.2 a q.1 0 (fk_start m a)
  have e1 := v__law_runs_eq ok1 (by omega) ha
  have e2 := v__law_runs_eq ok2 (by omega) ha
  have e3 := dep_eq ok1 (by omega) ha
  rw [r1] at e1
  rw [r2] at e2
  rw [ag1.depW] at e3
  show (mSeq _ _) E (E16 x2 m o a (some (.list (xs.map wrD))) x10 x11) n
  refine q_set (d := imD (wrs m xs)) (f_Call fp_patched (f_Cons f_Var (f_Cons f_Var f_Nil))) (o_call (vCons_of (x := imD m) rfl (vCons_of (x := .list (xs.map wrD)) rfl rfl)) ep1) ?_
  show (mSeq _ _) E (E16 x2 m o a (some (.list (xs.map wrD))) (some (imD (wrs m xs))) x11) n
  refine q_no (f_Or (f_Test (f_Op (f_Call fp__law_runs (f_Cons f_Var (f_Cons f_Var f_Nil))) f_Var)) (f_Or (f_Test (f_Op (f_Call fp_depends (f_Cons f_Var (f_Cons f_Var f_Nil))) f_Var)) (f_Test (f_Op (f_Call fp__law_runs (f_Cons (f_Call fp_patched (f_Cons f_Var (f_Cons f_Var f_Nil))) (f_Cons f_Var f_Nil))) f_Var)))) (vOr_of (x := false) (y := false) (vTest_of (o2 (o_call (vCons_of (x := imD (wrs m xs)) rfl (vCons_of (x := .int a) rfl rfl)) e1) (y := .list (runs16 m a)) rfl (runs16_ne m a))) fun _ => vOr_of (x := false) (y := false) (vTest_of (o2 (o_call (vCons_of (x := imD (wrs m xs)) rfl (vCons_of (x := .int a) rfl rfl)) e3) (y := .list ((depW m a).map prD).reverse) rfl (dep_ne _))) fun _ => vTest_of (o2 (o_call (vCons_of (o_call (vCons_of (x := imD (wrs m xs)) rfl (vCons_of (x := .list (xs.map wrD)) rfl rfl)) ep2) (vCons_of (x := .int a) rfl rfl)) e2) (y := .list (runs16 m a)) rfl (runs16_ne m a))) ?_
  have hsl := sortK_len m
  have esome : vLc (vISeq (vCl cSortedK (vCons (vVar 3) vNil))) (vgName 12) (vTest (vOp dGe (vVar 12) (vVar 4))) (vVar 12) [12] (E16 x2 m o a (some (.list (xs.map wrD))) (some (imD (wrs m xs))) x11) = some (.list (((sortK m).filter fun z => decide (a ≤ z)).map .int)) := by
    refine vLc_of (ds := (sortK m).map .int) ?_ (by rw [List.length_map]; exact Nat.le_trans (show _ ≤ 12 by omega) (by decide)) ?_
    · show (vCl cSortedK _ _).bind seqD = _
      rw [o_cl (x := [imD m]) rfl (sortedK_eq m)]; rfl
    · exact vcomp_filterOf PyData.int (fun z => decide (a ≤ z)) PyData.int fun z hz => ⟨_, rfl, vTest_of (o2 (x := .int z) (y := .int a) rfl rfl rfl), fun _ => rfl⟩
  refine q_set (d := .list (((sortK m).filter fun z => decide (a ≤ z)).map .int)) (f_Lc (f_ISeq (f_Cl (f_Cons f_Var f_Nil))) f_gName (f_Test (f_Op f_Var f_Var)) f_Var) esome ?_
  show (mSeq _ _) E (E16 x2 m o a (some (.list (xs.map wrD))) (some (imD (wrs m xs))) (some (.list (((sortK m).filter fun z => decide (a ≤ z)).map .int)))) n
  have fin : ∀ y11, (mIfS (mTest (mOp dNeX (mCall m_run_cells (mCons (mVar 3) (mCons (mC (.int 5)) (mCons (mC (.int 20)) mNil)))) (mCall m_run_from (mCons (mVar 3) (mCons (mC (.int 0)) (mCons (mC (.int 5)) (mCons (mC (.int 20)) mNil))))))) (mRet (mC (.bool false))) mNext) E (E16 x2 m o a (some (.list (xs.map wrD))) (some (imD (wrs m xs))) y11) n := fun y11 => by
    obtain ⟨e, t', s', er0, ek⟩ := runH_end m 20 (landI m 0) 5 0
    have a1 := v_run_cells_eq (m := m) (t := 5) (L := 20) hm (by omega) (by decide) (by decide)
    have a2 := v_run_from_eq (m := m) (w := 0) (t := 5) (L := 20) hm (by omega) (by decide) (by decide) (by decide)
    rw [er0] at a1 a2
    refine w_no (f_Test (f_Op (f_Call fp_run_cells (f_Cons f_Var (f_Cons f_C (f_Cons f_C f_Nil)))) (f_Call fp_run_from (f_Cons f_Var (f_Cons f_C (f_Cons f_C (f_Cons f_C f_Nil))))))) (vTest_of (o2 (o_call (vCons_of (x := imD m) rfl (vCons_of (x := .int 5) rfl (vCons_of (x := .int 20) rfl rfl))) a1) (o_call (vCons_of (x := imD m) rfl (vCons_of (x := .int 0) rfl (vCons_of (x := .int 5) rfl (vCons_of (x := .int 20) rfl rfl)))) a2) ((endI_lay ek).neX (by decide)))) ?_
    exact k _ _ _ _ _
  have tn : vTest (vOp dNe (vVar 11) (vLst vNil)) (E16 x2 m o a (some (.list (xs.map wrD))) (some (imD (wrs m xs))) (some (.list (((sortK m).filter fun z => decide (a ≤ z)).map .int)))) = some (!((sortK m).filter fun z => decide (a ≤ z)).isEmpty) := vTest_of (o2 rfl rfl (ints_ne _))
  refine q_no (f_And (f_Test (f_Op f_Var (f_Lst f_Nil))) (f_Test (f_Op (f_Call fp__law_runs (f_Cons f_Var (f_Cons (f_Op f_Var f_C) f_Nil))) f_Var))) ?_ (fin _)
  cases hf : (sortK m).filter fun z => decide (a ≤ z) with
  | nil =>
    rw [hf] at tn
    exact vAnd_of (x := false) (y := false) tn fun z => nomatch z
  | cons y ys =>
    rw [hf] at tn
    have hy : y ∈ (sortK m).filter fun z => decide (a ≤ z) := by rw [hf]; exact List.mem_cons_self
    obtain ⟨hy1, hy2⟩ := List.mem_filter.mp hy
    have hy2 := of_decide_eq_true hy2
    have hyk := key_ok hm (sortK_mem.mp hy1)
    have asc : (y :: ys).Pairwise (· < ·) := by rw [← hf]; exact (sortK_asc hm.nd).filter _
    have least : ∀ z ∈ keysI m, a ≤ z → y ≤ z := fun z hz haz => by
      have : z ∈ (sortK m).filter fun z => decide (a ≤ z) := List.mem_filter.mpr ⟨sortK_mem.mpr hz, decide_eq_true haz⟩
      rw [hf] at this
      rcases List.mem_cons.mp this with rfl | h
      · exact Int.le_refl _
      · exact Int.le_of_lt ((List.pairwise_cons.mp asc).1 z h)
    have n1 : nxt m a = some y := lge_some (sortK_mem.mp hy1) hy2 least
    have n2 : nxt m y = some y := lge_some (sortK_mem.mp hy1) (Int.le_refl _) fun z hz hyz => hyz
    have el : landI m y = landI m a := by unfold landI; rw [n1, n2]
    have e5 := v__law_runs_eq (a := y) hm (by omega) ⟨by omega, by omega⟩
    rw [show runs16 m y = runs16 m a by unfold runs16; rw [el]] at e5
    exact (vAnd_of (x := true) (y := false) tn fun _ => vTest_of (o2 (o_call (vCons_of (x := imD m) rfl (vCons_of (o2 (x := .list ((y :: ys).map .int)) (y := .int 0) (d := .int y) rfl rfl (atI_nat (j := 0) rfl)) rfl)) e5) (y := .list (runs16 m a)) rfl (runs16_ne m a)))
theorem law16 : b_c16_law mTrue (List.replicate 13 none) 0 := by
  unfold b_c16_law
  refine w_seq ⟨6, rfl, (okR_nat (n := 6) (by decide) : okR 6), ?_⟩
  refine w_for (I := fun ds Γ n => (∃ x2 x3 x4 x5 x6 x7 x8 x10 x11, Γ = [none, none, x2, x3, x4, x5, x6, x7, x8, none, x10, x11, none]) ∧ n + 400 * ds.length ≤ 3000) (fun d ds Γ n hI K hK => ?_) (fun Γ n h => ?_) _ _ _ ⟨⟨_, _, _, _, _, _, _, _, _, rfl⟩, by rw [rangeD_len]; decide⟩
  · obtain ⟨⟨x2, x3, x4, x5, x6, x7, x8, x10, x11, rfl⟩, hn⟩ := hI
    rw [List.length_cons] at hn
    refine s_gName (q_setM (s_callP (s_cons (s_C (s_cons (s_C (s_nil ?_)))))))
    refine w_draw_image (most := 12) (width := 40) (by decide) (by decide) (by omega) fun m n1 hm hm1 hml hn1 => ?_
    obtain ⟨ks, eks, hkl, hks⟩ := sortedK_im m
    refine q_par (s_cons (s_callP (s_cons (s_op (s_lst (s_cons (s_C (s_cons (s_callP (s_cons (s_C (s_nil ?_))))))))))))
    with_reducible refine take_ok (by decide) (by decide) (by omega) fun x x0 x1 => s_nil ?_
    refine ⟨by show 2 ≤ lim; decide, ?_⟩
    refine w_exp (d := .list (ks.map .int)) (f_Cl (f_Cons f_Var f_Nil)) (o_cl (x := [imD m]) rfl eks) ?_
    refine ⟨.list (([0, x] ++ ks).map .int), by rw [List.map_append]; exact dAdd_ls (xs := [0, x].map PyData.int) (by simp only [List.length_map, List.length_cons, List.length_nil]; omega), s_nil ?_⟩
    refine one_int ([0, x] ++ ks) (by rw [List.length_append]; show 1 ≤ 2 + _; omega) (by rw [List.length_append]; show 2 + _ < _; omega) (by omega) fun a ha => ?_
    have ha2 : 0 ≤ a ∧ a ≤ 1000000000 := by
      rcases List.mem_append.mp ha with z | z
      · simp only [List.mem_cons, List.not_mem_nil, or_false] at z
        omega
      · have := hm.kk (hks a z); omega
    refine s_cons (s_callP (s_cons (s_var (d := imD m) rfl (s_cons (s_C (s_cons (s_C (s_nil ?_))))))))
    refine w_changed60 (width := 60) (many := 12) hm.wide (by omega) (by decide) (by decide) (by omega) fun o n2 ho hol hn2 => s_nil ⟨rfl, ?_⟩
    show B16 _ [none, none, some d, some (imD m), some (.int a), some (imD o), x6, x7, x8, none, x10, x11, none] _
    exact b16 hm.ok ho.ok hml (by omega) ha2 fun y6 y7 y8 y10 y11 => hK _ _ ⟨⟨_, _, _, _, _, _, _, _, _, rfl⟩, by omega⟩
  · show mRet (mC (.bool true)) mTrue Γ n
    refine w_ret (d := .bool true) f_C rfl ?_
    exact rfl
end RC
end
section
open PySem PySem.W PyProof.Rows
set_option maxHeartbeats 0 in
theorem PySem.Challenge.cw_reachrows_k16_runs_alike_on_ranges_holds : PySem.Challenge.rw_reachrows_k16_runs_alike_on_ranges.Holds := by
  w_on; o_law; k_head; (case hw => w_witness2)
  k_fill
  refine RR.walkG (l := PySem.Challenge.rw_reachrows_k16_runs_alike_on_ranges) (k := 7) (x := "script") rfl rfl rfl ⟨rfl, by decide, by decide⟩ (fun w h Y => PySem.W.kIn_of Y) ?F
  case F =>
    intro w mg fa h KX G hmg
    refine' RR.fin_mk (l := PySem.Challenge.rw_reachrows_k16_runs_alike_on_ranges) (st := K16.topS 52) KX G hmg ?la ?ll ?lc ?lk ?lb (fun base fd sy FF => K16.fn_law (base := base) (K16.Txt.mk sy (PySem.W.mg_none_of KX G ?q1) (PySem.W.mg_none_of KX G ?q2) (PySem.W.mg_none_of KX G ?q3) (PySem.W.mg_none_of KX G ?q4) (PySem.W.mg_none_of KX G ?q5) (PySem.W.mg_none_of KX G ?q6) (PySem.W.mg_none_of KX G ?q7) (PySem.W.mg_none_of KX G ?q8) (PySem.W.mg_none_of KX G ?q9) (PySem.W.mg_none_of KX G ?q10) (PySem.W.mg_none_of KX G ?q11) (PySem.W.mg_none_of KX G ?q12) (PySem.W.mg_none_of KX G ?q13) (PySem.W.mg_none_of KX G ?q14) (RR.ci_int KX G ?q15 ?q16) (RR.ci_int KX G ?q17 ?q18) ⟨_, RR.ci_tup KX G ?q19 ?q20 ?q21 (RR.rqs_cons RR.rq_str (RR.rqs_cons RR.rq_str (RR.rqs_cons RR.rq_str (RR.rqs_cons RR.rq_str (RR.rqs_cons RR.rq_str (RR.rqs_cons RR.rq_str (RR.rqs_cons RR.rq_str (RR.rqs_cons RR.rq_str RR.rqs_nil)))))))) ?q22⟩ ⟨_, RR.ci_tup KX G ?q23 ?q24 ?q25 (RR.rqs_cons RR.rq_str (RR.rqs_cons RR.rq_str (RR.rqs_cons RR.rq_str (RR.rqs_cons RR.rq_str RR.rqs_nil)))) ?q26⟩ (RR.ci_int KX G ?q27 ?q28) (RR.ci_int KX G ?q29 ?q30) (RR.ci_int KX G ?q31 ?q32) (RR.ci_int KX G ?q33 ?q34) (RR.ci_int KX G ?q35 ?q36) (RR.fd_mk (st := K16.topS 45) KX G ?q37 ?q38 ?q39 ?q40 (fun _ _ _ _ _ _ us hl => match us, hl with | [_, _], _ => rfl)) (RR.fd_mk (st := K16.topS 46) KX G ?q41 ?q42 ?q43 ?q44 (fun _ _ _ _ _ _ us hl => match us, hl with | [_, _], _ => rfl)) (RR.fd_mk (st := K16.topS 47) KX G ?q45 ?q46 ?q47 ?q48 (fun _ _ _ _ _ _ us hl => match us, hl with | [_, _], _ => rfl)) (RR.fd_mk (st := K16.topS 48) KX G ?q49 ?q50 ?q51 ?q52 (fun _ _ _ _ _ _ us hl => match us, hl with | [_, _, _], _ => rfl)) (RR.fd_mk (st := K16.topS 50) KX G ?q53 ?q54 ?q55 ?q56 (fun _ _ _ _ _ _ us hl => match us, hl with | [_, _, _, _], _ => rfl)) (RR.fd_mk (st := K16.topS 49) KX G ?q57 ?q58 ?q59 ?q60 (fun _ _ _ _ _ _ us hl => match us, hl with | [_, _], _ => rfl)) (RR.fd_mk (st := K16.topS 44) KX G ?q61 ?q62 ?q63 ?q64 (fun _ _ _ _ _ _ us hl => match us, hl with | [_], _ => rfl)) (RR.fd_mk (st := K16.topS 8) KX G ?q65 ?q66 ?q67 ?q68 (fun _ _ _ _ _ _ us hl => match us, hl with | [_, _, _], _ => rfl)) (RR.fd_mk (st := K16.topS 17) KX G ?q69 ?q70 ?q71 ?q72 (fun _ _ _ _ _ _ us hl => match us, hl with | [_], _ => rfl)) (RR.fd_mk (st := K16.topS 16) KX G ?q73 ?q74 ?q75 ?q76 (fun _ _ _ _ _ _ us hl => match us, hl with | [_], _ => rfl)) (RR.fd_mk (st := K16.topS 18) KX G ?q77 ?q78 ?q79 ?q80 (fun _ _ _ _ _ _ us hl => match us, hl with | [_], _ => rfl)) (RR.fd_mk (st := K16.topS 19) KX G ?q81 ?q82 ?q83 ?q84 (fun _ _ _ _ _ _ us hl => match us, hl with | [_], _ => rfl)) (RR.fd_mk (st := K16.topS 9) KX G ?q85 ?q86 ?q87 ?q88 (fun _ _ _ _ _ _ us hl => match us, hl with | [_, _], _ => rfl)) (RR.fd_mk (st := K16.topS 20) KX G ?q89 ?q90 ?q91 ?q92 (fun _ _ _ _ _ _ us hl => match us, hl with | [_, _], _ => rfl)) (RR.fd_mk (st := K16.topS 21) KX G ?q93 ?q94 ?q95 ?q96 (fun _ _ _ _ _ _ us hl => match us, hl with | [_, _], _ => rfl)) (RR.fd_mk (st := K16.topS 39) KX G ?q97 ?q98 ?q99 ?q100 (fun _ _ _ _ _ _ us hl => match us, hl with | [_, _, _], _ => rfl)) (RR.fd_mk (st := K16.topS 38) KX G ?q101 ?q102 ?q103 ?q104 (fun _ _ _ _ _ _ us hl => match us, hl with | [_, _, _], _ => rfl)) (RR.fd_mk (st := K16.topS 37) KX G ?q105 ?q106 ?q107 ?q108 (fun _ _ _ _ _ _ us hl => match us, hl with | [_, _, _], _ => rfl)) (RR.fd_mk (st := K16.topS 40) KX G ?q109 ?q110 ?q111 ?q112 (fun _ _ _ _ _ _ us hl => match us, hl with | [_, _, _, _], _ => rfl)) (RR.fd_mk (st := K16.topS 42) KX G ?q113 ?q114 ?q115 ?q116 (fun _ _ _ _ _ _ us hl => match us, hl with | [_, _, _, _], _ => rfl)) (RR.fd_mk (st := K16.topS 51) KX G ?q117 ?q118 ?q119 ?q120 (fun _ _ _ _ _ _ us hl => match us, hl with | [_, _], _ => rfl)) (RR.fd_mk (st := K16.topS 26) KX G ?q121 ?q122 ?q123 ?q124 (fun _ _ _ _ _ _ us hl => match us, hl with | [_], _ => rfl)) (RR.fd_mk (st := K16.topS 22) KX G ?q125 ?q126 ?q127 ?q128 (fun _ _ _ _ _ _ us hl => match us, hl with | [_, _], _ => rfl)) (RR.fd_mk (st := K16.topS 27) KX G ?q129 ?q130 ?q131 ?q132 (fun _ _ _ _ _ _ us hl => match us, hl with | [_, _], _ => rfl)) (RR.fd_mk (st := K16.topS 28) KX G ?q133 ?q134 ?q135 ?q136 (fun _ _ _ _ _ _ us hl => match us, hl with | [_, _], _ => rfl)) (RR.fd_mk (st := K16.topS 33) KX G ?q137 ?q138 ?q139 ?q140 (fun _ _ _ _ _ _ us hl => match us, hl with | [_, _], _ => rfl)) (RR.fd_mk (st := K16.topS 32) KX G ?q141 ?q142 ?q143 ?q144 (fun _ _ _ _ _ _ us hl => match us, hl with | [_, _], _ => rfl)) (RR.fd_mk (st := K16.topS 35) KX G ?q145 ?q146 ?q147 ?q148 (fun _ _ _ _ _ _ us hl => match us, hl with | [_, _], _ => rfl)) (RR.fd_mk (st := K16.topS 29) KX G ?q149 ?q150 ?q151 ?q152 (fun _ _ _ _ _ _ us hl => match us, hl with | [_], _ => rfl)) (RR.fd_mk (st := K16.topS 30) KX G ?q153 ?q154 ?q155 ?q156 (fun _ _ _ _ _ _ us hl => match us, hl with | [_, _], _ => rfl)) (RR.fd_mk (st := K16.topS 31) KX G ?q157 ?q158 ?q159 ?q160 (fun _ _ _ _ _ _ us hl => match us, hl with | [_, _], _ => rfl)) (RR.fd_mk (st := K16.topS 34) KX G ?q161 ?q162 ?q163 ?q164 (fun _ _ _ _ _ _ us hl => match us, hl with | [_, _], _ => rfl)) (RR.fd_mk (st := K16.topS 41) KX G ?q165 ?q166 ?q167 ?q168 (fun _ _ _ _ _ _ us hl => match us, hl with | [_, _, _], _ => rfl)) (RR.fd_mk (st := K16.topS 52) KX G ?q169 ?q170 ?q171 ?q172 (fun _ _ _ _ _ _ us hl => match us, hl with | [_], _ => rfl))) RC.law16 FF)
    (case la => k_is)
    (case ll => k_is)
    (case lc => k_is)
    (case lk => k_is)
    (case lb => exact fun _ _ => PySem.BindsTo.of_eq rfl)
    (case q1 => k_is)
    (case q2 => k_is)
    (case q3 => k_is)
    (case q4 => k_is)
    (case q5 => k_is)
    (case q6 => k_is)
    (case q7 => k_is)
    (case q8 => k_is)
    (case q9 => k_is)
    (case q10 => k_is)
    (case q11 => k_is)
    (case q12 => k_is)
    (case q13 => k_is)
    (case q14 => k_is)
    (case q15 => k_is)
    (case q16 => exact ⟨_, rfl⟩)
    (case q17 => k_is)
    (case q18 => exact ⟨_, rfl⟩)
    (case q19 => k_is)
    (case q20 => k_is)
    (case q21 => decide)
    (case q22 => exact (.cons ⟨_, rfl⟩ (.cons ⟨_, rfl⟩ (.cons ⟨_, rfl⟩ (.cons ⟨_, rfl⟩ (.cons ⟨_, rfl⟩ (.cons ⟨_, rfl⟩ (.cons ⟨_, rfl⟩ (.cons ⟨_, rfl⟩ .nil)))))))))
    (case q23 => k_is)
    (case q24 => k_is)
    (case q25 => decide)
    (case q26 => exact (.cons ⟨_, rfl⟩ (.cons ⟨_, rfl⟩ (.cons ⟨_, rfl⟩ (.cons ⟨_, rfl⟩ .nil)))))
    (case q27 => k_is)
    (case q28 => exact ⟨_, rfl⟩)
    (case q29 => k_is)
    (case q30 => exact ⟨_, rfl⟩)
    (case q31 => k_is)
    (case q32 => exact ⟨_, rfl⟩)
    (case q33 => k_is)
    (case q34 => exact ⟨_, rfl⟩)
    (case q35 => k_is)
    (case q36 => exact ⟨_, rfl⟩)
    (case q37 => k_is)
    (case q38 => k_is)
    (case q39 => k_is)
    (case q40 => k_is)
    (case q41 => k_is)
    (case q42 => k_is)
    (case q43 => k_is)
    (case q44 => k_is)
    (case q45 => k_is)
    (case q46 => k_is)
    (case q47 => k_is)
    (case q48 => k_is)
    (case q49 => k_is)
    (case q50 => k_is)
    (case q51 => k_is)
    (case q52 => k_is)
    (case q53 => k_is)
    (case q54 => k_is)
    (case q55 => k_is)
    (case q56 => k_is)
    (case q57 => k_is)
    (case q58 => k_is)
    (case q59 => k_is)
    (case q60 => k_is)
    (case q61 => k_is)
    (case q62 => k_is)
    (case q63 => k_is)
    (case q64 => k_is)
    (case q65 => k_is)
    (case q66 => k_is)
    (case q67 => k_is)
    (case q68 => k_is)
    (case q69 => k_is)
    (case q70 => k_is)
    (case q71 => k_is)
    (case q72 => k_is)
    (case q73 => k_is)
    (case q74 => k_is)
    (case q75 => k_is)
    (case q76 => k_is)
    (case q77 => k_is)
    (case q78 => k_is)
    (case q79 => k_is)
    (case q80 => k_is)
    (case q81 => k_is)
    (case q82 => k_is)
    (case q83 => k_is)
    (case q84 => k_is)
    (case q85 => k_is)
    (case q86 => k_is)
    (case q87 => k_is)
    (case q88 => k_is)
    (case q89 => k_is)
    (case q90 => k_is)
    (case q91 => k_is)
    (case q92 => k_is)
    (case q93 => k_is)
    (case q94 => k_is)
    (case q95 => k_is)
    (case q96 => k_is)
    (case q97 => k_is)
    (case q98 => k_is)
    (case q99 => k_is)
    (case q100 => k_is)
    (case q101 => k_is)
    (case q102 => k_is)
    (case q103 => k_is)
    (case q104 => k_is)
    (case q105 => k_is)
    (case q106 => k_is)
    (case q107 => k_is)
    (case q108 => k_is)
    (case q109 => k_is)
    (case q110 => k_is)
    (case q111 => k_is)
    (case q112 => k_is)
    (case q113 => k_is)
    (case q114 => k_is)
    (case q115 => k_is)
    (case q116 => k_is)
    (case q117 => k_is)
    (case q118 => k_is)
    (case q119 => k_is)
    (case q120 => k_is)
    (case q121 => k_is)
    (case q122 => k_is)
    (case q123 => k_is)
    (case q124 => k_is)
    (case q125 => k_is)
    (case q126 => k_is)
    (case q127 => k_is)
    (case q128 => k_is)
    (case q129 => k_is)
    (case q130 => k_is)
    (case q131 => k_is)
    (case q132 => k_is)
    (case q133 => k_is)
    (case q134 => k_is)
    (case q135 => k_is)
    (case q136 => k_is)
    (case q137 => k_is)
    (case q138 => k_is)
    (case q139 => k_is)
    (case q140 => k_is)
    (case q141 => k_is)
    (case q142 => k_is)
    (case q143 => k_is)
    (case q144 => k_is)
    (case q145 => k_is)
    (case q146 => k_is)
    (case q147 => k_is)
    (case q148 => k_is)
    (case q149 => k_is)
    (case q150 => k_is)
    (case q151 => k_is)
    (case q152 => k_is)
    (case q153 => k_is)
    (case q154 => k_is)
    (case q155 => k_is)
    (case q156 => k_is)
    (case q157 => k_is)
    (case q158 => k_is)
    (case q159 => k_is)
    (case q160 => k_is)
    (case q161 => k_is)
    (case q162 => k_is)
    (case q163 => k_is)
    (case q164 => k_is)
    (case q165 => k_is)
    (case q166 => k_is)
    (case q167 => k_is)
    (case q168 => k_is)
    (case q169 => k_is)
    (case q170 => k_is)
    (case q171 => k_is)
    (case q172 => k_is)
end
