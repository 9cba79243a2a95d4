import PyProof.Rows.All
import HandS.ForMost
import HandS.TupAny
import HandS.IsInst
import HandS.Deep
import HandS.Zip
import HandS.Lambda
import KE.GoesMore
import KE.GoesEnum
import HandS.Style
import HandS.More
import KE.DataMinMax
import HandS.DictComp
import HandS.SortInts
import KE.SortData
import KE.DataFind
import KE.KDictCopyH
import KE.KDictSum
import HandS.ExcValue
import KE.DataCmp
import HandS.ExcOwn
import HandS.ExcIs
import HandS.RepeatKit
import HandS.Iter
import PyProof.Rows.SortShell
import HandS.TupMul
import KE.GoesSet
import HandS.Strs
import KE.KEqDict
import HandS.RaiseMore
import HandS.FStr
import HandS.TupSets
import HandS.Conv
import KE.GoesZip
import HandS.ReCall
import PyProof.DictUpdate
import PyProof.EqAt
import HandS.Steps
import KE.LtData
import KE.DatumOrd
import PySem.Challenge.RW_reachrows_k41_words_put_in
set_option Elab.async false
set_option linter.all false
set_option maxRecDepth 100000
set_option maxHeartbeats 4000000
section
namespace RR
open PySem PySem.Spec L2
open PyProof.Rows hiding St
abbrev D := PyData
abbrev DEnv := List (Option D)
def keyD : Key → D
  | .inl i => .int i
  | .inr x => .str x
/-- what stands for a datum, all of it in F -/
inductive Rp (K : PySem.W.Frag) (F : Hp) : D → V → Prop
  | non : Rp K F .none .non
  | bl (b : Bool) : Rp K F (.bool b) (.bl b)
  | int (i : Int) : Rp K F (.int i) (.int i)
  | str (x : Str) : Rp K F (.str x) (.str x)
  | lst {a : Addr} {xs : List V} {ds : List D} : F a = some (.lst xs) → xs.length = ds.length → (∀ (i : Nat) x d, xs[i]? = some x → ds[i]? = some d → Rp K F d x) → Rp K F (.list ds) (.ref a)
  | tup {a : Addr} {xs : List V} {ds : List D} : SqT K F a xs → xs.length = ds.length → (∀ (i : Nat) x d, xs[i]? = some x → ds[i]? = some d → Rp K F d x) → Rp K F (.tuple ds) (.ref a)
  | dct {a : Addr} {kvs : List (Key × V)} {ds : List (D × D)} : Rd F a (.dK kvs) → ds.map (·.1) = kvs.map (fun p => keyD p.1) → (∀ (i : Nat) x d, kvs[i]? = some x → ds[i]? = some d → Rp K F d.2 x.2) → Rp K F (.dict ds) (.ref a)
/-- the same of lists, one by one -/
structure Rps (K : PySem.W.Frag) (F : Hp) (ds : List D) (xs : List V) : Prop where
  len : xs.length = ds.length
  at_ : ∀ (i : Nat) x d, xs[i]? = some x → ds[i]? = some d → Rp K F d x
section
variable {K : PySem.W.Frag} {F F' H H' : Hp} {d : D} {v : V}
theorem Same.sqt {a : Addr} {xs : List V} (e : Same F F') (h : SqT K F a xs) : SqT K F' a xs := by
  rcases h with (h | ⟨o, h⟩) | h
  · exact .inl (.inl (e _ _ h))
  · exact .inl (.inr ⟨o, e _ _ h⟩)
  · exact .inr h
theorem Same.rd {a : Addr} {u : HO} (e : Same F F') (h : Rd F a u) : Rd F' a u := by
  rcases h with h | ⟨o, h⟩
  · exact .inl (e _ _ h)
  · exact .inr ⟨o, e _ _ h⟩
theorem Rp.mono (h : Rp K F d v) (e : Same F F') : Rp K F' d v := by
  induction h with
  | non => exact .non
  | bl b => exact .bl b
  | int i => exact .int i
  | str x => exact .str x
  | lst h1 h2 _ ih => exact .lst (e _ _ h1) h2 ih
  | tup h1 h2 _ ih => exact .tup (Same.sqt e h1) h2 ih
  | dct h1 h2 _ ih => exact .dct (Same.rd e h1) h2 ih
theorem Rps.mono {ds : List D} {xs : List V} (h : Rps K F ds xs) (e : Same F F') : Rps K F' ds xs := ⟨h.len, fun i x d a b => (h.at_ i x d a b).mono e⟩
theorem Rps.nil : Rps K F [] [] := ⟨rfl, fun i x d a => by simp at a⟩
theorem Rps.cons {ds : List D} {xs : List V} (h : Rp K F d v) (t : Rps K F ds xs) : Rps K F (d :: ds) (v :: xs) := by
  refine ⟨by simp [t.len], fun i x d' a b => ?_⟩
  cases i with
  | zero =>
    simp at a b
    subst a b
    exact h
  | succ i =>
    simp at a b
    exact t.at_ i x d' a b
theorem Rps.uncons {ds : List D} {xs : List V} (h : Rps K F (d :: ds) xs) : ∃ v r, xs = v :: r ∧ Rp K F d v ∧ Rps K F ds r := by
  cases xs with
  | nil => have := h.len; simp at this
  | cons v r =>
    refine ⟨v, r, rfl, h.at_ 0 v d rfl rfl, ?_, fun i x d' a b => h.at_ (i + 1) x d' (by simpa using a) (by simpa using b)⟩
    have := h.len
    simpa using this
theorem Rps.unnil {xs : List V} (h : Rps K F [] xs) : xs = [] := List.length_eq_zero_iff.mp h.len
theorem Rps.append {ds es : List D} {xs ys : List V} (h : Rps K F ds xs) (t : Rps K F es ys) : Rps K F (ds ++ es) (xs ++ ys) := by
  induction ds generalizing xs with
  | nil => rw [h.unnil]; exact t
  | cons d ds ih =>
    obtain ⟨v, r, rfl, h1, h2⟩ := h.uncons
    exact .cons h1 (ih h2)
theorem Rps.get {ds : List D} {xs : List V} (h : Rps K F ds xs) {i : Nat} (e : ds[i]? = some d) : ∃ v, xs[i]? = some v ∧ Rp K F d v := by
  have hi : i < xs.length := by rw [h.len]; exact (List.getElem?_eq_some_iff.mp e).1
  exact ⟨xs[i], by simp [hi], h.at_ i _ d (by simp [hi]) e⟩
theorem Rps.set {ds : List D} {xs : List V} (h : Rps K F ds xs) (i : Nat) (r : Rp K F d v) : Rps K F (ds.set i d) (xs.set i v) := by
  refine ⟨by simp [h.len], fun j x d' a b => ?_⟩
  by_cases e : i = j
  · subst e
    rw [List.getElem?_set] at a b
    simp at a b
    obtain ⟨_, rfl⟩ := a
    obtain ⟨_, rfl⟩ := b
    exact r
  · rw [List.getElem?_set_ne e] at a b
    exact h.at_ j x d' a b
theorem Rps.take {ds : List D} {xs : List V} (h : Rps K F ds xs) (n : Nat) : Rps K F (ds.take n) (xs.take n) := by
  refine ⟨by simp [h.len], fun j x d' a b => ?_⟩
  rw [List.getElem?_take] at a b
  split at a
  · rename_i hj
    rw [if_pos hj] at b
    exact h.at_ j x d' a b
  · cases a
theorem Rps.drop {ds : List D} {xs : List V} (h : Rps K F ds xs) (n : Nat) : Rps K F (ds.drop n) (xs.drop n) := by
  refine ⟨by simp [h.len], fun j x d' a b => ?_⟩
  rw [List.getElem?_drop] at a b
  exact h.at_ _ x d' a b
theorem Rps.reverse {ds : List D} {xs : List V} (h : Rps K F ds xs) : Rps K F ds.reverse xs.reverse := by
  induction ds generalizing xs with
  | nil => rw [h.unnil]; exact .nil
  | cons d ds ih =>
    obtain ⟨v, r, rfl, h1, h2⟩ := h.uncons
    rw [List.reverse_cons, List.reverse_cons]
    exact (ih h2).append (.cons h1 .nil)
theorem Rp.int_inv {i : Int} (h : Rp K F (.int i) v) : v = .int i := by cases h; rfl
theorem Rp.bl_inv {b : Bool} (h : Rp K F (.bool b) v) : v = .bl b := by cases h; rfl
theorem Rp.str_inv {x : Str} (h : Rp K F (.str x) v) : v = .str x := by cases h; rfl
theorem Rp.lst_inv {ds : List D} (h : Rp K F (.list ds) v) : ∃ a xs, v = .ref a ∧ F a = some (.lst xs) ∧ Rps K F ds xs := by
  cases h with
  | lst h1 h2 h3 => exact ⟨_, _, rfl, h1, h2, h3⟩
theorem Rp.tup_inv {ds : List D} (h : Rp K F (.tuple ds) v) : ∃ a xs, v = .ref a ∧ SqT K F a xs ∧ Rps K F ds xs := by
  cases h with
  | tup h1 h2 h3 => exact ⟨_, _, rfl, h1, h2, h3⟩
theorem Rp.of_lst {ds : List D} {a : Addr} {xs : List V} (h : F a = some (.lst xs)) (r : Rps K F ds xs) : Rp K F (.list ds) (.ref a) := .lst h r.len r.at_
theorem Rp.of_tup {ds : List D} {a : Addr} {xs : List V} (h : SqT K F a xs) (r : Rps K F ds xs) : Rp K F (.tuple ds) (.ref a) := .tup h r.len r.at_
end
/-- new things alone -/
structure Gr (F H F' H' : Hp) : Prop where
  f : Same F F'
  fh : Same F' H'
  h : Same H H'
  new : ∀ a o, F' a = some o → F a = some o ∨ H a = none
theorem Gr.refl {F H : Hp} (h : Same F H) : Gr F H F H := ⟨.refl _, h, .refl _, fun _ _ e => .inl e⟩
theorem Gr.trans {F H F1 H1 F2 H2 : Hp} (a : Gr F H F1 H1) (b : Gr F1 H1 F2 H2) : Gr F H F2 H2 := by
  refine ⟨a.f.trans b.f, b.fh, a.h.trans b.h, fun p o e => ?_⟩
  rcases b.new p o e with q | q
  · exact a.new p o q
  · exact .inr (a.h.free q)
theorem same_up {H : Hp} {p : Addr} {o : HO} (h : H p = none) : Same H (upd H p o) := fun b x e => by
  rw [upd_ne (ne_of_none e h)]
  exact e
/-- a new object, frozen at once -/
theorem Gr.new1 {F H : Hp} {p : Addr} (h : Same F H) (n : H p = none) (o : HO) : Gr F H (upd F p o) (upd H p o) := by
  refine ⟨same_up (h.free n), fun b x e => ?_, same_up n, fun b x e => ?_⟩
  · by_cases hb : b = p
    · subst hb; rw [upd_same] at e ⊢; exact e
    · rw [upd_ne hb] at e ⊢; exact h _ _ e
  · by_cases hb : b = p
    · subst hb; exact .inr n
    · rw [upd_ne hb] at e; exact .inl e
/-- a new object, not frozen -/
theorem Gr.new0 {F H : Hp} {p : Addr} (h : Same F H) (n : H p = none) (o : HO) : Gr F H F (upd H p o) :=
  ⟨.refl _, h.trans (same_up n), same_up n, fun _ _ e => .inl e⟩
/-- the drawing list: its drawn cells, how many were spread, what is left -/
def PenAt (dr : Addr) (F H : Hp) (a : Addr) (n : Nat) : Prop := ∃ (w l : Int) (xs : List Int), H a = some (.lst [.ref dr, .int w, .int l]) ∧ F dr = some (.lst (xs.map V.int)) ∧ 0 ≤ w ∧ w ≤ n ∧ 0 ≤ l
/-- the list of drawn cells; the tables of code objects, each with its lambdas' name -/
structure DrT where
  ad : Addr
  tb : List (Addr × Str)
instance {n : Nat} : OfNat DrT n := ⟨⟨n, []⟩⟩
structure Pm where
  K : PySem.W.Frag
  /-- the drawing list's address and slot -/
  ap : Option (Addr × Nat)
  /-- the list of its drawn cells -/
  dr : DrT
/-- what may change: the drawing list, the tables -/
def Pm.isPen (p : Pm) (a : Addr) : Prop := ∃ b i, p.ap = some (b, i) ∧ (a = b ∨ ∃ q ∈ p.dr.tb, q.1 = a)
/-- the tables: each code object that they tell is frozen and bears the name -/
def TabF (T : List (Addr × Str)) (F H : Hp) : Prop := ∀ q ∈ T, F q.1 = none ∧ ∃ ps : Array Value, H q.1 = some (.tbl ps) ∧ TriplesOk ps.toList ∧ ∀ (pos : Pos) (cv : Value), codeAmong pos ps.toList = some cv → ∃ c, cv = .ref c ∧ F c = some (LamX.CodeO c q.2)
theorem TabF.nil {F H : Hp} : TabF [] F H := fun _ h => nomatch h
theorem TabF.up {T : List (Addr × Str)} {F H F' H' : Hp} (t : TabF T F H) (ff : Same F F') (fn : ∀ q ∈ T, F' q.1 = none) (hh : ∀ q ∈ T, ∀ o, H q.1 = some o → H' q.1 = some o) : TabF T F' H' := fun q hq => by
  obtain ⟨_, ps, e, t3, c⟩ := t q hq
  refine ⟨fn q hq, ps, hh q hq _ e, t3, fun pos cv h => ?_⟩
  obtain ⟨c, e1, e2⟩ := c pos cv h
  exact ⟨c, e1, ff _ _ e2⟩
/-- a local's own list or dict: nobody else knows it -/
inductive Own (K : PySem.W.Frag) (F H : Hp) : D → Addr → Prop
  | lst {a : Addr} {xs : List V} {ds : List D} : H a = some (.lst xs) → Rps K F ds xs → Own K F H (.list ds) a
  | dct {a : Addr} {kvs : List (Key × V)} {ds : List (D × D)} : H a = some (.dK kvs) → ds.map (·.1) = kvs.map (fun p => keyD p.1) → (∀ (i : Nat) x d, kvs[i]? = some x → ds[i]? = some d → Rp K F d.2 x.2) → Own K F H (.dict ds) a
/-- F: what stands frozen; O: the slots that hold things of their own; F0, H0: at the def's entry -/
structure Sep (p : Pm) (F0 H0 : Hp) (O : List Nat) (F H : Hp) (σ : St) (Γ : DEnv) (n : Nat) : Prop where
  f0 : Same F0 F
  fh : Same F H
  stay : ∀ a o, H0 a = some o → ¬ p.isPen a → H a = some o
  newF : ∀ a o, F a = some o → F0 a = some o ∨ H0 a = none
  pen : ∀ a i, p.ap = some (a, i) → F a = none ∧ σ[i]? = some (some (.ref a)) ∧ PenAt p.dr.ad F H a n ∧ TabF p.dr.tb F H
  len : σ.length = Γ.length
  sh : ∀ i d, i ∉ O → Γ[i]? = some (some d) → ∃ v, σ[i]? = some (some v) ∧ Rp p.K F d v
  ow : ∀ i ∈ O, ∀ d, Γ[i]? = some (some d) → ∃ a, σ[i]? = some (some (.ref a)) ∧ Own p.K F H d a ∧ F a = none ∧ H0 a = none ∧ ¬ p.isPen a
  dj : ∀ i ∈ O, ∀ j ∈ O, i ≠ j → ∀ a di dj, Γ[i]? = some (some di) → Γ[j]? = some (some dj) → σ[i]? = some (some (.ref a)) → σ[j]? = some (some (.ref a)) → False
section
variable {p : Pm} {F0 H0 F H F' H' : Hp} {O O' : List Nat} {σ : St} {Γ : DEnv} {n : Nat}
theorem Own.gr {K : PySem.W.Frag} {d : D} {a : Addr} (h : Own K F H d a) (g : Gr F H F' H') : Own K F' H' d a := by
  cases h with
  | lst e r => exact .lst (g.h _ _ e) (r.mono g.f)
  | dct e q r => exact .dct (g.h _ _ e) q fun i x d a b => (r i x d a b).mono g.f
theorem Own.notCode {K : PySem.W.Frag} {d : D} {a : Addr} {o : HO} {q : Str} (h : Own K F H d a) (e : H a = some o) : ∀ c : Addr, o = LamX.CodeO c q → False := fun c z => by
  subst z
  unfold LamX.CodeO at e
  cases h with
  | lst e1 _ => rw [e] at e1; cases e1
  | dct e1 _ _ => rw [e] at e1; cases e1
theorem Own.at {K : PySem.W.Frag} {d : D} {a : Addr} (h : Own K F H d a) : ∃ o, H a = some o := by
  cases h with
  | lst e r => exact ⟨_, e⟩
  | dct e q r => exact ⟨_, e⟩
theorem PenAt.at {a dr : Addr} (h : PenAt dr F H a n) : ∃ o, H a = some o := by
  obtain ⟨_, _, _, e, _⟩ := h
  exact ⟨_, e⟩
theorem PenAt.gr {a dr : Addr} (h : PenAt dr F H a n) (g : Gr F H F' H') : PenAt dr F' H' a n := by
  obtain ⟨w, l, xs, e, q, r⟩ := h
  exact ⟨w, l, xs, g.h _ _ e, g.f _ _ q, r⟩
theorem Gr.none {a : Addr} (g : Gr F H F' H') (h : F a = none) (e : ∃ o, H a = some o) : F' a = none := by
  cases q : F' a with
  | none => rfl
  | some o =>
    obtain ⟨u, e⟩ := e
    rcases g.new a o q with z | z
    · rw [h] at z; cases z
    · rw [e] at z; cases z
theorem Sep.gr (s : Sep p F0 H0 O F H σ Γ n) (g : Gr F H F' H') : Sep p F0 H0 O F' H' σ Γ n where
  f0 := s.f0.trans g.f
  fh := g.fh
  stay := fun a o e q => g.h _ _ (s.stay a o e q)
  newF := fun a o e => by
    rcases g.new a o e with z | z
    · exact s.newF a o z
    · cases q : H0 a with
      | none => exact .inr rfl
      | some u =>
        by_cases hp : p.isPen a
        · obtain ⟨b, i, hp, rfl | ⟨qt, hq, rfl⟩⟩ := hp
          · obtain ⟨x, e1⟩ := (s.pen _ i hp).2.2.1.at
            rw [e1] at z; cases z
          · obtain ⟨_, ps, e1, _⟩ := (s.pen b i hp).2.2.2 qt hq
            rw [e1] at z; cases z
        · have := s.stay a u q hp
          rw [this] at z; cases z
  pen := fun a i e => let ⟨h1, h2, h3⟩ := s.pen a i e; ⟨g.none h1 h3.1.at, h2, h3.1.gr g, h3.2.up g.f (fun q hq => g.none (h3.2 q hq).1 (let ⟨_, ps, e, _⟩ := h3.2 q hq; ⟨_, e⟩)) (fun q _ o e => g.h _ _ e)⟩
  len := s.len
  sh := fun i d h e => let ⟨v, e1, r⟩ := s.sh i d h e; ⟨v, e1, r.mono g.f⟩
  ow := fun i hi d e => let ⟨a, e1, o, f, h, q⟩ := s.ow i hi d e; ⟨a, e1, o.gr g, g.none f o.at, h, q⟩
  dj := s.dj
end
/-- what an expression may do: new things, and draws -/
structure Gp (p : Pm) (F H F' H' : Hp) : Prop where
  f : Same F F'
  h : ∀ a o, H a = some o → ¬ p.isPen a → H' a = some o
  new : ∀ a o, F' a = some o → F a = some o ∨ H a = none ∨ p.isPen a
theorem Gp.refl {p : Pm} {F H : Hp} : Gp p F H F H := ⟨.refl _, fun _ _ e _ => e, fun _ _ e => .inl e⟩
theorem Gp.trans {p : Pm} {F H F1 H1 F2 H2 : Hp} (a : Gp p F H F1 H1) (b : Gp p F1 H1 F2 H2) : Gp p F H F2 H2 := by
  refine ⟨a.f.trans b.f, fun q o e hp => b.h q o (a.h q o e hp) hp, fun q o e => ?_⟩
  rcases b.new q o e with z | z | z
  · exact a.new q o z
  · by_cases hp : p.isPen q
    · exact .inr (.inr hp)
    · cases w : H q with
      | none => exact .inr (.inl rfl)
      | some u =>
        rw [a.h q u w hp] at z
        cases z
  · exact .inr (.inr z)
theorem Gr.gp {p : Pm} {F H F' H' : Hp} (g : Gr F H F' H') : Gp p F H F' H' := ⟨g.f, fun a o e _ => g.h a o e, fun a o e => (g.new a o e).elim .inl fun z => .inr (.inl z)⟩
abbrev ME := DEnv → Nat → (D → Nat → Prop) → Prop
abbrev MT := DEnv → Nat → (Bool → Nat → Prop) → Prop
abbrev MA := DEnv → Nat → (List D → Nat → Prop) → Prop
abbrev MF := List D → Nat → (D → Nat → Prop) → Prop
structure EndsD where
  nx : DEnv → Nat → Prop
  rt : D → Nat → Prop
  bk : DEnv → Nat → Prop := fun _ _ => False
  ct : DEnv → Nat → Prop := fun _ _ => False
abbrev MS := EndsD → DEnv → Nat → Prop
abbrev MG := D → DEnv → (DEnv → Prop) → Prop
/-- a reading t tells the meaning m -/
def LE (p : Pm) (O : List Nat) (t : TE) (m : ME) : Prop :=
  ∀ F0 H0 F H σ Γ n (Q : D → Nat → Prop), Sep p F0 H0 O F H σ Γ n → m Γ n Q → ∀ Q' : VK,
    (∀ d v F' H' n', Sep p F0 H0 O F' H' σ Γ n' → Gp p F H F' H' → Rp p.K F' d v → Q d n' → Q' v H') → t σ H Q'
def LT (p : Pm) (O : List Nat) (t : TT) (m : MT) : Prop :=
  ∀ F0 H0 F H σ Γ n (Q : Bool → Nat → Prop), Sep p F0 H0 O F H σ Γ n → m Γ n Q → ∀ Q' : Bool → Hp → Prop,
    (∀ b F' H' n', Sep p F0 H0 O F' H' σ Γ n' → Gp p F H F' H' → Q b n' → Q' b H') → t σ H Q'
def LA (p : Pm) (O : List Nat) (t : TA) (m : MA) : Prop :=
  ∀ F0 H0 F H σ Γ n (Q : List D → Nat → Prop), Sep p F0 H0 O F H σ Γ n → m Γ n Q → ∀ Q' : List V → Hp → Prop,
    (∀ ds vs F' H' n', Sep p F0 H0 O F' H' σ Γ n' → Gp p F H F' H' → Rps p.K F' ds vs → Q ds n' → Q' vs H') → t σ H Q'
/-- behind a return: what the slots hold is nothing to us -/
structure Fin0 (p : Pm) (F0 H0 F H : Hp) (n : Nat) : Prop where
  f0 : Same F0 F
  fh : Same F H
  stay : ∀ a o, H0 a = some o → ¬ p.isPen a → H a = some o
  newF : ∀ a o, F a = some o → F0 a = some o ∨ H0 a = none
  pen : ∀ a i, p.ap = some (a, i) → F a = none ∧ PenAt p.dr.ad F H a n ∧ TabF p.dr.tb F H
theorem Sep.fin {p : Pm} {F0 H0 F H : Hp} {O : List Nat} {σ : St} {Γ : DEnv} {n : Nat} (s : Sep p F0 H0 O F H σ Γ n) : Fin0 p F0 H0 F H n :=
  ⟨s.f0, s.fh, s.stay, s.newF, fun a i e => ⟨(s.pen a i e).1, (s.pen a i e).2.2⟩⟩
def LS (p : Pm) (Ob O O' : List Nat) (t : TS) (m : MS) : Prop :=
  ∀ F0 H0 F H σ Γ n (E : EndsD), Sep p F0 H0 O F H σ Γ n → m E Γ n → ∀ E' : Ends,
    (∀ F' H' σ' Γ' n', Sep p F0 H0 O' F' H' σ' Γ' n' → Same F F' → E.nx Γ' n' → E'.nx σ' H') →
    (∀ d v F' H' n', Fin0 p F0 H0 F' H' n' → Rp p.K F' d v → E.rt d n' → E'.rt v H') →
    (∀ F' H' σ' Γ' n', Sep p F0 H0 Ob F' H' σ' Γ' n' → Same F F' → E.bk Γ' n' → E'.bk σ' H') →
    (∀ F' H' σ' Γ' n', Sep p F0 H0 Ob F' H' σ' Γ' n' → Same F F' → E.ct Γ' n' → E'.ct σ' H') → t E' σ H
structure RE (X : Cx) (p : Pm) (O : List Nat) (e : Expr) (t : TE) (m : ME) : Prop where
  pe : PE X e t
  le : LE p O t m
structure RT (X : Cx) (p : Pm) (O : List Nat) (e : Expr) (t : TT) (m : MT) : Prop where
  pt : PT X e t
  le : LT p O t m
structure RW (X : Cx) (p : Pm) (O : List Nat) (e : Expr) (t : TT) (m : MT) : Prop where
  pw : PW X e t
  le : LT p O t m
structure RA (X : Cx) (p : Pm) (O : List Nat) (es : List Expr) (t : TA) (m : MA) : Prop where
  pa : PA X es t
  le : LA p O t m
structure RS (X : Cx) (p : Pm) (Ob O O' : List Nat) (st : Stmt) (t : TS) (m : MS) : Prop where
  ps : PS X st t
  le : LS p Ob O O' t m
structure RSs (X : Cx) (p : Pm) (Ob O O' : List Nat) (sts : List Stmt) (t : TS) (m : MS) : Prop where
  ps : PSs X sts t
  le : LS p Ob O O' t m
end RR
end
section
namespace RR
open PySem PySem.Spec L2
open PyProof.Rows hiding St
section
variable {X : Cx} {p : Pm} {O : List Nat} {a b c e : Expr} {pos : Pos} {ta tb tc te : TE} {ma mb mc me : ME}
@[reducible] def mVar (i : Nat) : ME := fun Γ n Q => ∃ d, Γ[i]? = some (some d) ∧ Q d n
@[reducible] def mC (d : D) : ME := fun _ n Q => Q d n
theorem e_var {x : Str} (i : Nat) (h : PE X (.Name x pos) (tVar i)) (hO : i ∉ O) : RE X p O (.Name x pos) (tVar i) (mVar i) :=
  ⟨h, fun F0 H0 F H σ Γ n Q s ⟨d, e, q⟩ Q' k => by
    obtain ⟨v, e1, r⟩ := s.sh i d hO e
    exact ⟨v, e1, k d v F H n s .refl r q⟩⟩
theorem le_c {v : V} {d : D} (r : ∀ K F, Rp K F d v) : LE p O (tC v) (mC d) := fun F0 H0 F H σ Γ n Q s q Q' k => k d v F H n s .refl (r _ _) q
theorem e_int {i j} : RE X p O (.Constant (.int i) j pos) (tC (.int i)) (mC (.int i)) := ⟨pe_int, le_c fun _ _ => .int i⟩
theorem e_bl {i j} : RE X p O (.Constant (.bool i) j pos) (tC (.bl i)) (mC (.bool i)) := ⟨pe_bl, le_c fun _ _ => .bl i⟩
theorem e_non {j} : RE X p O (.Constant .none j pos) (tC .non) (mC .none) := ⟨pe_non, le_c fun _ _ => .non⟩
theorem e_str {i j} : RE X p O (.Constant (.str i) j pos) (tC (.str i)) (mC (.str i)) := ⟨pe_str, le_c fun _ _ => .str i⟩
/-- a constant of the module -/
theorem e_glob {x : Str} {v : V} {u : Value} {d : D} (hg : Gl X x) (hm : X.mg x = some u) (r : RelV v u) (w : ∀ F, Rp p.K F d v) (hd : (x == ("__debug__" : Str)) = false := by decide) : RE X p O (.Name x pos) (tC v) (mC d) :=
  ⟨pe_glob hg hm r hd, fun F0 H0 F H σ Γ n Q s q Q' k => k d v F H n s .refl (w F) q⟩
/-- a reading by values tells a partial function of data -/
def OpL (K : PySem.W.Frag) (r : R2) (f : D → D → Option D) : Prop := ∀ F H x y dx dy d, Same F H → Rp K F dx x → Rp K F dy y → f dx dy = some d →
  ∀ Q' : VK, (∀ v F' H', Gr F H F' H' → Rp K F' d v → Q' v H') → r x y H Q'
def UnL (K : PySem.W.Frag) (r : V → Hp → VK → Prop) (f : D → Option D) : Prop := ∀ F H x dx d, Same F H → Rp K F dx x → f dx = some d →
  ∀ Q' : VK, (∀ v F' H', Gr F H F' H' → Rp K F' d v → Q' v H') → r x H Q'
def ClL (K : PySem.W.Frag) (r : List V → Hp → VK → Prop) (f : List D → Option D) : Prop := ∀ F H xs ds d, Same F H → Rps K F ds xs → f ds = some d →
  ∀ Q' : VK, (∀ v F' H', Gr F H F' H' → Rp K F' d v → Q' v H') → r xs H Q'
@[reducible] def mOp (f : D → D → Option D) (ma mb : ME) : ME := fun Γ n Q => ma Γ n fun x n1 => mb Γ n1 fun y n2 => ∃ d, f x y = some d ∧ Q d n2
@[reducible] def mUn (f : D → Option D) (ma : ME) : ME := fun Γ n Q => ma Γ n fun x n1 => ∃ d, f x = some d ∧ Q d n1
theorem le_op {r : R2} {f : D → D → Option D} (l : OpL p.K r f) (ha : LE p O ta ma) (hb : LE p O tb mb) : LE p O (tOp r ta tb) (mOp f ma mb) :=
  fun F0 H0 F H σ Γ n Q s q Q' k => by
    refine ha F0 H0 F H σ Γ n _ s q _ fun dx x F1 H1 n1 s1 e1 r1 q1 => ?_
    refine hb F0 H0 F1 H1 σ Γ n1 _ s1 q1 _ fun dy y F2 H2 n2 s2 e2 r2 ⟨d, fe, q2⟩ => ?_
    refine l F2 H2 x y dx dy d s2.fh (r1.mono e2.f) r2 fe _ fun v F3 H3 g r3 => ?_
    exact k d v F3 H3 n2 (s2.gr g) ((e1.trans e2).trans g.gp) r3 q2
theorem le_un {r : V → Hp → VK → Prop} {f : D → Option D} (l : UnL p.K r f) (ha : LE p O ta ma) : LE p O (tUn r ta) (mUn f ma) :=
  fun F0 H0 F H σ Γ n Q s q Q' k => by
    refine ha F0 H0 F H σ Γ n _ s q _ fun dx x F1 H1 n1 s1 e1 r1 ⟨d, fe, q1⟩ => ?_
    refine l F1 H1 x dx d s1.fh r1 fe _ fun v F3 H3 g r3 => ?_
    exact k d v F3 H3 n1 (s1.gr g) (e1.trans g.gp) r3 q1
theorem e_op {op : Operator} {r : R2} {f : D → D → Option D} (ho : OpR X (binaryOp op) r) (l : OpL p.K r f) (ha : RE X p O a ta ma) (hb : RE X p O b tb mb) : RE X p O (.BinOp a op b pos) (tOp r ta tb) (mOp f ma mb) :=
  ⟨pe_op ho ha.pe hb.pe, le_op l ha.le hb.le⟩
theorem e_un {op : UnaryOp} {r : V → Hp → VK → Prop} {f : D → Option D} (ho : UnR X (unaryOp op) r) (l : UnL p.K r f) (ha : RE X p O a ta ma) : RE X p O (.UnaryOp op a pos) (tUn r ta) (mUn f ma) :=
  ⟨pe_un ho ha.pe, le_un l ha.le⟩
theorem e_cmp {op : CmpOp} {r : R2} {f : D → D → Option D} (ho : OpR X (compareOp op) r) (l : OpL p.K r f) (ha : RE X p O a ta ma) (hb : RE X p O b tb mb) (hm : behindInMarks op b = false) : RE X p O (.Compare a [op] [b] pos) (tOp r ta tb) (mOp f ma mb) :=
  ⟨pe_cmpR ho ha.pe hb.pe hm, le_op l ha.le hb.le⟩
/-- a value that is True or False, as a test -/
@[reducible] def mTest (m : ME) : MT := fun Γ n Q => m Γ n fun d n1 => ∃ b, d = .bool b ∧ Q b n1
theorem lt_test {t : TE} {m : ME} (h : LE p O t m) : LT p O (tTest t) (mTest m) := fun F0 H0 F H σ Γ n Q s q Q' k =>
  h F0 H0 F H σ Γ n _ s q _ fun d v F1 H1 n1 s1 e1 r1 ⟨b, eb, q1⟩ => by
    subst eb
    exact ⟨b, r1.bl_inv, k b F1 H1 n1 s1 e1 q1⟩
theorem t_cmp {op : CmpOp} {r : R2} {f : D → D → Option D} (ho : OpR X (compareOp op) r) (l : OpL p.K r f) (ha : RE X p O a ta ma) (hb : RE X p O b tb mb) (hm : behindInMarks op b = false) : RT X p O (.Compare a [op] [b] pos) (tTest (tOp r ta tb)) (mTest (mOp f ma mb)) :=
  ⟨pt_cmpR ho ha.pe hb.pe hm, lt_test (le_op l ha.le hb.le)⟩
theorem t_val (ha : RE X p O a ta ma) (he : ∀ whole, isTrue a X.env whole = (do let v ← whole; standAt a.pos; holding [v] (truthy v)) := by intro _; rfl) : RT X p O a (tB ta) (mTest ma) :=
  ⟨pt_val ha.pe he, lt_test ha.le⟩
/-- a < b < c -/
@[reducible] def mChain (f g : D → D → Option D) (ma mb mc : ME) : ME := fun Γ n Q => ma Γ n fun x n1 => mb Γ n1 fun y n2 => ∃ k, f x y = some (.bool k) ∧ if k = true then mc Γ n2 fun z n3 => ∃ d, g y z = some d ∧ Q d n3 else Q (.bool false) n2
theorem le_chain {r r' : R2} {f g : D → D → Option D} (l : OpL p.K r f) (l' : OpL p.K r' g) (ha : LE p O ta ma) (hb : LE p O tb mb) (hc : LE p O tc mc) : LE p O (tChain r r' ta tb tc) (mChain f g ma mb mc) :=
  fun F0 H0 F H σ Γ n Q s q Q' k => by
    refine ha F0 H0 F H σ Γ n _ s q _ fun dx x F1 H1 n1 s1 e1 r1 q1 => ?_
    refine hb F0 H0 F1 H1 σ Γ n1 _ s1 q1 _ fun dy y F2 H2 n2 s2 e2 r2 ⟨d, fe, q2⟩ => ?_
    refine l F2 H2 x y dx dy _ s2.fh (r1.mono e2.f) r2 fe _ fun v F3 H3 g3 r3 => ?_
    refine ⟨d, r3.bl_inv, ?_⟩
    cases d with
    | true =>
      rw [if_pos rfl] at q2 ⊢
      refine hc F0 H0 F3 H3 σ Γ n2 _ (s2.gr g3) q2 _ fun dz z F4 H4 n4 s4 e4 r4 ⟨d, ge, q4⟩ => ?_
      refine l' F4 H4 y z dy dz d s4.fh (r2.mono (g3.f.trans e4.f)) r4 ge _ fun v F5 H5 g5 r5 => ?_
      exact k d v F5 H5 n4 (s4.gr g5) ((((e1.trans e2).trans g3.gp).trans e4).trans g5.gp) r5 q4
    | false =>
      rw [if_neg (by decide)] at q2 ⊢
      exact k _ _ F3 H3 n2 (s2.gr g3) ((e1.trans e2).trans g3.gp) (.bl false) q2
theorem e_chain {op op' : CmpOp} {r r' : R2} {f g : D → D → Option D} (ho : OpR X (compareOp op) r) (l : OpL p.K r f) (ho' : OpR X (compareOp op') r') (l' : OpL p.K r' g) (ha : RE X p O a ta ma) (hb : RE X p O b tb mb) (hc : RE X p O c tc mc)
    (h : PE X (.Compare a [op, op'] [b, c] pos) (tChain r r' ta tb tc)) : RE X p O (.Compare a [op, op'] [b, c] pos) (tChain r r' ta tb tc) (mChain f g ma mb mc) := ⟨h, le_chain l l' ha.le hb.le hc.le⟩
theorem t_chain {op op' : CmpOp} {r r' : R2} {f g : D → D → Option D} (ho : OpR X (compareOp op) r) (l : OpL p.K r f) (ho' : OpR X (compareOp op') r') (l' : OpL p.K r' g) (ha : RE X p O a ta ma) (hb : RE X p O b tb mb) (hc : RE X p O c tc mc)
    (h : PT X (.Compare a [op, op'] [b, c] pos) (tTest (tChain r r' ta tb tc))) : RT X p O (.Compare a [op, op'] [b, c] pos) (tTest (tChain r r' ta tb tc)) (mTest (mChain f g ma mb mc)) := ⟨h, lt_test (le_chain l l' ha.le hb.le hc.le)⟩
variable {tA tB' : TT} {mA mB : MT} {rest : List Expr}
@[reducible] def mAnd (m u : MT) : MT := fun Γ n Q => m Γ n fun c n1 => if c = true then u Γ n1 Q else Q false n1
@[reducible] def mOr (m u : MT) : MT := fun Γ n Q => m Γ n fun c n1 => if c = true then Q true n1 else u Γ n1 Q
@[reducible] def mNot (m : MT) : MT := fun Γ n Q => m Γ n fun c n1 => Q (!c) n1
theorem lt_and (ha : LT p O tA mA) (hb : LT p O tB' mB) : LT p O (tAnd tA tB') (mAnd mA mB) := fun F0 H0 F H σ Γ n Q s q Q' k =>
  ha F0 H0 F H σ Γ n _ s q _ fun c F1 H1 n1 s1 e1 q1 => by
    cases c with
    | true =>
      rw [if_pos rfl] at q1 ⊢
      exact hb F0 H0 F1 H1 σ Γ n1 Q s1 q1 Q' fun b F2 H2 n2 s2 e2 q2 => k b F2 H2 n2 s2 (e1.trans e2) q2
    | false =>
      rw [if_neg (by decide)] at q1 ⊢
      exact k false F1 H1 n1 s1 e1 q1
theorem lt_or (ha : LT p O tA mA) (hb : LT p O tB' mB) : LT p O (tOr tA tB') (mOr mA mB) := fun F0 H0 F H σ Γ n Q s q Q' k =>
  ha F0 H0 F H σ Γ n _ s q _ fun c F1 H1 n1 s1 e1 q1 => by
    cases c with
    | true =>
      rw [if_pos rfl] at q1 ⊢
      exact k true F1 H1 n1 s1 e1 q1
    | false =>
      rw [if_neg (by decide)] at q1 ⊢
      exact hb F0 H0 F1 H1 σ Γ n1 Q s1 q1 Q' fun b F2 H2 n2 s2 e2 q2 => k b F2 H2 n2 s2 (e1.trans e2) q2
theorem lt_not (ha : LT p O tA mA) : LT p O (tNot tA) (mNot mA) := fun F0 H0 F H σ Γ n Q s q Q' k =>
  ha F0 H0 F H σ Γ n _ s q _ fun c F1 H1 n1 s1 e1 q1 => k (!c) F1 H1 n1 s1 e1 q1
theorem w_and1 (ha : RT X p O a tA mA) : RW X p O (.BoolOp .And [a] pos) tA mA := ⟨pw_and1 ha.pt, ha.le⟩
theorem w_or1 (ha : RT X p O a tA mA) : RW X p O (.BoolOp .Or [a] pos) tA mA := ⟨pw_or1 ha.pt, ha.le⟩
theorem w_and (ha : RT X p O a tA mA) (hb : RW X p O (.BoolOp .And (b :: rest) pos) tB' mB) : RW X p O (.BoolOp .And (a :: b :: rest) pos) (tAnd tA tB') (mAnd mA mB) := ⟨pw_and ha.pt hb.pw, lt_and ha.le hb.le⟩
theorem w_or (ha : RT X p O a tA mA) (hb : RW X p O (.BoolOp .Or (b :: rest) pos) tB' mB) : RW X p O (.BoolOp .Or (a :: b :: rest) pos) (tOr tA tB') (mOr mA mB) := ⟨pw_or ha.pt hb.pw, lt_or ha.le hb.le⟩
theorem RW.t (h : RW X p O a tA mA) : RT X p O a tA mA := ⟨h.pw.pt, h.le⟩
theorem t_not (ha : RT X p O a tA mA) : RT X p O (.UnaryOp .Not a pos) (tNot tA) (mNot mA) := ⟨pt_not ha.pt, lt_not ha.le⟩
/-- as values -/
@[reducible] def mAndV (m u : ME) : ME := fun Γ n Q => m Γ n fun x n1 => ∃ c, x = .bool c ∧ if c = true then u Γ n1 Q else Q (.bool false) n1
@[reducible] def mOrV (m u : ME) : ME := fun Γ n Q => m Γ n fun x n1 => ∃ c, x = .bool c ∧ if c = true then Q (.bool true) n1 else u Γ n1 Q
@[reducible] def mNotV (m : ME) : ME := fun Γ n Q => m Γ n fun x n1 => ∃ c, x = .bool c ∧ Q (.bool (!c)) n1
theorem le_andV (ha : LE p O ta ma) (hb : LE p O tb mb) : LE p O (tAndV ta tb) (mAndV ma mb) := fun F0 H0 F H σ Γ n Q s q Q' k =>
  ha F0 H0 F H σ Γ n _ s q _ fun d v F1 H1 n1 s1 e1 r1 ⟨c, ec, q1⟩ => by
    subst ec
    refine ⟨c, r1.bl_inv, ?_⟩
    cases c with
    | true =>
      rw [if_pos rfl] at q1 ⊢
      exact hb F0 H0 F1 H1 σ Γ n1 Q s1 q1 Q' fun d v F2 H2 n2 s2 e2 r2 q2 => k d v F2 H2 n2 s2 (e1.trans e2) r2 q2
    | false =>
      rw [if_neg (by decide)] at q1 ⊢
      exact k _ _ F1 H1 n1 s1 e1 (.bl false) q1
theorem le_orV (ha : LE p O ta ma) (hb : LE p O tb mb) : LE p O (tOrV ta tb) (mOrV ma mb) := fun F0 H0 F H σ Γ n Q s q Q' k =>
  ha F0 H0 F H σ Γ n _ s q _ fun d v F1 H1 n1 s1 e1 r1 ⟨c, ec, q1⟩ => by
    subst ec
    refine ⟨c, r1.bl_inv, ?_⟩
    cases c with
    | true =>
      rw [if_pos rfl] at q1 ⊢
      exact k _ _ F1 H1 n1 s1 e1 (.bl true) q1
    | false =>
      rw [if_neg (by decide)] at q1 ⊢
      exact hb F0 H0 F1 H1 σ Γ n1 Q s1 q1 Q' fun d v F2 H2 n2 s2 e2 r2 q2 => k d v F2 H2 n2 s2 (e1.trans e2) r2 q2
theorem le_notV (ha : LE p O ta ma) : LE p O (tNotV ta) (mNotV ma) := fun F0 H0 F H σ Γ n Q s q Q' k =>
  ha F0 H0 F H σ Γ n _ s q _ fun d v F1 H1 n1 s1 e1 r1 ⟨c, ec, q1⟩ => by
    subst ec
    exact ⟨c, r1.bl_inv, k _ _ F1 H1 n1 s1 e1 (.bl _) q1⟩
theorem e_one {op} (h : RE X p O a ta ma) : RE X p O (.BoolOp op [a] pos) ta ma := ⟨pe_one h.pe, h.le⟩
theorem e_and (ha : RE X p O a ta ma) (hb : RE X p O (.BoolOp .And (b :: rest) pos) tb mb) : RE X p O (.BoolOp .And (a :: b :: rest) pos) (tAndV ta tb) (mAndV ma mb) := ⟨pe_and ha.pe hb.pe, le_andV ha.le hb.le⟩
theorem e_or (ha : RE X p O a ta ma) (hb : RE X p O (.BoolOp .Or (b :: rest) pos) tb mb) : RE X p O (.BoolOp .Or (a :: b :: rest) pos) (tOrV ta tb) (mOrV ma mb) := ⟨pe_or ha.pe hb.pe, le_orV ha.le hb.le⟩
theorem e_not (ha : RE X p O a ta ma) : RE X p O (.UnaryOp .Not a pos) (tNotV ta) (mNotV ma) := ⟨pe_not ha.pe, le_notV ha.le⟩
@[reducible] def mIf (t : MT) (ma mb : ME) : ME := fun Γ n Q => t Γ n fun c n1 => if c = true then ma Γ n1 Q else mb Γ n1 Q
theorem le_if (hc : LT p O tA mA) (ha : LE p O ta ma) (hb : LE p O tb mb) : LE p O (tIf tA ta tb) (mIf mA ma mb) := fun F0 H0 F H σ Γ n Q s q Q' k =>
  hc F0 H0 F H σ Γ n _ s q _ fun c F1 H1 n1 s1 e1 q1 => by
    cases c with
    | true =>
      rw [if_pos rfl] at q1 ⊢
      exact ha F0 H0 F1 H1 σ Γ n1 Q s1 q1 Q' fun d v F2 H2 n2 s2 e2 r2 q2 => k d v F2 H2 n2 s2 (e1.trans e2) r2 q2
    | false =>
      rw [if_neg (by decide)] at q1 ⊢
      exact hb F0 H0 F1 H1 σ Γ n1 Q s1 q1 Q' fun d v F2 H2 n2 s2 e2 r2 q2 => k d v F2 H2 n2 s2 (e1.trans e2) r2 q2
theorem e_if (hc : RT X p O c tA mA) (ha : RE X p O a ta ma) (hb : RE X p O b tb mb) : RE X p O (.IfExp c a b pos) (tIf tA ta tb) (mIf mA ma mb) := ⟨pe_ifExp hc.pt ha.pe hb.pe, le_if hc.le ha.le hb.le⟩
@[reducible] def mNil : MA := fun _ n Q => Q [] n
@[reducible] def mCons (m : ME) (u : MA) : MA := fun Γ n Q => m Γ n fun d n1 => u Γ n1 fun ds n2 => Q (d :: ds) n2
variable {es : List Expr} {t : TA} {m : MA}
theorem a_nil : RA X p O [] tNil mNil := ⟨pa_nil, fun F0 H0 F H σ Γ n Q s q Q' k => k [] [] F H n s .refl .nil q⟩
theorem la_cons (ha : LE p O te me) (hr : LA p O t m) : LA p O (tCons te t) (mCons me m) := fun F0 H0 F H σ Γ n Q s q Q' k =>
  ha F0 H0 F H σ Γ n _ s q _ fun d v F1 H1 n1 s1 e1 r1 q1 =>
    hr F0 H0 F1 H1 σ Γ n1 _ s1 q1 _ fun ds vs F2 H2 n2 s2 e2 r2 q2 => k (d :: ds) (v :: vs) F2 H2 n2 s2 (e1.trans e2) (.cons (r1.mono e2.f) r2) q2
theorem a_cons (ha : RE X p O e te me) (hr : RA X p O es t m) (hs : starEach (e :: es) X.env = (false, eval e X.env) :: starEach es X.env := by rfl) : RA X p O (e :: es) (tCons te t) (mCons me m) := ⟨pa_cons ha.pe hr.pa hs, la_cons ha.le hr.le⟩
/-- sizes: a list, a tuple, a text of at most so many -/
def lim : Nat := 100000
theorem lim_line {n : Nat} (h : n ≤ lim) : n ≤ sizeLine := Nat.le_trans h (by decide)
theorem lim_lt {n : Nat} (h : n ≤ lim) : n < sizeLine := Nat.lt_of_le_of_lt h (by decide)
@[reducible] def mTup (m : MA) : ME := fun Γ n Q => m Γ n fun ds n1 => ds.length ≤ lim ∧ Q (.tuple ds) n1
@[reducible] def mLst (m : MA) : ME := fun Γ n Q => m Γ n fun ds n1 => ds.length ≤ lim ∧ Q (.list ds) n1
theorem Rp.new_tup {K : PySem.W.Frag} {F H : Hp} {q : Addr} {ds : List D} {vs : List V} (r : Rps K F ds vs) (f : F q = none) : Rp K (upd F q (.tup vs)) (.tuple ds) (.ref q) := .of_tup (.inl (.inl upd_same)) (r.mono (same_up f))
theorem Rp.new_lst {K : PySem.W.Frag} {F H : Hp} {q : Addr} {ds : List D} {vs : List V} (r : Rps K F ds vs) (f : F q = none) : Rp K (upd F q (.lst vs)) (.list ds) (.ref q) := .of_lst upd_same (r.mono (same_up f))
theorem le_tup (h : LA p O t m) : LE p O (tTup t) (mTup m) := fun F0 H0 F H σ Γ n Q s q Q' k =>
  h F0 H0 F H σ Γ n _ s q _ fun ds vs F1 H1 n1 s1 e1 r1 ⟨l, q1⟩ => by
    refine ⟨by rw [r1.len]; exact lim_line l, fun x hx => ?_⟩
    have g := Gr.new1 (F := F1) s1.fh hx (.tup vs)
    exact k _ _ _ _ n1 (s1.gr g) (e1.trans g.gp) (Rp.new_tup (H := H1) r1 (s1.fh.free hx)) q1
theorem le_lst (h : LA p O t m) : LE p O (tLst t) (mLst m) := fun F0 H0 F H σ Γ n Q s q Q' k =>
  h F0 H0 F H σ Γ n _ s q _ fun ds vs F1 H1 n1 s1 e1 r1 ⟨l, q1⟩ => by
    refine ⟨by rw [r1.len]; exact lim_line l, fun x hx => ?_⟩
    have g := Gr.new1 (F := F1) s1.fh hx (.lst vs)
    exact k _ _ _ _ n1 (s1.gr g) (e1.trans g.gp) (Rp.new_lst (H := H1) r1 (s1.fh.free hx)) q1
theorem e_tup {x1} (h : RA X p O es t m) : RE X p O (.Tuple es x1 pos) (tTup t) (mTup m) := ⟨pe_tup h.pa, le_tup h.le⟩
theorem e_lst (h : RA X p O es t m) : RE X p O (.List es pos) (tLst t) (mLst m) := ⟨pe_lst h.pa, le_lst h.le⟩
@[reducible] def mCl (f : List D → Option D) (m : MA) : ME := fun Γ n Q => m Γ n fun ds n1 => ∃ d, f ds = some d ∧ Q d n1
theorem le_cl {r : List V → Hp → VK → Prop} {f : List D → Option D} (l : ClL p.K r f) (h : LA p O t m) : LE p O (tCB r t) (mCl f m) := fun F0 H0 F H σ Γ n Q s q Q' k =>
  h F0 H0 F H σ Γ n _ s q _ fun ds vs F1 H1 n1 s1 e1 r1 ⟨d, fe, q1⟩ =>
    l F1 H1 vs ds d s1.fh r1 fe _ fun v F3 H3 g r3 => k d v F3 H3 n1 (s1.gr g) (e1.trans g.gp) r3 q1
theorem e_ix {r : R2} {f : D → D → Option D} (hr : IxR X r) (l : OpL p.K r f) (ha : RE X p O a ta ma) (hb : RE X p O b tb mb) (hs : PlainIx b) : RE X p O (.Subscript a b pos) (tOp r ta tb) (mOp f ma mb) := ⟨pe_ix hr ha.pe hb.pe hs, le_op l ha.le hb.le⟩
end
end RR
end
section
namespace RR
open PySem PySem.Spec L2
open PyProof.Rows hiding St
def dAdd : D → D → Option D
  | .int i, .int j => some (.int (i + j))
  | .list xs, .list ys => if xs.length + ys.length ≤ lim then some (.list (xs ++ ys)) else none
  | .tuple xs, .tuple ys => if xs.length + ys.length ≤ lim then some (.tuple (xs ++ ys)) else none
  | _, _ => none
def dAddI : D → D → Option D
  | .int i, .int j => some (.int (i + j))
  | _, _ => none
def dSub : D → D → Option D
  | .int i, .int j => some (.int (i - j))
  | _, _ => none
def dMul : D → D → Option D
  | .int i, .int j => if (-(2 ^ 64) < i ∧ i < 2 ^ 64) ∨ (-(2 ^ 64) < j ∧ j < 2 ^ 64) then some (.int (i * j)) else none
  | .list xs, .int k => if xs.length * k.toNat ≤ lim ∧ -(2 ^ 63) ≤ k ∧ k < 2 ^ 63 then some (.list (List.replicate k.toNat xs).flatten) else none
  | _, _ => none
def dMod : D → D → Option D
  | .int i, .int j => if 0 < j then some (.int (i % j)) else none
  | _, _ => none
def dPow : D → D → Option D
  | .int i, .int j => if 0 ≤ j ∧ j ≤ 1000000 ∧ i.natAbs < 2 ^ 64 then some (.int (i ^ j.toNat)) else none
  | _, _ => none
def dCmp (p : Int → Int → Bool) : D → D → Option D
  | .int i, .int j => some (.bool (p i j))
  | _, _ => none
@[reducible] def dLt := dCmp fun i j => decide (i < j)
@[reducible] def dLe := dCmp fun i j => decide (i ≤ j)
@[reducible] def dGt := dCmp fun i j => decide (j < i)
@[reducible] def dGe := dCmp fun i j => decide (j ≤ i)
def dNeg : D → Option D
  | .int i => some (.int (-i))
  | _ => none
def scalD : D → D → Bool
  | .int _, .int _ => true
  | .str _, .str _ => true
  | .bool _, .bool _ => true
  | _, _ => false
def dEq (x y : D) : Option D := if scalD x y = true ∨ (SeqAt.shaped x = true ∧ SeqAt.shaped y = true) then some (.bool (PyData.eqv x y)) else none
def dNe (x y : D) : Option D := if scalD x y = true ∨ (SeqAt.shaped x = true ∧ SeqAt.shaped y = true) then some (.bool (!PyData.eqv x y)) else none
/-- of a dict -/
def keyOf : D → Option Key
  | .int i => some (.inl i)
  | .str x => some (.inr x)
  | _ => none
def dLook (kvs : List (D × D)) (k : D) : Option D := (kvs.find? fun q => PyData.eqv q.1 k).map (·.2)
def isKey (d : D) : Bool := (keyOf d).isSome
def flatD : D → Bool
  | .none => true
  | .bool _ => true
  | .int _ => true
  | .str _ => true
  | _ => false
def anyEq (x : D) (xs : List D) : Bool := xs.any fun y => PyData.eqv y x
def dIn (x : D) : D → Option D
  | .list xs => if SeqAt.shaped x = true ∧ SeqAt.shaped (.list xs) = true then some (.bool (anyEq x xs)) else none
  | .tuple xs => if flatD x = true ∧ xs.all flatD = true then some (.bool (anyEq x xs)) else none
  | .dict kvs => if isKey x = true then some (.bool (dLook kvs x).isSome) else none
  | _ => none
def dNotIn (x : D) : D → Option D
  | .list xs => if SeqAt.shaped x = true ∧ SeqAt.shaped (.list xs) = true then some (.bool (!anyEq x xs)) else none
  | .tuple xs => if flatD x = true ∧ xs.all flatD = true then some (.bool (!anyEq x xs)) else none
  | .dict kvs => if isKey x = true then some (.bool (!(dLook kvs x).isSome)) else none
  | _ => none
def dIx : D → D → Option D
  | .list xs, .int i => atI xs i
  | .tuple xs, .int i => atI xs i
  | .dict kvs, k => if isKey k = true then dLook kvs k else none
  | _, _ => none
section
variable {X : Cx} {K : PySem.W.Frag}
theorem OpL.or {r r' : R2} {f g : D → D → Option D} (l : OpL K r f) (l' : OpL K r' g) {h : D → D → Option D} (e : ∀ x y d, h x y = some d → f x y = some d ∨ g x y = some d) : OpL K (fun x y H Q => r x y H Q ∨ r' x y H Q) h :=
  fun F H x y dx dy d s rx ry fe Q' k => (e _ _ _ fe).elim (fun z => .inl (l F H x y dx dy d s rx ry z Q' k)) fun z => .inr (l' F H x y dx dy d s rx ry z Q' k)
theorem OpL.imp {r : R2} {f h : D → D → Option D} (l : OpL K r f) (e : ∀ x y d, h x y = some d → f x y = some d) : OpL K r h := fun F H x y dx dy d s rx ry fe => l F H x y dx dy d s rx ry (e _ _ _ fe)
/-- ints alone -/
theorem opl_int {C : Int → Int → Prop} {g : Int → Int → V} {f : D → D → Option D} (h : ∀ x y d, f x y = some d → ∃ i j, x = .int i ∧ y = .int j ∧ C i j ∧ ∀ F, Rp K F d (g i j)) : OpL K (rI C g) f :=
  fun F H x y dx dy d s rx ry fe Q' k => by
    obtain ⟨i, j, rfl, rfl, c, w⟩ := h _ _ _ fe
    exact ⟨i, j, rx.int_inv, ry.int_inv, c, k _ F H (.refl s) (w F)⟩
theorem opl_int0 {g : Int → Int → V} {f : D → D → Option D} (h : ∀ x y d, f x y = some d → ∃ i j, x = .int i ∧ y = .int j ∧ ∀ F, Rp K F d (g i j)) : OpL K (rI0 g) f :=
  fun F H x y dx dy d s rx ry fe Q' k => by
    obtain ⟨i, j, rfl, rfl, w⟩ := h _ _ _ fe
    exact ⟨i, j, rx.int_inv, ry.int_inv, k _ F H (.refl s) (w F)⟩
theorem l_addI : OpL K (rI0 fun i j => .int (i + j)) (fun x y => match x, y with | .int i, .int j => some (.int (i + j)) | _, _ => none) := opl_int0 fun x y d e => by
  split at e <;> first | (cases e; exact ⟨_, _, rfl, rfl, fun _ => .int _⟩) | cases e
theorem l_cat : OpL K rCat (fun x y => match x, y with | .list xs, .list ys => if xs.length + ys.length ≤ lim then some (.list (xs ++ ys)) else none | _, _ => none) := fun F H x y dx dy d s rx ry fe Q' k => by
  dsimp only at fe
  split at fe
  · rename_i xs ys
    split at fe
    · rename_i hl
      cases fe
      obtain ⟨a, vs, rfl, e1, r1⟩ := rx.lst_inv
      obtain ⟨b, ws, rfl, e2, r2⟩ := ry.lst_inv
      refine ⟨a, b, vs, ws, rfl, rfl, s _ _ e1, s _ _ e2, by rw [r1.len, r2.len]; exact lim_line hl, fun q hq => ?_⟩
      exact k _ _ _ (Gr.new1 s hq _) (Rp.new_lst (H := H) (r1.append r2) (s.free hq))
    · cases fe
  · cases fe
theorem l_catT : OpL K (rCatA K) (fun x y => match x, y with | .tuple xs, .tuple ys => if xs.length + ys.length ≤ lim then some (.tuple (xs ++ ys)) else none | _, _ => none) := fun F H x y dx dy d s rx ry fe Q' k => by
  dsimp only at fe
  split at fe
  · rename_i xs ys
    split at fe
    · rename_i hl
      cases fe
      obtain ⟨a, vs, rfl, e1, r1⟩ := rx.tup_inv
      obtain ⟨b, ws, rfl, e2, r2⟩ := ry.tup_inv
      refine ⟨a, b, vs, ws, rfl, rfl, Same.sqt s e1, Same.sqt s e2, by rw [r1.len, r2.len]; exact lim_line hl, fun z => ?_, fun _ z => ?_, fun _ _ q hq => ?_⟩
      · subst z
        have : xs = [] := List.length_eq_zero_iff.mp r1.len.symm
        subst this
        exact k _ F H (.refl s) (.of_tup e2 r2)
      · subst z
        have : ys = [] := List.length_eq_zero_iff.mp r2.len.symm
        subst this
        rw [List.append_nil] at k
        exact k _ F H (.refl s) (.of_tup e1 r1)
      · exact k _ _ _ (Gr.new1 s hq _) (Rp.new_tup (H := H) (r1.append r2) (s.free hq))
    · cases fe
  · cases fe
def rAddA (K : PySem.W.Frag) : R2 := fun x y H Q => rI0 (fun i j => .int (i + j)) x y H Q ∨ (fun x y H Q => rCat x y H Q ∨ rCatA K x y H Q) x y H Q
theorem o_add : OpR X (binaryOp .Add) (rAddA X.K) := op_add.or (op_cat.or op_catA)
theorem l_add : OpL K (rAddA K) dAdd := l_addI.or (l_cat.or l_catT (h := fun x y => match x, y with
    | .list xs, .list ys => if xs.length + ys.length ≤ lim then some (.list (xs ++ ys)) else none
    | .tuple xs, .tuple ys => if xs.length + ys.length ≤ lim then some (.tuple (xs ++ ys)) else none
    | _, _ => none) (fun x y d e => by split at e <;> first | exact .inl e | exact .inr e | cases e)) (fun x y d e => by
  unfold dAdd at e
  split at e <;> first | exact .inl e | exact .inr e | cases e)
theorem l_sub : OpL K (rI0 fun i j => .int (i - j)) dSub := opl_int0 fun x y d e => by
  unfold dSub at e
  split at e <;> first | (cases e; exact ⟨_, _, rfl, rfl, fun _ => .int _⟩) | cases e
theorem Rps.rep {F : Hp} {ds : List D} {xs : List V} (h : Rps K F ds xs) : ∀ n, Rps K F (List.replicate n ds).flatten (List.replicate n xs).flatten
  | 0 => .nil
  | n + 1 => by rw [List.replicate_succ, List.replicate_succ]; exact h.append (h.rep n)
theorem l_mulI : OpL K (rI CMul fun i j => .int (i * j)) (fun x y => match x, y with | .int i, .int j => if (-(2 ^ 64) < i ∧ i < 2 ^ 64) ∨ (-(2 ^ 64) < j ∧ j < 2 ^ 64) then some (.int (i * j)) else none | _, _ => none) := opl_int fun x y d e => by
  split at e
  · split at e
    · rename_i h
      cases e
      exact ⟨_, _, rfl, rfl, h, fun _ => .int _⟩
    · cases e
  · cases e
theorem l_mul : OpL K (fun x y H Q => rI CMul (fun i j => .int (i * j)) x y H Q ∨ rRep x y H Q) dMul := l_mulI.or (g := fun x y => match x, y with | .list xs, .int k => if xs.length * k.toNat ≤ lim ∧ -(2 ^ 63) ≤ k ∧ k < 2 ^ 63 then some (.list (List.replicate k.toNat xs).flatten) else none | _, _ => none) (fun F H x y dx dy d s rx ry fe Q' k => by
  dsimp only at fe
  split at fe
  · split at fe
    · rename_i hl
      cases fe
      obtain ⟨a, vs, rfl, e1, r1⟩ := rx.lst_inv
      cases ry.int_inv
      refine ⟨a, _, vs, rfl, rfl, s _ _ e1, hl.2.1, hl.2.2, by rw [r1.len]; exact lim_line hl.1, fun q hq => ?_⟩
      exact k _ _ _ (Gr.new1 s hq _) (Rp.new_lst (H := H) (r1.rep _) (s.free hq))
    · cases fe
  · cases fe) (fun x y d e => by
  unfold dMul at e
  split at e <;> first | exact .inl e | exact .inr e | cases e)
theorem o_mul : OpR X (binaryOp .Mult) (fun x y H Q => rI CMul (fun i j => .int (i * j)) x y H Q ∨ rRep x y H Q) := op_mul.or op_rep
theorem l_mod : OpL K (rI (fun _ j => 0 < j) fun i j => .int (i % j)) dMod := opl_int fun x y d e => by
  unfold dMod at e
  split at e
  · split at e
    · rename_i h
      cases e
      exact ⟨_, _, rfl, rfl, h, fun _ => .int _⟩
    · cases e
  · cases e
theorem l_pow : OpL K (rI CPow fun i j => .int (i ^ j.toNat)) dPow := opl_int fun x y d e => by
  unfold dPow at e
  split at e
  · split at e
    · rename_i h
      cases e
      exact ⟨_, _, rfl, rfl, h, fun _ => .int _⟩
    · cases e
  · cases e
theorem l_cmp {p : Int → Int → Bool} : OpL K (rI0 fun i j => .bl (p i j)) (dCmp p) := opl_int0 fun x y d e => by
  unfold dCmp at e
  split at e <;> first | (cases e; exact ⟨_, _, rfl, rfl, fun _ => .bl _⟩) | cases e
theorem l_neg : UnL K (rU fun i => .int (-i)) dNeg := fun F H x dx d s rx fe Q' k => by
  unfold dNeg at fe
  split at fe
  · cases fe
    exact ⟨_, rx.int_inv, k _ F H (.refl s) (.int _)⟩
  · cases fe
mutual
theorem Rp.dp {F : Hp} : ∀ (d : D) (v : V), d.canLay0 = true → Rp K F d v → Dp K F v d
  | .none, v, _, h => by cases h; exact .non
  | .bool b, v, _, h => by cases h; exact .bl b
  | .int i, v, _, h => by cases h; exact .int i
  | .str x, v, _, h => by cases h; exact .str x
  | .list ds, v, c, h => by
    obtain ⟨a, xs, rfl, e, r⟩ := h.lst_inv
    exact .lst (.of e) (Rp.dps ds xs (by simpa [PyData.canLay0] using c) r)
  | .tuple ds, v, c, h => by
    obtain ⟨a, xs, rfl, e, r⟩ := h.tup_inv
    exact .tup e (Rp.dps ds xs (by simpa [PyData.canLay0] using c) r)
  | .dict _, v, c, h => by simp [PyData.canLay0] at c
theorem Rp.dps {F : Hp} : ∀ (ds : List D) (vs : List V), PyData.canLayAll0 ds = true → Rps K F ds vs → DpAll K F vs ds
  | [], vs, _, h => by rw [h.unnil]; exact .nil
  | d :: ds, vs, c, h => by
    obtain ⟨v, r, rfl, h1, h2⟩ := h.uncons
    rw [PyData.canLayAll0, Bool.and_eq_true] at c
    exact .cons (Rp.dp d v c.1 h1) (Rp.dps ds r c.2 h2)
end
theorem Rp.dpS {F : Hp} {d : D} {v : V} (c : SeqAt.shaped d = true) (h : Rp K F d v) : Dp K F v d := Rp.dp d v (SeqAt.canLay_of_shaped c) h
theorem Rp.scal {F : Hp} {d e : D} {x y : V} (c : scalD d e = true) (h : Rp K F d x) (h' : Rp K F e y) : L2.scal x y = true ∧ decide (x = y) = PyData.eqv d e := by
  cases d <;> cases e <;> (try (exfalso; unfold scalD at c; cases c; done))
  · cases h.bl_inv; cases h'.bl_inv; exact ⟨rfl, by rw [dec_bl]; simp [PyData.eqv]⟩
  · cases h.int_inv; cases h'.int_inv; exact ⟨rfl, by rw [dec_int]; simp [PyData.eqv]⟩
  · cases h.str_inv; cases h'.str_inv; exact ⟨rfl, by rw [dec_str]; simp [PyData.eqv]⟩
def rEqA (K : PySem.W.Frag) : R2 := fun x y H Q => rEq x y H Q ∨ rEqD K x y H Q
def rNeA (K : PySem.W.Frag) : R2 := fun x y H Q => rNe x y H Q ∨ rNeD K x y H Q
theorem o_eq (hu : X.A.units + 64 < cLine) : OpR X (compareOp .Eq) (rEqA X.K) := op_eq.or (op_eqD hu)
theorem o_ne (hu : X.A.units + 64 < cLine) : OpR X (compareOp .NotEq) (rNeA X.K) := op_ne.or (op_neD hu)
theorem l_eq : OpL K (rEqA K) dEq := fun F H x y dx dy d s rx ry fe Q' k => by
  unfold dEq at fe
  split at fe
  · rename_i h
    cases fe
    rcases h with h | h
    · obtain ⟨h1, h2⟩ := rx.scal h ry
      exact .inl ⟨h1, by rw [h2]; exact k _ F H (.refl s) (.bl _)⟩
    · exact .inr ⟨dx, dy, (rx.mono s).dpS h.1, (ry.mono s).dpS h.2, h.1, h.2, k _ F H (.refl s) (.bl _)⟩
  · cases fe
theorem l_ne : OpL K (rNeA K) dNe := fun F H x y dx dy d s rx ry fe Q' k => by
  unfold dNe at fe
  split at fe
  · rename_i h
    cases fe
    rcases h with h | h
    · obtain ⟨h1, h2⟩ := rx.scal h ry
      exact .inl ⟨h1, by rw [h2]; exact k _ F H (.refl s) (.bl _)⟩
    · exact .inr ⟨dx, dy, (rx.mono s).dpS h.1, (ry.mono s).dpS h.2, h.1, h.2, k _ F H (.refl s) (.bl _)⟩
  · cases fe
theorem Rp.flat {F : Hp} {d : D} {v : V} (f : flatD d = true) (h : Rp K F d v) : flatV v = true := by
  cases h <;> first | rfl | (unfold flatD at f; cases f)
theorem Rp.eqV {F : Hp} {d e : D} {x y : V} (f : flatD d = true) (g : flatD e = true) (h : Rp K F d x) (h' : Rp K F e y) : eqV x y = PyData.eqv d e := by
  cases h <;> (try (unfold flatD at f; cases f)) <;> cases h' <;> (try (unfold flatD at g; cases g)) <;> simp [L2.eqV, PyData.eqv]
theorem Rps.all_flat {F : Hp} : ∀ {ds : List D} {xs : List V}, ds.all flatD = true → Rps K F ds xs → xs.all flatV = true
  | [], xs, _, h => by rw [h.unnil]; rfl
  | d :: ds, xs, f, h => by
    obtain ⟨v, r, rfl, h1, h2⟩ := h.uncons
    rw [List.all_cons, Bool.and_eq_true] at f ⊢
    exact ⟨h1.flat f.1, Rps.all_flat f.2 h2⟩
theorem Rps.anyEq {F : Hp} {d : D} {x : V} (fd : flatD d = true) (rx : Rp K F d x) : ∀ {ds : List D} {xs : List V}, ds.all flatD = true → Rps K F ds xs → inV x xs = anyEq d ds
  | [], xs, _, h => by rw [h.unnil]; rfl
  | e :: ds, xs, f, h => by
    obtain ⟨v, r, rfl, h1, h2⟩ := h.uncons
    rw [List.all_cons, Bool.and_eq_true] at f
    show (eqV v x || inV x r) = (PyData.eqv e d || RR.anyEq d ds)
    rw [Rps.anyEq fd rx f.2 h2, Rp.eqV f.1 fd h1 rx]
/-- a dict's entry -/
theorem keyD_of {F : Hp} {d : D} {v : V} (i : isKey d = true) (h : Rp K F d v) : ∃ k : Key, v = kV k ∧ d = keyD k := by
  cases h <;> first | (exfalso; simp [isKey, keyOf] at i; done) | exact ⟨.inl _, rfl, rfl⟩ | exact ⟨.inr _, rfl, rfl⟩
theorem eqv_key (j k : Key) : PyData.eqv (keyD j) (keyD k) = decide (j = k) := by
  cases j <;> cases k
  · simp only [keyD, PyData.eqv]; rw [key_ll]
  · simp only [keyD, PyData.eqv]; exact (key_lr _ _).symm
  · simp only [keyD, PyData.eqv]; exact (key_rl _ _).symm
  · simp only [keyD, PyData.eqv]; rw [key_rr]; rename_i a b; by_cases e : a = b <;> simp [e]
theorem dct_look {F : Hp} (k : Key) : ∀ {kvs : List (Key × V)} {ds : List (D × D)}, ds.map (·.1) = kvs.map (fun p => keyD p.1) → (∀ (i : Nat) x d, kvs[i]? = some x → ds[i]? = some d → Rp K F d.2 x.2) →
    match dLook ds (keyD k) with | some d => ∃ v, valV kvs k = some v ∧ Rp K F d v | none => valV kvs k = none
  | [], [], _, _ => rfl
  | [], _ :: _, e, _ => by simp at e
  | _ :: _, [], e, _ => by simp at e
  | q :: kvs, d :: ds, e, r => by
    obtain ⟨d1, d2⟩ := d
    simp only [List.map_cons, List.cons.injEq] at e
    obtain ⟨e1, e2⟩ := e
    subst e1
    by_cases hk : q.1 = k
    · have h1 : dLook ((keyD q.1, d2) :: ds) (keyD k) = some d2 := by
        unfold dLook
        rw [List.find?_cons_of_pos (by rw [eqv_key]; exact decide_eq_true hk)]
        rfl
      rw [h1]
      exact ⟨_, valV_pos hk, r 0 q (_, d2) rfl rfl⟩
    · have h1 : dLook ((keyD q.1, d2) :: ds) (keyD k) = dLook ds (keyD k) := by
        unfold dLook
        rw [List.find?_cons_of_neg (by rw [eqv_key, decide_eq_false hk]; decide)]
      rw [h1, valV_neg hk]
      exact dct_look k e2 fun i x d a b => r (i + 1) x d (by simpa using a) (by simpa using b)
theorem dct_get {F : Hp} {ds : List (D × D)} {a : V} {d : D} {y : V} (h : Rp K F (.dict ds) a) (i : isKey d = true) (ry : Rp K F d y) :
    ∃ b o, a = .ref b ∧ DGet F b y o ∧ (match dLook ds d with | some e => ∃ v, o = some v ∧ Rp K F e v | none => o = none) := by
  obtain ⟨k, rfl, rfl⟩ := keyD_of i ry
  cases h with
  | dct h1 h2 h3 =>
    rename_i b kvs
    refine ⟨b, valV kvs k, rfl, .inl ⟨kvs, k, h1, rfl, rfl⟩, ?_⟩
    exact dct_look k h2 h3
def rDIn (neg : Bool) : R2 := fun y x H Q => ∃ a o, x = .ref a ∧ DGet H a y o ∧ Q (.bl (if neg then !o.isSome else o.isSome)) H
theorem op_din (hu : X.A.units + 1 < cLine) : OpR X (compareOp .In) (rDIn false) := fun pins s σ H x y v u Q I rx ry h => by
  obtain ⟨a, o, rfl, g, q⟩ := h
  cases ry
  exact d_in hu I g rx fun s' I' => ⟨.bl o.isSome, H, I', rfl, q⟩
theorem op_dnotin (hu : X.A.units + 1 < cLine) : OpR X (compareOp .NotIn) (rDIn true) := fun pins s σ H x y v u Q I rx ry h => by
  obtain ⟨a, o, rfl, g, q⟩ := h
  cases ry
  exact d_notIn hu I g rx fun s' I' => ⟨.bl (!o.isSome), H, I', rfl, q⟩
theorem l_din {neg : Bool} : OpL K (rDIn neg) (fun x y => match y with | .dict kvs => if isKey x = true then some (.bool (if neg then !(dLook kvs x).isSome else (dLook kvs x).isSome)) else none | _ => none) := fun F H x y dx dy d s rx ry fe Q' k => by
  dsimp only at fe
  split at fe
  · rename_i kvs
    by_cases hk : isKey dx = true
    · rw [if_pos hk] at fe
      cases fe
      obtain ⟨b, o, rfl, g, w⟩ := dct_get (ry.mono s) hk (rx.mono s)
      refine ⟨b, o, rfl, g, k _ F H (.refl s) ?_⟩
      have e : o.isSome = (dLook kvs dx).isSome := by
        split at w
        · rename_i e1
          obtain ⟨v, rfl, _⟩ := w
          rw [e1]; rfl
        · rename_i e1
          rw [w, e1]; rfl
      rw [e]
      exact .bl _
    · rw [if_neg hk] at fe
      cases fe
  · cases fe
def rInA (K : PySem.W.Frag) : R2 := fun x y H Q => rInD K x y H Q ∨ (fun x y H Q => rIn K false x y H Q ∨ rDIn false x y H Q) x y H Q
def rNotInA (K : PySem.W.Frag) : R2 := fun x y H Q => rNotInD K x y H Q ∨ (fun x y H Q => rIn K true x y H Q ∨ rDIn true x y H Q) x y H Q
theorem o_in (hu : X.A.units + 65 < cLine) : OpR X (compareOp .In) (rInA X.K) := (op_inD hu).or (op_in_seq.or (op_din (by omega)))
theorem o_notIn (hu : X.A.units + 65 < cLine) : OpR X (compareOp .NotIn) (rNotInA X.K) := (op_notInD hu).or (op_notIn_seq.or (op_dnotin (by omega)))
theorem l_inD : OpL K (rInD K) (fun x y => match y with | .list xs => if SeqAt.shaped x = true ∧ SeqAt.shaped (.list xs) = true then some (.bool (anyEq x xs)) else none | _ => none) := fun F H x y dx dy d s rx ry fe Q' k => by
  dsimp only at fe
  split at fe
  · split at fe
    · rename_i h
      cases fe
      exact ⟨dx, _, (rx.mono s).dpS h.1, (ry.mono s).dpS h.2, h.1, h.2, k _ F H (.refl s) (.bl _)⟩
    · cases fe
  · cases fe
theorem l_notInD : OpL K (rNotInD K) (fun x y => match y with | .list xs => if SeqAt.shaped x = true ∧ SeqAt.shaped (.list xs) = true then some (.bool (!anyEq x xs)) else none | _ => none) := fun F H x y dx dy d s rx ry fe Q' k => by
  dsimp only at fe
  split at fe
  · split at fe
    · rename_i h
      cases fe
      exact ⟨dx, _, (rx.mono s).dpS h.1, (ry.mono s).dpS h.2, h.1, h.2, k _ F H (.refl s) (.bl _)⟩
    · cases fe
  · cases fe
theorem l_inT {neg : Bool} : OpL K (rIn K neg) (fun x y => match y with | .tuple xs => if flatD x = true ∧ xs.all flatD = true then some (.bool (if neg then !anyEq x xs else anyEq x xs)) else none | _ => none) := fun F H x y dx dy d s rx ry fe Q' k => by
  dsimp only at fe
  split at fe
  · split at fe
    · rename_i h
      cases fe
      obtain ⟨a, vs, rfl, e1, r1⟩ := ry.tup_inv
      refine ⟨a, vs, rfl, .inr (Same.sqt s e1), rx.flat h.1, r1.all_flat h.2, ?_⟩
      rw [Rps.anyEq h.1 rx h.2 r1]
      exact k _ F H (.refl s) (.bl _)
    · cases fe
  · cases fe
theorem l_in : OpL K (rInA K) dIn := l_inD.or (l_inT.or l_din (h := fun x y => match y with
    | .tuple xs => if flatD x = true ∧ xs.all flatD = true then some (.bool (anyEq x xs)) else none
    | .dict kvs => if isKey x = true then some (.bool (dLook kvs x).isSome) else none
    | _ => none) (fun x y d e => by split at e <;> first | exact .inl e | exact .inr e | cases e)) (fun x y d e => by
  unfold dIn at e
  split at e <;> first | exact .inl e | exact .inr e | cases e)
theorem l_notIn : OpL K (rNotInA K) dNotIn := l_notInD.or (l_inT.or l_din (h := fun x y => match y with
    | .tuple xs => if flatD x = true ∧ xs.all flatD = true then some (.bool (!anyEq x xs)) else none
    | .dict kvs => if isKey x = true then some (.bool (!(dLook kvs x).isSome)) else none
    | _ => none) (fun x y d e => by split at e <;> first | exact .inl e | exact .inr e | cases e)) (fun x y d e => by
  unfold dNotIn at e
  split at e <;> first | exact .inl e | exact .inr e | cases e)
theorem ixN_eq {ds : List D} {xs : List V} {F : Hp} (h : Rps K F ds xs) {i : Int} {d : D} (e : atI ds i = some d) : ∃ v, atI xs i = some v ∧ Rp K F d v := by
  unfold atI at e ⊢
  rw [h.len]
  cases q : ixN ds.length i with
  | none => rw [q] at e; cases e
  | some j =>
    rw [q] at e
    exact h.get (by simpa using e)
def rIxD : R2 := fun x y H Q => ∃ a v, x = .ref a ∧ DGet H a y (some v) ∧ Q v H
theorem ix_dict (hu : X.A.units + 1 < cLine) : IxR X rIxD := fun value slice pins s σ H x y v u Q I rx ry h hs => by
  obtain ⟨a, z, rfl, g, q⟩ := h
  cases rx
  exact tail_any (dict_typeIs I g) PySem.F.slot_dict_getitem.lookup (d_getItem hu I g ry fun w' s3 I3 rw' => ⟨z, H, I3, rw', q⟩) hs
end
end RR
end
section
namespace RR
open PySem PySem.Spec L2
open PyProof.Rows hiding St
section
variable {X : Cx} {K : PySem.W.Frag} {p : Pm} {O : List Nat} {a b c e : Expr} {pos : Pos} {ta tb tc te : TE} {ma mb mc me : ME} {es : List Expr} {t : TA} {m : MA}
def rIxA (K : PySem.W.Frag) : R2 := fun x y H Q => rIxL K x y H Q ∨ (fun x y H Q => rIxT K x y H Q ∨ rIxD x y H Q) x y H Q
theorem o_ix (hu : X.A.units + 1 < cLine) : IxR X (rIxA X.K) := ix_list.or (ix_tup.or (ix_dict hu))
theorem l_ixL : OpL K (rIxL K) (fun x y => match x, y with | .list xs, .int i => atI xs i | _, _ => none) := fun F H x y dx dy d s rx ry fe Q' k => by
  dsimp only at fe
  split at fe
  · obtain ⟨a, vs, rfl, e1, r1⟩ := rx.lst_inv
    obtain ⟨v, e2, r2⟩ := ixN_eq r1 fe
    exact ⟨a, vs, _, v, rfl, ry.int_inv, .of (s _ _ e1), e2, k v F H (.refl s) r2⟩
  · cases fe
theorem l_ixT : OpL K (rIxT K) (fun x y => match x, y with | .tuple xs, .int i => atI xs i | _, _ => none) := fun F H x y dx dy d s rx ry fe Q' k => by
  dsimp only at fe
  split at fe
  · obtain ⟨a, vs, rfl, e1, r1⟩ := rx.tup_inv
    obtain ⟨v, e2, r2⟩ := ixN_eq r1 fe
    exact ⟨a, vs, _, v, rfl, ry.int_inv, Same.sqt s e1, e2, k v F H (.refl s) r2⟩
  · cases fe
theorem l_ixD : OpL K rIxD (fun x y => match x with | .dict kvs => if isKey y = true then dLook kvs y else none | _ => none) := fun F H x y dx dy d s rx ry fe Q' k => by
  dsimp only at fe
  split at fe
  · rename_i kvs
    by_cases hk : isKey dy = true
    · rw [if_pos hk] at fe
      obtain ⟨b, o, rfl, g, w⟩ := dct_get rx hk ry
      rw [fe] at w
      obtain ⟨v, rfl, r⟩ := w
      refine ⟨b, v, rfl, ?_, k v F H (.refl s) r⟩
      rcases g with ⟨q1, q2, z1, z2, z3⟩ | ⟨q1, q2, q3, z1, z2, z3, z4⟩
      · exact .inl ⟨q1, q2, Same.rd s z1, z2, z3⟩
      · exact .inr ⟨q1, q2, q3, Same.rd s z1, z2, s _ _ z3, z4⟩
    · rw [if_neg hk] at fe
      cases fe
  · cases fe
theorem l_ix : OpL K (rIxA K) dIx := l_ixL.or (l_ixT.or l_ixD (h := fun x y => match x, y with
    | .tuple xs, .int i => atI xs i
    | .dict kvs, k => if isKey k = true then dLook kvs k else none
    | _, _ => none) (fun x y d e => by split at e <;> first | exact .inl e | exact .inr e | cases e)) (fun x y d e => by
  unfold dIx at e
  split at e <;> first | exact .inl e | exact .inr e | cases e)
def cutD (xs : List D) (lo hi : Option Int) : List D := (xs.drop (HT.sIx xs.length 0 lo)).take (HT.sIx xs.length xs.length hi - HT.sIx xs.length 0 lo)
def dSl (lo hi : Option Int) : D → Option D
  | .list xs => some (.list (cutD xs lo hi))
  | .tuple xs => some (.tuple (cutD xs lo hi))
  | _ => none
abbrev MO := DEnv → Nat → (Option Int → Nat → Prop) → Prop
@[reducible] def mNoPart : MO := fun _ n Q => Q none n
@[reducible] def mPart (m : ME) : MO := fun Γ n Q => m Γ n fun d n1 => ∃ i, d = .int i ∧ Q (some i) n1
def LO (p : Pm) (O : List Nat) (t : TO) (m : MO) : Prop :=
  ∀ F0 H0 F H σ Γ n (Q : Option Int → Nat → Prop), Sep p F0 H0 O F H σ Γ n → m Γ n Q → ∀ Q' : Option Int → Hp → Prop,
    (∀ b F' H' n', Sep p F0 H0 O F' H' σ Γ n' → Gp p F H F' H' → Q b n' → Q' b H') → t σ H Q'
structure RO (X : Cx) (p : Pm) (O : List Nat) (e : Option Expr) (t : TO) (m : MO) : Prop where
  po : PO X e t
  le : LO p O t m
theorem p_none : RO X p O none tNoPart mNoPart := ⟨po_none, fun F0 H0 F H σ Γ n Q s q Q' k => k none F H n s .refl q⟩
theorem p_some (h : RE X p O e te me) : RO X p O (some e) (tPart te) (mPart me) := ⟨po_some h.pe, fun F0 H0 F H σ Γ n Q s q Q' k =>
  h.le F0 H0 F H σ Γ n _ s q _ fun d v F1 H1 n1 s1 e1 r1 ⟨i, ei, q1⟩ => by
    subst ei
    exact ⟨i, r1.int_inv, k _ F1 H1 n1 s1 e1 q1⟩⟩
def rSlX (K : PySem.W.Frag) : V → Option Int → Option Int → Hp → VK → Prop := fun x lo hi H Q => rSlL K x lo hi H Q ∨ rSlA K x lo hi H Q
theorem o_sl : SlR X (rSlX X.K) := sl_list.or sl_tupA
@[reducible] def mSl (me : ME) (ml mh : MO) : ME := fun Γ n Q => me Γ n fun x n1 => ml Γ n1 fun lo n2 => mh Γ n2 fun hi n3 => ∃ d, dSl lo hi x = some d ∧ Q d n3
theorem Rps.cut {F : Hp} {ds : List D} {xs : List V} (h : Rps K F ds xs) (lo hi : Option Int) : Rps K F (cutD ds lo hi) (cutV xs lo hi) := by
  unfold cutD cutV
  rw [h.len]
  exact (h.drop _).take _
theorem cut_whole {ds : List D} {lo hi : Option Int} (h : HT.sIx ds.length 0 lo = 0 ∧ HT.sIx ds.length ds.length hi = ds.length) : cutD ds lo hi = ds := by
  unfold cutD
  rw [h.1, h.2]
  simp
theorem l_sl {F H : Hp} {x : V} {dx d : D} {lo hi : Option Int} (s : Same F H) (rx : Rp K F dx x) (fe : dSl lo hi dx = some d) {Q' : VK} (k : ∀ v F' H', Gr F H F' H' → Rp K F' d v → Q' v H') : rSlX K x lo hi H Q' := by
  unfold dSl at fe
  split at fe
  · cases fe
    obtain ⟨a, vs, rfl, e1, r1⟩ := rx.lst_inv
    refine .inl ⟨a, vs, rfl, .of (s _ _ e1), fun q hq => ?_⟩
    exact k _ _ _ (Gr.new1 s hq _) (Rp.new_lst (H := H) (r1.cut lo hi) (s.free hq))
  · cases fe
    obtain ⟨a, vs, rfl, e1, r1⟩ := rx.tup_inv
    refine .inr ⟨a, vs, rfl, Same.sqt s e1, fun w => ?_, fun _ q hq => ?_⟩
    · rw [r1.len] at w
      rw [cut_whole w] at k
      exact k _ F H (.refl s) rx
    · exact k _ _ _ (Gr.new1 s hq _) (Rp.new_tup (H := H) (r1.cut lo hi) (s.free hq))
  · cases fe
theorem e_sl {lo hi : Option Expr} {tl th : TO} {ml mh : MO} {p2 : Pos} (he : RE X p O e te me) (hl : RO X p O lo tl ml) (hh : RO X p O hi th mh) (hK : p.K = X.K) : RE X p O (.Subscript e (.Slice lo hi none p2) pos) (tSl (rSlX p.K) te tl th) (mSl me ml mh) :=
  ⟨pe_slice (hK ▸ o_sl) he.pe hl.po hh.po, fun F0 H0 F H σ Γ n Q s q Q' k => by
    refine he.le F0 H0 F H σ Γ n _ s q _ fun dx x F1 H1 n1 s1 e1 r1 q1 => ?_
    refine hl.le F0 H0 F1 H1 σ Γ n1 _ s1 q1 _ fun l F2 H2 n2 s2 e2 q2 => ?_
    refine hh.le F0 H0 F2 H2 σ Γ n2 _ s2 q2 _ fun h F3 H3 n3 s3 e3 ⟨d, fe, q3⟩ => ?_
    exact l_sl s3.fh ((r1.mono e2.f).mono e3.f) fe fun v F4 H4 g r4 => k d v F4 H4 n3 (s3.gr g) (((e1.trans e2).trans e3).trans g.gp) r4 q3⟩
def cLen : List D → Option D
  | [.list xs] => some (.int xs.length)
  | [.tuple xs] => some (.int xs.length)
  | _ => none
def rLen (K : PySem.W.Frag) : List V → Hp → VK → Prop := fun xs H Q => ∃ q ys, xs = [.ref q] ∧ (SqL K H q ys ∨ SqT K H q ys) ∧ Q (.int ys.length) H
theorem l_len : ClL K (rLen K) cLen := fun F H xs ds d s r fe Q' k => by
  unfold cLen at fe
  split at fe
  · cases fe
    obtain ⟨v, w, rfl, r1, r2⟩ := r.uncons
    cases r2.unnil
    obtain ⟨a, vs, rfl, e1, r3⟩ := r1.lst_inv
    exact ⟨a, vs, rfl, .inl (.of (s _ _ e1)), k _ F H (.refl s) (by rw [r3.len]; exact .int _)⟩
  · cases fe
    obtain ⟨v, w, rfl, r1, r2⟩ := r.uncons
    cases r2.unnil
    obtain ⟨a, vs, rfl, e1, r3⟩ := r1.tup_inv
    exact ⟨a, vs, rfl, .inr (Same.sqt s e1), k _ F H (.refl s) (by rw [r3.len]; exact .int _)⟩
  · cases fe
def cAbs : List D → Option D
  | [.int i] => some (.int (if i < 0 then -i else i))
  | _ => none
def cInt : List D → Option D
  | [.int i] => some (.int i)
  | [.bool b] => some (.int (if b then 1 else 0))
  | _ => none
theorem l_int : ClL K (fun xs H Q => (∃ i, xs = [.int i] ∧ Q (.int i) H) ∨ ∃ k, xs = [.bl k] ∧ Q (.int (if k then 1 else 0)) H) cInt := fun F H xs ds d s r fe Q' k => by
  unfold cInt at fe
  split at fe
  · cases fe
    obtain ⟨v, w, rfl, r1, r2⟩ := r.uncons
    cases r2.unnil
    cases r1.int_inv
    exact .inl ⟨_, rfl, k _ F H (.refl s) (.int _)⟩
  · cases fe
    obtain ⟨v, w, rfl, r1, r2⟩ := r.uncons
    cases r2.unnil
    cases r1.bl_inv
    exact .inr ⟨_, rfl, k _ F H (.refl s) (.int _)⟩
  · cases fe
def cList : List D → Option D
  | [.list xs] => some (.list xs)
  | [.tuple xs] => some (.list xs)
  | _ => none
def rListOf (K : PySem.W.Frag) : List V → Hp → VK → Prop := fun xs H Q => ∃ q ys, xs = [.ref q] ∧ (SqL K H q ys ∨ SqT K H q ys) ∧ ∀ l, H l = none → Q (.ref l) (upd H l (.lst ys))
def cTuple : List D → Option D
  | [.list xs] => some (.tuple xs)
  | [.tuple xs] => some (.tuple xs)
  | _ => none
def rTupOf (K : PySem.W.Frag) : List V → Hp → VK → Prop := fun xs H Q => ∃ q ys, xs = [.ref q] ∧ ((SqL K H q ys ∧ ∀ l, H l = none → Q (.ref l) (upd H l (.tup ys))) ∨ (SqT K H q ys ∧ Q (.ref q) H))
theorem l_tuple : ClL K (rTupOf K) cTuple := fun F H xs ds d s r fe Q' k => by
  unfold cTuple at fe
  split at fe
  · cases fe
    obtain ⟨v, w, rfl, r1, r2⟩ := r.uncons
    cases r2.unnil
    obtain ⟨a, vs, rfl, e1, r3⟩ := r1.lst_inv
    exact ⟨a, vs, rfl, .inl ⟨.of (s _ _ e1), fun q hq => k _ _ _ (Gr.new1 s hq _) (Rp.new_tup (H := H) r3 (s.free hq))⟩⟩
  · cases fe
    obtain ⟨v, w, rfl, r1, r2⟩ := r.uncons
    cases r2.unnil
    obtain ⟨a, vs, rfl, e1, r3⟩ := r1.tup_inv
    exact ⟨a, vs, rfl, .inr ⟨Same.sqt s e1, k _ F H (.refl s) r1⟩⟩
  · cases fe
def boolsD : List D → Option (List Bool)
  | [] => some []
  | .bool i :: r => (boolsD r).map (i :: ·)
  | _ :: _ => none
theorem boolsD_map (ns : List Bool) : boolsD (ns.map .bool) = some ns := by
  induction ns with
  | nil => rfl
  | cons n r ih => show (boolsD (r.map .bool)).map _ = _; rw [ih]; rfl
theorem boolsD_eq : ∀ {ds : List D} {ns : List Bool}, boolsD ds = some ns → ds = ns.map .bool
  | [], ns, h => by cases h; rfl
  | .bool i :: r, ns, h => by
    unfold boolsD at h
    cases q : boolsD r with
    | none => rw [q] at h; cases h
    | some z =>
      rw [q] at h
      cases h
      rw [boolsD_eq q]
      rfl
  | .none :: _, _, h => by cases h
  | .int _ :: _, _, h => by cases h
  | .str _ :: _, _, h => by cases h
  | .list _ :: _, _, h => by cases h
  | .tuple _ :: _, _, h => by cases h
  | .dict _ :: _, _, h => by cases h
theorem Rps.bools {F : Hp} : ∀ {ns : List Bool} {xs : List V}, Rps K F (ns.map .bool) xs → xs = ns.map V.bl
  | [], xs, h => h.unnil
  | n :: r, xs, h => by
    obtain ⟨v, w, rfl, r1, r2⟩ := h.uncons
    cases r1.bl_inv
    rw [Rps.bools r2]
    rfl
def cAll : List D → Option D
  | [.list xs] => (boolsD xs).map fun bs => .bool (bs.all id)
  | _ => none
theorem l_all : ClL K (rAll K) cAll := fun F H xs ds d s r fe Q' k => by
  unfold cAll at fe
  split at fe
  · rename_i ys
    cases q : boolsD ys with
    | none => rw [q] at fe; cases fe
    | some bs =>
      rw [q] at fe
      cases fe
      obtain ⟨v, w, rfl, r1, r2⟩ := r.uncons
      cases r2.unnil
      obtain ⟨a, vs, rfl, e1, r3⟩ := r1.lst_inv
      rw [boolsD_eq q] at r3
      rw [r3.bools] at e1
      exact ⟨a, bs, rfl, .of (s _ _ e1), k _ F H (.refl s) (.bl _)⟩
  · cases fe
def tyD : D → String
  | .none => "NoneType"
  | .bool _ => "bool"
  | .int _ => "int"
  | .str _ => "str"
  | .list _ => "list"
  | .tuple _ => "tuple"
  | .dict _ => "dict"
theorem Rp.tyX {F : Hp} {d : D} {v : V} (h : Rp K F d v) : TyX K F v (.type (tyD d)) := by
  cases h with
  | non => exact .base .non
  | bl b => exact .base (.bl b)
  | int i => exact .base (.int i)
  | str x => exact .base (.str x)
  | lst h1 => exact .base (.lst h1)
  | tup h1 =>
    rcases h1 with (h1 | ⟨o, h1⟩) | ⟨o, its, n, h1, h2, _⟩
    · exact .base (.tup h1)
    · exact .fTuple h1
    · exact .kTuple h1 h2
  | dct h1 =>
    rcases h1 with h1 | ⟨o, h1⟩
    · exact .base (.dK h1)
    · exact .fDict h1
def isiB (d : D) (T : String) : Bool := tyD d == T || (T == "int" && tyD d == "bool")
/-- the kinds asked here -/
def okTy (T : String) : Bool := T == "int" || T == "bool" || T == "str" || T == "list" || T == "tuple" || T == "dict"
theorem kit_isi : ∀ (d : D) (T : String), okTy T = true → kitB (tyD d) T = some (isiB d T) := by
  have all : ∀ u ∈ ["NoneType", "bool", "int", "str", "list", "tuple", "dict"], ∀ T ∈ ["int", "bool", "str", "list", "tuple", "dict"], kitB u T = some (u == T || (T == "int" && u == "bool")) := by
    decide +kernel
  intro d T h
  refine all _ ?_ T ?_
  · cases d <;> simp [tyD]
  · simp only [okTy, Bool.or_eq_true, beq_iff_eq] at h
    rcases h with ((((h | h) | h) | h) | h) | h <;> subst h <;> simp
@[reducible] def mIsi (T : String) (me : ME) : ME := fun Γ n Q => me Γ n fun d n1 => Q (.bool (isiB d T)) n1
theorem e_isi {T : String} (x : Str) {q q2 : Pos} (hT : okTy T = true) (hK : p.K = X.K) (he : RE X p O e te me) (hg : Gl X "isinstance") (hm : X.mg "isinstance" = none) (hx : PE X (.Name x q2) (tC (.ty T)))
    (h : PE X (.Call (.Name "isinstance" q) [e, .Name x q2] [] pos) (tCB (rIsi X.K) (tCons te (tCons (tC (.ty T)) tNil)))) : RE X p O (.Call (.Name "isinstance" q) [e, .Name x q2] [] pos) (tCB (rIsi p.K) (tCons te (tCons (tC (.ty T)) tNil))) (mIsi T me) :=
  ⟨hK ▸ h, fun F0 H0 F H σ Γ n Q s qq Q' k =>
    he.le F0 H0 F H σ Γ n _ s qq _ fun d v F1 H1 n1 s1 e1 r1 q1 =>
      ⟨v, .ty T, _, _, _, rfl, .ty T, (r1.mono s1.fh).tyX, kit_ty (kit_isi d T hT), k _ _ F1 H1 n1 s1 e1 (.bl _) q1⟩⟩
@[reducible] def mIsi2 (T U : String) (me : ME) : ME := fun Γ n Q => me Γ n fun d n1 => Q (.bool (isiB d T || isiB d U)) n1
end
end RR
end
section
namespace RR
open PySem PySem.Spec L2
open PyProof.Rows hiding St
section
variable {p : Pm} {F0 H0 F H F' H' : Hp} {O O' : List Nat} {σ : St} {Γ : DEnv} {n : Nat}
theorem set_at {α : Type} {l : List α} {i j : Nat} {x : α} : (l.set i x)[j]? = if i = j then (if j < l.length then some x else none) else l[j]? := by
  rw [List.getElem?_set]
  by_cases e : i = j
  · subst e; rfl
  · rw [if_neg e, if_neg e]
/-- a slot gets a shared thing -/
theorem Sep.put (s : Sep p F0 H0 O F H σ Γ n) {i : Nat} {d : D} {v : V} (hi : i ∉ O) (hp : ∀ a j, p.ap = some (a, j) → j ≠ i) (r : Rp p.K F d v) : Sep p F0 H0 O F H (σ.set i (some v)) (Γ.set i (some d)) n where
  f0 := s.f0
  fh := s.fh
  stay := s.stay
  newF := s.newF
  pen := fun a j e => by
    obtain ⟨h1, h2, h3⟩ := s.pen a j e
    exact ⟨h1, by rw [List.getElem?_set_ne (Ne.symm (hp a j e))]; exact h2, h3⟩
  len := by simp [s.len]
  sh := fun j e hj h => by
    by_cases hij : i = j
    · subst hij
      rw [set_at, if_pos rfl] at h
      split at h
      · rename_i hl
        cases h
        refine ⟨v, ?_, r⟩
        rw [set_at, if_pos rfl, if_pos (by rw [s.len]; exact hl)]
      · cases h
    · rw [List.getElem?_set_ne hij] at h ⊢
      exact s.sh j e hj h
  ow := fun j hj e h => by
    have hij : i ≠ j := fun z => hi (z ▸ hj)
    rw [List.getElem?_set_ne hij] at h ⊢
    exact s.ow j hj e h
  dj := fun j hj k hk hjk a dj dk h1 h2 h3 h4 => by
    have e1 : i ≠ j := fun z => hi (z ▸ hj)
    have e2 : i ≠ k := fun z => hi (z ▸ hk)
    rw [List.getElem?_set_ne e1] at h1 h3
    rw [List.getElem?_set_ne e2] at h2 h4
    exact s.dj j hj k hk hjk a dj dk h1 h2 h3 h4
/-- what a new thing of one's own must be -/
structure Free (p : Pm) (H0 : Hp) (O : List Nat) (F H : Hp) (σ : St) (Γ : DEnv) (d : D) (a : Addr) : Prop where
  own : Own p.K F H d a
  f : F a = none
  h0 : H0 a = none
  pen : ¬ p.isPen a
  sl : ∀ j ∈ O, ∀ dj, Γ[j]? = some (some dj) → σ[j]? ≠ some (some (.ref a))
/-- a slot gets a thing of its own -/
theorem Sep.putOwn (s : Sep p F0 H0 O F H σ Γ n) {i : Nat} {d : D} {a : Addr} (hp : ∀ b j, p.ap = some (b, j) → j ≠ i) (w : Free p H0 O F H σ Γ d a) : Sep p F0 H0 (i :: O) F H (σ.set i (some (.ref a))) (Γ.set i (some d)) n where
  f0 := s.f0
  fh := s.fh
  stay := s.stay
  newF := s.newF
  pen := fun a j e => by
    obtain ⟨h1, h2, h3⟩ := s.pen a j e
    exact ⟨h1, by rw [List.getElem?_set_ne (Ne.symm (hp a j e))]; exact h2, h3⟩
  len := by simp [s.len]
  sh := fun j e hj h => by
    have hij : i ≠ j := fun z => hj (by rw [z]; exact List.mem_cons_self ..)
    rw [List.getElem?_set_ne hij] at h ⊢
    exact s.sh j e (fun z => hj (List.mem_cons_of_mem _ z)) h
  ow := fun j hj e h => by
    by_cases hij : i = j
    · subst hij
      rw [set_at, if_pos rfl] at h
      split at h
      · rename_i hl
        cases h
        refine ⟨a, ?_, w.own, w.f, w.h0, w.pen⟩
        rw [set_at, if_pos rfl, if_pos (by rw [s.len]; exact hl)]
      · cases h
    · rw [List.getElem?_set_ne hij] at h ⊢
      rcases List.mem_cons.mp hj with z | z
      · exact absurd z.symm hij
      · exact s.ow j z e h
  dj := fun j hj k hk hjk b dj dk h1 h2 h3 h4 => by
    have hl : ∀ {m : Nat} {e : D}, i = m → (Γ.set i (some d))[m]? = some (some e) → m < σ.length := fun {m e} z h => by
      subst z
      rw [set_at, if_pos rfl] at h
      split at h
      · rename_i hl; rw [s.len]; exact hl
      · cases h
    by_cases e1 : i = j
    · by_cases e2 : i = k
      · exact hjk (e1.symm.trans e2)
      · rw [List.getElem?_set_ne e2] at h2 h4
        have q := hl e1 h1
        subst e1
        rw [set_at, if_pos rfl, if_pos q] at h3
        cases h3
        rcases List.mem_cons.mp hk with z | z
        · exact e2 z.symm
        · exact w.sl k z dk h2 h4
    · rw [List.getElem?_set_ne e1] at h1 h3
      have hj' : j ∈ O := (List.mem_cons.mp hj).elim (fun z => absurd z.symm e1) id
      by_cases e2 : i = k
      · have q := hl e2 h2
        subst e2
        rw [set_at, if_pos rfl, if_pos q] at h4
        cases h4
        exact w.sl j hj' dj h1 h3
      · rw [List.getElem?_set_ne e2] at h2 h4
        have hk' : k ∈ O := (List.mem_cons.mp hk).elim (fun z => absurd z.symm e2) id
        exact s.dj j hj' k hk' hjk b dj dk h1 h2 h3 h4
/-- a free thing is frozen -/
theorem Sep.freeze0 (s : Sep p F0 H0 O F H σ Γ n) {d : D} {a : Addr} (w : Free p H0 O F H σ Γ d a) : ∃ F', Sep p F0 H0 O F' H σ Γ n ∧ Same F F' ∧ Gp p F H F' H = Gp p F H F' H ∧ Rp p.K F' d (.ref a) ∧ (∀ b o, F' b = some o → F b = some o ∨ b = a) := by
  obtain ⟨o, e⟩ := w.own.at
  have sm : Same F (upd F a o) := same_up w.f
  have nw : ∀ b u, (upd F a o) b = some u → F b = some u ∨ b = a := fun b u q => by
    by_cases hb : b = a
    · exact .inr hb
    · rw [upd_ne hb] at q; exact .inl q
  refine ⟨upd F a o, ⟨s.f0.trans sm, fun b u q => ?_, s.stay, fun b u q => ?_, fun b j q => ?_, s.len, fun j e hj h => ?_, fun j hj e h => ?_, s.dj⟩, sm, rfl, ?_, nw⟩
  · rcases nw b u q with z | z
    · exact s.fh _ _ z
    · subst z
      rw [upd_same] at q
      cases q
      exact e
  · rcases nw b u q with z | z
    · exact s.newF _ _ z
    · subst z; exact .inr w.h0
  · obtain ⟨h1, h2, ⟨x, l, xs, z1, z2, z3⟩, zt⟩ := s.pen b j q
    have hb : b ≠ a := fun z => w.pen ⟨b, j, q, .inl z.symm⟩
    exact ⟨by rw [upd_ne hb]; exact h1, h2, ⟨x, l, xs, z1, sm _ _ z2, z3⟩, zt.up sm (fun y hy => by rw [upd_ne fun z => w.pen ⟨b, j, q, .inr ⟨y, hy, z⟩⟩]; exact (zt y hy).1) (fun _ _ _ h => h)⟩
  · obtain ⟨v, q, r⟩ := s.sh j e hj h
    exact ⟨v, q, r.mono sm⟩
  · obtain ⟨b, q, r, z1, z2, z3⟩ := s.ow j hj e h
    have hb : b ≠ a := fun z => w.sl j hj e h (z ▸ q)
    refine ⟨b, q, ?_, by rw [upd_ne hb]; exact z1, z2, z3⟩
    cases r with
    | lst q1 q2 => exact .lst q1 (q2.mono sm)
    | dct q1 q2 q3 => exact .dct q1 q2 fun i x d a b => (q3 i x d a b).mono sm
  · have hw := w.own
    cases hw with
    | lst q1 q2 =>
      rw [e] at q1
      cases q1
      exact .of_lst upd_same (q2.mono sm)
    | dct q1 q2 q3 =>
      rw [e] at q1
      cases q1
      exact .dct (.inl upd_same) q2 fun i x d a b => (q3 i x d a b).mono sm
/-- an own slot's thing -/
theorem Sep.at_own (s : Sep p F0 H0 O F H σ Γ n) {i : Nat} (hi : i ∈ O) {d : D} (e : Γ[i]? = some (some d)) : ∃ a, σ[i]? = some (some (.ref a)) ∧ Free p H0 (O.filter (· ≠ i)) F H σ Γ d a := by
  obtain ⟨a, q, r, z1, z2, z3⟩ := s.ow i hi d e
  refine ⟨a, q, r, z1, z2, z3, fun j hj dj h z => ?_⟩
  obtain ⟨h1, h2⟩ := List.mem_filter.mp hj
  exact s.dj i hi j h1 (fun w => by simp [w] at h2) a d dj e h q z
/-- forgetting that a slot's thing is its own: for an unset slot nothing is to be done -/
theorem Sep.fewer (s : Sep p F0 H0 O F H σ Γ n) {i : Nat} (h : ∀ d, Γ[i]? ≠ some (some d)) : Sep p F0 H0 (O.filter (· ≠ i)) F H σ Γ n :=
  ⟨s.f0, s.fh, s.stay, s.newF, s.pen, s.len, fun j d hj e => by
    by_cases q : j = i
    · subst q; exact absurd e (h d)
    · exact s.sh j d (fun z => hj (List.mem_filter.mpr ⟨z, by simpa using q⟩)) e, fun j hj => s.ow j (List.mem_filter.mp hj).1, fun j hj k hk => s.dj j (List.mem_filter.mp hj).1 k (List.mem_filter.mp hk).1⟩
theorem Sep.freeze (s : Sep p F0 H0 O F H σ Γ n) (i : Nat) : ∃ F', Same F F' ∧ Sep p F0 H0 (O.filter (· ≠ i)) F' H σ Γ n := by
  by_cases hi : i ∈ O
  · cases e : Γ[i]? with
    | none => exact ⟨F, .refl _, s.fewer fun d z => by rw [e] at z; cases z⟩
    | some o =>
      cases o with
      | none => exact ⟨F, .refl _, s.fewer fun d z => by rw [e] at z; cases z⟩
      | some d =>
        obtain ⟨a, q, w⟩ := s.at_own hi e
        -- first out of O, then frozen
        obtain ⟨o, ho⟩ := w.own.at
        have s1 : Sep p F0 H0 (O.filter (· ≠ i)) F H σ (Γ.set i none) n := by
          have gi : ∀ j, j ≠ i → (Γ.set i none)[j]? = Γ[j]? := fun j hj => List.getElem?_set_ne (Ne.symm hj)
          refine ⟨s.f0, s.fh, s.stay, s.newF, s.pen, by simp [s.len], fun j d' hj h => ?_, fun j hj d' h => ?_, fun j hj k hk hjk a' dj dk h1 h2 h3 h4 => ?_⟩
          · by_cases z : j = i
            · subst z
              rw [set_at, if_pos rfl] at h
              split at h <;> cases h
            · rw [gi j z] at h
              exact s.sh j d' (fun z' => hj (List.mem_filter.mpr ⟨z', by simpa using z⟩)) h
          · have z : j ≠ i := by simpa using (List.mem_filter.mp hj).2
            rw [gi j z] at h
            exact s.ow j (List.mem_filter.mp hj).1 d' h
          · have z1 : j ≠ i := by simpa using (List.mem_filter.mp hj).2
            have z2 : k ≠ i := by simpa using (List.mem_filter.mp hk).2
            rw [gi j z1] at h1
            rw [gi k z2] at h2
            exact s.dj j (List.mem_filter.mp hj).1 k (List.mem_filter.mp hk).1 hjk a' dj dk h1 h2 h3 h4
        have w1 : Free p H0 (O.filter (· ≠ i)) F H σ (Γ.set i none) d a := ⟨w.own, w.f, w.h0, w.pen, fun j hj dj h => by
          have z : j ≠ i := by simpa using (List.mem_filter.mp hj).2
          rw [List.getElem?_set_ne (Ne.symm z)] at h
          exact w.sl j hj dj h⟩
        obtain ⟨F1, s2, sm, _, r, _⟩ := s1.freeze0 w1
        refine ⟨F1, sm, ⟨s2.f0, s2.fh, s2.stay, s2.newF, s2.pen, s.len, fun j d' hj h => ?_, fun j hj d' h => ?_, fun j hj k hk hjk a' dj dk h1 h2 h3 h4 => ?_⟩⟩
        · by_cases z : j = i
          · subst z
            rw [e] at h
            cases h
            exact ⟨_, q, r⟩
          · exact s2.sh j d' hj (by rw [List.getElem?_set_ne (Ne.symm z)]; exact h)
        · have z : j ≠ i := by simpa using (List.mem_filter.mp hj).2
          exact s2.ow j hj d' (by rw [List.getElem?_set_ne (Ne.symm z)]; exact h)
        · have z1 : j ≠ i := by simpa using (List.mem_filter.mp hj).2
          have z2 : k ≠ i := by simpa using (List.mem_filter.mp hk).2
          exact s2.dj j hj k hk hjk a' dj dk (by rw [List.getElem?_set_ne (Ne.symm z1)]; exact h1) (by rw [List.getElem?_set_ne (Ne.symm z2)]; exact h2) h3 h4
  · refine ⟨F, .refl _, ?_⟩
    have e : O.filter (· ≠ i) = O := List.filter_eq_self.mpr fun j hj => by simpa using fun z : j = i => hi (z ▸ hj)
    rw [e]
    exact s
theorem Sep.congr (s : Sep p F0 H0 O F H σ Γ n) (h : ∀ i, i ∈ O ↔ i ∈ O') : Sep p F0 H0 O' F H σ Γ n :=
  ⟨s.f0, s.fh, s.stay, s.newF, s.pen, s.len, fun j d hj => s.sh j d fun z => hj ((h j).mp z), fun j hj => s.ow j ((h j).mpr hj), fun j hj k hk => s.dj j ((h j).mpr hj) k ((h k).mpr hk)⟩
theorem Sep.weak (s : Sep p F0 H0 O F H σ Γ n) (h : ∀ i ∈ O', i ∈ O) : ∃ F', Same F F' ∧ Sep p F0 H0 O' F' H σ Γ n := by
  have go : ∀ (R : List Nat) (O : List Nat) (F : Hp), Sep p F0 H0 O F H σ Γ n → ∃ F', Same F F' ∧ Sep p F0 H0 (O.filter fun i => decide (i ∉ R)) F' H σ Γ n := by
    intro R
    induction R with
    | nil => intro O F s; exact ⟨F, .refl _, s.congr fun i => by simp⟩
    | cons r R ih =>
      intro O F s
      obtain ⟨F1, e1, s1⟩ := s.freeze r
      obtain ⟨F2, e2, s2⟩ := ih _ _ s1
      refine ⟨F2, e1.trans e2, s2.congr fun i => ?_⟩
      simp only [List.mem_filter, List.mem_cons, decide_eq_true_eq, not_or, ne_eq]
      constructor
      · rintro ⟨⟨a, b⟩, c⟩; exact ⟨a, b, c⟩
      · rintro ⟨a, b, c⟩; exact ⟨⟨a, b⟩, c⟩
  obtain ⟨F1, e1, s1⟩ := go (O.filter fun i => decide (i ∉ O')) O F s
  refine ⟨F1, e1, s1.congr fun i => ?_⟩
  simp only [List.mem_filter, decide_eq_true_eq, not_and, Decidable.not_not]
  constructor
  · rintro ⟨a, b⟩; exact b a
  · intro a; exact ⟨h i a, fun _ => a⟩
end
section
variable {X : Cx} {p : Pm} {Ob O O1 O2 O' : List Nat} {a b c e : Expr} {pos : Pos} {te : TE} {me : ME} {tA : TT} {mA : MT} {st : Stmt} {sts : List Stmt} {t u : TS} {m mu : MS}
@[reducible] def mNext : MS := fun E Γ n => E.nx Γ n
@[reducible] def mSeq (t u : MS) : MS := fun E Γ n => t { E with nx := u E } Γ n
theorem ls_weak {Ox : List Nat} (h : LS p Ob O O' t m) (k : ∀ i ∈ Ox, i ∈ O') : LS p Ob O Ox t m := fun F0 H0 F H σ Γ n E s q E' hn hr hb hc =>
  h F0 H0 F H σ Γ n E s q E' (fun F1 H1 σ1 Γ1 n1 s1 e1 q1 => let ⟨F2, e2, s2⟩ := s1.weak k; hn F2 H1 σ1 Γ1 n1 s2 (e1.trans e2) q1) hr hb hc
/-- a step that is none: what a slot holds is its own no more -/
theorem ls_pre {Ox : List Nat} (h : LS p Ob O O' t m) (k : ∀ i ∈ O, i ∈ Ox) : LS p Ob Ox O' t m := fun F0 H0 F H σ Γ n E s q E' hn hr hb hc => by
  obtain ⟨F1, e1, s1⟩ := s.weak k
  exact h F0 H0 F1 H σ Γ n E s1 q E' (fun F2 H2 σ2 Γ2 n2 s2 e2 q2 => hn F2 H2 σ2 Γ2 n2 s2 (e1.trans e2) q2) hr (fun F2 H2 σ2 Γ2 n2 s2 e2 q2 => hb F2 H2 σ2 Γ2 n2 s2 (e1.trans e2) q2) (fun F2 H2 σ2 Γ2 n2 s2 e2 q2 => hc F2 H2 σ2 Γ2 n2 s2 (e1.trans e2) q2)
theorem RSs.weak {Ox : List Nat} (h : RSs X p Ob O O' sts t m) (k : ∀ i ∈ Ox, i ∈ O') : RSs X p Ob O Ox sts t m := ⟨h.ps, ls_weak h.le k⟩
theorem RSs.pre {Ox : List Nat} (h : RSs X p Ob O O' sts t m) (k : ∀ i ∈ O, i ∈ Ox) : RSs X p Ob Ox O' sts t m := ⟨h.ps, ls_pre h.le k⟩
theorem ss_nil : RSs X p Ob O O [] tNext mNext := ⟨pss_nil, fun F0 H0 F H σ Γ n E s q E' hn _ _ _ => hn F H σ Γ n s (.refl _) q⟩
theorem ls_seq (h1 : LS p Ob O O1 t m) (h2 : LS p Ob O1 O' u mu) : LS p Ob O O' (tSeq t u) (mSeq m mu) := fun F0 H0 F H σ Γ n E s q E' hn hr hb hc =>
  h1 F0 H0 F H σ Γ n _ s q _ (fun F1 H1 σ1 Γ1 n1 s1 e1 q1 => h2 F0 H0 F1 H1 σ1 Γ1 n1 E s1 q1 E' (fun F2 H2 σ2 Γ2 n2 s2 e2 q2 => hn F2 H2 σ2 Γ2 n2 s2 (e1.trans e2) q2) hr
    (fun F2 H2 σ2 Γ2 n2 s2 e2 q2 => hb F2 H2 σ2 Γ2 n2 s2 (e1.trans e2) q2) (fun F2 H2 σ2 Γ2 n2 s2 e2 q2 => hc F2 H2 σ2 Γ2 n2 s2 (e1.trans e2) q2)) hr hb hc
theorem ss_cons (h1 : RS X p Ob O O1 st t m) (h2 : RSs X p Ob O1 O' sts u mu) : RSs X p Ob O O' (st :: sts) (tSeq t u) (mSeq m mu) := ⟨pss_cons h1.ps h2.ps, ls_seq h1.le h2.le⟩
theorem ss_one (h1 : RS X p Ob O O' st t m) : RSs X p Ob O O' [st] t m := ⟨pss_one h1.ps, h1.le⟩
/-- never reached -/
@[reducible] def mNever : MS := fun _ _ _ => False
theorem s_never : RS X p Ob O O' st tNever mNever := ⟨ps_never, fun F0 H0 F H σ Γ n E s q => q.elim⟩
@[reducible] def mBreak : MS := fun E Γ n => E.bk Γ n
theorem s_break (k : ∀ i ∈ Ob, i ∈ O) : RS X p Ob O O' (.Break pos) tBreak mBreak := ⟨ps_break, fun F0 H0 F H σ Γ n E s q E' _ _ hb _ => let ⟨F1, e1, s1⟩ := s.weak k; hb F1 H σ Γ n s1 e1 q⟩
@[reducible] def mDrop (me : ME) : MS := fun E Γ n => me Γ n fun _ n1 => E.nx Γ n1
theorem s_expr (he : RE X p O e te me) (h : PS X (.Expr e pos) (tDrop te)) : RS X p Ob O O (.Expr e pos) (tDrop te) (mDrop me) := ⟨h, fun F0 H0 F H σ Γ n E s q E' hn _ _ _ =>
  he.le F0 H0 F H σ Γ n _ s q _ fun d v F1 H1 n1 s1 e1 r1 q1 => hn F1 H1 σ Γ n1 s1 e1.f q1⟩
@[reducible] def mRet (me : ME) : MS := fun E Γ n => me Γ n E.rt
theorem s_ret (he : RE X p O e te me) : RS X p Ob O O' (.Return (some e) pos) (tRet te) (mRet me) := ⟨ps_ret he.pe, fun F0 H0 F H σ Γ n E s q E' _ hr _ _ =>
  he.le F0 H0 F H σ Γ n _ s q _ fun d v F1 H1 n1 s1 e1 r1 q1 => hr d v F1 H1 n1 s1.fin r1 q1⟩
@[reducible] def mIfS (c : MT) (t u : MS) : MS := fun E Γ n => c Γ n fun b n1 => if b = true then t E Γ n1 else u E Γ n1
theorem s_if {x y : List Stmt} (hc : RT X p O c tA mA) (ha : RSs X p Ob O O' x t m) (hb : RSs X p Ob O O' y u mu) : RS X p Ob O O' (.If c x y pos) (tIfS tA t u) (mIfS mA m mu) := ⟨ps_if hc.pt ha.ps hb.ps, fun F0 H0 F H σ Γ n E s q E' hn hr hb' hc' =>
  hc.le F0 H0 F H σ Γ n _ s q _ fun d F1 H1 n1 s1 e1 q1 => by
    cases d with
    | true =>
      rw [if_pos rfl] at q1 ⊢
      exact ha.le F0 H0 F1 H1 σ Γ n1 E s1 q1 E' (fun F2 H2 σ2 Γ2 n2 s2 e2 q2 => hn F2 H2 σ2 Γ2 n2 s2 (e1.f.trans e2) q2) hr (fun F2 H2 σ2 Γ2 n2 s2 e2 q2 => hb' F2 H2 σ2 Γ2 n2 s2 (e1.f.trans e2) q2) (fun F2 H2 σ2 Γ2 n2 s2 e2 q2 => hc' F2 H2 σ2 Γ2 n2 s2 (e1.f.trans e2) q2)
    | false =>
      rw [if_neg (by decide)] at q1 ⊢
      exact hb.le F0 H0 F1 H1 σ Γ n1 E s1 q1 E' (fun F2 H2 σ2 Γ2 n2 s2 e2 q2 => hn F2 H2 σ2 Γ2 n2 s2 (e1.f.trans e2) q2) hr (fun F2 H2 σ2 Γ2 n2 s2 e2 q2 => hb' F2 H2 σ2 Γ2 n2 s2 (e1.f.trans e2) q2) (fun F2 H2 σ2 Γ2 n2 s2 e2 q2 => hc' F2 H2 σ2 Γ2 n2 s2 (e1.f.trans e2) q2)⟩
@[reducible] def mSet (i : Nat) (me : ME) : MS := fun E Γ n => me Γ n fun d n1 => E.nx (Γ.set i (some d)) n1
def Pm.off (p : Pm) (i : Nat) : Prop := ∀ a j, p.ap = some (a, j) → j ≠ i
theorem s_set {tg : Expr} {i : Nat} (he : RE X p O e te me) (hi : i ∉ O) (hp : p.off i) (h : PS X (.Assign [tg] e pos) (tAsg te (gName i))) : RS X p Ob O O (.Assign [tg] e pos) (tAsg te (gName i)) (mSet i me) := ⟨h, fun F0 H0 F H σ Γ n E s q E' hn _ _ _ =>
  he.le F0 H0 F H σ Γ n _ s q _ fun d v F1 H1 n1 s1 e1 r1 q1 => hn F1 H1 _ _ n1 (s1.put hi hp r1) e1.f q1⟩
@[reducible] def mAug (i : Nat) (f : D → D → Option D) (me : ME) : MS := fun E Γ n => ∃ x, Γ[i]? = some (some x) ∧ me Γ n fun y n1 => ∃ d, f x y = some d ∧ E.nx (Γ.set i (some d)) n1
end
end RR
end
section
namespace RR
open PySem PySem.Spec L2
open PyProof.Rows hiding St
def Agree (is : List Nat) (σ σ' : St) : Prop := σ'.length = σ.length ∧ ∀ j, j ∉ is → σ'[j]? = σ[j]?
def LG (p : Pm) (O : List Nat) (is : List Nat) (g : TG) (mg : MG) : Prop := ∀ F0 H0 F H σ Γ n d v, Sep p F0 H0 O F H σ Γ n → Rp p.K F d v → ∀ (Q : DEnv → Prop) (Q' : St → Hp → Prop), mg d Γ Q →
  (∀ σ' Γ', Sep p F0 H0 O F H σ' Γ' n → Agree is σ σ' → Q Γ' → Q' σ' H) → g v σ H Q'
def LGs (p : Pm) (O : List Nat) (is : List Nat) (g : TGs) (mg : List D → DEnv → (DEnv → Prop) → Prop) : Prop := ∀ F0 H0 F H σ Γ n ds vs, Sep p F0 H0 O F H σ Γ n → Rps p.K F ds vs → ∀ (Q : DEnv → Prop) (Q' : St → Hp → Prop), mg ds Γ Q →
  (∀ σ' Γ', Sep p F0 H0 O F H σ' Γ' n → Agree is σ σ' → Q Γ' → Q' σ' H) → g vs σ H Q'
structure RG (X : Cx) (p : Pm) (O : List Nat) (is : List Nat) (tg : Expr) (g : TG) (mg : MG) : Prop where
  pg : PG X tg g
  le : LG p O is g mg
structure RGs (X : Cx) (p : Pm) (O : List Nat) (is : List Nat) (tg : List Expr) (g : TGs) (mg : List D → DEnv → (DEnv → Prop) → Prop) : Prop where
  pg : PGs X tg g
  le : LGs p O is g mg
@[reducible] def mgName (i : Nat) : MG := fun d Γ Q => Q (Γ.set i (some d))
@[reducible] def mgNil : List D → DEnv → (DEnv → Prop) → Prop := fun ds Γ Q => ds = [] ∧ Q Γ
@[reducible] def mgCons (g : MG) (u : List D → DEnv → (DEnv → Prop) → Prop) : List D → DEnv → (DEnv → Prop) → Prop := fun ds Γ Q => ∃ d r, ds = d :: r ∧ g d Γ fun Γ1 => u r Γ1 Q
@[reducible] def mgTup (n : Nat) (u : List D → DEnv → (DEnv → Prop) → Prop) : MG := fun d Γ Q => ∃ ds, d = .tuple ds ∧ ds.length = n ∧ u ds Γ Q
section
variable {X : Cx} {p : Pm} {O is js : List Nat} {tg : Expr} {tgs : List Expr} {g : TG} {gs : TGs} {mg : MG} {mgs : List D → DEnv → (DEnv → Prop) → Prop} {pos : Pos}
theorem g_name {x : Str} {i : Nat} (h : PG X (.Name x pos) (gName i)) (hi : i ∉ O) (hp : p.off i) : RG X p O [i] (.Name x pos) (gName i) (mgName i) := ⟨h, fun F0 H0 F H σ Γ n d v s r Q Q' q k => by
  refine k _ _ (s.put hi hp r) ⟨by simp, fun j hj => ?_⟩ q
  exact List.getElem?_set_ne fun z => hj (by simp [z])⟩
theorem gs_nil : RGs X p O [] [] gNil mgNil := ⟨pgs_nil, fun F0 H0 F H σ Γ n ds vs s r Q Q' ⟨e, q⟩ k => by
  subst e
  exact ⟨r.unnil, k σ Γ s ⟨rfl, fun _ _ => rfl⟩ q⟩⟩
theorem gs_cons (h1 : RG X p O is tg g mg) (h2 : RGs X p O js tgs gs mgs) (h : PGs X (tg :: tgs) (gCons g gs)) : RGs X p O (is ++ js) (tg :: tgs) (gCons g gs) (mgCons mg mgs) := ⟨h, fun F0 H0 F H σ Γ n ds vs s r Q Q' ⟨d, w, e, q⟩ k => by
  subst e
  obtain ⟨v, x, rfl, r1, r2⟩ := r.uncons
  refine ⟨v, x, rfl, h1.le F0 H0 F H σ Γ n d v s r1 _ _ q fun σ1 Γ1 s1 a1 q1 => ?_⟩
  refine h2.le F0 H0 F H σ1 Γ1 n w x s1 r2 _ _ q1 fun σ2 Γ2 s2 a2 q2 => ?_
  refine k σ2 Γ2 s2 ⟨a2.1.trans a1.1, fun j hj => ?_⟩ q2
  exact (a2.2 j fun z => hj (List.mem_append_right _ z)).trans (a1.2 j fun z => hj (List.mem_append_left _ z))⟩
theorem g_tup {k n : Nat} {K : PySem.W.Frag} (hK : p.K = K) (h1 : RGs X p O is tgs gs mgs) (h : PG X (.Tuple tgs k pos) (gTup K n gs)) : RG X p O is (.Tuple tgs k pos) (gTup K n gs) (mgTup n mgs) := ⟨h, fun F0 H0 F H σ Γ m d v s r Q Q' ⟨ds, e, hn, q⟩ k => by
  subst e hK
  obtain ⟨a, xs, rfl, h1', r1⟩ := r.tup_inv
  exact ⟨a, xs, rfl, Same.sqt s.fh h1', by rw [r1.len]; exact hn, h1.le F0 H0 F H σ Γ m ds xs s r1 Q Q' q k⟩⟩
end
structure Feeds (K : PySem.W.Frag) (J : It) (ds : List D) (F : Hp) : Prop where
  stop : ∀ F' H', Same F F' → Same F' H' → J.stop ds.length H'
  go : ∀ (i : Nat) d F' H', ds[i]? = some d → Same F F' → Same F' H' → J.go i H' ∧ ∀ x H2, J.yld i H' x H2 → ∃ F2, Gr F' H' F2 H2 ∧ Rp K F2 d x
abbrev MI := DEnv → Nat → (List D → Nat → Prop) → Prop
def LI (p : Pm) (O : List Nat) (wi : TI) (mi : MI) : Prop := ∀ F0 H0 F H σ Γ n (R : List D → Nat → Prop), Sep p F0 H0 O F H σ Γ n → mi Γ n R → ∀ R' : It → Hp → Prop,
  (∀ J ds F' H' n', Sep p F0 H0 O F' H' σ Γ n' → Gp p F H F' H' → Feeds p.K J ds F' → R ds n' → R' J H') → wi σ H R'
structure RI (X : Cx) (p : Pm) (O : List Nat) (tg iter : Expr) (wi : TI) (mi : MI) : Prop where
  pi : PI X tg iter wi
  le : LI p O wi mi
section
variable {X : Cx} {K : PySem.W.Frag} {p : Pm} {O : List Nat} {tg e : Expr} {te : TE} {me : ME} {ta : TA} {ma : MA} {pos : Pos}
theorem feeds_list {F : Hp} {a : Addr} {xs : List V} {ds : List D} (h : F a = some (.lst xs)) (r : Rps K F ds xs) : Feeds K (Itl K a) ds F where
  stop := fun F' H' e e' => ⟨xs, .of (e' _ _ (e _ _ h)), Nat.le_of_eq r.len⟩
  go := fun i d F' H' hd e e' => by
    have hq : SqL K H' a xs := .of (e' _ _ (e _ _ h))
    obtain ⟨v, e1, r1⟩ := r.get hd
    refine ⟨⟨xs, v, hq, e1⟩, fun x H2 ⟨h2, y⟩ => ?_⟩
    subst h2
    have := y xs hq
    rw [e1] at this
    cases this
    exact ⟨F', .refl e', r1.mono e⟩
theorem feeds_tup {F : Hp} {a : Addr} {xs : List V} {ds : List D} (h : SqT K F a xs) (r : Rps K F ds xs) : Feeds K (Itt K a) ds F where
  stop := fun F' H' e e' => ⟨xs, Same.sqt e' (Same.sqt e h), Nat.le_of_eq r.len⟩
  go := fun i d F' H' hd e e' => by
    have hq : SqT K H' a xs := Same.sqt e' (Same.sqt e h)
    obtain ⟨v, e1, r1⟩ := r.get hd
    refine ⟨⟨xs, v, hq, e1⟩, fun x H2 ⟨h2, y⟩ => ?_⟩
    subst h2
    have := y xs hq
    rw [e1] at this
    cases this
    exact ⟨F', .refl e', r1.mono e⟩
/-- lo, lo + 1, .. -/
def rangeD (lo : Int) : Nat → List D
  | 0 => []
  | n + 1 => .int lo :: rangeD (lo + 1) n
theorem rangeD_len (lo : Int) (n : Nat) : (rangeD lo n).length = n := by
  induction n generalizing lo with
  | zero => rfl
  | succ n ih => show (rangeD (lo + 1) n).length + 1 = n + 1; rw [ih]
theorem rangeD_get {lo : Int} {n i : Nat} {d : D} (h : (rangeD lo n)[i]? = some d) : d = .int (lo + i) ∧ i < n := by
  induction n generalizing lo i with
  | zero => simp [rangeD] at h
  | succ n ih =>
    cases i with
    | zero =>
      have : some (PyData.int lo) = some d := h
      cases this
      exact ⟨by simp, Nat.succ_pos n⟩
    | succ i =>
      obtain ⟨h1, h2⟩ := ih (lo := lo + 1) (i := i) h
      exact ⟨by rw [h1]; congr 1; omega, Nat.succ_lt_succ h2⟩
theorem feeds_range {F : Hp} (lo : Int) (n : Nat) : Feeds K (Itr lo n) (rangeD lo n) F where
  stop := fun F' H' e e' => Nat.le_of_eq (rangeD_len lo n).symm
  go := fun i d F' H' hd e e' => by
    obtain ⟨h1, h2⟩ := rangeD_get hd
    refine ⟨h2, fun x H2 ⟨h3, h4⟩ => ?_⟩
    subst h1 h3 h4
    exact ⟨F', .refl e', .int _⟩
def okR (i : Int) : Prop := -(2 ^ 62) ≤ i ∧ i < 2 ^ 62
@[reducible] def mIR1 (ma : MA) : MI := fun Γ n Q => ma Γ n fun ds n1 => ∃ j, ds = [.int j] ∧ okR j ∧ Q (rangeD 0 j.toNat) n1
@[reducible] def mIR2 (ma : MA) : MI := fun Γ n Q => ma Γ n fun ds n1 => ∃ i j, ds = [.int i, .int j] ∧ okR i ∧ okR j ∧ Q (rangeD i (j - i).toNat) n1
theorem i_range1 {a : Expr} {q : Pos} (ha : RA X p O [a] ta ma) (h : PI X tg (.Call (.Name "range" q) [a] [] pos) (iRng1 ta)) : RI X p O tg (.Call (.Name "range" q) [a] [] pos) (iRng1 ta) (mIR1 ma) := ⟨h, fun F0 H0 F H σ Γ n R s q R' k =>
  ha.le F0 H0 F H σ Γ n _ s q _ fun ds vs F1 H1 n1 s1 e1 r1 ⟨j, ed, o, q1⟩ => by
    subst ed
    obtain ⟨v, w, rfl, r2, r3⟩ := r1.uncons
    cases r3.unnil
    cases r2.int_inv
    exact ⟨j, rfl, o.1, o.2, k _ _ F1 H1 n1 s1 e1 (feeds_range 0 _) q1⟩⟩
/-- enumerate of a list -/
def enumD (i : Int) : List D → List D
  | [] => []
  | d :: r => .tuple [.int i, d] :: enumD (i + 1) r
theorem enumD_len (i : Int) (ds : List D) : (enumD i ds).length = ds.length := by
  induction ds generalizing i with
  | nil => rfl
  | cons d r ih => show (enumD (i + 1) r).length + 1 = r.length + 1; rw [ih]
theorem enumD_get {lo : Int} {ds : List D} {i : Nat} {d : D} (h : (enumD lo ds)[i]? = some d) : ∃ x, ds[i]? = some x ∧ d = .tuple [.int (lo + i), x] := by
  induction ds generalizing lo i with
  | nil => simp [enumD] at h
  | cons y r ih =>
    cases i with
    | zero =>
      have : some (PyData.tuple [.int lo, y]) = some d := h
      cases this
      exact ⟨y, rfl, by simp⟩
    | succ i =>
      obtain ⟨x, h1, h2⟩ := ih (lo := lo + 1) (i := i) h
      exact ⟨x, h1, by rw [h2]; congr 3; omega⟩
theorem Rp.pair {F' H' : Hp} {T : Addr} {d e : D} {x y : V} (h : H' T = none) (s : Same F' H') (r1 : Rp K F' d x) (r2 : Rp K F' e y) : Rp K (upd F' T (.tup [x, y])) (.tuple [d, e]) (.ref T) := Rp.new_tup (H := H') (.cons r1 (.cons r2 .nil)) (s.free h)
theorem feeds_enum {F : Hp} {a : Addr} {xs : List V} {ds : List D} (h : F a = some (.lst xs)) (r : Rps K F ds xs) : Feeds K (Ite K a) (enumD 0 ds) F where
  stop := fun F' H' e e' => ⟨xs, .of (e' _ _ (e _ _ h)), by rw [enumD_len]; exact Nat.le_of_eq r.len⟩
  go := fun i d F' H' hd e e' => by
    have hq : SqL K H' a xs := .of (e' _ _ (e _ _ h))
    obtain ⟨y, hy, rfl⟩ := enumD_get hd
    obtain ⟨v, e1, r1⟩ := r.get hy
    refine ⟨⟨xs, v, hq, e1⟩, fun x H2 ⟨T, w, h1, h2, h3, h4⟩ => ?_⟩
    have := h4 xs hq
    rw [e1] at this
    cases this
    subst h1 h3
    exact ⟨_, .new1 e' h2 _, Rp.pair h2 e' (by rw [Int.zero_add]; exact .int _) (r1.mono e)⟩
/-- zip -/
def zipD : List D → List D → List D
  | x :: xs, y :: ys => .tuple [x, y] :: zipD xs ys
  | _, _ => []
theorem zipD_len : ∀ xs ys : List D, (zipD xs ys).length = min xs.length ys.length
  | [], [] => rfl
  | [], _ :: _ => by simp [zipD]
  | _ :: _, [] => by simp [zipD]
  | x :: xs, y :: ys => by
    show (zipD xs ys).length + 1 = _
    rw [zipD_len xs ys, List.length_cons, List.length_cons]
    omega
theorem zipD_get : ∀ {xs ys : List D} {i : Nat} {d : D}, (zipD xs ys)[i]? = some d → ∃ x y, xs[i]? = some x ∧ ys[i]? = some y ∧ d = .tuple [x, y]
  | [], [], i, d, h => by simp [zipD] at h
  | [], _ :: _, i, d, h => by simp [zipD] at h
  | _ :: _, [], i, d, h => by simp [zipD] at h
  | x :: xs, y :: ys, 0, d, h => by
    have : some (PyData.tuple [x, y]) = some d := h
    cases this
    exact ⟨x, y, rfl, rfl, rfl⟩
  | x :: xs, y :: ys, i + 1, d, h => zipD_get (xs := xs) (ys := ys) (i := i) h
theorem feeds_zipL {F : Hp} {a b : Addr} {xs ys : List V} {ds es : List D} (h : F a = some (.lst xs)) (r : Rps K F ds xs) (h' : F b = some (.lst ys)) (r' : Rps K F es ys) : Feeds K (Itz K a b) (zipD ds es) F where
  stop := fun F' H' e e' => by
    refine ⟨xs, ys, .of (e' _ _ (e _ _ h)), .of (e' _ _ (e _ _ h')), ?_⟩
    rw [zipD_len, ← r.len, ← r'.len]
    omega
  go := fun i d F' H' hd e e' => by
    have hq : SqL K H' a xs := .of (e' _ _ (e _ _ h))
    have hq' : SqL K H' b ys := .of (e' _ _ (e _ _ h'))
    obtain ⟨x, y, hx, hy, rfl⟩ := zipD_get hd
    obtain ⟨v, e1, r1⟩ := r.get hx
    obtain ⟨u, e2, r2⟩ := r'.get hy
    refine ⟨⟨xs, ys, v, u, hq, hq', e1, e2⟩, fun w H2 ⟨T, x1, y1, h1, h2, h3, h4, h5⟩ => ?_⟩
    have t1 := h4 xs hq
    have t2 := h5 ys hq'
    rw [e1] at t1
    rw [e2] at t2
    cases t1
    cases t2
    subst h1 h3
    exact ⟨_, .new1 e' h2 _, Rp.pair h2 e' (r1.mono e) (r2.mono e)⟩
theorem feeds_zipT {F : Hp} {a b : Addr} {xs ys : List V} {ds es : List D} (h : SqT K F a xs) (r : Rps K F ds xs) (h' : SqT K F b ys) (r' : Rps K F es ys) : Feeds K (RZ.ItzT K a b) (zipD ds es) F where
  stop := fun F' H' e e' => by
    refine ⟨xs, ys, Same.sqt e' (Same.sqt e h), Same.sqt e' (Same.sqt e h'), ?_⟩
    rw [zipD_len, ← r.len, ← r'.len]
    omega
  go := fun i d F' H' hd e e' => by
    have hq : SqT K H' a xs := Same.sqt e' (Same.sqt e h)
    have hq' : SqT K H' b ys := Same.sqt e' (Same.sqt e h')
    obtain ⟨x, y, hx, hy, rfl⟩ := zipD_get hd
    obtain ⟨v, e1, r1⟩ := r.get hx
    obtain ⟨u, e2, r2⟩ := r'.get hy
    refine ⟨⟨xs, ys, v, u, hq, hq', e1, e2⟩, fun w H2 ⟨T, x1, y1, h1, h2, h3, h4, h5⟩ => ?_⟩
    have t1 := h4 xs hq
    have t2 := h5 ys hq'
    rw [e1] at t1
    rw [e2] at t2
    cases t1
    cases t2
    subst h1 h3
    exact ⟨_, .new1 e' h2 _, Rp.pair h2 e' (r1.mono e) (r2.mono e)⟩
@[reducible] def mIZ (ma : MA) : MI := fun Γ n Q => ma Γ n fun ds n1 => (∃ xs ys, ds = [.list xs, .list ys] ∧ Q (zipD xs ys) n1) ∨ ∃ xs ys, ds = [.tuple xs, .tuple ys] ∧ Q (zipD xs ys) n1
theorem i_zip {e2 : Expr} {q : Pos} (hK : p.K = X.K) (ha : RA X p O [e, e2] ta ma) (h : PI X tg (.Call (.Name "zip" q) [e, e2] [] pos) (RZ.iZipA X.K ta)) : RI X p O tg (.Call (.Name "zip" q) [e, e2] [] pos) (RZ.iZipA p.K ta) (mIZ ma) := ⟨hK ▸ h, fun F0 H0 F H σ Γ n R s q R' k =>
  ha.le F0 H0 F H σ Γ n _ s q _ fun ds vs F1 H1 n1 s1 e1 r1 q1 => by
    rcases q1 with ⟨xs, ys, ed, q1⟩ | ⟨xs, ys, ed, q1⟩
    · subst ed
      obtain ⟨v, w, rfl, r2, r3⟩ := r1.uncons
      obtain ⟨v', w', rfl, r4, r5⟩ := r3.uncons
      cases r5.unnil
      obtain ⟨a, zs, rfl, h1, r6⟩ := r2.lst_inv
      obtain ⟨b, us, rfl, h2, r7⟩ := r4.lst_inv
      exact ⟨a, b, zs, us, rfl, .inl ⟨.of (s1.fh _ _ h1), .of (s1.fh _ _ h2), k _ _ F1 H1 n1 s1 e1 (feeds_zipL h1 r6 h2 r7) q1⟩⟩
    · subst ed
      obtain ⟨v, w, rfl, r2, r3⟩ := r1.uncons
      obtain ⟨v', w', rfl, r4, r5⟩ := r3.uncons
      cases r5.unnil
      obtain ⟨a, zs, rfl, h1, r6⟩ := r2.tup_inv
      obtain ⟨b, us, rfl, h2, r7⟩ := r4.tup_inv
      exact ⟨a, b, zs, us, rfl, .inr ⟨Same.sqt s1.fh h1, Same.sqt s1.fh h2, k _ _ F1 H1 n1 s1 e1 (feeds_zipT h1 r6 h2 r7) q1⟩⟩⟩
end
def forW (g : MG) (tb : MS) (E : EndsD) : List D → DEnv → Nat → Prop
  | [], Γ, n => E.nx Γ n
  | d :: ds, Γ, n => g d Γ fun Γ1 => tb { E with nx := forW g tb E ds, ct := forW g tb E ds, bk := E.nx } Γ1 n
@[reducible] def mFor (mi : MI) (g : MG) (tb : MS) : MS := fun E Γ n => mi Γ n fun ds n1 => forW g tb E ds Γ n1
@[reducible] def mWhile (c : MT) (tb : MS) : MS := fun E Γ n => ∃ W : Nat → DEnv → Nat → Prop, (∃ m, W m Γ n) ∧ ∀ m Γ n, W m Γ n →
  c Γ n fun b n1 => if b = true then tb { E with nx := fun Γ' n' => ∃ m', m' < m ∧ W m' Γ' n', ct := fun Γ' n' => ∃ m', m' < m ∧ W m' Γ' n', bk := E.nx } Γ n1 else E.nx Γ n1
section
variable {X : Cx} {p : Pm} {Ob O O' is : List Nat} {tg iter c : Expr} {body : List Stmt} {pos : Pos} {wi : TI} {mi : MI} {g : TG} {mg : MG} {tb : TS} {mb : MS} {tc : TT} {mc : MT}
theorem ls_for (hi : LI p O wi mi) (hg : LG p O is g mg) (hb : LS p O O O tb mb) : LS p Ob O O (tFor wi g tb) (mFor mi mg mb) := fun F0 H0 F H σ Γ n E s q E' hn hr hb' hc' =>
  hi F0 H0 F H σ Γ n _ s q _ fun J ds F1 H1 n1 s1 g1 fd q1 => by
    refine ⟨fun i m σ H => m = ds.length - i ∧ i ≤ ds.length ∧ ∃ F Γ n, Same F1 F ∧ Sep p F0 H0 O F H σ Γ n ∧ forW mg mb E (ds.drop i) Γ n, ⟨ds.length, by simp, Nat.zero_le _, F1, Γ, n1, .refl _, s1, q1⟩, ?_⟩
    rintro i m σ2 H2 ⟨rfl, hi, F2, Γ2, n2, e2, s2, q2⟩
    by_cases hlt : i < ds.length
    · obtain ⟨d, hd⟩ : ∃ d, ds[i]? = some d := ⟨ds[i], by simp [hlt]⟩
      obtain ⟨go, yl⟩ := fd.go i d F2 H2 hd e2 s2.fh
      have hdr : ds.drop i = d :: ds.drop (i + 1) := by
        rw [List.drop_eq_getElem_cons hlt]
        congr 1
        simpa [hlt] using hd
      rw [hdr] at q2
      refine .inr ⟨go, fun σ' H' => ∃ F Γ n, Same F1 F ∧ Sep p F0 H0 O F H' σ' Γ n ∧ forW mg mb E (ds.drop (i + 1)) Γ n, fun σ' H' w => ⟨ds.length - (i + 1), by omega, rfl, hlt, w⟩, fun x H3 y => ?_⟩
      obtain ⟨F3, g3, r3⟩ := yl x H3 y
      refine hg F0 H0 F3 H3 σ2 Γ2 n2 d x (s2.gr g3) r3 _ _ q2 fun σ4 Γ4 s4 _ q4 => ?_
      refine hb F0 H0 F3 H3 σ4 Γ4 n2 _ s4 q4 _ (fun F5 H5 σ5 Γ5 n5 s5 e5 q5 => ⟨F5, Γ5, n5, (e2.trans g3.f).trans e5, s5, q5⟩) hr (fun F5 H5 σ5 Γ5 n5 s5 e5 q5 => hn F5 H5 σ5 Γ5 n5 s5 (((g1.f.trans e2).trans g3.f).trans e5) q5) fun F5 H5 σ5 Γ5 n5 s5 e5 q5 => ⟨F5, Γ5, n5, (e2.trans g3.f).trans e5, s5, q5⟩
    · have e : i = ds.length := by omega
      subst e
      rw [List.drop_length] at q2
      exact .inl ⟨fd.stop F2 H2 e2 s2.fh, hn F2 H2 σ2 Γ2 n2 s2 (g1.f.trans e2) q2⟩
theorem s_for (hi : RI X p O tg iter wi mi) (hg : RG X p O is tg g mg) (hb : RSs X p O O O body tb mb) (h : PS X (.For tg iter body [] pos) (tFor wi g tb)) : RS X p Ob O O (.For tg iter body [] pos) (tFor wi g tb) (mFor mi mg mb) := ⟨h, ls_for hi.le hg.le hb.le⟩
end
end RR
end
section
namespace RR
open PySem PySem.Spec L2
open PyProof.Rows hiding St
def wipeD (Γ : DEnv) : List Nat → DEnv
  | [] => Γ
  | v :: vs => (wipeD Γ vs).set v none
def compW (g : MG) (t : MT) (e : ME) (Γ : DEnv) : List D → Nat → (List D → Nat → Prop) → Prop
  | [], n, Q => Q [] n
  | d :: ds, n, Q => g d Γ fun Γ2 => t Γ2 n fun b n1 => if b = true then e Γ2 n1 fun y n2 => compW g t e Γ ds n2 fun r n3 => Q (y :: r) n3 else compW g t e Γ ds n1 Q
@[reducible] def mLc (mi : MI) (g : MG) (t : MT) (e : ME) (vs : List Nat) : ME := fun Γ n Q => mi Γ n fun ds n1 => ds.length ≤ lim ∧ compW g t e (wipeD Γ vs) ds n1 fun r n2 => Q (.list r) n2
@[reducible] def mYes : MT := fun _ n Q => Q true n
section
theorem wipe_at {σ : St} {i : Nat} : ∀ {vs : List Nat}, (wipe σ vs)[i]? = if i ∈ vs then (if i < σ.length then some none else none) else σ[i]?
  | [] => by simp [wipe]
  | v :: vs => by
    unfold wipe
    rw [set_at, wipe_length, wipe_at (vs := vs)]
    by_cases h : v = i
    · subst h; simp
    · rw [if_neg h]
      have : (i ∈ v :: vs) ↔ i ∈ vs := by simp [Ne.symm h]
      by_cases q : i ∈ vs
      · rw [if_pos q, if_pos (this.mpr q)]
      · rw [if_neg q, if_neg fun z => q (this.mp z)]
theorem wipeD_at {Γ : DEnv} {i : Nat} : ∀ {vs : List Nat}, (wipeD Γ vs)[i]? = if i ∈ vs then (if i < Γ.length then some none else none) else Γ[i]?
  | [] => by simp [wipeD]
  | v :: vs => by
    have hl : (wipeD Γ vs).length = Γ.length := by
      have go : ∀ vs : List Nat, (wipeD Γ vs).length = Γ.length := fun vs => by
        induction vs with
        | nil => rfl
        | cons v vs ih => unfold wipeD; rw [List.length_set, ih]
      exact go vs
    unfold wipeD
    rw [set_at, hl, wipeD_at (vs := vs)]
    by_cases h : v = i
    · subst h; simp
    · rw [if_neg h]
      have : (i ∈ v :: vs) ↔ i ∈ vs := by simp [Ne.symm h]
      by_cases q : i ∈ vs
      · rw [if_pos q, if_pos (this.mpr q)]
      · rw [if_neg q, if_neg fun z => q (this.mp z)]
theorem wipeD_len {Γ : DEnv} : ∀ vs : List Nat, (wipeD Γ vs).length = Γ.length
  | [] => rfl
  | v :: vs => by unfold wipeD; rw [List.length_set, wipeD_len vs]
theorem wipe_agree {σ σ' : St} {vs is : List Nat} (h : Agree is (wipe σ vs) σ') (k : ∀ i ∈ is, i ∈ vs) : wipe σ' vs = wipe σ vs := by
  apply List.ext_getElem?
  intro i
  have hl : σ'.length = σ.length := by rw [h.1, wipe_length]
  rw [wipe_at, wipe_at, hl]
  by_cases q : i ∈ vs
  · rw [if_pos q, if_pos q]
  · rw [if_neg q, if_neg q, h.2 i fun z => q (k i z), wipe_at, if_neg q]
variable {p : Pm} {F0 H0 F H : Hp} {O : List Nat} {σ : St} {Γ : DEnv} {n : Nat}
theorem Sep.wipe (s : Sep p F0 H0 O F H σ Γ n) {vs : List Nat} (hp : ∀ v ∈ vs, p.off v) : Sep p F0 H0 O F H (wipe σ vs) (wipeD Γ vs) n := by
  have gd : ∀ {j : Nat} {d : D}, (wipeD Γ vs)[j]? = some (some d) → j ∉ vs ∧ Γ[j]? = some (some d) := fun {j d} e => by
    rw [wipeD_at] at e
    by_cases q : j ∈ vs
    · rw [if_pos q] at e
      split at e <;> cases e
    · rw [if_neg q] at e
      exact ⟨q, e⟩
  refine ⟨s.f0, s.fh, s.stay, s.newF, fun a j e => ?_, by rw [wipe_length, wipeD_len]; exact s.len, fun j d hj e => ?_, fun j hj d e => ?_, fun j hj k hk hjk a dj dk h1 h2 h3 h4 => ?_⟩
  · obtain ⟨h1, h2, h3⟩ := s.pen a j e
    exact ⟨h1, by rw [wipe_at, if_neg fun z => hp j z a j e rfl]; exact h2, h3⟩
  · obtain ⟨q, e⟩ := gd e
    rw [wipe_at, if_neg q]
    exact s.sh j d hj e
  · obtain ⟨q, e⟩ := gd e
    rw [wipe_at, if_neg q]
    exact s.ow j hj d e
  · obtain ⟨q1, h1⟩ := gd h1
    obtain ⟨q2, h2⟩ := gd h2
    rw [wipe_at, if_neg q1] at h3
    rw [wipe_at, if_neg q2] at h4
    exact s.dj j hj k hk hjk a dj dk h1 h2 h3 h4
/-- the slots again, as they were -/
theorem Sep.back {F' H' : Hp} {σ' : St} {Γ' : DEnv} {n' : Nat} (s : Sep p F0 H0 O F H σ Γ n) (s' : Sep p F0 H0 O F' H' σ' Γ' n') (g : Gp p F H F' H') : Sep p F0 H0 O F' H' σ Γ n' := by
  refine ⟨s'.f0, s'.fh, s'.stay, s'.newF, fun a j e => ⟨(s'.pen a j e).1, (s.pen a j e).2.1, (s'.pen a j e).2.2⟩, s.len, fun j d hj e => ?_, fun j hj d e => ?_, s.dj⟩
  · obtain ⟨v, h1, r⟩ := s.sh j d hj e
    exact ⟨v, h1, r.mono g.f⟩
  · obtain ⟨a, h1, r, z1, z2, z3⟩ := s.ow j hj d e
    refine ⟨a, h1, ?_, ?_, z2, z3⟩
    · cases r with
      | lst q1 q2 => exact .lst (g.h _ _ q1 z3) (q2.mono g.f)
      | dct q1 q2 q3 => exact .dct (g.h _ _ q1 z3) q2 fun i x d a b => (q3 i x d a b).mono g.f
    · cases w : F' a with
      | none => rfl
      | some o =>
        obtain ⟨u, hu⟩ := r.at
        rcases g.new a o w with q | q | q
        · rw [z1] at q; cases q
        · rw [hu] at q; cases q
        · exact absurd q z3
end
section
variable {X : Cx} {p : Pm} {O is vs : List Nat} {tg iter elt : Expr} {ifs : List Expr} {pos : Pos} {wi : TI} {mi : MI} {g : TG} {mg : MG} {tt : TT} {mt : MT} {te : TE} {me : ME}
/-- a fresh thing: t tells m, and what it gives is nobody's yet -/
def LF (p : Pm) (O : List Nat) (t : TE) (m : ME) : Prop :=
  ∀ F0 H0 F H σ Γ n (Q : D → Nat → Prop), Sep p F0 H0 O F H σ Γ n → m Γ n Q → ∀ Q' : VK,
    (∀ d a F' H' n', Sep p F0 H0 O F' H' σ Γ n' → Gp p F H F' H' → Own p.K F' H' d a → F' a = none → H a = none → Q d n' → Q' (.ref a) H') → t σ H Q'
structure RF (X : Cx) (p : Pm) (O : List Nat) (e : Expr) (t : TE) (m : ME) : Prop where
  pe : PE X e t
  le : LF p O t m
theorem Sep.h0 {F0 H0 F H : Hp} {σ : St} {Γ : DEnv} {n : Nat} (s : Sep p F0 H0 O F H σ Γ n) {a : Addr} (h : H a = none) : H0 a = none ∧ ¬ p.isPen a := by
  have hp : ¬ p.isPen a := fun ⟨b, i, e, hb⟩ => by
    rcases hb with rfl | ⟨y, hy, rfl⟩
    · obtain ⟨o, q⟩ := (s.pen a i e).2.2.1.at
      rw [h] at q; cases q
    · obtain ⟨_, ps, q, _⟩ := (s.pen b i e).2.2.2 y hy
      rw [h] at q; cases q
  refine ⟨?_, hp⟩
  cases q : H0 a with
  | none => rfl
  | some o =>
    have := s.stay a o q hp
    rw [h] at this; cases this
/-- a thing that is new since H is free -/
theorem Sep.isFree {F0 H0 F H F' H' : Hp} {σ : St} {Γ : DEnv} {n : Nat} (s : Sep p F0 H0 O F H σ Γ n) {d : D} {a : Addr} (h : H a = none) (w : Own p.K F' H' d a) (f : F' a = none) : Free p H0 O F' H' σ Γ d a :=
  ⟨w, f, (s.h0 h).1, (s.h0 h).2, fun j hj dj e q => by
    obtain ⟨b, e1, r, _⟩ := s.ow j hj dj e
    rw [q] at e1
    cases e1
    obtain ⟨o, e2⟩ := r.at
    rw [h] at e2; cases e2⟩
theorem LF.toLE {t : TE} {m : ME} (h : LF p O t m) : LE p O t m := fun F0 H0 F H σ Γ n Q s q Q' k =>
  h F0 H0 F H σ Γ n Q s q Q' fun d a F1 H1 n1 s1 g1 w f ha q1 => by
    have fr := s.isFree ha w f
    obtain ⟨F2, s2, e2, _, r, nw⟩ := s1.freeze0 fr
    refine k d _ F2 H1 n1 s2 ⟨g1.f.trans e2, g1.h, fun b o e => ?_⟩ r q1
    rcases nw b o e with z | z
    · exact g1.new b o z
    · subst z; exact .inr (.inl ha)
theorem RF.e {ex : Expr} {t : TE} {m : ME} (h : RF X p O ex t m) : RE X p O ex t m := ⟨h.pe, h.le.toLE⟩
/-- an object that nobody here knows is written -/
theorem Sep.poke {F0 H0 F H : Hp} {σ : St} {Γ : DEnv} {n : Nat} (s : Sep p F0 H0 O F H σ Γ n) {a : Addr} {o : HO} (f : F a = none) (h0 : H0 a = none) (hp : ¬ p.isPen a) (sl : ∀ j ∈ O, ∀ dj, Γ[j]? = some (some dj) → σ[j]? ≠ some (some (.ref a))) : Sep p F0 H0 O F (upd H a o) σ Γ n := by
  have ne : ∀ {b : Addr} {u : HO}, F b = some u → b ≠ a := fun e z => by rw [z, f] at e; cases e
  refine ⟨s.f0, fun b u e => by rw [upd_ne (ne e)]; exact s.fh _ _ e, fun b u e q => ?_, s.newF, fun b j e => ?_, s.len, s.sh, fun j hj d e => ?_, s.dj⟩
  · rw [upd_ne fun z => by rw [z, h0] at e; cases e]
    exact s.stay b u e q
  · obtain ⟨h1, h2, ⟨w, l, xs, z1, z2, z3⟩, zt⟩ := s.pen b j e
    refine ⟨h1, h2, ⟨w, l, xs, ?_, z2, z3⟩, zt.up (.refl _) (fun y hy => (zt y hy).1) fun y hy o h => by rw [upd_ne fun z => hp ⟨b, j, e, .inr ⟨y, hy, z⟩⟩]; exact h⟩
    rw [upd_ne fun z : b = a => hp ⟨b, j, e, .inl z.symm⟩]
    exact z1
  · obtain ⟨b, h1, r, z1, z2, z3⟩ := s.ow j hj d e
    have hb : b ≠ a := fun z => sl j hj d e (z ▸ h1)
    refine ⟨b, h1, ?_, z1, z2, z3⟩
    cases r with
    | lst q1 q2 => exact .lst (by rw [upd_ne hb]; exact q1) q2
    | dct q1 q2 q3 => exact .dct (by rw [upd_ne hb]; exact q1) q2 q3
theorem Gp.none {F H F' H' : Hp} {a : Addr} {o : HO} (g : Gp p F H F' H') (f : F a = none) (h : H a = some o) (hp : ¬ p.isPen a) : F' a = none := by
  cases w : F' a with
  | none => rfl
  | some u =>
    rcases g.new a u w with q | q | q
    · rw [f] at q; cases q
    · rw [h] at q; cases q
    · exact absurd q hp
theorem lf_lc (hi : LI p O wi mi) (hg : LG p O is g mg) (ht : LT p O tt mt) (he : LE p O te me) (his : ∀ i ∈ is, i ∈ vs) (hp : ∀ v ∈ vs, p.off v) : LF p O (tLc wi g tt te vs) (mLc mi mg mt me vs) := fun F0 H0 F H σ Γ n Q s q Q' k =>
  hi F0 H0 F H σ Γ n _ s q _ fun J ds F1 H1 n1 s1 g1 fd ⟨hl, q1⟩ => fun Dd hD => by
    have hD0 : H Dd = none := by
      cases w : H Dd with
      | none => rfl
      | some o => rw [g1.h Dd o w (s1.h0 hD).2] at hD; cases hD
    have hp0 := (s1.h0 hD).2
    have hH0 := (s1.h0 hD).1
    have hF1 : F1 Dd = none := s1.fh.free hD
    have sl1 : ∀ j ∈ O, ∀ dj, Γ[j]? = some (some dj) → σ[j]? ≠ some (some (.ref Dd)) := fun j hj dj e w => by
      obtain ⟨b, e1, r, _⟩ := s1.ow j hj dj e
      rw [w] at e1
      cases e1
      obtain ⟨o, e2⟩ := r.at
      rw [hD] at e2; cases e2
    refine ⟨fun i m H => m = ds.length - i ∧ i ≤ ds.length ∧ ∃ F n acc accV, Gp p F1 H1 F H ∧ Sep p F0 H0 O F H σ Γ n ∧ F Dd = none ∧ H Dd = some (.lst accV) ∧ Rps p.K F acc accV ∧ acc.length ≤ i ∧ compW mg mt me (wipeD Γ vs) (ds.drop i) n (fun r n' => Q (.list (acc ++ r)) n'),
      ⟨ds.length, by simp, Nat.zero_le _, F1, n1, [], [], (Gr.new0 s1.fh hD _).gp, s1.gr (Gr.new0 s1.fh hD _), hF1, upd_same, .nil, Nat.zero_le _, by simpa using q1⟩, ?_⟩
    rintro i m H2 ⟨rfl, hi', F2, n2, acc, accV, g2, s2, f2, hD2, ra, hla, c2⟩
    by_cases hlt : i < ds.length
    · obtain ⟨d, hd⟩ : ∃ d, ds[i]? = some d := ⟨ds[i], by simp [hlt]⟩
      obtain ⟨go, yl⟩ := fd.go i d F2 H2 hd g2.f s2.fh
      have hdr : ds.drop i = d :: ds.drop (i + 1) := by
        rw [List.drop_eq_getElem_cons hlt]
        congr 1
        simpa [hlt] using hd
      rw [hdr] at c2
      refine .inr ⟨go, fun H => ∃ F n acc accV, Gp p F1 H1 F H ∧ Sep p F0 H0 O F H σ Γ n ∧ F Dd = none ∧ H Dd = some (.lst accV) ∧ Rps p.K F acc accV ∧ acc.length ≤ i + 1 ∧ compW mg mt me (wipeD Γ vs) (ds.drop (i + 1)) n (fun r n' => Q (.list (acc ++ r)) n'),
        fun H' w => ⟨ds.length - (i + 1), by omega, rfl, hlt, w⟩, fun x H3 y => ?_⟩
      obtain ⟨F3, g3, r3⟩ := yl x H3 y
      have s3 := s2.gr g3
      refine hg F0 H0 F3 H3 _ _ n2 d x (s3.wipe hp) r3 _ _ c2 fun σ4 Γ4 s4 a4 q4 => ?_
      refine ⟨wipe_agree a4 his, ?_⟩
      refine ht F0 H0 F3 H3 σ4 Γ4 n2 _ s4 q4 _ fun b F5 H5 n5 s5 g5 q5 => ?_
      have hD3 : H3 Dd = some (.lst accV) := g3.h _ _ hD2
      have f3 : F3 Dd = none := g3.none f2 ⟨_, hD2⟩
      have hD5 : H5 Dd = some (.lst accV) := g5.h _ _ hD3 hp0
      have f5 : F5 Dd = none := g5.none f3 hD3 hp0
      have g25 : Gp p F2 H2 F5 H5 := g3.gp.trans g5
      cases b with
      | true =>
        rw [if_pos rfl] at q5 ⊢
        refine he F0 H0 F5 H5 σ4 Γ4 n5 _ s5 q5 _ fun y v F6 H6 n6 s6 g6 r6 q6 => ?_
        have hD6 : H6 Dd = some (.lst accV) := g6.h _ _ hD5 hp0
        have f6 : F6 Dd = none := g6.none f5 hD5 hp0
        have g26 : Gp p F2 H2 F6 H6 := g25.trans g6
        refine ⟨accV, hD6, ?_, F6, n6, acc ++ [y], accV ++ [v], ?_, ((s2.back s6 g26).poke f6 hH0 hp0 sl1), f6, upd_same, (ra.mono g26.f).append (.cons r6 .nil), by rw [List.length_append, List.length_singleton]; omega, ?_⟩
        · rw [ra.len]
          exact lim_lt (by omega)
        · have g16 := g2.trans g26
          refine ⟨g16.f, fun a o e hp => ?_, g16.new⟩
          rw [upd_ne fun z => by rw [z, hD] at e; cases e]
          exact g16.h a o e hp
        · simpa using q6
      | false =>
        rw [if_neg (by decide)] at q5 ⊢
        exact ⟨F5, n5, acc, accV, g2.trans g25, s2.back s5 g25, f5, hD5, ra.mono g25.f, by omega, q5⟩
    · have e : i = ds.length := by omega
      subst e
      rw [List.drop_length] at c2
      refine .inl ⟨fd.stop F2 H2 g2.f s2.fh, k (.list acc) Dd F2 H2 n2 s2 (g1.trans g2) (.lst hD2 ra) f2 hD0 ?_⟩
      have c3 : Q (.list (acc ++ [])) n2 := c2
      rwa [List.append_nil] at c3
theorem lt_yes : LT p O tYes mYes := fun F0 H0 F H σ Γ n Q s q Q' k => k true F H n s .refl q
theorem lf_lst {t : TA} {m : MA} (h : LA p O t m) : LF p O (tLst t) (mLst m) := fun F0 H0 F H σ Γ n Q s q Q' k =>
  h F0 H0 F H σ Γ n _ s q _ fun ds us F1 H1 n1 s1 g1 r1 ⟨l, q1⟩ => by
    refine ⟨by rw [r1.len]; exact lim_line l, fun x hx => ?_⟩
    have hx0 : H x = none := by
      cases w : H x with
      | none => rfl
      | some o => rw [g1.h x o w (s1.h0 hx).2] at hx; cases hx
    exact k _ _ F1 _ n1 (s1.gr (Gr.new0 s1.fh hx _)) (g1.trans (Gr.new0 s1.fh hx _).gp) (.lst upd_same r1) (s1.fh.free hx) hx0 q1
theorem f_lst {es : List Expr} {t : TA} {m : MA} (h : RA X p O es t m) : RF X p O (.List es pos) (tLst t) (mLst m) := ⟨pe_lst h.pa, lf_lst h.le⟩
@[reducible] def mDict0 : ME := fun _ n Q => Q (.dict []) n
/-- x = a fresh thing, kept as one's own -/
theorem s_own {Ob : List Nat} {tg' e : Expr} {i : Nat} (he : RF X p O e te me) (hi : i ∉ O) (hp : p.off i) (h : PS X (.Assign [tg'] e pos) (tAsg te (gName i))) : RS X p Ob O (i :: O) (.Assign [tg'] e pos) (tAsg te (gName i)) (mSet i me) := ⟨h, fun F0 H0 F H σ Γ n E s q E' hn _ _ _ =>
  he.le F0 H0 F H σ Γ n _ s q _ fun d a F1 H1 n1 s1 g1 w f ha q1 => hn F1 H1 _ _ n1 (s1.putOwn hp (s.isFree ha w f)) g1.f q1⟩
/-- xs.append(e) -/
@[reducible] def mAppend (i : Nat) (me : ME) : MS := fun E Γ n => ∃ ds, Γ[i]? = some (some (.list ds)) ∧ me Γ n fun d n1 => ds.length < lim ∧ E.nx (Γ.set i (some (.list (ds ++ [d])))) n1
theorem s_append {Ob : List Nat} {e : Expr} {st : Stmt} {i : Nat} (he : RE X p O e te me) (hi : i ∈ O) (hK : p.K = X.K) (h : PS X st (tDrop (tBM X.K "list" rAppend (tVar i) (tCons te tNil)))) : RS X p Ob O O st (tDrop (tBM p.K "list" rAppend (tVar i) (tCons te tNil))) (mAppend i me) := ⟨hK ▸ h, fun F0 H0 F H σ Γ n E s ⟨ds, ei, q⟩ E' hn _ _ _ => by
  obtain ⟨a, e1, w, z1, z2, z3⟩ := s.ow i hi _ ei
  cases w with
  | lst w1 w2 =>
    rename_i xs
    refine ⟨.ref a, e1, .inl ⟨rfl, xs, .of w1⟩, ?_⟩
    refine he.le F0 H0 F H σ Γ n _ s q _ fun d v F1 H1 n1 s1 g1 r1 ⟨l, q1⟩ => ?_
    have w1' := g1.h _ _ w1 z3
    have f1 := g1.none z1 w1 z3
    refine ⟨a, xs, v, rfl, rfl, w1', by rw [w2.len]; exact lim_lt (by omega), ?_⟩
    refine hn F1 _ σ _ n1 ?_ g1.f q1
    -- the state behind the append
    have sg : ∀ {j : Nat} {dj : D}, (Γ.set i (some (.list (ds ++ [d]))))[j]? = some (some dj) → (j = i ∧ dj = .list (ds ++ [d])) ∨ (j ≠ i ∧ Γ[j]? = some (some dj)) := fun {j dj} e => by
      by_cases hj : i = j
      · subst hj
        rw [set_at, if_pos rfl] at e
        split at e
        · cases e; exact .inl ⟨rfl, rfl⟩
        · cases e
      · rw [List.getElem?_set_ne hj] at e
        exact .inr ⟨Ne.symm hj, e⟩
    have hu : ∀ {b : Addr} {u : HO}, F1 b = some u → b ≠ a := fun e z => by rw [z, f1] at e; cases e
    refine ⟨s1.f0, fun b u e => by rw [upd_ne (hu e)]; exact s1.fh _ _ e, fun b u e q => ?_, s1.newF, fun b j e => ?_, by simp [s1.len], fun j dj hj e => ?_, fun j hj dj e => ?_, fun j hj k hk hjk b dj dk h1 h2 h3 h4 => ?_⟩
    · rw [upd_ne fun z => by rw [z, z2] at e; cases e]
      exact s1.stay b u e q
    · obtain ⟨h1, h2, ⟨w, l, ys, y1, y2, y3⟩, zt⟩ := s1.pen b j e
      refine ⟨h1, h2, ⟨w, l, ys, ?_, y2, y3⟩, zt.up (.refl _) (fun y hy => (zt y hy).1) fun y hy o h => by rw [upd_ne fun z => z3 ⟨b, j, e, .inr ⟨y, hy, z⟩⟩]; exact h⟩
      rw [upd_ne fun z : b = a => z3 ⟨b, j, e, .inl z.symm⟩]
      exact y1
    · rcases sg e with ⟨rfl, _⟩ | ⟨_, e⟩
      · exact absurd hi hj
      · exact s1.sh j dj hj e
    · rcases sg e with ⟨rfl, rfl⟩ | ⟨hne, e⟩
      · exact ⟨a, e1, .lst upd_same ((w2.mono g1.f).append (.cons r1 .nil)), f1, z2, z3⟩
      · obtain ⟨b, h1, r, y1, y2, y3⟩ := s1.ow j hj dj e
        have hb : b ≠ a := fun z => s1.dj j hj i hi hne a dj _ e ei (z ▸ h1) e1
        refine ⟨b, h1, ?_, y1, y2, y3⟩
        cases r with
        | lst q1 q2 => exact .lst (by rw [upd_ne hb]; exact q1) q2
        | dct q1 q2 q3 => exact .dct (by rw [upd_ne hb]; exact q1) q2 q3
    · have gj : ∃ d', Γ[j]? = some (some d') := by
        rcases sg h1 with ⟨rfl, _⟩ | ⟨_, e⟩
        · exact ⟨_, ei⟩
        · exact ⟨_, e⟩
      have gk : ∃ d', Γ[k]? = some (some d') := by
        rcases sg h2 with ⟨rfl, _⟩ | ⟨_, e⟩
        · exact ⟨_, ei⟩
        · exact ⟨_, e⟩
      obtain ⟨d1, g1'⟩ := gj
      obtain ⟨d2, g2'⟩ := gk
      exact s1.dj j hj k hk hjk b d1 d2 g1' g2' h3 h4⟩
end
end RR
end
section
namespace RR
open PySem PySem.Spec L2
open PyProof.Rows hiding St
abbrev GB (k : Nat) (A : Around) : Prop := 100 ≤ k → A.guards = some []
theorem GB.le {j k : Nat} {A : Around} (g : GB k A) (h : j ≤ k) : GB j A := fun z => g (Nat.le_trans z h)
structure FnG (P : Program) (w : World) (K : PySem.W.Frag) (mg : Str → Option Value) (base : Heap) (k : Nat) (f : Addr) (fd : FuncData) (ps : List Str) (sp : Sp) : Prop where
  len : ∀ vs H Q E, sp vs H Q E → vs.length = ps.length
  run : ∀ (A : Around) (outer : List Env) (s : Shared) (H : Hp) (args : Args) (us : List Value) (vs : List V) (Q : VK) (E : XK), Room k A → GB k A →
    Env0 P w K mg base A outer s H → BindsTo s fd args (ps.zip us) → Vals vs us → sp vs H Q E → codeAny (model P w) A (.call (.ref f) args) (CR CX0 outer P w H s Q E) s
section
variable {P : Program} {w : World} {K : PySem.W.Frag} {mg : Str → Option Value} {base : Heap}
theorem FnG.mono {j k : Nat} {f : Addr} {fd : FuncData} {ps : List Str} {sp : Sp} (F : FnG P w K mg base j f fd ps sp) (h : j ≤ k) : FnG P w K mg base k f fd ps sp :=
  ⟨F.len, fun A o s H a us vs Q E hr g => F.run A o s H a us vs Q E (hr.mono h) (g.le h)⟩
theorem FnG.imp {k : Nat} {f : Addr} {fd : FuncData} {ps : List Str} {sp sp' : Sp} (F : FnG P w K mg base k f fd ps sp) (h : ∀ vs H Q E, sp' vs H Q E → sp vs H Q E) : FnG P w K mg base k f fd ps sp' :=
  ⟨fun vs H Q E q => F.len vs H Q E (h _ _ _ _ q), fun A o s H a us vs Q E r g e b v q => F.run A o s H a us vs Q E r g e b v (h _ _ _ _ q)⟩
abbrev bodyCx (P : Program) (w : World) (K : PySem.W.Frag) (mg : Str → Option Value) (base : Heap) (N : List Str) (qual : Str) (scope : Scope) (f : Addr) (cdv : Value) (A : Around) (outer : List Env) (s : Shared) (H : Hp) (E : XK) : Cx :=
  (cxOf CX0 P w K mg base N qual scope f cdv A outer s H E).nox
theorem FnG.mk' {x qual : Str} {st : Stmt} {f : Addr} {fd : FuncData} {N ps : List Str} {k : Nat} {sp : Sp} (F : Fun K x qual st f fd) (S : FnScope N ps (defScope st)) (len : ∀ vs H Q E, sp vs H Q E → vs.length = ps.length)
    (hbody : ∀ (cdv : Value) (A : Around) (outer : List Env) (s : Shared) (H : Hp) (vs : List V) (Q : VK) (E : XK), Room k (A.deeper (envOfC qual (defScope st) s.heap.objs.size f cdv)) → GB (k + 1) A → sp vs H Q E →
      ∃ t, PSs (bodyCx P w K mg base N qual (defScope st) f cdv A outer s H E) (defBody st) t ∧ t { nx := fun _ H' => Q .non H', rt := Q } (start N vs) H) : FnG P w K mg base (k + 1) f fd ps sp := by
  obtain ⟨oc, od, kV, doc, pm, an, cdv, ct, osl, rfl, lk, hcd⟩ := F.ex
  refine ⟨len, ?_⟩
  intro A outer s H args us vs Q E hr hg e0 hb r hsp
  have hl : vs.length = ps.length := len _ _ _ _ hsp
  have KX : K.In s.heap := e0.mod.kin.keeps fun b o z => (e0.bs b o z).1
  have lim := e0.mod.nolimit.keeps (h' := s.heap) fun b o z => (e0.bs b o z).1
  have kinds : ∀ y ∈ ps.zip us, (defScope st).names.lookup y.1 = some .local ∨ ((defScope st).names.lookup y.1 = some .cell ∧ ((cellsFrom (s.heap.objs.size + 1) (defScope st).names []).lookup y.1).isSome = true) := by
    rintro ⟨n, v⟩ hy
    exact (S.par n (List.of_mem_zip hy).1).imp id fun q => ⟨q, PySem.W.cellsFrom_some _ _ _ (.inl q)⟩
  refine codeAny_call_function hr.depth (KX _ _ lk) rfl S.co S.gen rfl (PySem.W.codeRec_of KX hcd) (hb _ _ _ _ (wpAny_newFunctionEnv_cells S.kind kinds ?_))
  intro env he s1 x1
  subst he
  refine ⟨lim.keeps x1.toInCall.keep, codeAny_func ?_⟩
  obtain ⟨t, ht, hq⟩ := hbody cdv A outer s H vs Q E (hr.deeper _) hg hsp
  have I := inv_start (CX := CX0) (P := P) (w := w) (K := K) (mg := mg) (E := E) S hr.hd e0 hl r x1
  refine wpAny_mono (ht.nox.run [] s1 (start N vs) H _ I hq) ?_ fun e s' z => z
  intro fl s' hs
  cases fl with
  | ret u =>
    obtain ⟨v, σ', H', J, rv, q⟩ := hs
    exact ⟨v, H', J.os, J.bare, J.base, J.hok, rv, q⟩
  | next =>
    obtain ⟨σ', H', J, q⟩ := hs
    exact ⟨V.non, H', J.os, J.bare, J.base, J.hok, rfl, q⟩
  | brk => exact hs.elim fun _ z => z.elim fun _ z => z.2.elim
  | cont => exact hs.elim fun _ z => z.elim fun _ z => z.2.elim
end
section
variable {X : Cx} {k : Nat} {f : Addr} {fd : FuncData} {ps : List Str} {sp : Sp}
theorem run_g {pins : List (Addr × Obj)} {σ : St} {H : Hp} {s : Shared} {Q : VK} {us : List Value} {vs : List V} (F : FnG X.prog X.w X.K X.mg X.base k f fd ps sp) (hr : Room k X.A) (hg : GB k X.A) (hb : Binds X.K fd ps []) (I : Inv X pins σ H s) (r : Vals vs us) (h : sp vs H Q E0) :
    wpAny (model X.prog X.w) X.A (call (.ref f) us) (EP X pins σ Q) X.xe s := by
  have hl : us.length = ps.length := r.length.symm.trans (F.len _ _ _ _ h)
  have b0 : BindsTo s fd ⟨us, []⟩ (ps.zip us) := by
    have z := hb s us I.kIn (by rw [List.append_nil]; exact hl)
    rwa [List.append_nil] at z
  refine wpAny_call (codeAny_mono (F.run X.A X.stack s H ⟨us, []⟩ us vs Q E0 hr hg I.env0 b0 r h) ?_)
  intro res s' hq
  match res, hq with
  | .ok (.ret u), hq => exact I.after hq
/-- f(e, ..) -/
theorem pe_callG {x : Str} {p pos : Pos} {e : Expr} {es : List Expr} {t : TA} (F : FnG X.prog X.w X.K X.mg X.base k f fd ps sp) (hr : Room k X.A) (hg : GB k X.A) (hgl : Gl X x) (hm : X.mg x = some (.ref f)) (hk : PySem.W.keepIn X.K (.ref f) = true) (hb : Binds X.K fd ps [])
    (ha : PA X (e :: es) t) (hdb : (x == ("__debug__" : Str)) = false := by decide) (he : starEach (e :: es) X.env = (false, eval e X.env) :: starEach es X.env := by rfl) (hpl : (backTo pos (starEach es X.env)).any (·.1) = false := by rfl) :
    PE X (.Call (.Name x p) (e :: es) [] pos) (tCall sp [] E0 t) := ⟨fun pins s σ H Q I h =>
  wpAny_Call_Name_kw (ld_glob I hgl hm (PySem.W.callWith_K (h₀ := X.base) I.ok.mod.kin hk (thn (ha.run pos pins s σ H _ I h) fun us s1 w => by
    obtain ⟨vs, H1, I1, r, q⟩ := w
    rw [List.append_nil] at q
    exact ⟨I1.kIn, run_g F hr hg hb I1 r q⟩) he hpl) hdb)⟩
end
abbrev MP := List D → (D → Prop) → Prop
/-- a def that leaves all as it is -/
def spF (K : PySem.W.Frag) (m : MP) : Sp := fun vs H Q _ => ∃ (F : Hp) (ds : List D) (R : D → Prop), Same F H ∧ Rps K F ds vs ∧ m ds R ∧ ∀ d v F' H', Gr F H F' H' → Rp K F' d v → R d → Q v H'
/-- a def that draws: its first argument is the drawing list -/
def spP (K : PySem.W.Frag) (m : MF) : Sp := fun vs H Q _ => ∃ (a dr : Addr) (ws : List V) (F : Hp) (ds : List D) (n : Nat) (R : D → Nat → Prop), vs = .ref a :: ws ∧ Same F H ∧ F a = none ∧ PenAt dr F H a n ∧ Rps K F ds ws ∧ m ds n R ∧
  ∀ d n' v F' H', Same F F' → Same F' H' → (∀ b o, H b = some o → b ≠ a → H' b = some o) → (∀ b o, F' b = some o → F b = some o ∨ H b = none) → F' a = none → PenAt dr F' H' a n' → Rp K F' d v → R d n' → Q v H'
def startD (N : List Str) (ds : List (Option D)) : DEnv := ds ++ List.replicate (N.length - ds.length) none
@[reducible] def mEnds (R : D → Nat → Prop) : EndsD := { nx := fun _ n => R .none n, rt := R }
/-- what a def's body means -/
@[reducible] def mFun (N : List Str) (np : Nat) (mb : MS) : MP := fun ds R => ds.length = np ∧ mb (mEnds fun d _ => R d) (startD N (ds.map some)) 0
@[reducible] def mFunP (N : List Str) (np : Nat) (mb : MS) : MF := fun ds n R => ds.length = np ∧ mb (mEnds R) (startD N (none :: ds.map some)) n
section
variable {P : Program} {w : World} {K : PySem.W.Frag} {mg : Str → Option Value} {base : Heap}
theorem start_get {N : List Str} {vs : List V} {i : Nat} (h : i < vs.length) : (start N vs)[i]? = some (some vs[i]) := by
  unfold L2.start
  rw [List.getElem?_append_left (by simpa using h), List.getElem?_map, List.getElem?_eq_getElem h]
  rfl
theorem startD_get {N : List Str} {ds : List (Option D)} {i : Nat} {d : D} (h : (startD N ds)[i]? = some (some d)) : ds[i]? = some (some d) := by
  unfold startD at h
  by_cases hi : i < ds.length
  · rwa [List.getElem?_append_left hi] at h
  · rw [List.getElem?_append_right (by omega), List.getElem?_replicate] at h
    split at h <;> cases h
theorem sep_start {N : List Str} {F H : Hp} {ds : List D} {vs : List V} {n : Nat} (s : Same F H) (r : Rps K F ds vs) (hl : vs.length ≤ N.length) : Sep ⟨K, none, 0⟩ F H [] F H (start N vs) (startD N (ds.map some)) n where
  f0 := .refl _
  fh := s
  stay := fun _ _ e _ => e
  newF := fun _ _ e => .inl e
  pen := fun _ _ e => nomatch e
  len := by simp [L2.start, startD, r.len]
  sh := fun i d _ e => by
    have e1 : ds[i]? = some d := by
      have := startD_get e
      rw [List.getElem?_map] at this
      cases q : ds[i]? with
      | none => rw [q] at this; cases this
      | some x => rw [q] at this; cases this; rfl
    obtain ⟨v, e2, rv⟩ := r.get e1
    have hi := (List.getElem?_eq_some_iff.mp e2).1
    refine ⟨v, ?_, rv⟩
    rw [start_get hi]
    rw [List.getElem?_eq_getElem hi] at e2
    cases e2
    rfl
  ow := fun i h => nomatch h
  dj := fun i h => nomatch h
theorem sep_startP {N : List Str} {F H : Hp} {a dr : Addr} {ds : List D} {vs : List V} {n : Nat} (s : Same F H) (fa : F a = none) (pa : PenAt dr F H a n) (r : Rps K F ds vs) (hl : vs.length + 1 ≤ N.length) : Sep ⟨K, some (a, 0), ⟨dr, []⟩⟩ F H [] F H (start N (.ref a :: vs)) (startD N (none :: ds.map some)) n where
  f0 := .refl _
  fh := s
  stay := fun _ _ e _ => e
  newF := fun _ _ e => .inl e
  pen := fun b j e => by
    cases e
    exact ⟨fa, rfl, pa, .nil⟩
  len := by simp [L2.start, startD, r.len]
  sh := fun i d _ e => by
    have e0 := startD_get e
    cases i with
    | zero => cases e0
    | succ i =>
      have e1 : ds[i]? = some d := by
        rw [List.getElem?_cons_succ, List.getElem?_map] at e0
        cases q : ds[i]? with
        | none => rw [q] at e0; cases e0
        | some x => rw [q] at e0; cases e0; rfl
      obtain ⟨v, e2, rv⟩ := r.get e1
      have hi := (List.getElem?_eq_some_iff.mp e2).1
      refine ⟨v, ?_, rv⟩
      rw [start_get (by simpa using hi)]
      rw [List.getElem?_eq_getElem hi] at e2
      cases e2
      rfl
  ow := fun i h => nomatch h
  dj := fun i h => nomatch h
/-- a def by its body's derivation -/
theorem FnG.pure {x qual : Str} {st : Stmt} {f : Addr} {fd : FuncData} {N ps : List Str} {k : Nat} {mb : MS} (F : Fun K x qual st f fd) (S : FnScope N ps (defScope st))
    (body : ∀ (cdv : Value) (A : Around) (outer : List Env) (s : Shared) (H : Hp) (E : XK), Room k (A.deeper (envOfC qual (defScope st) s.heap.objs.size f cdv)) → GB (k + 1) A →
      ∃ t O', RSs (bodyCx P w K mg base N qual (defScope st) f cdv A outer s H E) ⟨K, none, 0⟩ [] [] O' (defBody st) t mb) : FnG P w K mg base (k + 1) f fd ps (spF K (mFun N ps.length mb)) := by
  refine FnG.mk' F S (fun vs H Q E ⟨Fz, ds, R, s, r, ⟨hl, _⟩, _⟩ => r.len.trans hl) fun cdv A outer s H vs Q E hr hg ⟨Fz, ds, R, sm, r, ⟨hl, q⟩, fin⟩ => ?_
  obtain ⟨t, O', B⟩ := body cdv A outer s H E hr hg
  have hN : vs.length ≤ N.length := by
    rw [r.len, hl]
    have := congrArg List.length S.pre
    rw [List.length_take] at this
    omega
  refine ⟨t, B.ps, B.le Fz H Fz H _ _ 0 _ (sep_start sm r hN) q _ (fun F' H' σ' Γ' n' s' _ q' => ?_) (fun d v F' H' n' s' r' q' => ?_) (fun _ _ _ _ _ _ _ z => z.elim) (fun _ _ _ _ _ _ _ z => z.elim)⟩
  · exact fin .none .non F' H' ⟨s'.f0, s'.fh, fun a o e => s'.stay a o e (fun ⟨_, _, z, _⟩ => nomatch z), s'.newF⟩ .non q'
  · exact fin d v F' H' ⟨s'.f0, s'.fh, fun a o e => s'.stay a o e (fun ⟨_, _, z, _⟩ => nomatch z), s'.newF⟩ r' q'
theorem FnG.pen {x qual : Str} {st : Stmt} {f : Addr} {fd : FuncData} {N ps : List Str} {x0 : Str} {k : Nat} {mb : MS} (F : Fun K x qual st f fd) (S : FnScope N (x0 :: ps) (defScope st))
    (body : ∀ (a dr : Addr) (cdv : Value) (A : Around) (outer : List Env) (s : Shared) (H : Hp) (E : XK), Room k (A.deeper (envOfC qual (defScope st) s.heap.objs.size f cdv)) → GB (k + 1) A →
      ∃ t O', RSs (bodyCx P w K mg base N qual (defScope st) f cdv A outer s H E) ⟨K, some (a, 0), ⟨dr, []⟩⟩ [] [] O' (defBody st) t mb) : FnG P w K mg base (k + 1) f fd (x0 :: ps) (spP K (mFunP N ps.length mb)) := by
  refine FnG.mk' F S (fun vs H Q E h => ?_) fun cdv A outer s H vs Q E hr hg h => ?_
  · obtain ⟨a, dr, ws, Fz, ds, n, R, rfl, sm, fa, pa, r, ⟨hl, _⟩, _⟩ := h
    rw [List.length_cons, List.length_cons, r.len, hl]
  · obtain ⟨a, dr, ws, Fz, ds, n, R, rfl, sm, fa, pa, r, ⟨hl, q⟩, fin⟩ := h
    obtain ⟨t, O', B⟩ := body a dr cdv A outer s H E hr hg
    have hN : ws.length + 1 ≤ N.length := by
      rw [r.len, hl]
      have := congrArg List.length S.pre
      rw [List.length_take, List.length_cons] at this
      omega
    have isP : ∀ b, (Pm.mk K (some (a, 0)) ⟨dr, []⟩).isPen b → b = a := fun b ⟨c, j, e, hb⟩ => by
      cases e
      rcases hb with h | ⟨y, hy, _⟩
      · exact h
      · cases hy
    have fin' : ∀ {d : D} {v : V} {F' H' : Hp} {n' : Nat}, Fin0 ⟨K, some (a, 0), ⟨dr, []⟩⟩ Fz H F' H' n' → Rp K F' d v → R d n' → Q v H' := fun {d v F' H' n'} s' r' q' =>
      fin d n' v F' H' s'.f0 s'.fh (fun b o e hb => s'.stay b o e fun z => hb (isP b z)) s'.newF (s'.pen a 0 rfl).1 (s'.pen a 0 rfl).2.1 r' q'
    refine ⟨t, B.ps, B.le Fz H Fz H _ _ n _ (sep_startP sm fa pa r hN) q _ (fun F' H' σ' Γ' n' s' _ q' => fin' s'.fin .non q') (fun d v F' H' n' s' r' q' => fin' s' r' q') (fun _ _ _ _ _ _ _ z => z.elim) (fun _ _ _ _ _ _ _ z => z.elim)⟩
end
@[reducible] def mCall (mf : MP) (ma : MA) : ME := fun Γ n Q => ma Γ n fun ds n1 => mf ds fun d => Q d n1
@[reducible] def mCallP (mf : MF) (ma : MA) : ME := fun Γ n Q => ma Γ n fun ds n1 => mf ds n1 Q
section
variable {X : Cx} {p : Pm} {O : List Nat} {k : Nat} {f : Addr} {fd : FuncData} {ps : List Str} {x : Str} {q pos : Pos} {e : Expr} {es : List Expr} {t : TA} {ma : MA}
theorem le_call {mf : MP} (h : LA p O t ma) : LE p O (tCall (spF p.K mf) [] E0 t) (mCall mf ma) := fun F0 H0 F H σ Γ n Q s q Q' k =>
  h F0 H0 F H σ Γ n _ s q _ fun ds vs F1 H1 n1 s1 g1 r1 q1 =>
    ⟨F1, ds, _, s1.fh, by rw [List.append_nil]; exact r1, q1, fun d v F2 H2 g2 r2 q2 => k d v F2 H2 n1 (s1.gr g2) (g1.trans g2.gp) r2 q2⟩
/-- the drawing list's state anew -/
theorem Sep.drew {F0 H0 F H F' H' : Hp} {σ : St} {Γ : DEnv} {n n' : Nat} {a : Addr} {i : Nat} (s : Sep p F0 H0 O F H σ Γ n) (hp : p.ap = some (a, i)) (ff : Same F F') (fh : Same F' H') (st : ∀ b o, H b = some o → b ≠ a → H' b = some o) (nw : ∀ b o, F' b = some o → F b = some o ∨ H b = none) (fa : F' a = none) (pa : PenAt p.dr.ad F' H' a n') :
    Sep p F0 H0 O F' H' σ Γ n' ∧ Gp p F H F' H' := by
  have g : Gp p F H F' H' := ⟨ff, fun b o e hb => st b o e fun z => hb ⟨a, i, hp, .inl z⟩, fun b o e => (nw b o e).imp id .inl⟩
  have zt := (s.pen a i hp).2.2.2
  have tabs : TabF p.dr.tb F' H' := zt.up ff (fun y hy => by
    obtain ⟨h1, ps, h2, _⟩ := zt y hy
    cases q : F' y.1 with
    | none => rfl
    | some o =>
      rcases nw _ _ q with z | z
      · rw [h1] at z; cases z
      · rw [h2] at z; cases z) fun y hy o h => st _ _ h fun z => by
    obtain ⟨h1, ps, h2, _⟩ := zt y hy
    obtain ⟨_, _, _, e1, _⟩ := (s.pen a i hp).2.2.1
    rw [z, e1] at h2
    cases h2
  refine ⟨⟨s.f0.trans ff, fh, fun b o e hb => g.h b o (s.stay b o e hb) hb, fun b o e => ?_, fun b j e => ?_, s.len, fun j d hj e => ?_, fun j hj d e => ?_, s.dj⟩, g⟩
  · rcases nw b o e with z | z
    · exact s.newF b o z
    · exact .inr (s.h0 z).1
  · rw [hp] at e
    cases e
    exact ⟨fa, (s.pen a i hp).2.1, pa, tabs⟩
  · obtain ⟨v, h1, r⟩ := s.sh j d hj e
    exact ⟨v, h1, r.mono ff⟩
  · obtain ⟨b, h1, r, z1, z2, z3⟩ := s.ow j hj d e
    obtain ⟨o, ho⟩ := r.at
    refine ⟨b, h1, ?_, g.none z1 ho z3, z2, z3⟩
    cases r with
    | lst q1 q2 => exact .lst (g.h _ _ q1 z3) (q2.mono ff)
    | dct q1 q2 q3 => exact .dct (g.h _ _ q1 z3) q2 fun i x d a b => (q3 i x d a b).mono ff
/-- f(pen, e, ..): the drawing list stands in slot i -/
theorem le_callP {mf : MF} {a : Addr} {i : Nat} (hp : p.ap = some (a, i)) (h : LA p O t ma) : LE p O (tCall (spP p.K mf) [] E0 (tCons (tVar i) t)) (mCallP mf ma) := fun F0 H0 F H σ Γ n Q s q Q' k => by
  refine ⟨.ref a, (s.pen a i hp).2.1, ?_⟩
  refine h F0 H0 F H σ Γ n _ s q _ fun ds vs F1 H1 n1 s1 g1 r1 q1 => ?_
  obtain ⟨h1, _, h3, _⟩ := s1.pen a i hp
  refine ⟨a, p.dr.ad, vs, F1, ds, n1, _, by rw [List.append_nil], s1.fh, h1, h3, r1, q1, fun d n2 v F2 H2 e1 e2 e3 e4 e5 e6 e7 e8 => ?_⟩
  obtain ⟨s2, g2⟩ := s1.drew hp e1 e2 e3 e4 e5 e6
  exact k d v F2 H2 n2 s2 (g1.trans g2) e7 e8
end
end RR
end
section
namespace RR
open PySem PySem.Spec L2
open PyProof.Rows hiding St
/-- the tuple at a, each item in a new pair with its place -/
def ItE (K : PySem.W.Frag) (a : Addr) : It :=
  ⟨fun j H => ∃ (zs : List V) (z : V), SqT K H a zs ∧ zs[j]? = some z, fun j H r H' => ∃ T z, r = .ref T ∧ H T = none ∧ H' = upd H T (.tup [.int (j : Nat), z]) ∧ ∀ zs, SqT K H a zs → zs[j]? = some z, fun j H => ∃ zs : List V, SqT K H a zs ∧ zs.length ≤ j⟩
theorem isTuple_of {h : Heap} {a : Addr} {its : Array Value} (p : IsTup h a its) : h.IsTuple a its := p
theorem turn_etup {P : Program} {w : World} {K : PySem.W.Frag} {els : List Expr} {kk : Nat} {tp : Pos} (a e it : Addr) (hea : e ≠ a) (hai : a ≠ it) :
    Turn P w K (.Tuple els kk tp) (ItE K a) [e, it] e (fun j h => (∃ old, IsEnum h e it ((j : Nat) : Int) old) ∧ h.IsTupleIter it a j ∧ e ≠ it) where
  mem := List.mem_cons_self ..
  obj := by
    rintro j h ⟨⟨old, he⟩, ⟨o, ho, hcl, hda⟩, _⟩ b hb
    rcases List.mem_cons.mp hb with rfl | hb
    · exact ⟨_, he, fun v z => nomatch z⟩
    · obtain rfl : b = it := by simpa using hb
      exact ⟨o, ho, fun v z => by rw [hda] at z; cases z⟩
  keep := by
    rintro j h h' ⟨⟨old, he⟩, hi, hne⟩ kp
    exact ⟨⟨old, kp e (by simp) _ he⟩, hi.at fun o z => kp it (by simp) o z, hne⟩
  item := by
    intro X hP hw hK hc j pins s σ H E I hf st hg
    subst hP hw hK
    obtain ⟨⟨old, he⟩, hit, hne⟩ := st
    obtain ⟨zs, z, hq, hz⟩ := hg
    obtain ⟨its, rv, pt, _⟩ := I.tuple hq
    obtain ⟨u, hu, ru⟩ := rv.get hz
    have le : e < s.heap.objs.size := Heap.lt_size he
    have li : it < s.heap.objs.size := by
      obtain ⟨_, q, _⟩ := hit
      exact Heap.lt_size q
    have hj : j < its.toArray.size := by
      have := (List.getElem?_eq_some_iff.mp hu).1
      simpa using this
    have Dr := Draws.tuple (prog := X.prog) (w := X.w) (A := X.A.in1) (I.ok.hd hc) it a hai its.toArray
    refine wpAny_pyNext_enum_itemD Dr he ⟨hit, isTuple_of pt⟩ hj hne (by simp [hne, hea]) fun y h' tk hy ho hst hT hsz hk => ?_
    obtain rfl : u = y := by
      have h1 : its.toArray[j]? = some y := hy
      have h2 : its.toArray[j]? = some u := by simpa using hu
      exact Option.some.inj (h2.symm.trans h1)
    refine ⟨_, rfl, wpAny_letOwnedTupleGo_enum (s := { s with heap := h', toks := tk + 1 }) ho fun h2 he2 sb => ?_⟩
    have hT2 : h2.get? s.heap.objs.size = some { cls := .type "tuple", data := .seq #[.int j tk, u] } := (sb.2 _ (Nat.ne_of_gt le)).trans hT
    have nw : ObjOk X.prog X.w (upd H s.heap.objs.size (.tup [.int (j : Nat), z])) h2 s.heap.objs.size (.tup [.int (j : Nat), z]) :=
      ⟨by show 2 ≤ sizeLine; decide, [.int j tk, u], .cons ⟨_, rfl⟩ (.cons ru .nil), _, hT2, rfl, _, rfl⟩
    have J : Inv X pins σ (upd H s.heap.objs.size (.tup [.int (j : Nat), z])) { s with heap := h2, toks := tk + 1 } :=
      I.turnedNew (ch := [e, it]) (fun b ob hb q => (sb.2 b fun w => hb (by simp [w])).trans (hk b ob (fun w => hb (by simp [w])) (fun w => hb (by simp [w])) q)) hf (Nat.le_refl _) nw
    refine ⟨.ref s.heap.objs.size, _, J, rfl, ⟨_, z, rfl, I.hok.fresh (Nat.le_refl _), rfl, fun ys hy => by rw [I.tuple_inj hy hq]; exact hz⟩, ⟨⟨u, ?_⟩, hst.1.at fun o q => (sb.2 it (Ne.symm hne)).trans q, hne⟩, fun b hb => ?_⟩
    · rw [show ((j + 1 : Nat) : Int) = (j : Int) + 1 by omega]
      exact he2
    · have lb : b < s.heap.objs.size := by
        rcases List.mem_cons.mp hb with q | q
        · rw [q]; exact le
        · obtain rfl : b = it := by simpa using q
          exact li
      rw [upd_ne (Nat.ne_of_lt lb)]
      exact (hf b hb).1
  done := by
    intro X hP hw hK hc j pins s σ H E I hf st hg
    subst hP hw hK
    obtain ⟨⟨old, he⟩, hit, hne⟩ := st
    obtain ⟨zs, hq, hz⟩ := hg
    obtain ⟨its, rv, pt, _⟩ := I.tuple hq
    obtain ⟨f0, f1, f2, f3, f4, f5⟩ := hf it (by simp)
    have hl := rv.length
    have Dr := Draws.tuple (prog := X.prog) (w := X.w) (A := X.A.in1) (I.ok.hd hc) it a hai its.toArray
    -- the iterator stands at or behind the end: at the end as it draws
    unfold pyNext
    have hT : s.TypeIs (.ref e) "enumerate" := ⟨_, he, rfl⟩
    refine wpAny_bind (wpAny_attempt (wpAny_callSpecial?_slot (name := Str.ofString "__next__") hT PySem.F.slot_enumerate_next
      (wpAny_call_entry PySem.F.slot_enumerate_next hT PySem.F.entry_enumerate_next ?_ (PySem.F.args_enumerate_next_1 _))))
    show wpAny _ _ (field (.ref e) 2 >>= _) _ _ _
    refine wpAny_bind (wpAny_field he rfl (x := .ref it) rfl ?_)
    refine wpAny_bind (wpAny_nextOf_tuple_end (A := X.A.in1) (I.ok.hd hc) hit (isTuple_of pt) (by simp; omega) fun h' x he' hx' => ?_)
    obtain ⟨o, ho, hcl⟩ := hx'
    refine wpAny_bind (wpAny_isInstance (T := "StopIteration") (b := true) ⟨o, ho, hcl⟩ isSubtype_stop ?_)
    exact wpAny_pure ⟨rfl, I.turned (t' := s.toks) (fun b o hb q => he' b o hb q) f0 f1 f3 f4 f5⟩
  self := fun A j s Q E st h => let ⟨⟨_, he⟩, _⟩ := st; wpAny_pyIter_enum he h
theorem meets_enum1 {v : Value} {o : Obj} {H : Heap → Prop} (B : Begins v o H) :
    Meets (Builtin.«enumerate.__new__» ⟨[.type "enumerate", v], []⟩) (fun _ R s => H s.heap ∧
      R (.ok (.ret (.ref (s.heap.push o).objs.size))) { s with heap := (s.heap.push o).push { cls := .type "enumerate", data := .fields #[.none, .bool false, .ref s.heap.objs.size, rawInt 0, .none, .none] } }) :=
  .of_wp fun prog w A R s h => by
    obtain ⟨hp, g, d, tk, os⟩ := s
    obtain ⟨h1, h⟩ := h
    have sube := sub_enumerate
    have it1 : ∀ {A' : Around} {E : Value → Shared → Prop} {Q : Value → Shared → Prop}, Q (.ref hp.objs.size) ⟨hp.push o, g, d, tk, os⟩ → wpAny (model prog w) A' (pyIter v) Q E ⟨hp, g, d, tk, os⟩ :=
      fun z => B.iter prog w _ _ ⟨hp, g, d, tk, os⟩ _ h1 z
    wp_walk using it1
    refine wpAny_stack_any fun st => wpAny_pure ?_
    split
    · rename_i c _ _ _ _ _
      cases (c == Value.type "enumerate") <;> (wp_walk using it1; exact ⟨_, rfl, h⟩)
    · wp_walk using it1
      exact ⟨_, rfl, h⟩
theorem call_enum1 {prog : Program} {w : World} {A : Around} {E : Value → Shared → Prop} {s : Shared} {v : Value} {o : Obj} {H : Heap → Prop} {Q : Value → Shared → Prop} (B : Begins v o H) (h1 : H s.heap)
    (h : ∀ h', IsEnum h' (s.heap.objs.size + 1) s.heap.objs.size 0 .none → h'.get? s.heap.objs.size = some o → h'.objs.size = s.heap.objs.size + 2 → (∀ b o, s.heap.get? b = some o → h'.get? b = some o) → Q (.ref (s.heap.objs.size + 1)) { s with heap := h' }) :
    wpAny (model prog w) A (call (.type "enumerate") [v]) Q E s := by
  refine callType_new PySem.F.called_enumerate (by decide) (PySem.F.typeCall_enumerate_1 _) (PySem.F.newCall_enumerate_1 _) (fun obj => PySem.F.args_object_init_2 obj _) PySem.F.entry_enumerate_new (meets_enum1 B) ⟨h1, ?_⟩
  have hz : (s.heap.push o).objs.size = s.heap.objs.size + 1 := Heap.size_push ..
  show _ ∧ _
  rw [hz]
  have he : IsEnum ((s.heap.push o).push { cls := .type "enumerate", data := .fields #[.none, .bool false, .ref s.heap.objs.size, rawInt 0, .none, .none] }) (s.heap.objs.size + 1) s.heap.objs.size 0 .none := by
    have z := Heap.get?_push_size (s.heap.push o) (o := { cls := .type "enumerate", data := .fields #[.none, .bool false, .ref s.heap.objs.size, rawInt 0, .none, .none] }) rfl
    rw [hz] at z
    exact z
  exact ⟨⟨_, he, rfl⟩, h _ he (Heap.get?_push_of_some _ (Heap.get?_push_size _ B.free)) (by rw [Heap.size_push, hz]) fun b o x => Heap.get?_push_of_some _ (Heap.get?_push_of_some _ x)⟩
/-- enumerate of a list or a tuple -/
def iEnumA (K : PySem.W.Frag) (ta : TA) : TI := fun σ H R => ta σ H fun vs H1 => ∃ a xs, vs = [.ref a] ∧ ((SqL K H1 a xs ∧ R (Ite K a) H1) ∨ (SqT K H1 a xs ∧ R (ItE K a) H1))
theorem pi_enumA {X : Cx} {e : Expr} {ta : TA} {p pos tpos : Pos} {elts : List Expr} {kk : Nat} (hg : Gl X "enumerate") (hm : X.mg "enumerate" = none) (ha : PA X [e] ta) (hs : starEach [e] X.env = [(false, eval e X.env)] := by rfl) :
    PI X (.Tuple elts kk tpos) (.Call (.Name "enumerate" p) [e] [] pos) (iEnumA X.K ta) := ⟨fun pins s σ H R I h => by
  refine Call_ (ld_blt I hg hm boot_enumerate (callWith_type1 (thn (ha.run pos pins s σ H _ I h) fun us s1 w => ?_) hs rfl))
  obtain ⟨vs, H1, I1, r1, a, xs, ex, q⟩ := w
  subst ex
  obtain ⟨u, rfl, ru⟩ := r1.one
  cases ru
  have tail : ∀ (h' : Heap) (J : It), (∀ b o, s1.heap.get? b = some o → h'.get? b = some o) → ∀ tn, Turn X.prog X.w X.K (.Tuple elts kk tpos) J [s1.heap.objs.size + 1, s1.heap.objs.size] (s1.heap.objs.size + 1) tn → tn 0 h' → R J H1 →
      PIE X pins σ (.Tuple elts kk tpos) R (.ref (s1.heap.objs.size + 1)) { s1 with heap := h' } := fun h' J hk tn T t0 q => by
    refine ⟨s1.heap.objs.size + 1, _, tn, J, H1, rfl, I1.kept (t' := s1.toks) hk, T, t0, fun b hb => ?_, q⟩
    have hle : s1.heap.objs.size ≤ b := by
      rcases List.mem_cons.mp hb with z | z
      · rw [z]; exact Nat.le_succ _
      · rw [show b = s1.heap.objs.size by simpa using z]; exact Nat.le_refl _
    exact I1.fpOk hle (I1.hok.fresh hle)
  rcases q with ⟨hq, q⟩ | ⟨hq, q⟩
  · obtain ⟨its, rv, pl, _⟩ := I1.list hq
    exact call_enumerate_list pl.isList fun h' he hit hsz hk => wpAny_pyIter_enum he (tail h' _ hk _ (turn_enum a _ _) ⟨⟨.none, he⟩, hit, Nat.succ_ne_self _⟩ q)
  · obtain ⟨its, rv, pt, _⟩ := I1.tuple hq
    have la : a < s1.heap.objs.size := by
      obtain ⟨o, ho, _⟩ := pt
      exact Heap.lt_size ho
    refine call_enum1 (begins_tuple a its.toArray) (isTuple_of pt) fun h' he hit hsz hk => wpAny_pyIter_enum he (tail h' _ hk _ (turn_etup a _ _ (Nat.ne_of_gt (Nat.lt_succ_of_lt la)) (Nat.ne_of_lt la)) ⟨⟨.none, he⟩, ⟨_, hit, rfl, rfl⟩, Nat.succ_ne_self _⟩ q)⟩
section
variable {X : Cx} {K : PySem.W.Frag} {p : Pm} {O : List Nat} {tg e : Expr} {te : TE} {me : ME} {ta : TA} {ma : MA} {pos : Pos}
theorem feeds_enumT {F : Hp} {a : Addr} {xs : List V} {ds : List D} (h : SqT K F a xs) (r : Rps K F ds xs) : Feeds K (ItE K a) (enumD 0 ds) F where
  stop := fun F' H' e e' => ⟨xs, Same.sqt e' (Same.sqt e h), by rw [enumD_len]; exact Nat.le_of_eq r.len⟩
  go := fun i d F' H' hd e e' => by
    have hq : SqT K H' a xs := Same.sqt e' (Same.sqt e h)
    obtain ⟨y, hy, rfl⟩ := enumD_get hd
    obtain ⟨v, e1, r1⟩ := r.get hy
    refine ⟨⟨xs, v, hq, e1⟩, fun x H2 ⟨T, w, h1, h2, h3, h4⟩ => ?_⟩
    have := h4 xs hq
    rw [e1] at this
    cases this
    subst h1 h3
    exact ⟨_, .new1 e' h2 _, Rp.pair h2 e' (by rw [Int.zero_add]; exact .int _) (r1.mono e)⟩
/-- the items of a list or a tuple -/
def seqD : D → Option (List D)
  | .list xs => some xs
  | .tuple xs => some xs
  | _ => none
@[reducible] def mIEn (ma : MA) : MI := fun Γ n Q => ma Γ n fun ds n1 => ∃ d xs, ds = [d] ∧ seqD d = some xs ∧ Q (enumD 0 xs) n1
theorem i_enum {q : Pos} (hK : p.K = X.K) (ha : RA X p O [e] ta ma) (h : PI X tg (.Call (.Name "enumerate" q) [e] [] pos) (iEnumA X.K ta)) : RI X p O tg (.Call (.Name "enumerate" q) [e] [] pos) (iEnumA p.K ta) (mIEn ma) := ⟨hK ▸ h, fun F0 H0 F H σ Γ n R s q R' k =>
  ha.le F0 H0 F H σ Γ n _ s q _ fun ds vs F1 H1 n1 s1 e1 r1 ⟨d, xs, ed, sd, q1⟩ => by
    subst ed
    obtain ⟨v, w, rfl, r2, r3⟩ := r1.uncons
    cases r3.unnil
    unfold seqD at sd
    split at sd
    · cases sd
      obtain ⟨a, ys, rfl, h, r⟩ := r2.lst_inv
      exact ⟨a, ys, rfl, .inl ⟨.of (s1.fh _ _ h), k _ _ F1 H1 n1 s1 e1 (feeds_enum h r) q1⟩⟩
    · cases sd
      obtain ⟨a, ys, rfl, h, r⟩ := r2.tup_inv
      exact ⟨a, ys, rfl, .inr ⟨Same.sqt s1.fh h, k _ _ F1 H1 n1 s1 e1 (feeds_enumT h r) q1⟩⟩
    · cases sd⟩
/-- a list or a tuple, walked -/
def iSeq (K : PySem.W.Frag) (tl : TE) : TI := fun σ H R => tl σ H fun x H1 => ∃ a, x = .ref a ∧ (((∃ xs, SqL K H1 a xs) ∧ R (Itl K a) H1) ∨ ((∃ xs, SqT K H1 a xs) ∧ R (Itt K a) H1))
theorem pi_seq {l : Expr} {tl : TE} (hl : PE X l tl) : PI X tg l (iSeq X.K tl) := ⟨fun pins s σ H R I h => thn (hl.run pins s σ H _ I h) fun v s1 w => by
  obtain ⟨x, H1, I1, r1, a, rfl, q⟩ := w
  cases r1
  have fin : ∀ b ∈ [s1.heap.objs.size], FpOk X pins H1 b := fun b hb => by
    obtain rfl : b = s1.heap.objs.size := by simpa using hb
    exact I1.fpOk (Nat.le_refl _) (I1.hok.fresh (Nat.le_refl _))
  rcases q with ⟨⟨xs, hq⟩, q⟩ | ⟨⟨xs, hq⟩, q⟩
  · obtain ⟨its, rv, pl, _⟩ := I1.list hq
    exact wpAny_pyIter_list pl.isList ⟨_, _, _, _, H1, rfl, I1.kept (t' := s1.toks) fun b o z => Heap.get?_push_of_some _ z, turn_list a _, ⟨_, Heap.get?_push_size _ rfl, rfl, rfl⟩, fin, q⟩
  · obtain ⟨its, rv, pt, _⟩ := I1.tuple hq
    exact wpAny_pyIter_tuple (isTuple_of pt) ⟨_, _, _, _, H1, rfl, I1.kept (t' := s1.toks) fun b o z => Heap.get?_push_of_some _ z, turn_tuple a _, ⟨_, Heap.get?_push_size _ rfl, rfl, rfl⟩, fin, q⟩⟩
@[reducible] def mISeq (me : ME) : MI := fun Γ n Q => me Γ n fun d n1 => ∃ xs, seqD d = some xs ∧ Q xs n1
theorem i_seq (hK : p.K = X.K) (he : RE X p O e te me) : RI X p O tg e (iSeq p.K te) (mISeq me) := ⟨hK ▸ pi_seq he.pe, fun F0 H0 F H σ Γ n R s q R' k =>
  he.le F0 H0 F H σ Γ n _ s q _ fun d v F1 H1 n1 s1 e1 r1 ⟨ds, sd, q1⟩ => by
    unfold seqD at sd
    split at sd
    · cases sd
      obtain ⟨a, xs, rfl, h, r⟩ := r1.lst_inv
      exact ⟨a, rfl, .inl ⟨⟨xs, .of (s1.fh _ _ h)⟩, k _ _ F1 H1 n1 s1 e1 (feeds_list h r) q1⟩⟩
    · cases sd
      obtain ⟨a, xs, rfl, h, r⟩ := r1.tup_inv
      exact ⟨a, rfl, .inr ⟨⟨xs, Same.sqt s1.fh h⟩, k _ _ F1 H1 n1 s1 e1 (feeds_tup h r) q1⟩⟩
    · cases sd⟩
end
end RR
end
section
namespace RR
open PySem PySem.Spec L2
open PyProof.Rows hiding St
inductive Mx (p : Pm) (H F' H' : Hp) : List Bool → List D → List V → List Addr → Prop
  | nil : Mx p H F' H' [] [] [] []
  | sh {fl ds vs as d v} : Rp p.K F' d v → Mx p H F' H' fl ds vs as → Mx p H F' H' (false :: fl) (d :: ds) (v :: vs) as
  | ow {fl ds vs as d a} : Own p.K F' H' d a → F' a = none → H a = none → a ∉ as → Mx p H F' H' fl ds vs as → Mx p H F' H' (true :: fl) (d :: ds) (.ref a :: vs) (a :: as)
def LX (p : Pm) (O : List Nat) (fl : List Bool) (t : TA) (m : MA) : Prop :=
  ∀ F0 H0 F H σ Γ n (Q : List D → Nat → Prop), Sep p F0 H0 O F H σ Γ n → m Γ n Q → ∀ Q' : List V → Hp → Prop,
    (∀ ds vs as F' H' n', Sep p F0 H0 O F' H' σ Γ n' → Gp p F H F' H' → Mx p H F' H' fl ds vs as → Q ds n' → Q' vs H') → t σ H Q'
structure RX (X : Cx) (p : Pm) (O : List Nat) (fl : List Bool) (es : List Expr) (t : TA) (m : MA) : Prop where
  pa : PA X es t
  le : LX p O fl t m
section
variable {X : Cx} {p : Pm} {O : List Nat} {fl : List Bool} {e : Expr} {es : List Expr} {te : TE} {me : ME} {t : TA} {m : MA} {F0 H0 F H F' H' : Hp} {σ : St} {Γ : DEnv} {n : Nat}
theorem Mx.since {H1 F' H' : Hp} {ds : List D} {vs : List V} {as : List Addr} (h : Mx p H1 F' H' fl ds vs as) (k : ∀ a, H1 a = none → H a = none) : Mx p H F' H' fl ds vs as := by
  induction h with
  | nil => exact .nil
  | sh r _ ih => exact .sh r ih
  | ow w f z q _ ih => exact .ow w f (k _ z) q ih
theorem Mx.news {ds : List D} {vs : List V} {as : List Addr} (h : Mx p H F' H' fl ds vs as) : ∀ a ∈ as, H a = none := by
  induction h with
  | nil => intro a h; cases h
  | sh _ _ ih => exact ih
  | ow w f z q _ ih =>
    intro b hb
    rcases List.mem_cons.mp hb with rfl | hb
    · exact z
    · exact ih b hb
theorem Sep.since (s : Sep p F0 H0 O F H σ Γ n) (s1 : Sep p F0 H0 O F' H' σ Γ n) (g : Gp p F H F' H') {a : Addr} (h : H' a = none) : H a = none := by
  cases w : H a with
  | none => rfl
  | some o =>
    have := g.h a o w (s1.h0 h).2
    rw [h] at this; cases this
theorem x_nil : RX X p O [] [] tNil mNil := ⟨pa_nil, fun F0 H0 F H σ Γ n Q s q Q' k => k [] [] [] F H n s .refl .nil q⟩
theorem lx_sh (ha : LE p O te me) (hr : LX p O fl t m) : LX p O (false :: fl) (tCons te t) (mCons me m) := fun F0 H0 F H σ Γ n Q s q Q' k =>
  ha F0 H0 F H σ Γ n _ s q _ fun d v F1 H1 n1 s1 g1 r1 q1 =>
    hr F0 H0 F1 H1 σ Γ n1 _ s1 q1 _ fun ds vs as F2 H2 n2 s2 g2 m2 q2 =>
      k (d :: ds) (v :: vs) as F2 H2 n2 s2 (g1.trans g2) (.sh (r1.mono g2.f) (m2.since fun a h => by
        cases w : H a with
        | none => rfl
        | some o => rw [g1.h a o w (s1.h0 h).2] at h; cases h)) q2
theorem Own.gp {d : D} {a : Addr} (h : Own p.K F H d a) (g : Gp p F H F' H') (hp : ¬ p.isPen a) : Own p.K F' H' d a := by
  cases h with
  | lst q1 q2 => exact .lst (g.h _ _ q1 hp) (q2.mono g.f)
  | dct q1 q2 q3 => exact .dct (g.h _ _ q1 hp) q2 fun i x d a b => (q3 i x d a b).mono g.f
theorem lx_ow (ha : LF p O te me) (hr : LX p O fl t m) : LX p O (true :: fl) (tCons te t) (mCons me m) := fun F0 H0 F H σ Γ n Q s q Q' k =>
  ha F0 H0 F H σ Γ n _ s q _ fun d a F1 H1 n1 s1 g1 w1 f1 z1 q1 =>
    hr F0 H0 F1 H1 σ Γ n1 _ s1 q1 _ fun ds vs as F2 H2 n2 s2 g2 m2 q2 => by
      have hp := (s.h0 z1).2
      obtain ⟨o, ho⟩ := w1.at
      refine k (d :: ds) (.ref a :: vs) (a :: as) F2 H2 n2 s2 (g1.trans g2) (.ow (w1.gp g2 hp) (g2.none f1 ho hp) z1 (fun hm => ?_) (m2.since fun a h => ?_)) q2
      · have := m2.news a hm
        rw [ho] at this; cases this
      · cases w : H a with
        | none => rfl
        | some o => rw [g1.h a o w (s1.h0 h).2] at h; cases h
theorem x_sh (ha : RE X p O e te me) (hr : RX X p O fl es t m) (hs : starEach (e :: es) X.env = (false, eval e X.env) :: starEach es X.env := by rfl) : RX X p O (false :: fl) (e :: es) (tCons te t) (mCons me m) := ⟨pa_cons ha.pe hr.pa hs, lx_sh ha.le hr.le⟩
theorem x_ow (ha : RF X p O e te me) (hr : RX X p O fl es t m) (hs : starEach (e :: es) X.env = (false, eval e X.env) :: starEach es X.env := by rfl) : RX X p O (true :: fl) (e :: es) (tCons te t) (mCons me m) := ⟨pa_cons ha.pe hr.pa hs, lx_ow ha.le hr.le⟩
/-- slots set one after the other -/
def setsD (Γ : DEnv) : List Nat → List D → DEnv
  | i :: is, d :: ds => setsD (Γ.set i (some d)) is ds
  | _, _ => Γ
def setsV (σ : St) : List Nat → List V → St
  | i :: is, d :: ds => setsV (σ.set i (some d)) is ds
  | _, _ => σ
def owns : List Nat → List Bool → List Nat → List Nat
  | i :: is, true :: fl, O => owns is fl (i :: O)
  | _ :: is, false :: fl, O => owns is fl O
  | _, _, O => O
theorem Sep.puts {Hs : Hp} {ds : List D} {vs : List V} {as : List Addr} (h : Mx p Hs F H fl ds vs as) (hh : ∀ a, Hs a = none → H0 a = none ∧ ¬ p.isPen a) : ∀ (is O : List Nat) (σ : St) (Γ : DEnv), Sep p F0 H0 O F H σ Γ n → is.Nodup → (∀ i ∈ is, i ∉ O ∧ p.off i) →
    (∀ a ∈ as, ∀ j ∈ O, ∀ dj, Γ[j]? = some (some dj) → σ[j]? ≠ some (some (.ref a))) → is.length = ds.length → Sep p F0 H0 (owns is fl O) F H (setsV σ is vs) (setsD Γ is ds) n := by
  induction h with
  | nil =>
    intro is O σ Γ s _ _ _ hl
    obtain rfl : is = [] := List.length_eq_zero_iff.mp hl
    exact s
  | sh r m ih =>
    rename_i d v
    intro is O σ Γ s nd ho ha hl
    match is, nd, ho, hl with
    | [], _, _, hl => simp at hl
    | i :: is, nd, ho, hl =>
      obtain ⟨h1, h2⟩ := List.nodup_cons.mp nd
      obtain ⟨h3, h4⟩ := ho i (List.mem_cons_self ..)
      refine ih is O _ _ (s.put h3 h4 r) h2 (fun j hj => ho j (List.mem_cons_of_mem _ hj)) (fun a hm j hj dj e => ?_) (by simpa using hl)
      have hij : i ≠ j := fun z => h3 (z ▸ hj)
      rw [List.getElem?_set_ne hij] at e ⊢
      exact ha a hm j hj dj e
  | ow w f z q m ih =>
    rename_i d a
    intro is O σ Γ s nd ho ha hl
    match is, nd, ho, hl with
    | [], _, _, hl => simp at hl
    | i :: is, nd, ho, hl =>
      obtain ⟨h1, h2⟩ := List.nodup_cons.mp nd
      obtain ⟨h3, h4⟩ := ho i (List.mem_cons_self ..)
      have fr : Free p H0 O F H σ Γ d a := ⟨w, f, (hh a z).1, (hh a z).2, ha a (List.mem_cons_self ..)⟩
      refine ih is (i :: O) _ _ (s.putOwn h4 fr) h2 (fun j hj => ⟨fun hm => ?_, (ho j (List.mem_cons_of_mem _ hj)).2⟩) (fun b hm j hj dj e => ?_) (by simpa using hl)
      · rcases List.mem_cons.mp hm with rfl | hm
        · exact h1 hj
        · exact (ho j (List.mem_cons_of_mem _ hj)).1 hm
      · by_cases hij : i = j
        · subst hij
          rw [set_at, if_pos rfl] at e ⊢
          split at e
          · rename_i hi
            rw [if_pos (by rw [s.len]; exact hi)]
            intro z'
            cases z'
            exact q hm
          · cases e
        · rw [List.getElem?_set_ne hij] at e ⊢
          rcases List.mem_cons.mp hj with z' | z'
          · exact absurd z'.symm hij
          · exact ha b (List.mem_cons_of_mem _ hm) j z' dj e
theorem Mx.gr {Hs F2 H2 : Hp} {ds : List D} {vs : List V} {as : List Addr} (h : Mx p Hs F H fl ds vs as) (g : Gr F H F2 H2) : Mx p Hs F2 H2 fl ds vs as := by
  induction h with
  | nil => exact .nil
  | sh r _ ih => exact .sh (r.mono g.f) ih
  | ow w f z q _ ih => exact .ow (w.gr g) (g.none f w.at) z q ih
theorem Mx.len {ds : List D} {vs : List V} {as : List Addr} (h : Mx p H F' H' fl ds vs as) : vs.length = ds.length := by
  induction h with
  | nil => rfl
  | sh _ _ ih => simp [ih]
  | ow _ _ _ _ _ ih => simp [ih]
@[reducible] def mPar (is : List Nat) (m : MA) : MS := fun E Γ n => m Γ n fun ds n1 => ds.length = is.length ∧ E.nx (setsD Γ is ds) n1
/-- the state behind a parallel assignment -/
theorem LX.par {is : List Nat} {Ob : List Nat} {T : TS} (h : LX p O fl t m) (nd : is.Nodup) (ho : ∀ i ∈ is, i ∉ O ∧ p.off i)
    (hT : ∀ (E' : Ends) σ H, t σ H (fun vs H1 => vs.length = is.length ∧ E'.nx (setsV σ is vs) H1) → T E' σ H) : LS p Ob O (owns is fl O) T (mPar is m) := fun F0 H0 F H σ Γ n E s q E' hn _ _ _ => by
  refine hT E' σ H (h F0 H0 F H σ Γ n _ s q _ fun ds vs as F1 H1 n1 s1 g1 m1 ⟨hl, q1⟩ => ⟨m1.len.trans hl, ?_⟩)
  refine hn F1 H1 _ _ n1 (Sep.puts m1 (fun a z => s.h0 z) is O σ Γ s1 nd ho (fun a hm j hj dj e q => ?_) hl.symm) g1.f q1
  obtain ⟨b, e1, r, _⟩ := s.ow j hj dj e
  rw [q] at e1
  cases e1
  obtain ⟨o, e2⟩ := r.at
  rw [m1.news _ hm] at e2; cases e2
theorem s_par2 {Ob : List Nat} {i j : Nat} {a b : Expr} {st : Stmt} (h : RX X p O fl [a, b] t m) (nd : [i, j].Nodup) (ho : ∀ k ∈ [i, j], k ∉ O ∧ p.off k) (hS : PS X st (tPar i j t)) : RS X p Ob O (owns [i, j] fl O) st (tPar i j t) (mPar [i, j] m) := ⟨hS, h.le.par nd ho fun E' σ H q => by
  have mono : ∀ Q : List V → Hp → Prop, t σ H Q → t σ H Q := fun _ z => z
  revert q
  unfold tPar
  intro q
  exact (show (fun vs H1 => vs.length = [i, j].length ∧ E'.nx (setsV σ [i, j] vs) H1) = (fun vs H1 => ∃ v w, vs = [v, w] ∧ E'.nx ((σ.set i (some v)).set j (some w)) H1) from by
    funext vs H1
    apply propext
    constructor
    · rintro ⟨hl, q⟩
      match vs, hl with
      | [v, w], _ => exact ⟨v, w, rfl, q⟩
    · rintro ⟨v, w, rfl, q⟩
      exact ⟨rfl, q⟩) ▸ q⟩
/-- a, b = e: a tuple taken apart -/
@[reducible] def mAsg (me : ME) (mg : MG) : MS := fun E Γ n => me Γ n fun d n1 => mg d Γ fun Γ1 => E.nx Γ1 n1
end
section
variable {X : Cx} {K : PySem.W.Frag} {p : Pm} {O : List Nat} {e : Expr} {te : TE} {me : ME} {pos : Pos}
def dNotB : D → D → Option D
  | .bool a, .bool b => some (.bool (!decide (a = b)))
  | _, _ => none
theorem l_notB : OpL K rNotB dNotB := fun F H x y dx dy d s rx ry fe Q' k => by
  unfold dNotB at fe
  split at fe
  · cases fe
    exact ⟨_, _, rx.bl_inv, ry.bl_inv, k _ F H (.refl s) (.bl _)⟩
  · cases fe
/-- a value's truth -/
def truD : D → Option Bool
  | .none => some false
  | .bool b => some b
  | .int i => some (i != 0)
  | .list xs => some (!xs.isEmpty)
  | .tuple xs => some (!xs.isEmpty)
  | _ => none
@[reducible] def mTru (me : ME) : MT := fun Γ n Q => me Γ n fun d n1 => ∃ b, truD d = some b ∧ Q b n1
theorem Rps.empty {F : Hp} {ds : List D} {xs : List V} (h : Rps K F ds xs) : (!ds.isEmpty) = !xs.isEmpty := by
  cases ds with
  | nil => rw [h.unnil]; rfl
  | cons d ds => obtain ⟨v, r, rfl, _⟩ := h.uncons; rfl
theorem t_truth {t : TT} (hK : p.K = X.K) (he : RE X p O e te me) (h : PT X e (fun σ H Q => te σ H fun x H1 => ∃ k, TruV X.K x H1 k ∧ Q k H1)) : RT X p O e (fun σ H Q => te σ H fun x H1 => ∃ k, TruV p.K x H1 k ∧ Q k H1) (mTru me) := ⟨hK ▸ h, fun F0 H0 F H σ Γ n Q s q Q' k =>
  he.le F0 H0 F H σ Γ n _ s q _ fun d v F1 H1 n1 s1 g1 r1 ⟨b, tb, q1⟩ => by
    refine ⟨b, ?_, k b F1 H1 n1 s1 g1 q1⟩
    unfold truD at tb
    split at tb <;> (try (cases tb; done))
    · cases tb; cases r1; rfl
    · cases tb; cases r1; rfl
    · cases tb; cases r1; rfl
    · cases tb
      obtain ⟨a, xs, rfl, h1, r2⟩ := r1.lst_inv
      exact .inl ⟨xs, .of (s1.fh _ _ h1), r2.empty⟩
    · cases tb
      obtain ⟨a, xs, rfl, h1, r2⟩ := r1.tup_inv
      exact .inr (.inl ⟨xs, Same.sqt s1.fh h1, r2.empty⟩)⟩
end
end RR
end
section
namespace RR
open PySem PySem.Spec L2
open PyProof.Rows hiding St
theorem off0 {K : PySem.W.Frag} {dr : DrT} {i : Nat} : (Pm.mk K none dr).off i := fun _ _ e => nomatch e
theorem off1 {K : PySem.W.Frag} {a : Addr} {dr : DrT} {i : Nat} (h : 0 ≠ i) : (Pm.mk K (some (a, 0)) dr).off i := fun _ _ e => by cases e; exact h
/-- where a def's data stands -/
def FunL (K : PySem.W.Frag) (f : Addr) (fd : FuncData) : Prop := ∃ oc od sl, K.lookup f = some ⟨oc, od, .func fd, sl⟩
theorem Fun.lk {K : PySem.W.Frag} {x q : Str} {st : Stmt} {f : Addr} {fd : FuncData} (F : Fun K x q st f fd) : FunL K f fd := by
  obtain ⟨oc, od, kV, doc, pm, an, cdv, ct, osl, rfl, lk, hcd⟩ := F.ex
  exact ⟨_, _, _, lk⟩
/-- a def that is known: its promise, its name, how it is called -/
structure FI (P : Program) (w : World) (K : PySem.W.Frag) (mg : Str → Option Value) (base : Heap) (k : Nat) (x : Str) (ps : List Str) (sp : Sp) : Prop where
  ex : ∃ f fd, FnG P w K mg base k f fd ps sp ∧ mg x = some (.ref f) ∧ PySem.W.keepIn K (.ref f) = true ∧ Binds K fd ps [] ∧ FunL K f fd
/-- a def that the top has laid -/
structure FD (K : PySem.W.Frag) (mg : Str → Option Value) (x : Str) (st : Stmt) (ps : List Str) : Prop where
  ex : ∃ f fd, Fun K x x st f fd ∧ mg x = some (.ref f) ∧ Binds K fd ps []
theorem FI.mono {P : Program} {w : World} {K : PySem.W.Frag} {mg : Str → Option Value} {base : Heap} {j k : Nat} {x : Str} {ps : List Str} {sp : Sp} (F : FI P w K mg base j x ps sp) (h : j ≤ k) : FI P w K mg base k x ps sp := by
  obtain ⟨f, fd, a, b, c, d, l⟩ := F.ex
  exact ⟨f, fd, a.mono h, b, c, d, l⟩
section
variable {X : Cx} {p : Pm} {Ob O O' is js vs : List Nat} {a b c e iter elt : Expr} {es : List Expr} {tg : Expr} {tgs : List Expr} {pos q q2 pos' : Pos} {ta tb tc te : TE} {ma mb mc me : ME} {t : TA} {m : MA} {x : Str} {i j l : Nat} {g : TG} {gs : TGs} {mg : MG} {mgs : List D → DEnv → (DEnv → Prop) → Prop} {wi : TI} {mi : MI} {fl : List Bool} {tT : TT} {mT : MT} {body : List Stmt} {tS : TS} {mS : MS}
theorem cB {id : String} {r : List V → Hp → VK → Prop} {f : List D → Option D} (hc : CallR X (.builtin id) r) (l : ClL p.K r f) (hg : Gl X x) (hm : X.mg x = none) (hv : bootBuiltins x = some (.builtin id)) (ha : RA X p O (e :: es) t m) (hn : x ≠ "__name__" := by decide) (hdb : (x == ("__debug__" : Str)) = false := by decide)
    (he : starEach (e :: es) X.env = (false, eval e X.env) :: starEach es X.env := by rfl) (hpl : (backTo pos (starEach es X.env)).any (·.1) = false := by rfl) : RE X p O (.Call (.Name x q) (e :: es) [] pos) (tCB r t) (mCl f m) := ⟨pe_callB hc hg hm hv ha.pa hn hdb he hpl, le_cl l ha.le⟩
theorem cT {T : String} {r : List V → Hp → VK → Prop} {f : List D → Option D} (hc : CallR X (.type T) r) (l : ClL p.K r f) (hg : Gl X x) (hm : X.mg x = none) (hv : bootBuiltins x = some (.type T)) (ha : RA X p O (e :: es) t m) (hn : x ≠ "__name__" := by decide) (hdb : (x == ("__debug__" : Str)) = false := by decide)
    (he : starEach (e :: es) X.env = (false, eval e X.env) :: starEach es X.env := by rfl) (hpl : (backTo pos (starEach es X.env)).any (·.1) = false := by rfl) : RE X p O (.Call (.Name x q) (e :: es) [] pos) (tCB r t) (mCl f m) := ⟨pe_callTy hc hg hm hv ha.pa hn hdb he hpl, le_cl l ha.le⟩
theorem eCh {op op' : CmpOp} {r r' : R2} {f g : D → D → Option D} (ho : OpR X (compareOp op) r) (l : OpL p.K r f) (ho' : OpR X (compareOp op') r') (l' : OpL p.K r' g) (ha : RE X p O a ta ma) (hb : RE X p O b tb mb) (hc : RE X p O c tc mc)
    (hm : lastMarks [op, op'] [b, c] = false := by with_unfolding_all rfl) : RE X p O (.Compare a [op, op'] [b, c] pos) (tChain r r' ta tb tc) (mChain f g ma mb mc) := e_chain ho l ho' l' ha hb hc (pe_chain ho ho' ha.pe hb.pe hc.pe hm)
theorem tCh {op op' : CmpOp} {r r' : R2} {f g : D → D → Option D} (ho : OpR X (compareOp op) r) (l : OpL p.K r f) (ho' : OpR X (compareOp op') r') (l' : OpL p.K r' g) (ha : RE X p O a ta ma) (hb : RE X p O b tb mb) (hc : RE X p O c tc mc)
    (hm : lastMarks [op, op'] [b, c] = false := by with_unfolding_all rfl) : RT X p O (.Compare a [op, op'] [b, c] pos) (tTest (tChain r r' ta tb tc)) (mTest (mChain f g ma mb mc)) := t_chain ho l ho' l' ha hb hc (pt_chain ho ho' ha.pe hb.pe hc.pe hm)
theorem tTru (hK : p.K = X.K) (he : RE X p O e te me) (h : ∀ whole, isTrue e X.env whole = (do let v ← whole; standAt e.pos; holding [v] (truthy v)) := by intro _; rfl) : RT X p O e (fun σ H Q => te σ H fun x H1 => ∃ k, TruV p.K x H1 k ∧ Q k H1) (mTru me) := t_truth (t := fun σ H Q => te σ H fun x H1 => ∃ k, TruV X.K x H1 k ∧ Q k H1) hK he (pt_truth he.pe h)
theorem eIsi {T : String} {y : Str} (hT : okTy T = true) (hK : p.K = X.K) (he : RE X p O e te me) (hg : Gl X "isinstance") (hm : X.mg "isinstance" = none) (hgy : Gl X y) (hmy : X.mg y = none) (hv : bootBuiltins y = some (.type T)) (hn : y ≠ "__name__" := by decide) (hdb : (y == ("__debug__" : Str)) = false := by decide)
    (h1 : starEach [e, .Name y q2] X.env = (false, eval e X.env) :: starEach [.Name y q2] X.env := by rfl) (h2 : starEach [.Name y q2] X.env = (false, eval (.Name y q2) X.env) :: starEach [] X.env := by rfl) (hpl : (backTo pos (starEach [.Name y q2] X.env)).any (·.1) = false := by rfl) :
    RE X p O (.Call (.Name "isinstance" q) [e, .Name y q2] [] pos) (tCB (rIsi p.K) (tCons te (tCons (tC (.ty T)) tNil))) (mIsi T me) :=
  have hx : PE X (.Name y q2) (tC (.ty T)) := pe_bltn hgy hmy hv rfl hn hdb
  e_isi y hT hK he hg hm hx (pe_callB call_isi hg hm (by decide +kernel) (pa_cons he.pe (pa_cons hx pa_nil h2) h1) (by decide) (by decide) h1 hpl)
theorem eF {k : Nat} {ps : List Str} {mf : MP} (F : FI X.prog X.w X.K X.mg X.base k x ps (spF X.K mf)) {lv : Nat} (hr : Room k X.A) (hg : GB lv X.A) (hK : p.K = X.K) (hgl : Gl X x) (ha : RA X p O (e :: es) t m)
    (hdb : (x == ("__debug__" : Str)) = false := by decide) (he : starEach (e :: es) X.env = (false, eval e X.env) :: starEach es X.env := by rfl) (hpl : (backTo pos (starEach es X.env)).any (·.1) = false := by rfl) (hkm : k ≤ lv := by first | decide | omega) :
    RE X p O (.Call (.Name x q) (e :: es) [] pos) (tCall (spF p.K mf) [] E0 t) (mCall mf m) := by
  obtain ⟨f, fd, G, h1, h2, h3, _⟩ := F.ex
  exact ⟨hK ▸ pe_callG G hr (hg.le hkm) hgl h1 h2 h3 ha.pa hdb he hpl, le_call ha.le⟩
theorem eP {k : Nat} {ps : List Str} {mf : MF} {ad : Addr} {xp : Str} {pp : Pos} (F : FI X.prog X.w X.K X.mg X.base k x ps (spP X.K mf)) {lv : Nat} (hr : Room k X.A) (hg : GB lv X.A) (hK : p.K = X.K) (hp : p.ap = some (ad, i)) (hgl : Gl X x) (h0 : PE X (.Name xp pp) (tVar i)) (ha : RA X p O es t m)
    (hs : starEach (.Name xp pp :: es) X.env = (false, eval (.Name xp pp) X.env) :: starEach es X.env := by rfl)
    (hdb : (x == ("__debug__" : Str)) = false := by decide) (hpl : (backTo pos (starEach es X.env)).any (·.1) = false := by rfl) (hkm : k ≤ lv := by first | decide | omega) :
    RE X p O (.Call (.Name x q) (.Name xp pp :: es) [] pos) (tCall (spP p.K mf) [] E0 (tCons (tVar i) t)) (mCallP mf m) := by
  obtain ⟨f, fd, G, h1, h2, h3, _⟩ := F.ex
  exact ⟨hK ▸ pe_callG G hr (hg.le hkm) hgl h1 h2 h3 (pa_cons h0 ha.pa hs) hdb hs hpl, le_callP hp ha.le⟩
section
variable {K : PySem.W.Frag}
theorem oEq (hK : K = X.K) (hu : X.A.units + 64 < cLine) : OpR X (compareOp .Eq) (rEqA K) := hK ▸ o_eq hu
theorem oNe (hK : K = X.K) (hu : X.A.units + 64 < cLine) : OpR X (compareOp .NotEq) (rNeA K) := hK ▸ o_ne hu
theorem oIn (hK : K = X.K) (hu : X.A.units + 65 < cLine) : OpR X (compareOp .In) (rInA K) := hK ▸ o_in hu
theorem oNotIn (hK : K = X.K) (hu : X.A.units + 65 < cLine) : OpR X (compareOp .NotIn) (rNotInA K) := hK ▸ o_notIn hu
theorem oAdd (hK : K = X.K) : OpR X (binaryOp .Add) (rAddA K) := hK ▸ o_add
theorem oIx (hK : K = X.K) (hu : X.A.units + 1 < cLine) : IxR X (rIxA K) := hK ▸ o_ix hu
theorem fnLen (hK : K = X.K) : CallR X (.builtin "len") (rLen K) := hK ▸ call_len_seq
theorem fnList (hK : K = X.K) : CallR X (.type "list") (rListOf K) := hK ▸ call_list_of
theorem fnTuple (hK : K = X.K) : CallR X (.type "tuple") (rTupOf K) := hK ▸ call_tuple_of
theorem fnAll (hK : K = X.K) (hc : X.calm = true) : CallR X (.builtin "all") (rAll K) := hK ▸ cr_all hc
end
theorem gN (i : Nat) (hN : X.N.Nodup) (hi : X.N[i]? = some x) (hx : Loc X.env.scope x) (hO : i ∉ O) (hp : p.off i) (hf : X.fn x = true ∨ X.env.scope.names.lookup x = some .local := by first | exact .inl rfl | exact .inr rfl) : RG X p O [i] (.Name x pos) (gName i) (mgName i) := g_name (pg_name hN hi hx hf) hO hp
theorem gC (h1 : RG X p O is tg g mg) (h2 : RGs X p O js tgs gs mgs) (hs : (assignEach (tg :: tgs) X.env).map (·.2) = assign tg X.env :: (assignEach tgs X.env).map (·.2) := by rfl) : RGs X p O (is ++ js) (tg :: tgs) (gCons g gs) (mgCons mg mgs) := gs_cons h1 h2 (pgs_cons h1.pg h2.pg hs)
theorem gT {k : Nat} (n : Nat) (hK : p.K = X.K) (hc : X.calm = true) (h : RGs X p O is tgs gs mgs) (hn : (assignEach tgs X.env).length = n := by rfl) (hst : (assignEach tgs X.env).findIdx? (·.1) = none := by rfl) : RG X p O is (.Tuple tgs k pos) (gTup p.K n gs) (mgTup n mgs) := g_tup rfl h (hK ▸ pg_tup hc h.pg hn hst)
theorem iR1 (hg : Gl X "range") (hm : X.mg "range" = none) (ha : RA X p O [a] t m) (hs : starEach [a] X.env = [(false, eval a X.env)] := by rfl) : RI X p O tg (.Call (.Name "range" q) [a] [] pos) (iRng1 t) (mIR1 m) := i_range1 ha (pi_range1 hg hm ha.pa hs)
theorem iEn {k : Nat} (hK : p.K = X.K) (hg : Gl X "enumerate") (hm : X.mg "enumerate" = none) (ha : RA X p O [a] t m) (hs : starEach [a] X.env = [(false, eval a X.env)] := by rfl) : RI X p O (.Tuple tgs k pos') (.Call (.Name "enumerate" q) [a] [] pos) (iEnumA p.K t) (mIEn m) := i_enum hK ha (pi_enumA hg hm ha.pa hs)
theorem iZi {k : Nat} (hK : p.K = X.K) (hg : Gl X "zip") (hm : X.mg "zip" = none) (ha : RA X p O [a, b] t m) (hs : starEach [a, b] X.env = (false, eval a X.env) :: starEach [b] X.env := by rfl) (hpl : (backTo pos (starEach [b] X.env)).any (·.1) = false := by rfl) : RI X p O (.Tuple tgs k pos') (.Call (.Name "zip" q) [a, b] [] pos) (RZ.iZipA p.K t) (mIZ m) := i_zip hK ha (RZ.pi_zipA hg hm ha.pa hs hpl)
theorem fLc {scope : Scope} {own : List (Str × Nat)} (hc : X.calm = true) (hN : X.N.Nodup) (hi : RI X p O tg iter wi mi) (ok : BlkOk X.N X.env.scope scope own)
    (hg : ∀ (s : Shared) (H : Hp) (C : Addr) (cl : List (Str × Addr)) (fp : List Addr), RG (X.blk s H scope (compEnvC scope cl C X.env) fp) p O is tg g mg) (he : ∀ (s : Shared) (H : Hp) (C : Addr) (cl : List (Str × Addr)) (fp : List Addr), RE (X.blk s H scope (compEnvC scope cl C X.env) fp) p O elt te me)
    (his : ∀ i ∈ is, i ∈ own.map (·.2)) (hp : ∀ v ∈ own.map (·.2), p.off v) (hs : ∀ x, foldedSetIterable iter X.env x = pure x := by intro _; rfl) :
    RF X p O (.ListComp elt [⟨tg, iter, [], 0⟩] scope pos) (tLc wi g tYes te (own.map (·.2))) (mLc mi mg mYes me (own.map (·.2))) :=
  ⟨pe_lc hc hN hi.pi ok (fun s H C cl fp => (hg s H C cl fp).pg) (fun _ _ _ _ _ => pts_nil) (fun s H C cl fp => (he s H C cl fp).pe) hs,
    lf_lc hi.le (hg X.s_0 X.H_0 0 [] []).le lt_yes (he X.s_0 X.H_0 0 [] []).le his hp⟩
theorem fLcIf {scope : Scope} {own : List (Str × Nat)} (hc : X.calm = true) (hN : X.N.Nodup) (hi : RI X p O tg iter wi mi) (ok : BlkOk X.N X.env.scope scope own)
    (hg : ∀ (s : Shared) (H : Hp) (C : Addr) (cl : List (Str × Addr)) (fp : List Addr), RG (X.blk s H scope (compEnvC scope cl C X.env) fp) p O is tg g mg) (ht : ∀ (s : Shared) (H : Hp) (C : Addr) (cl : List (Str × Addr)) (fp : List Addr), RT (X.blk s H scope (compEnvC scope cl C X.env) fp) p O c tT mT)
    (he : ∀ (s : Shared) (H : Hp) (C : Addr) (cl : List (Str × Addr)) (fp : List Addr), RE (X.blk s H scope (compEnvC scope cl C X.env) fp) p O elt te me)
    (his : ∀ i ∈ is, i ∈ own.map (·.2)) (hp : ∀ v ∈ own.map (·.2), p.off v) (hs : ∀ x, foldedSetIterable iter X.env x = pure x := by intro _; rfl) :
    RF X p O (.ListComp elt [⟨tg, iter, [c], 0⟩] scope pos) (tLc wi g tT te (own.map (·.2))) (mLc mi mg mT me (own.map (·.2))) :=
  ⟨pe_lc hc hN hi.pi ok (fun s H C cl fp => (hg s H C cl fp).pg) (fun s H C cl fp => pts_one (ht s H C cl fp).pt) (fun s H C cl fp => (he s H C cl fp).pe) hs,
    lf_lc hi.le (hg X.s_0 X.H_0 0 [] []).le (ht X.s_0 X.H_0 0 [] []).le (he X.s_0 X.H_0 0 [] []).le his hp⟩
/-- y = [..]: the same parts, the target stored within the comprehension's frame -/
theorem sLc {scope : Scope} {own : List (Str × Nat)} (y : Nat) {yn : Str} {spos : Pos} (hc : X.calm = true) (hN : X.N.Nodup) (hy : X.N[y]? = some yn) (hyl : X.env.scope.names.lookup yn = some .local) (hsw : swapsWith (.ListComp elt [⟨tg, iter, [], 0⟩] scope pos) (some (.Name yn q)) spos.line X.env = pure true) (hi : RI X p O tg iter wi mi) (ok : BlkOk X.N X.env.scope scope own)
    (hg : ∀ (s : Shared) (H : Hp) (C : Addr) (cl : List (Str × Addr)) (fp : List Addr), RG (X.blk s H scope (compEnvC scope cl C X.env) fp) p O is tg g mg) (he : ∀ (s : Shared) (H : Hp) (C : Addr) (cl : List (Str × Addr)) (fp : List Addr), RE (X.blk s H scope (compEnvC scope cl C X.env) fp) p O elt te me)
    (his : ∀ i ∈ is, i ∈ own.map (·.2)) (hp : ∀ v ∈ own.map (·.2), p.off v) (hO : y ∉ O) (hpy : p.off y) (hs : ∀ x, foldedSetIterable iter X.env x = pure x := by intro _; rfl) :
    RS X p Ob O (y :: O) (.Assign [.Name yn q] (.ListComp elt [⟨tg, iter, [], 0⟩] scope pos) spos) (tAsg (tLc wi g tYes te (own.map (·.2))) (gName y)) (mSet y (mLc mi mg mYes me (own.map (·.2)))) :=
  s_own (fLc hc hN hi ok hg he his hp hs) hO hpy (ps_setLc hc hN hy hyl hsw hi.pi ok (fun s H C cl fp => (hg s H C cl fp).pg) (fun _ _ _ _ _ => pts_nil) (fun s H C cl fp => (he s H C cl fp).pe) hs)
theorem sLcIf {scope : Scope} {own : List (Str × Nat)} (y : Nat) {yn : Str} {spos : Pos} (hc : X.calm = true) (hN : X.N.Nodup) (hy : X.N[y]? = some yn) (hyl : X.env.scope.names.lookup yn = some .local) (hsw : swapsWith (.ListComp elt [⟨tg, iter, [c], 0⟩] scope pos) (some (.Name yn q)) spos.line X.env = pure true) (hi : RI X p O tg iter wi mi) (ok : BlkOk X.N X.env.scope scope own)
    (hg : ∀ (s : Shared) (H : Hp) (C : Addr) (cl : List (Str × Addr)) (fp : List Addr), RG (X.blk s H scope (compEnvC scope cl C X.env) fp) p O is tg g mg) (ht : ∀ (s : Shared) (H : Hp) (C : Addr) (cl : List (Str × Addr)) (fp : List Addr), RT (X.blk s H scope (compEnvC scope cl C X.env) fp) p O c tT mT)
    (he : ∀ (s : Shared) (H : Hp) (C : Addr) (cl : List (Str × Addr)) (fp : List Addr), RE (X.blk s H scope (compEnvC scope cl C X.env) fp) p O elt te me)
    (his : ∀ i ∈ is, i ∈ own.map (·.2)) (hp : ∀ v ∈ own.map (·.2), p.off v) (hO : y ∉ O) (hpy : p.off y) (hs : ∀ x, foldedSetIterable iter X.env x = pure x := by intro _; rfl) :
    RS X p Ob O (y :: O) (.Assign [.Name yn q] (.ListComp elt [⟨tg, iter, [c], 0⟩] scope pos) spos) (tAsg (tLc wi g tT te (own.map (·.2))) (gName y)) (mSet y (mLc mi mg mT me (own.map (·.2)))) :=
  s_own (fLcIf hc hN hi ok hg ht he his hp hs) hO hpy (ps_setLc hc hN hy hyl hsw hi.pi ok (fun s H C cl fp => (hg s H C cl fp).pg) (fun s H C cl fp => pts_one (ht s H C cl fp).pt) (fun s H C cl fp => (he s H C cl fp).pe) hs)
theorem sSet (i : Nat) (hN : X.N.Nodup) (hi : X.N[i]? = some x) (hx : Loc X.env.scope x) (he : RE X p O e te me) (hO : i ∉ O) (hp : p.off i) (hs : swapsWith e (some (.Name x q)) pos.line X.env = pure false := by rfl) (hf : X.fn x = true ∨ X.env.scope.names.lookup x = some .local := by first | exact .inl rfl | exact .inr rfl) :
    RS X p Ob O O (.Assign [.Name x q] e pos) (tAsg te (gName i)) (mSet i me) := s_set he hO hp (ps_set hN hi hx he.pe hs hf)
theorem sOwn (i : Nat) (hN : X.N.Nodup) (hi : X.N[i]? = some x) (hx : Loc X.env.scope x) (he : RF X p O e te me) (hO : i ∉ O) (hp : p.off i) (hs : swapsWith e (some (.Name x q)) pos.line X.env = pure false := by rfl) (hf : X.fn x = true ∨ X.env.scope.names.lookup x = some .local := by first | exact .inl rfl | exact .inr rfl) :
    RS X p Ob O (i :: O) (.Assign [.Name x q] e pos) (tAsg te (gName i)) (mSet i me) := s_own he hO hp (ps_set hN hi hx he.pe hs hf)
theorem sExpr (he : RE X p O e te me) (hs : swapsWith e none pos.line X.env = pure false := by rfl) : RS X p Ob O O (.Expr e pos) (tDrop te) (mDrop me) := s_expr he (ps_expr he.pe hs)
theorem sPar2 (i j : Nat) {x y : Str} {px py pt pt2 : Pos} {kt k2 : Nat} (hc : X.calm = true) (hN : X.N.Nodup) (hi : X.N[i]? = some x) (hj : X.N[j]? = some y) (hij : i ≠ j) (hx : X.env.scope.names.lookup x = some .local) (hy : X.env.scope.names.lookup y = some .local) (ha : RX X p O fl [a, b] t m) (ho : ∀ k ∈ [i, j], k ∉ O ∧ p.off k)
    (hw : swappedStores [.Tuple [.Name x px, .Name y py] kt pt] (.Tuple [a, b] k2 pt2) X.env = pure (some [x, y]))
    (hs : swapsWithSole [.Tuple [.Name x px, .Name y py] kt pt] (.Tuple [a, b] k2 pt2) pos.line X.env = pure false := by rfl) :
    RS X p Ob O (owns [i, j] fl O) (.Assign [.Tuple [.Name x px, .Name y py] kt pt] (.Tuple [a, b] k2 pt2) pos) (tPar i j t) (mPar [i, j] m) := s_par2 ha (by simpa using hij) ho (ps_par hc hN hi hj hij hx hy ha.pa hw hs)
theorem sFor (hp : PassesOwn (model X.prog X.w) X.A X.env X.xe) (hc : X.calm = true) (hi : RI X p O tg iter wi mi) (hg : RG X p O is tg g mg) (hb : RSs X p O O O' body tS mS) (hO : ∀ i ∈ O, i ∈ O') (hs : ∀ x, foldedSetIterable iter X.env x = pure x := by intro _; rfl) : RS X p Ob O O (.For tg iter body [] pos) (tFor wi g tS) (mFor mi mg mS) := s_for hi hg (hb.weak hO) (ps_for hp hc hi.pi hg.pg hb.ps hs)
theorem sIf {Oa Obx : List Nat} {xs ys : List Stmt} {ta' tb' : TS} {ma' mb' : MS} (hc : RT X p O c tT mT) (ha : RSs X p Ob O Oa xs ta' ma') (hb : RSs X p Ob O Obx ys tb' mb') (k1 : ∀ i ∈ O', i ∈ Oa) (k2 : ∀ i ∈ O', i ∈ Obx) : RS X p Ob O O' (.If c xs ys pos) (tIfS tT ta' tb') (mIfS mT ma' mb') := s_if hc (ha.weak k1) (hb.weak k2)
theorem sApp (i : Nat) {ap : Pos} (hK : p.K = X.K) (hv : PE X (.Name x q) (tVar i)) (he : RE X p O e te me) (hi : i ∈ O)
    (hbase : attributeBase (.Name x q) "append" X.env (eval (.Name x q) X.env) = eval (.Name x q) X.env := by rfl)
    (hfew : ((backTo q2 (starEach [e] X.env)).all (fun x => !x.1) && (backToKw q2 (keywordEach [] X.env)).all (fun x => x.1.isSome) && decide ([e].length + ([] : List Keyword).length + (if ([] : List Keyword).isEmpty then 0 else 1) < 30)) = true := by rfl)
    (hline : (ap.endLine == q2.line) = true := by rfl) (h1 : starEach [e] X.env = (false, eval e X.env) :: starEach [] X.env := by rfl) (hpl : (backTo q2 (starEach [] X.env)).any (·.1) = false := by rfl)
    (hs : swapsWith (.Call (.Attribute (.Name x q) "append" ap) [e] [] q2) none pos.line X.env = pure false := by rfl) :
    RS X p Ob O O (.Expr (.Call (.Attribute (.Name x q) "append" ap) [e] [] q2) pos) (tDrop (tBM p.K "list" rAppend (tVar i) (tCons te tNil))) (mAppend i me) :=
  s_append he hi hK (ps_expr (pe_bm PySem.F.plainAttrs_list PySem.F.slot_list_append PySem.F.type_list_append mt_append hv (pa_cons he.pe pa_nil h1) hbase hfew hline h1 hpl) hs)
end
end RR
end
section
namespace RR
open PySem PySem.Spec L2
open PyProof.Rows hiding St
section
variable {X : Cx} {p : Pm} {O : List Nat} {e : Expr} {te : TE} {me : ME} {tT : TT} {mT : MT}
theorem Rp.flat_any {K : PySem.W.Frag} {F G : Hp} {d : D} {v : V} (f : flatD d = true) (h : Rp K F d v) : Rp K G d v := by
  cases h <;> first | (exfalso; unfold flatD at f; cases f; done) | exact .non | exact .bl _ | exact .int _ | exact .str _
/-- out of a look: the frozen thing is one's own again -/
theorem Sep.unlook {F0 H0 F H F1 F2 H2 : Hp} {σ : St} {Γ : DEnv} {n n2 : Nat} {i : Nat} (s : Sep p F0 H0 O F H σ Γ n) (e1 : Same F F1) (hn : ∀ b o, F1 b = some o → F b = some o ∨ (i ∈ O ∧ σ[i]? = some (some (.ref b)) ∧ ∃ d, Γ[i]? = some (some d)))
    (s2 : Sep p F0 H0 (O.filter (· ≠ i)) F2 H2 σ Γ n2) (g : Gp p F1 H F2 H2) : ∃ F3, Sep p F0 H0 O F3 H2 σ Γ n2 ∧ Gp p F H F3 H2 := by
  by_cases hi : i ∈ O ∧ ∃ d, Γ[i]? = some (some d)
  · obtain ⟨hi, d, ed⟩ := hi
    obtain ⟨a, ea, w, fa, h0a, pa⟩ := s.ow i hi d ed
    have key : ∀ b o, F1 b = some o → b ≠ a → F b = some o := fun b o h hb => by
      rcases hn b o h with z | ⟨_, z, _⟩
      · exact z
      · rw [ea] at z; cases z; exact absurd rfl hb
    have nf : ∀ {b : Addr} {o : HO}, F b = some o → b ≠ a := fun h z => by rw [z, fa] at h; cases h
    have f3 : ∀ b o, F b = some o → (fun b => if b = a then none else F2 b) b = some o := fun b o h => by
      show (if b = a then none else F2 b) = some o
      rw [if_neg (nf h)]
      exact g.f _ _ (e1 _ _ h)
    have f32 : ∀ b o, (fun b => if b = a then none else F2 b) b = some o → b ≠ a ∧ F2 b = some o := fun b o h => by
      have h' : (if b = a then none else F2 b) = some o := h
      by_cases z : b = a
      · rw [if_pos z] at h'; cases h'
      · rw [if_neg z] at h'; exact ⟨z, h'⟩
    obtain ⟨oa, hoa⟩ := w.at
    have ha2 : ∀ {u : HO}, H a = some u → H2 a = some u := fun h => g.h a _ h pa
    refine ⟨fun b => if b = a then none else F2 b, ⟨fun b o h => f3 b o (s.f0 b o h), fun b o h => s2.fh _ _ (f32 b o h).2, s2.stay, fun b o h => s2.newF b o (f32 b o h).2, fun b j h => ?_, s.len, fun j dj hj h => ?_, fun j hj dj h => ?_, s.dj⟩, ⟨fun b o h => f3 b o h, g.h, fun b o h => ?_⟩⟩
    · obtain ⟨h1, h2, ⟨x, l, xs, z1, z2, z3⟩, zt⟩ := s2.pen b j h
      obtain ⟨_, _, ⟨_, _, ys, _, y2, _⟩, _⟩ := s.pen b j h
      have hb : b ≠ a := fun z => pa ⟨b, j, h, .inl z.symm⟩
      have hd : p.dr.ad ≠ a := nf y2
      refine ⟨?_, h2, ⟨x, l, xs, z1, ?_, z3⟩, fun y hy => ?_⟩
      · show (if b = a then none else F2 b) = none
        rw [if_neg hb]; exact h1
      · show (if p.dr.ad = a then none else F2 p.dr.ad) = some _
        rw [if_neg hd]; exact z2
      · obtain ⟨t1, ps, t2, t3, t4⟩ := zt y hy
        refine ⟨?_, ps, t2, t3, fun pos cv hc => ?_⟩
        · show (if y.1 = a then none else F2 y.1) = none
          split
          · rfl
          · exact t1
        · obtain ⟨c, e1, e2⟩ := t4 pos cv hc
          refine ⟨c, e1, ?_⟩
          show (if c = a then none else F2 c) = some _
          rw [if_neg fun z => ?_]
          · exact e2
          · have h3 := s2.fh _ _ e2
            have h4 := g.h a _ hoa pa
            rw [z, h4] at h3
            exact w.notCode hoa _ (Option.some.inj h3)
    · obtain ⟨v, h1, r⟩ := s.sh j dj hj h
      exact ⟨v, h1, r.mono f3⟩
    · obtain ⟨b, h1, r, z1, z2, z3⟩ := s.ow j hj dj h
      have hb3 : (fun b => if b = a then none else F2 b) b = none := by
        show (if b = a then none else F2 b) = none
        by_cases z : b = a
        · rw [if_pos z]
        · rw [if_neg z]
          by_cases hji : j = i
          · subst hji
            rw [ea] at h1
            cases h1
            exact absurd rfl z
          · obtain ⟨b', h1', _, z1', _⟩ := s2.ow j (List.mem_filter.mpr ⟨hj, by simpa using hji⟩) dj h
            rw [h1] at h1'
            cases h1'
            exact z1'
      refine ⟨b, h1, ?_, hb3, z2, z3⟩
      cases r with
      | lst q1 q2 => exact .lst (g.h _ _ q1 z3) (q2.mono f3)
      | dct q1 q2 q3 => exact .dct (g.h _ _ q1 z3) q2 fun i x d a b => (q3 i x d a b).mono f3
    · obtain ⟨h1, h2⟩ := f32 b o h
      rcases g.new b o h2 with z | z | z
      · exact .inl (key b o z h1)
      · exact .inr (.inl z)
      · exact .inr (.inr z)
  · have hF : F1 = F := by
      funext b
      cases h : F1 b with
      | none => cases q : F b with
        | none => rfl
        | some o => rw [e1 _ _ q] at h; cases h
      | some o =>
        rcases hn b o h with z | ⟨z1, _, z2⟩
        · exact z.symm
        · exact absurd ⟨z1, z2⟩ hi
    subst hF
    refine ⟨F2, ⟨s2.f0, s2.fh, s2.stay, s2.newF, s2.pen, s.len, fun j dj hj h => s2.sh j dj (fun z => hj (List.mem_filter.mp z).1) h, fun j hj dj h => ?_, s.dj⟩, g⟩
    exact s2.ow j (List.mem_filter.mpr ⟨hj, by
      simp only [ne_eq, decide_not, Bool.not_eq_eq_eq_not, Bool.not_true, decide_eq_false_iff_not]
      intro z
      subst z
      exact hi ⟨hj, dj, h⟩⟩) dj h
theorem Sep.look {F0 H0 F H : Hp} {σ : St} {Γ : DEnv} {n : Nat} (s : Sep p F0 H0 O F H σ Γ n) (i : Nat) : ∃ F1, Same F F1 ∧ Sep p F0 H0 (O.filter (· ≠ i)) F1 H σ Γ n ∧ ∀ b o, F1 b = some o → F b = some o ∨ (i ∈ O ∧ σ[i]? = some (some (.ref b)) ∧ ∃ d, Γ[i]? = some (some d)) := by
  by_cases hi : i ∈ O ∧ ∃ d, Γ[i]? = some (some d)
  · obtain ⟨hi, d, ed⟩ := hi
    obtain ⟨F1, e1, s1⟩ := s.freeze i
    -- the frozen heap, cut to what is needed
    obtain ⟨a, ea, w, fa, h0a, pa⟩ := s.ow i hi d ed
    obtain ⟨oa, hoa⟩ := w.at
    have hfa : F1 a = some oa := by
      obtain ⟨v, h1, r⟩ := s1.sh i d (by simp) ed
      rw [ea] at h1
      cases h1
      have : ∃ o, F1 a = some o := by
        cases w with
        | lst q1 q2 => obtain ⟨b, xs, e, h, _⟩ := r.lst_inv; cases e; exact ⟨_, h⟩
        | dct q1 q2 q3 =>
          cases r with
          | dct h1 h2 h3 => exact h1.elim (fun z => ⟨_, z⟩) fun ⟨_, z⟩ => ⟨_, z⟩
      obtain ⟨o, ho⟩ := this
      have := s1.fh _ _ ho
      rw [hoa] at this
      cases this
      exact ho
    have e2 : Same F (upd F a oa) := same_up fa
    have e3 : Same (upd F a oa) F1 := fun b o h => by
      by_cases z : b = a
      · subst z; rw [upd_same] at h; cases h; exact hfa
      · rw [upd_ne z] at h; exact e1 _ _ h
    have nw : ∀ b o, (upd F a oa) b = some o → F b = some o ∨ b = a := fun b u q => by
      by_cases hb : b = a
      · exact .inr hb
      · rw [upd_ne hb] at q; exact .inl q
    refine ⟨upd F a oa, e2, ⟨s.f0.trans e2, e3.trans s1.fh, s.stay, fun b o h => s1.newF b o (e3 _ _ h), fun b j h => ?_, s.len, fun j dj hj h => ?_, fun j hj dj h => ?_, s1.dj⟩, fun b o h => ?_⟩
    · obtain ⟨h1, h2, ⟨x, l, xs, z1, z2, z3⟩, zt⟩ := s.pen b j h
      have hb : b ≠ a := fun z => pa ⟨b, j, h, .inl z.symm⟩
      exact ⟨by rw [upd_ne hb]; exact h1, h2, ⟨x, l, xs, z1, e2 _ _ z2, z3⟩, zt.up e2 (fun y hy => by rw [upd_ne fun z => pa ⟨b, j, h, .inr ⟨y, hy, z⟩⟩]; exact (zt y hy).1) (fun _ _ _ h => h)⟩
    · by_cases hji : j = i
      · subst hji
        rw [ed] at h
        cases h
        refine ⟨_, ea, ?_⟩
        cases w with
        | lst q1 q2 =>
          rw [hoa] at q1
          cases q1
          exact .of_lst upd_same (q2.mono e2)
        | dct q1 q2 q3 =>
          rw [hoa] at q1
          cases q1
          exact .dct (.inl upd_same) q2 fun i x d a b => (q3 i x d a b).mono e2
      · obtain ⟨v, h1, r⟩ := s.sh j dj (fun z => hj (List.mem_filter.mpr ⟨z, by simpa using hji⟩)) h
        exact ⟨v, h1, r.mono e2⟩
    · obtain ⟨b, h1, r, z1, z2, z3⟩ := s.ow j (List.mem_filter.mp hj).1 dj h
      have hji : j ≠ i := by simpa using (List.mem_filter.mp hj).2
      have hb : b ≠ a := fun z => s.dj j (List.mem_filter.mp hj).1 i hi hji a dj d h ed (z ▸ h1) ea
      refine ⟨b, h1, ?_, by rw [upd_ne hb]; exact z1, z2, z3⟩
      cases r with
      | lst q1 q2 => exact .lst q1 (q2.mono e2)
      | dct q1 q2 q3 => exact .dct q1 q2 fun i x d a b => (q3 i x d a b).mono e2
    · rcases nw b o h with z | z
      · exact .inl z
      · subst z; exact .inr ⟨hi, ea, d, ed⟩
  · exact ⟨F, .refl _, by
      refine ⟨s.f0, s.fh, s.stay, s.newF, s.pen, s.len, fun j dj hj h => s.sh j dj (fun z => hj (List.mem_filter.mpr ⟨z, ?_⟩)) h, fun j hj => s.ow j (List.mem_filter.mp hj).1, fun j hj k hk => s.dj j (List.mem_filter.mp hj).1 k (List.mem_filter.mp hk).1⟩
      simp only [ne_eq, decide_not, Bool.not_eq_eq_eq_not, Bool.not_true, decide_eq_false_iff_not]
      intro w
      subst w
      exact hi ⟨z, dj, h⟩, fun b o h => .inl h⟩
@[reducible] def mLook (me : ME) : ME := fun Γ n Q => me Γ n fun d n1 => flatD d = true ∧ Q d n1
theorem le_look (i : Nat) (h : LE p (O.filter (· ≠ i)) te me) : LE p O te (mLook me) := fun F0 H0 F H σ Γ n Q s q Q' k => by
  obtain ⟨F1, e1, s1, hn⟩ := s.look i
  refine h F0 H0 F1 H σ Γ n _ s1 q _ fun d v F2 H2 n2 s2 g2 r2 ⟨f, q2⟩ => ?_
  obtain ⟨F3, s3, g3⟩ := s.unlook e1 hn s2 g2
  exact k d v F3 H2 n2 s3 g3 (r2.flat_any f) q2
theorem lt_look (i : Nat) (h : LT p (O.filter (· ≠ i)) tT mT) : LT p O tT mT := fun F0 H0 F H σ Γ n Q s q Q' k => by
  obtain ⟨F1, e1, s1, hn⟩ := s.look i
  refine h F0 H0 F1 H σ Γ n _ s1 q _ fun b F2 H2 n2 s2 g2 q2 => ?_
  obtain ⟨F3, s3, g3⟩ := s.unlook e1 hn s2 g2
  exact k b F3 H2 n2 s3 g3 q2
theorem eLook (i : Nat) {O' : List Nat} (h : RE X p O' e te me) (k : O' = O.filter (· ≠ i)) : RE X p O e te (mLook me) := ⟨h.pe, le_look i (k ▸ h.le)⟩
theorem tLook (i : Nat) {O' : List Nat} (h : RT X p O' e tT mT) (k : O' = O.filter (· ≠ i)) : RT X p O e tT mT := ⟨h.pt, lt_look i (k ▸ h.le)⟩
end
end RR
end
section
namespace RR
open PySem PySem.Spec L2
open PyProof.Rows hiding St
theorem hv_of {A : Around} {k : Nat} (hr : Room k A) : A.units + 65 < cLine := by have := hr.un; omega
theorem hx_of {A : Around} {k : Nat} (hr : Room k A) : A.units + 66 < cLine := by have := hr.un; omega
theorem offs0 {K : PySem.W.Frag} {dr : DrT} {l : List Nat} : ∀ v ∈ l, (Pm.mk K none dr).off v := fun _ _ => off0
theorem offs1 {K : PySem.W.Frag} {a : Addr} {dr : DrT} {l : List Nat} (h : ∀ v ∈ l, 0 ≠ v) : ∀ v ∈ l, (Pm.mk K (some (a, 0)) dr).off v := fun v hv => off1 (h v hv)
theorem offsO0 {K : PySem.W.Frag} {dr : DrT} {l O : List Nat} (h : ∀ v ∈ l, v ∉ O) : ∀ v ∈ l, v ∉ O ∧ (Pm.mk K none dr).off v := fun v hv => ⟨h v hv, off0⟩
theorem offsO1 {K : PySem.W.Frag} {a : Addr} {dr : DrT} {l O : List Nat} (h : ∀ v ∈ l, v ∉ O ∧ 0 ≠ v) : ∀ v ∈ l, v ∉ O ∧ (Pm.mk K (some (a, 0)) dr).off v := fun v hv => ⟨(h v hv).1, off1 (h v hv).2⟩
/-- a constant of the module -/
structure CI (K : PySem.W.Frag) (mg : Str → Option Value) (x : Str) (d : D) (v : V) : Prop where
  ex : ∃ u, mg x = some u ∧ RelV v u
  rp : ∀ F, Rp K F d v
theorem CI.e {X : Cx} {p : Pm} {O : List Nat} {x : Str} {d : D} {v : V} {pos : Pos} (h : CI X.K X.mg x d v) (hg : Gl X x) (hK : p.K = X.K) (hd : (x == ("__debug__" : Str)) = false := by decide) : RE X p O (.Name x pos) (tC v) (mC d) := by
  obtain ⟨u, h1, h2⟩ := h.ex
  exact e_glob hg h1 h2 (fun F => hK ▸ h.rp F) hd
end RR
end
section
namespace RR
open PySem PySem.Spec L2
open PyProof.Rows hiding St
/-- a promise of the law's def -/
abbrev spLaw (K : PySem.W.Frag) : Sp := fun vs H Q _ => ∃ (a : Addr) (ns : List Int), vs = [.ref a] ∧ SqL K H a (ns.map V.int) ∧ ns.length ≤ 63 ∧ ∀ H', Q (.bl true) H'
section
variable {P : Program} {w : World} {K : PySem.W.Frag} {mg mb : Str → Option Value} {k : Nat} {fa a : Addr} {fd : FuncData} {x : Str} {s1 : Shared} {vs : List Value} {ns : List Int}
abbrev Ended (s1 : Shared) : Result → Shared → Prop := fun r s' => r = .ok (.ret (.bool true)) ∧ OldK s1.heap s'.heap ∧ s'.os = s1.os ∧ AllBare s'.gens
/-- .. from an abstract heap that tracks the script at most -/
theorem law_from (KX : K.In s1.heap) (hns : s1.heap.Ns mainGlobals mg) (hb : s1.heap.Ns builtinsNs mb) (hbb : ∀ x : Str, x ≠ "__name__" → mb x = bootBuiltins x) (hlim : s1.heap.NoLimit) (hg : s1.gens = #[])
    (ha : s1.heap.get? a = some { cls := .type "list", data := .seq vs.toArray }) (hl : ns.length ≤ 63) (hr : Room k callerA)
    (hsy : ∃ mm, s1.heap.Ns sysModules mm) (F : ∀ base : Heap, K.In base → base.Ns mainGlobals mg → (∃ mm, base.Ns sysModules mm) → FnG P w K mg base k fa fd [x] (spLaw K)) (hbind : ∀ (s : Shared) (u : Value), BindsTo s fd ⟨[u], []⟩ [(x, u)])
    (H : Hp) (hO : Only H) (hS : SqL K H a (ns.map V.int)) (hok : HOk P w H s1.heap) (hA : ∀ b, H b ≠ none → b = a) (hK : H a ≠ none → K.lookup a = none) :
    codeAny (model P w) callerA (.call (.ref fa) ⟨[.ref a], []⟩) (Ended s1) s1 := by
  have only : ∀ {b : Addr} {u : HO}, H b = some u → b = a := fun e => hA _ fun z => by rw [e] at z; cases z
  have below : ∀ {b : Addr} {m : Str → Option Value}, s1.heap.Ns b m → (hidT s1.heap H).Ns b m := by
    rintro b m ⟨o, es, ep, e, d, r⟩
    refine ⟨o, es, ep, hidT_get e ?_, d, r⟩
    cases q : H b with
    | none => rfl
    | some u =>
      obtain rfl := only q
      rw [ha] at e
      cases e
      exact absurd (show Data.seq vs.toArray _ = Data.dict es ep from d) (by intro z; cases z)
  have kb : K.In (hidT s1.heap H) := by
    intro b o e
    refine hidT_get (KX b o e) ?_
    cases q : H b with
    | none => rfl
    | some u =>
      obtain rfl := only q
      rw [hK (by rw [q]; intro z; cases z)] at e
      cases e
  obtain ⟨mc, c1, c2⟩ := hlim
  have e0 : Env0 P w K mg (hidT s1.heap H) callerA [] s1 H :=
    { frames := rfl, mod := ⟨kb, below hns, ⟨mb, below hb, hbb⟩, ⟨mc, below c1, c2⟩⟩, bs := fun b o e => of_hidT e, bsz := Nat.le_of_eq (hidT_size _ _), funs := trivial, frf := (fun b hb => nomatch hb), hok := hok, bare := .of_eq hg }
  refine codeAny_mono ((F _ kb (below hns) (hsy.elim fun _ z => ⟨_, below z⟩)).run callerA [] s1 H ⟨[.ref a], []⟩ [.ref a] [.ref a] (fun v _ => v = .bl true) (fun _ _ _ => False) hr (fun _ => rfl) e0 (hbind s1 (.ref a)) (.cons rfl .nil) ⟨a, ns, rfl, hS, hl, fun _ => rfl⟩) ?_
  intro r s' h
  match r, h with
  | .ok (.ret u), h =>
    obtain ⟨v, H', os, bare, un, hok', rv, q⟩ := h
    subst q
    cases rv
    refine ⟨rfl, OldK.of_keep fun b o e => ?_, os, bare⟩
    cases q : H b with
    | none => exact un.keep b o e q (fun z => nomatch z) (fun z => nomatch z)
    | some u =>
      rcases hO b with z | ⟨ob, xs, z⟩
      · rw [q] at z; cases z
      · obtain ⟨e1, _⟩ := hok b _ z
        obtain ⟨e2, _⟩ := hok' b _ (un.frzs b ob _ z)
        rw [e] at e1
        cases e1
        exact e2
theorem law_callG (KX : K.In s1.heap) (hns : s1.heap.Ns mainGlobals mg) (hb : s1.heap.Ns builtinsNs mb) (hbb : ∀ x : Str, x ≠ "__name__" → mb x = bootBuiltins x) (hlim : s1.heap.NoLimit) (hg : s1.gens = #[])
    (ha : s1.heap.get? a = some { cls := .type "list", data := .seq vs.toArray }) (hi : IntsAre vs ns) (hl : ns.length ≤ 63) (hr : Room k callerA)
    (hsy : ∃ mm, s1.heap.Ns sysModules mm) (F : ∀ base : Heap, K.In base → base.Ns mainGlobals mg → (∃ mm, base.Ns sysModules mm) → FnG P w K mg base k fa fd [x] (spLaw K)) (hbind : ∀ (s : Shared) (u : Value), BindsTo s fd ⟨[u], []⟩ [(x, u)]) :
    codeAny (model P w) callerA (.call (.ref fa) ⟨[.ref a], []⟩) (Ended s1) s1 := by
  have rv : Vals (ns.map V.int) vs := vals_ints hi
  have ln : (ns.map V.int).length ≤ sizeLine := by rw [List.length_map]; exact lim_line (Nat.le_trans hl (by decide))
  cases hk : K.lookup a with
  | some o =>
    have e := KX a o hk
    rw [ha] at e
    cases e
    refine law_from KX hns hb hbb hlim hg ha hl hr hsy F hbind (fun _ => none) (fun _ => .inl rfl) (.inr ⟨_, vs.toArray, _, hk, rfl, rfl, rfl, ?_, by simpa using rv⟩) (fun b u z => ?_) (fun b z => absurd rfl z) (fun z => absurd rfl z)
    · rw [List.size_toArray, ← rv.length]; exact ln
    · cases (show (none : Option HO) = some u from z)
  | none =>
    let H : Hp := fun b => if b = a then some (.frz { cls := .type "list", data := .seq vs.toArray } (.lst (ns.map V.int))) else none
    have at_a : ∀ {b : Addr} {u : HO}, H b = some u → b = a ∧ u = .frz { cls := .type "list", data := .seq vs.toArray } (.lst (ns.map V.int)) := fun {b u} z => by
      by_cases q : b = a
      · rw [show H b = _ from if_pos q] at z
        cases z
        exact ⟨q, rfl⟩
      · rw [show H b = none from if_neg q] at z
        cases z
    refine law_from KX hns hb hbb hlim hg ha hl hr hsy F hbind H (fun b => ?_) (.inl (.inr ⟨_, if_pos rfl⟩)) (fun b u z => ?_) (fun b z => ?_) (fun _ => hk)
    · by_cases q : b = a
      · exact .inr ⟨_, _, if_pos q⟩
      · exact .inl (if_neg q)
    · obtain ⟨rfl, rfl⟩ := at_a z
      exact ⟨ha, ln, vs, _, rv, ha⟩
    · by_cases q : b = a
      · exact q
      · exact absurd (if_neg q) z
end
theorem walkG {l : PySem.W.OpenLaw} {k : Nat} {q : Program} {loose : List Str} {XP : (Str → Option Value) → Heap → Prop} {YP : World → Heap → Prop} {d : DefRec} {K : Params → PySem.W.Frag} {x : Str}
    (hip : importsNone q = true) (hn : l.most = some 63) (hdf : d.params.defaults = []) (hr : Room k callerA) (hY : ∀ (w : World) (h : Heap), YP w h → (K w.params).In h)
    (F : ∀ (w : World) (mg : Str → Option Value) (fa : Addr) (h : Heap), (K w.params).In h → h.Ns mainGlobals mg → mg d.name = some (.ref fa) →
      ∃ fd : FuncData, (∀ (s : Shared) (u : Value), BindsTo s fd ⟨[u], []⟩ [(x, u)]) ∧ ∀ base : Heap, (K w.params).In base → base.Ns mainGlobals mg → (∃ mm, base.Ns sysModules mm) → FnG l.prog w (K w.params) mg base k fa fd [x] (spLaw (K w.params))) :
    PySem.W.WalkO q loose XP YP l.row.toRowW d [] (fun f vs => PySem.call f vs) :=
  Att.attach_call hn hdf fun w s0 s1 mg mb fa o pm cd doc a vs ns G Y _ _ _ hmg hobj hints hlen hg => by
    obtain ⟨fd, hb, hF⟩ := F w mg fa _ (hY w _ Y) G.T.g hmg
    exact law_callG (hY w _ Y) G.T.g G.T.b G.T.builtins G.T.nolimit hg hobj hints hlen hr (let ⟨mm, z, _⟩ := (G.T.seer hip).mods; ⟨mm, z⟩) hF hb
end RR
end
section
namespace RR
open PySem PySem.Spec L2
open PyProof.Rows hiding St
/-- a draw below an amount -/
def m_take : MF := fun ds n R => ∃ m : Int, ds = [.int m] ∧ 1 ≤ m ∧ m < 1073741824 ∧ n < 1048576 ∧ ∀ x : Int, 0 ≤ x → x < m → R (.int x) (n + 1)
/-- the drawing list is made out of the script -/
def spOpen (K : PySem.W.Frag) : Sp := fun vs H Q _ => ∃ (a : Addr) (ns : List Int), vs = [.ref a] ∧ SqL K H a (ns.map V.int) ∧ ns.length ≤ 63 ∧
  ∀ H' p dr (xs : List Int), H' p = some (.lst [.ref dr, .int 0, .int 0]) → H' dr = some (.lst (xs.map V.int)) → p ≠ dr → Q (.ref p) H'
/-- what a spread cell is: an int from 0 on -/
def SpreadOk (m : MP) : Prop := ∀ (c w : Int) (R : D → Prop), 0 ≤ w → w < 1048576 → (∀ z : Int, 0 ≤ z → R (.int z)) → m [.int c, .int w] R
end RR
end
section
namespace RR
open PySem PySem.Spec L2
open PyProof.Rows hiding St
def compI (g1 : MG) (t1 : MT) (e : ME) (Γ : DEnv) : List D → Nat → List D → (List D → Nat → Prop) → Prop
  | [], n, acc, Q => Q acc n
  | d :: ds, n, acc, Q => g1 d Γ fun Γ2 => t1 Γ2 n fun b n1 => if b = true then e Γ2 n1 fun y n2 => acc.length < lim ∧ compI g1 t1 e Γ ds n2 (acc ++ [y]) Q else compI g1 t1 e Γ ds n1 acc Q
def compO (g : MG) (t : MT) (mi1 : MI) (g1 : MG) (t1 : MT) (e : ME) (vs1 : List Nat) (Γ : DEnv) : List D → Nat → List D → (List D → Nat → Prop) → Prop
  | [], n, acc, Q => Q acc n
  | d :: ds, n, acc, Q => g d Γ fun Γ2 => t Γ2 n fun b n1 => if b = true then mi1 Γ2 n1 fun es n2 => compI g1 t1 e (wipeD Γ2 vs1) es n2 acc fun acc' n3 => compO g t mi1 g1 t1 e vs1 Γ ds n3 acc' Q else compO g t mi1 g1 t1 e vs1 Γ ds n1 acc Q
@[reducible] def mLc2 (mi : MI) (g : MG) (t : MT) (mi1 : MI) (g1 : MG) (t1 : MT) (e : ME) (vs vs1 : List Nat) : ME := fun Γ n Q => mi Γ n fun ds n1 => compO g t mi1 g1 t1 e vs1 (wipeD Γ vs) ds n1 [] fun r n2 => Q (.list r) n2
end RR
end
section
namespace RR
open PySem PySem.Spec L2
open PyProof.Rows hiding St
end RR
end
section
namespace RR
open PySem PySem.Spec L2
open PyProof.Rows hiding St
/-- a promise that is asked nowhere -/
theorem FnG.never {P : Program} {w : World} {K : PySem.W.Frag} {mg : Str → Option Value} {base : Heap} {k : Nat} {f : Addr} {fd : FuncData} {ps : List Str} : FnG P w K mg base k f fd ps (spF K fun _ _ => False) :=
  ⟨fun vs H Q E ⟨_, _, _, _, _, q, _⟩ => q.elim, fun A o s H a us vs Q E _ _ _ _ _ ⟨_, _, _, _, _, q, _⟩ => q.elim⟩
end RR
end
section
namespace RR
open PySem PySem.Spec L2
open PyProof.Rows hiding St
theorem rd_new {H : Hp} {a p : Addr} {o u : HO} (h : Rd H a o) (hp : H p = none) : Rd (upd H p u) a o := by
  have ne : ∀ {x : HO}, H a = some x → a ≠ p := fun e z => by rw [z, hp] at e; cases e
  rcases h with h | ⟨ob, h⟩
  · exact .inl (by rw [upd_ne (ne h)]; exact h)
  · exact .inr ⟨ob, by rw [upd_ne (ne h)]; exact h⟩
theorem sql_new {K : PySem.W.Frag} {H : Hp} {a p : Addr} {xs : List V} {u : HO} (h : SqL K H a xs) (hp : H p = none) : SqL K (upd H p u) a xs := h.imp (fun r => rd_new r hp) id
theorem cut_int (ns : List Int) (lo hi : Option Int) : ∃ ms : List Int, cutV (ns.map V.int) lo hi = ms.map V.int := by
  unfold cutV
  exact ⟨_, by rw [← List.map_drop, ← List.map_take]⟩
theorem cut_low (ns : List Int) : (cutV (ns.map V.int) none (some 12)).length = min 12 ns.length := by
  unfold cutV
  have h1 : HT.sIx (ns.map V.int).length 0 none = 0 := by simp [HT.sIx]
  have h2 : HT.sIx (ns.map V.int).length (ns.map V.int).length (some 12) = min 12 ns.length := by simp [HT.sIx]
  rw [h1, h2]; simp
theorem cut_high (ns : List Int) (h : (cutV (ns.map V.int) (some 12) (some 63)).length ≠ 0) : 12 < ns.length := by
  apply Classical.byContradiction
  intro hn
  apply h
  unfold cutV
  have h1 : HT.sIx (ns.map V.int).length 0 (some 12) = min 12 ns.length := by simp [HT.sIx]
  rw [h1, List.length_take, List.length_drop, List.length_map]
  omega
end RR
end
section
namespace RR
open PySem PySem.Spec L2
open PyProof.Rows hiding St
theorem offp {K : PySem.W.Frag} {a : Addr} {dr : DrT} {s i : Nat} (h : s ≠ i) : (Pm.mk K (some (a, s)) dr).off i := fun _ _ e => by cases e; exact h
theorem offsOp {K : PySem.W.Frag} {a : Addr} {dr : DrT} {s : Nat} {l O : List Nat} (h : ∀ v ∈ l, v ∉ O ∧ s ≠ v) : ∀ v ∈ l, v ∉ O ∧ (Pm.mk K (some (a, s)) dr).off v := fun v hv => ⟨(h v hv).1, offp (h v hv).2⟩
theorem pss_ex {X : Cx} {sts : List Stmt} {ι : Type} {t : ι → TS} (h : ∀ x, PSs X sts (t x)) : PSs X sts fun D σ H => ∃ x, t x D σ H := ⟨fun pins s σ H D I ⟨x, q⟩ => (h x).run pins s σ H D I q⟩
/-- the law holds: what it returns is True -/
@[reducible] def mTrue : EndsD := { nx := fun _ _ => False, rt := fun d _ => d = .bool true }
section
variable {P : Program} {w : World} {K : PySem.W.Frag} {mg : Str → Option Value} {base : Heap}
theorem FnG.law {x qual : Str} {st : Stmt} {f : Addr} {fd : FuncData} {N : List Str} {x0 : Str} {k : Nat} {mb : MS} (i : Nat) (F : Fun K x qual st f fd) (S : FnScope N [x0] (defScope st)) (hi : 0 < i ∧ i < N.length) (st1 : Stmt) (rest : List Stmt) (hst : defBody st = st1 :: rest)
    (body : ∀ (cdv : Value) (A : Around) (outer : List Env) (s : Shared) (H : Hp) (E : XK), Room k (A.deeper (envOfC qual (defScope st) s.heap.objs.size f cdv)) → GB (k + 1) A →
      PS (bodyCx P w K mg base N qual (defScope st) f cdv A outer s H E) st1 (tAsg (tCall (spOpen K) [] E0 (tCons (tVar 0) tNil)) (gName i)) ∧
      ∀ a dr, ∃ t O', RSs (bodyCx P w K mg base N qual (defScope st) f cdv A outer s H E) ⟨K, some (a, i), ⟨dr, []⟩⟩ [] [] O' rest t mb)
    (h : mb mTrue (List.replicate N.length none) 0) : FnG P w K mg base (k + 1) f fd [x0] (spLaw K) := by
  refine FnG.mk' F S (fun vs H Q E ⟨a, ns, e, _⟩ => by rw [e]; rfl) fun cdv A outer s H vs Q E hr hg ⟨a, ns, e, hs, hl, fin⟩ => ?_
  subst e
  obtain ⟨h1, h2⟩ := body cdv A outer s H E hr hg
  let t : Addr × Addr → TS := fun q => Classical.choose (h2 q.1 q.2)
  have ht : ∀ q : Addr × Addr, ∃ O', RSs (bodyCx P w K mg base N qual (defScope st) f cdv A outer s H E) ⟨K, some (q.1, i), ⟨q.2, []⟩⟩ [] [] O' rest (t q) mb := fun q => Classical.choose_spec (h2 q.1 q.2)
  refine ⟨_, hst ▸ pss_cons h1 (pss_ex fun q => (ht q).elim fun _ z => z.ps), ?_⟩
  have hlen : (start N [V.ref a]).length = N.length := by unfold L2.start; simp; omega
  refine ⟨.ref a, start_get (vs := [V.ref a]) (i := 0) (show 0 < 1 from Nat.one_pos), a, ns, rfl, hs, hl, fun H' b dr xs hb hdr hne => ⟨(b, dr), ?_⟩⟩
  obtain ⟨O', B⟩ := ht (b, dr)
  let F1 : Hp := fun c => if c = dr then some (.lst (xs.map V.int)) else none
  have f1 : ∀ {c : Addr} {o : HO}, F1 c = some o → c = dr ∧ o = .lst (xs.map V.int) := fun {c o} e => by
    by_cases z : c = dr
    · rw [show F1 c = _ from if_pos z] at e; cases e; exact ⟨z, rfl⟩
    · rw [show F1 c = none from if_neg z] at e; cases e
  have sp : Sep ⟨K, some (b, i), ⟨dr, []⟩⟩ F1 (fun _ => none) [] F1 H' ((start N [V.ref a]).set i (some (.ref b))) (List.replicate N.length none) 0 := by
    refine ⟨.refl _, fun c o e => ?_, fun c o e => (nomatch e), fun c o e => .inl e, fun c j e => ?_, by rw [List.length_set, hlen, List.length_replicate], fun j d _ e => ?_, fun j hj => (nomatch hj), fun j hj => (nomatch hj)⟩
    · obtain ⟨rfl, rfl⟩ := f1 e; exact hdr
    · cases e
      refine ⟨if_neg hne, ?_, ⟨0, 0, xs, hb, if_pos rfl, Int.le_refl _, Int.le_refl _, Int.le_refl _⟩, .nil⟩
      rw [set_at, if_pos rfl, if_pos (by rw [hlen]; exact hi.2)]
    · rw [List.getElem?_replicate] at e
      split at e <;> cases e
  exact B.le F1 (fun _ => none) F1 H' _ _ 0 mTrue sp h _ (fun _ _ _ _ _ _ _ z => z.elim) (fun d v F' H'' n' _ r z => by subst z; cases r; exact fin _) (fun _ _ _ _ _ _ _ z => z.elim) (fun _ _ _ _ _ _ _ z => z.elim)
end
end RR
end
section
namespace RR
open PySem PySem.Spec L2
open PyProof.Rows hiding St
/-- one def as the head finds it -/
theorem fd_mk {K : PySem.W.Frag} {h : Heap} {mg : Str → Option Value} {x : Str} {st : Stmt} {ps : List Str} {f : Addr} {oc : Value} {od an : Option Addr} {sl : Array (Option Value)} {kV doc pm cdv ct : Value} (X : K.In h) (G : h.Ns mainGlobals mg)
    (a : PySem.W.nsIn K mainGlobals x = some (some (.ref f))) (l : K.lookup f = some ⟨oc, od, .func (PySem.W.fnOf x x (defArgs st) (defBody st) (defScope st) .none kV doc pm an cdv ct), sl⟩) (c : PySem.W.codeIn K cdv x = true) (k : PySem.W.keepIn K (.ref f) = true)
    (hb : ∀ (kV doc pm : Value) (an : Option Addr) (cdv ct : Value) (us : List Value), us.length = ps.length → bindArgs (PySem.W.fnOf x x (defArgs st) (defBody st) (defScope st) .none kV doc pm an cdv ct) { pos := us } = pure (ps.zip us)) : FD K mg x st ps :=
  have F := fun_mk (st := st) l c k
  ⟨f, _, F, PySem.W.mg_of X G a, F.binds hb⟩
/-- a number of the module -/
theorem ci_int {K : PySem.W.Frag} {h : Heap} {mg : Str → Option Value} {x : Str} {i : Int} {u : Value} (X : K.In h) (G : h.Ns mainGlobals mg) (a : PySem.W.nsIn K mainGlobals x = some (some u)) (r : RelV (.int i) u) : CI K mg x (.int i) (.int i) :=
  ⟨⟨_, PySem.W.mg_of X G a, r⟩, fun F => .int i⟩
/-- a tuple of the module, as the head finds it, its items told one by one -/
theorem rp_tup {K : PySem.W.Frag} {f : Addr} {ds : List D} {xs : List V} {od : Option Addr} {its : Array Value} {n : Nat} {sl : Array (Option Value)} (l : K.lookup f = some ⟨.type "tuple", od, .seq its n, sl⟩) (z : its.size ≤ sizeLine) (v : Vals xs its.toList) (F : Hp) (r : Rps K F ds xs) : Rp K F (.tuple ds) (.ref f) :=
  .of_tup (.inr ⟨_, its, n, l, rfl, rfl, z, v⟩) r
theorem ci_ref {K : PySem.W.Frag} {h : Heap} {mg : Str → Option Value} {x : Str} {f : Addr} {d : D} (X : K.In h) (G : h.Ns mainGlobals mg) (a : PySem.W.nsIn K mainGlobals x = some (some (.ref f))) (r : ∀ F : Hp, Rp K F d (.ref f)) : CI K mg x d (.ref f) :=
  ⟨⟨_, PySem.W.mg_of X G a, rfl⟩, r⟩
theorem ci_tup {K : PySem.W.Frag} {h : Heap} {mg : Str → Option Value} {x : Str} {f : Addr} {ds : List D} {xs : List V} {od : Option Addr} {its : Array Value} {n : Nat} {sl : Array (Option Value)} (X : K.In h) (G : h.Ns mainGlobals mg) (a : PySem.W.nsIn K mainGlobals x = some (some (.ref f))) (l : K.lookup f = some ⟨.type "tuple", od, .seq its n, sl⟩) (z : its.size ≤ sizeLine) (r : ∀ F : Hp, Rps K F ds xs) (v : Vals xs its.toList) : CI K mg x (.tuple ds) (.ref f) :=
  ci_ref X G a fun F => rp_tup l z v F (r F)
end RR
end
section
namespace RR
open PySem PySem.Spec L2
open PyProof.Rows hiding St
structure DK (K : PySem.W.Frag) (w : World) (mg : Str → Option Value) (x : Str) (kvs : List (D × D)) (a : Addr) : Prop where
  nm : mg x = some (.ref a)
  kd : ∃ es n, KDict K w a es n
  at_ : ∀ z d, dLook kvs (.str z) = some d → ∃ u v, PySem.W.nsIn K a z = some (some u) ∧ RelV v u ∧ ∀ F, Rp K F d v
  no : ∀ z, dLook kvs (.str z) = none → PySem.W.nsIn K a z = some none
def kIn (kvs : List (D × D)) : D → Option D
  | .str z => some (.bool (dLook kvs (.str z)).isSome)
  | _ => none
def kNin (kvs : List (D × D)) : D → Option D
  | .str z => some (.bool (!(dLook kvs (.str z)).isSome))
  | _ => none
def kIx (kvs : List (D × D)) : D → Option D
  | .str z => dLook kvs (.str z)
  | _ => none
section
variable {X : Cx} {p : Pm} {O : List Nat} {e : Expr} {te : TE} {me : ME} {pos q : Pos} {x : Str} {kvs : List (D × D)} {a : Addr}
theorem DK.pe (h : DK X.K X.w X.mg x kvs a) (hg : Gl X x) (hd : (x == ("__debug__" : Str)) = false := by decide) : PE X (.Name x q) (tC (.ref a)) := pe_glob hg h.nm rfl hd
theorem DK.some_of (h : DK X.K X.w X.mg x kvs a) (z : Str) : ∃ r, PySem.W.nsIn X.K a z = some r ∧ r.isSome = (dLook kvs (.str z)).isSome := by
  cases e : dLook kvs (.str z) with
  | none => exact ⟨_, h.no z e, rfl⟩
  | some d =>
    obtain ⟨u, v, e1, _⟩ := h.at_ z d e
    exact ⟨_, e1, rfl⟩
theorem e_ninK (h : DK X.K X.w X.mg x kvs a) (hK : p.K = X.K) (hg : Gl X x) (he : RE X p O e te me) (hd : (x == ("__debug__" : Str)) = false := by decide) (hm : behindInMarks .NotIn (.Name x q) = false := by with_unfolding_all rfl) :
    RE X p O (.Compare e [.NotIn] [.Name x q] pos) (tUn (fun x H Q => ∃ z r, x = V.str z ∧ V.ref a = V.ref a ∧ PySem.W.nsIn X.K a z = some r ∧ Q (V.bl !r.isSome) H) te) (mUn (kNin kvs) me) := by
  obtain ⟨es, n, D0⟩ := h.kd
  refine ⟨pe_cmpR (op_notIn_kd D0) he.pe (h.pe hg hd) hm, le_un (fun F H x dx d s rx fe Q' k => ?_) he.le⟩
  unfold kNin at fe
  split at fe
  · cases fe
    rename_i z
    obtain ⟨r, e1, e2⟩ := h.some_of z
    exact ⟨z, r, rx.str_inv, rfl, e1, e2 ▸ k _ F H (.refl s) (.bl _)⟩
  · cases fe
theorem e_ixK (h : DK X.K X.w X.mg x kvs a) (hK : p.K = X.K) (hg : Gl X x) (he : RE X p O e te me) (hs : PlainIx e) (hd : (x == ("__debug__" : Str)) = false := by decide) :
    RE X p O (.Subscript (.Name x q) e pos) (tUn (fun y H Q => L2.rIxD X.K X.w (.ref a) y H Q) te) (mUn (kIx kvs) me) := by
  obtain ⟨es, n, D0⟩ := h.kd
  refine ⟨pe_ix ix_kdict (h.pe hg hd) he.pe hs, le_un (fun F H x dx d s rx fe Q' k => ?_) he.le⟩
  unfold kIx at fe
  split at fe
  · rename_i z
    obtain ⟨u, v, e1, e2, e3⟩ := h.at_ z d fe
    exact ⟨a, z, v, rfl, rx.str_inv, ⟨es, n, u, D0.at_, D0.lit, e1, e2⟩, k v F H (.refl s) (hK ▸ e3 F)⟩
  · cases fe
theorem t_ninK (h : DK X.K X.w X.mg x kvs a) (hK : p.K = X.K) (hg : Gl X x) (he : RE X p O e te me) (hd : (x == ("__debug__" : Str)) = false := by decide) (hm : behindInMarks .NotIn (.Name x q) = false := by with_unfolding_all rfl) :
    RT X p O (.Compare e [.NotIn] [.Name x q] pos) (tTest (tUn (fun x H Q => ∃ z r, x = V.str z ∧ V.ref a = V.ref a ∧ PySem.W.nsIn X.K a z = some r ∧ Q (V.bl !r.isSome) H) te)) (mTest (mUn (kNin kvs) me)) :=
  ⟨h.kd.elim fun _ z => z.elim fun _ D0 => pt_cmpR (op_notIn_kd D0) he.pe (h.pe hg hd) hm, lt_test (e_ninK (pos := pos) (q := q) h hK hg he hd hm).le⟩
end
end RR
end
section
namespace RR
open PySem PySem.Spec L2
open PyProof.Rows hiding St
inductive EsRel (K : PySem.W.Frag) : List (D × D) → List DictEntry → Prop
  | nil : EsRel K [] []
  | cons {z : Str} {t : Nat} {hs : Int} {u : Value} {v : V} {d : D} {kvs : List (D × D)} {es : List DictEntry} : RelV v u → (∀ F, Rp K F d v) → EsRel K kvs es → EsRel K ((.str z, d) :: kvs) (⟨hs, .str z t, u⟩ :: es)
theorem isStr_str (z y : Str) (t : Nat) : (Value.str z t).isStr y = decide (z = y) := by
  show (z == y) = decide (z = y)
  by_cases e : z = y
  · subst e; simp
  · rw [decide_eq_false e]; simp [e]
theorem eqv_str (z y : Str) : PyData.eqv (.str z) (.str y) = decide (z = y) := by
  simp only [PyData.eqv]
  by_cases e : z = y
  · subst e; simp
  · rw [decide_eq_false e]; simp [e]
theorem EsRel.look {K : PySem.W.Frag} {kvs : List (D × D)} {es : List DictEntry} (h : EsRel K kvs es) (z : Str) :
    (∀ d, dLook kvs (.str z) = some d → ∃ e v, es.find? (fun x => x.key.isStr z) = some e ∧ RelV v e.val ∧ ∀ F, Rp K F d v) ∧ (dLook kvs (.str z) = none → es.find? (fun x => x.key.isStr z) = none) ∧ es.any (fun x => x.refKey) = false := by
  induction h with
  | nil => exact ⟨fun d e => (by cases e), fun _ => rfl, rfl⟩
  | @cons y t hs u v d kvs es r q h ih =>
    obtain ⟨i1, i2, i3⟩ := ih
    unfold dLook at i1 i2 ⊢
    by_cases e : y = z
    · refine ⟨fun d' w => ?_, fun w => ?_, ?_⟩
      · rw [List.find?_cons_of_pos (by rw [eqv_str]; exact decide_eq_true e)] at w
        cases w
        exact ⟨_, v, List.find?_cons_of_pos (by rw [isStr_str]; exact decide_eq_true e), r, q⟩
      · rw [List.find?_cons_of_pos (by rw [eqv_str]; exact decide_eq_true e)] at w
        cases w
      · rw [List.any_cons, i3]; rfl
    · refine ⟨fun d' w => ?_, fun w => ?_, ?_⟩
      · rw [List.find?_cons_of_neg (by rw [eqv_str, decide_eq_false e]; decide)] at w
        rw [List.find?_cons_of_neg (by rw [isStr_str, decide_eq_false e]; decide)]
        exact i1 d' w
      · rw [List.find?_cons_of_neg (by rw [eqv_str, decide_eq_false e]; decide)] at w
        rw [List.find?_cons_of_neg (by rw [isStr_str, decide_eq_false e]; decide)]
        exact i2 w
      · rw [List.any_cons, i3]; rfl
theorem dk_mk {K : PySem.W.Frag} {w : World} {h : Heap} {mg : Str → Option Value} {x : Str} {a : Addr} {kvs : List (D × D)} {es : Array DictEntry} {n : Nat} (X : K.In h) (G : h.Ns mainGlobals mg) (nm : PySem.W.nsIn K mainGlobals x = some (some (.ref a))) (l : K.lookup a = some { cls := .type "dict", data := .dict es n }) (lit : PySem.W.KeysLit w.params es.toList) (low : (a == sysModules) = false)
    (r : EsRel K kvs es.toList) : DK K w mg x kvs a := by
  refine ⟨PySem.W.mg_of X G nm, ⟨es, n, l, lit, low⟩, fun z d e => ?_, fun z e => ?_⟩
  · obtain ⟨en, v, e1, e2, e3⟩ := (r.look z).1 d e
    refine ⟨en.val, v, ?_, e2, e3⟩
    unfold PySem.W.nsIn
    rw [l]
    simp only [e1]
  · have e1 := (r.look z).2.1 e
    have e2 := (r.look z).2.2
    unfold PySem.W.nsIn
    rw [l]
    simp only [e1, e2]
    rfl
end RR
end
section
namespace RR
open PySem PySem.Spec L2
open PyProof.Rows hiding St
/-- the law's def as the head finds it, its promise told of any base: what walkG asks -/
theorem fin_mk {l : PySem.W.OpenLaw} {w : World} {K : PySem.W.Frag} {h : Heap} {mg : Str → Option Value} {fa f : Addr} {st : Stmt} {k : Nat} {oc : Value} {od an : Option Addr} {sl : Array (Option Value)} {kV doc pm cdv ct : Value} (X : K.In h) (G : h.Ns mainGlobals mg) (hfa : mg "law" = some (.ref fa))
    (a : PySem.W.nsIn K mainGlobals "law" = some (some (.ref f))) (lk : K.lookup f = some ⟨oc, od, .func (PySem.W.fnOf "law" "law" (defArgs st) (defBody st) (defScope st) .none kV doc pm an cdv ct), sl⟩) (c : PySem.W.codeIn K cdv "law" = true) (kp : PySem.W.keepIn K (.ref f) = true)
    (hb : ∀ (s : Shared) (v : Value), BindsTo s (PySem.W.fnOf "law" "law" (defArgs st) (defBody st) (defScope st) .none kV doc pm an cdv ct) ⟨[v], []⟩ [("script", v)])
    (hF : ∀ (base : Heap) (fd : FuncData), (∃ mm, base.Ns sysModules mm) → Fun K "law" "law" st f fd → FnG l.prog w K mg base k f fd ["script"] (spLaw K)) :
    ∃ fd : FuncData, (∀ (s : Shared) (v : Value), BindsTo s fd ⟨[v], []⟩ [("script", v)]) ∧ ∀ base : Heap, K.In base → base.Ns mainGlobals mg → (∃ mm, base.Ns sysModules mm) → FnG l.prog w K mg base k fa fd ["script"] (spLaw K) := by
  have e := hfa.symm.trans (PySem.W.mg_of X G a)
  cases e
  exact ⟨_, hb, fun base _ _ sy => hF base _ sy (fun_mk (st := st) lk c kp)⟩
end RR
end
section
namespace RR
open PySem PySem.Spec L2
open PyProof.Rows hiding St
section
variable {K : PySem.W.Frag} {d : D} {v : V} {ds : List D} {xs : List V}
theorem rq_int {i : Int} : ∀ F : Hp, Rp K F (.int i) (.int i) := fun _ => .int i
theorem rq_str {x : Str} : ∀ F : Hp, Rp K F (.str x) (.str x) := fun _ => .str x
theorem rqs_nil : ∀ F : Hp, Rps K F [] [] := fun _ => .nil
theorem rqs_cons (h : ∀ F : Hp, Rp K F d v) (t : ∀ F : Hp, Rps K F ds xs) : ∀ F : Hp, Rps K F (d :: ds) (v :: xs) := fun F => .cons (h F) (t F)
theorem rq_tup {f : Addr} {od : Option Addr} {its : Array Value} {n : Nat} {sl : Array (Option Value)} (l : K.lookup f = some ⟨.type "tuple", od, .seq its n, sl⟩) (z : its.size ≤ sizeLine) (r : ∀ F : Hp, Rps K F ds xs) (v : Vals xs its.toList) : ∀ F : Hp, Rp K F (.tuple ds) (.ref f) := fun F => rp_tup l z v F (r F)
end
end RR
end
section
namespace RR
open PySem PySem.Spec L2
open PyProof.Rows hiding St
open PySem.W (alike dataLt minD maxD)
def permL {α : Type} (is : List Nat) (xs : List α) : List α := is.filterMap fun i => xs[i]?
@[reducible] def mCallK (mf : MP) (is : List Nat) (ma : MA) : ME := fun Γ n Q => ma Γ n fun ds n1 => ds.length = is.length ∧ mf (permL is ds) fun d => Q d n1
theorem ifs' {α : Type} {c : Prop} [Decidable c] {x y : α} (h : (if c then some x else none) = some y) : c ∧ x = y := by
  by_cases k : c
  · rw [if_pos k] at h; cases h; exact ⟨k, rfl⟩
  · rw [if_neg k] at h; cases h
def notNone : D → Bool
  | .none => false
  | _ => true
def alikeB (xs : List D) : Bool := xs.all (fun x => xs.all fun y => alike x y) && xs.all notNone
def okMin (xs : List D) : Bool := alikeB xs && PyData.canLayAll0 xs && decide (PyData.depthAll xs ≤ 60)
def cMinD : List D → Option D
  | [.list (x :: xs)] => if okMin (x :: xs) = true then some (minD x xs) else none
  | _ => none
end RR
end
section
namespace RR
open PySem PySem.Spec L2
open PyProof.Rows hiding St
open PySem.W (alike dataLt minD maxD)
theorem keyOf_D (k : Key) : keyOf (keyD k) = some k := by cases k <;> rfl
def putD (kvs : List (D × D)) (k : Key) (d : D) : List (D × D) :=
  if (kvs.any fun q => decide (keyOf q.1 = some k)) = true then kvs.map (fun q => if keyOf q.1 = some k then (q.1, d) else q) else kvs ++ [(keyD k, d)]
inductive RKs (K : PySem.W.Frag) (F : Hp) : List (D × D) → List (Key × V) → Prop
  | nil : RKs K F [] []
  | cons {k : Key} {d : D} {v : V} {ds : List (D × D)} {kvs : List (Key × V)} : Rp K F d v → RKs K F ds kvs → RKs K F ((keyD k, d) :: ds) ((k, v) :: kvs)
section
variable {K : PySem.W.Frag} {F F' : Hp}
theorem RKs.mono {ds : List (D × D)} {kvs : List (Key × V)} (h : RKs K F ds kvs) (e : Same F F') : RKs K F' ds kvs := by
  induction h with
  | nil => exact .nil
  | cons r _ ih => exact .cons (r.mono e) ih
theorem RKs.keys {ds : List (D × D)} {kvs : List (Key × V)} (h : RKs K F ds kvs) : ds.map (·.1) = kvs.map (fun p => keyD p.1) := by
  induction h with
  | nil => rfl
  | cons r _ ih => rw [List.map_cons, List.map_cons, ih]
theorem RKs.at_ {ds : List (D × D)} {kvs : List (Key × V)} (h : RKs K F ds kvs) : ∀ (i : Nat) x d, kvs[i]? = some x → ds[i]? = some d → Rp K F d.2 x.2 := by
  induction h with
  | nil => intro i x d e; simp at e
  | cons r _ ih =>
    intro i x d e1 e2
    cases i with
    | zero => simp at e1 e2; subst e1 e2; exact r
    | succ i => exact ih i x d (by simpa using e1) (by simpa using e2)
theorem RKs.len {ds : List (D × D)} {kvs : List (Key × V)} (h : RKs K F ds kvs) : ds.length = kvs.length := by
  induction h with
  | nil => rfl
  | cons r _ ih => rw [List.length_cons, List.length_cons, ih]
theorem RKs.append {ds es : List (D × D)} {kvs lvs : List (Key × V)} (h : RKs K F ds kvs) (t : RKs K F es lvs) : RKs K F (ds ++ es) (kvs ++ lvs) := by
  induction h with
  | nil => exact t
  | cons r _ ih => exact .cons r ih
theorem RKs.any {ds : List (D × D)} {kvs : List (Key × V)} (h : RKs K F ds kvs) (k : Key) : (ds.any fun q => decide (keyOf q.1 = some k)) = kvs.any fun kv => decide (kv.1 = k) := by
  induction h with
  | nil => rfl
  | cons r _ ih =>
    rw [List.any_cons, List.any_cons, ih, keyOf_D]
    congr 1
    exact decide_eq_decide.mpr ⟨fun e => Option.some.inj e, fun e => congrArg some e⟩
theorem RKs.map {ds : List (D × D)} {kvs : List (Key × V)} (h : RKs K F ds kvs) (k : Key) {d : D} {v : V} (r : Rp K F d v) : RKs K F (ds.map fun q => if keyOf q.1 = some k then (q.1, d) else q) (kvs.map fun kv => if kv.1 = k then (kv.1, v) else kv) := by
  induction h with
  | nil => exact .nil
  | @cons k' d' v' _ _ r' _ ih =>
    rw [List.map_cons, List.map_cons]
    by_cases e : k' = k
    · rw [if_pos (show keyOf (keyD k') = some k by rw [keyOf_D, e]), if_pos (show k' = k from e)]
      exact .cons r ih
    · rw [if_neg (show ¬ keyOf (keyD k') = some k by rw [keyOf_D]; exact fun z => e (Option.some.inj z)), if_neg (show ¬ k' = k from e)]
      exact .cons r' ih
theorem RKs.put {ds : List (D × D)} {kvs : List (Key × V)} (h : RKs K F ds kvs) (k : Key) {d : D} {v : V} (r : Rp K F d v) : RKs K F (putD ds k d) (putK kvs k v) := by
  unfold putD putK
  rw [h.any k]
  split
  · exact h.map k r
  · exact h.append (.cons r .nil)
end
def dcompW (g : MG) (t : MT) (ek ev : ME) (Γ : DEnv) : List D → Nat → List (D × D) → (List (D × D) → Nat → Prop) → Prop
  | [], n, acc, Q => Q acc n
  | d :: ds, n, acc, Q => g d Γ fun Γ2 => t Γ2 n fun b n1 => if b = true then ek Γ2 n1 fun kd n2 => ev Γ2 n2 fun y n3 => ∃ k, keyOf kd = some k ∧ dcompW g t ek ev Γ ds n3 (putD acc k y) Q else dcompW g t ek ev Γ ds n1 acc Q
@[reducible] def mDc (mi : MI) (g : MG) (t : MT) (ek ev : ME) (vs : List Nat) : ME := fun Γ n Q => mi Γ n fun ds n1 => ds.length ≤ lim ∧ dcompW g t ek ev (wipeD Γ vs) ds n1 [] fun r n2 => Q (.dict r) n2
theorem Rp.key {K : PySem.W.Frag} {F : Hp} {d : D} {v : V} {k : Key} (r : Rp K F d v) (h : keyOf d = some k) : v = kV k := by
  cases r <;> (unfold keyOf at h; first | (cases h; done) | (cases h; rfl))
end RR
end
section
namespace RR
open PySem PySem.Spec L2
open PyProof.Rows hiding St
section
variable {X : Cx} {K : PySem.W.Frag} {p : Pm} {O : List Nat} {e : Expr} {pos : Pos} {te : TE} {me : ME}
def dRev : D → Option D
  | .list xs => some (.list xs.reverse)
  | .tuple xs => some (.tuple xs.reverse)
  | _ => none
@[reducible] def mRev (me : ME) : ME := fun Γ n Q => me Γ n fun x n1 => ∃ d, dRev x = some d ∧ Q d n1
end
end RR
end
section
namespace RR
open PySem PySem.Spec L2
open PyProof.Rows hiding St
abbrev MPs := DEnv → Nat → (List (D × D) → Nat → Prop) → Prop
@[reducible] def mpNil : MPs := fun _ n Q => Q [] n
@[reducible] def mpCons (mk mv : ME) (r : MPs) : MPs := fun Γ n Q => mk Γ n fun kd n1 => mv Γ n1 fun d n2 => r Γ n2 fun ps n3 => Q ((kd, d) :: ps) n3
section
variable {X : Cx} {p : Pm} {O : List Nat} {pos : Pos} {k v e : Expr} {ks : List (Option Expr)} {vs : List Expr} {tk tv te : TE} {mk mv me : ME} {t : List (TE × TE)} {m : MPs}
def keysD : List (D × D) → Option (List (Key × D))
  | [] => some []
  | (kd, d) :: r => (keyOf kd).bind fun k => (keysD r).bind fun l => some ((k, d) :: l)
def mergeD (acc : List (D × D)) (l : List (Key × D)) : List (D × D) := l.foldl (fun a q => putD a q.1 q.2) acc
def dispD (ps : List (D × D)) : Option D := (keysD ps).bind fun l => if l.length ≤ 15 then some (.dict (mergeD [] l)) else none
@[reducible] def mDisp (m : MPs) : ME := fun Γ n Q => m Γ n fun ps n1 => ∃ d, dispD ps = some d ∧ Q d n1
end
end RR
end
section
namespace RR
open PySem PySem.Spec L2
open PyProof.Rows hiding St
open PySem.W (alike dataLt dataLe EachIs)
def fullTup : D → Bool
  | .tuple (_ :: _) => true
  | _ => false
def otherKind : D → Bool
  | .none => false
  | .tuple _ => false
  | _ => true
def okSort (xs : List D) : Bool := xs.all (fun x => xs.all fun y => alike x y) && (xs.all fullTup || xs.all otherKind) && PyData.canLayAll0 xs && decide (PyData.depthAll xs ≤ 60)
def sortD (xs : List D) : List D := xs.mergeSort (dataLe false id)
def cSorted : List D → Option D
  | [.list xs] => if okSort xs = true then some (.list (sortD xs)) else none
  | _ => none
theorem okSort_alike {xs : List D} (h : xs.all (fun x => xs.all fun y => alike x y) = true) : PySem.W.AllAlike xs := by
  rw [List.all_eq_true] at h
  exact fun x hx y hy => List.all_eq_true.mp (h x hx) y hy
theorem okSort_kind {xs : List D} (h : (xs.all fullTup || xs.all otherKind) = true) : PySem.W.Sortable xs := by
  rw [Bool.or_eq_true, List.all_eq_true, List.all_eq_true] at h
  rcases h with h | h
  · refine .inl fun d hd => ?_
    have := h d hd
    cases d <;> try (cases this; done)
    rename_i ys
    cases ys with
    | nil => cases this
    | cons y ys => exact ⟨y, ys, rfl⟩
  · refine .inr fun d hd => ?_
    have := h d hd
    cases d <;> first | (cases this; done) | exact ⟨(fun e => nomatch e), (fun ys e => nomatch e)⟩
theorem depth_at : ∀ {xs : List D} {d : D}, d ∈ xs → d.depth ≤ PyData.depthAll xs
  | x :: xs, d, h => by
    rw [PyData.depthAll]
    rcases List.mem_cons.mp h with rfl | h
    · exact Nat.le_max_left _ _
    · exact Nat.le_trans (depth_at h) (Nat.le_max_right _ _)
theorem zip_snd : ∀ (vs : List V) (xs : List D), vs.length = xs.length → (vs.zip xs).map Prod.snd = xs
  | [], [], _ => rfl
  | v :: vs, x :: xs, h => by
    rw [List.zip_cons_cons, List.map_cons, zip_snd vs xs (by simpa using h)]
  | [], _ :: _, h => by simp at h
  | _ :: _, [], h => by simp at h
theorem each_zip : ∀ {vs : List V} {its : List Value} {xs : List D}, Vals vs its → vs.length = xs.length → EachIs (fun v (b : V × D) => RelV b.1 v) its (vs.zip xs)
  | _, _, [], .nil, _ => .nil
  | _, _, x :: xs, .cons r rs, h => .cons r (each_zip rs (by simpa using h))
  | _, _, _ :: _, .nil, h => by simp at h
  | _, _, [], .cons _ _, h => by simp at h
theorem each_reads {h : Heap} : ∀ {its : List Value} {xs : List D} {as : List Addr} (vs : List V), ReadsAll h its xs as → vs.length = xs.length → EachIs (fun v (b : V × D) => ∃ as, Reads h v b.2 as) its (vs.zip xs)
  | _, _, _, [], .nil, _ => .nil
  | _, _, _, v :: vs, .cons r rs, h => .cons ⟨_, r⟩ (each_reads vs rs (by simpa using h))
  | _, _, _, _ :: _, .nil, h => by simp at h
  | _, _, _, [], .cons _ _, h => by simp at h
section
variable {X : Cx} {K : PySem.W.Frag}
def rSortD (K : PySem.W.Frag) : List V → Hp → VK → Prop := fun args H Q => ∃ (a : Addr) (vs : List V) (xs : List D), args = [.ref a] ∧ SqL K H a vs ∧ DpAll K H vs xs ∧ vs.length = xs.length ∧ okSort xs = true ∧
  ∀ (p : Addr) (bs : List (V × D)), bs.map Prod.snd = sortD xs → (∀ b ∈ bs, b ∈ vs.zip xs) → H p = none → Q (.ref p) (upd H p (.lst (bs.map Prod.fst)))
theorem each_fst : ∀ {out : List Value} {bs : List (V × D)}, EachIs (fun v (b : V × D) => RelV b.1 v) out bs → Vals (bs.map Prod.fst) out
  | _, _, .nil => .nil
  | _, _, .cons r rs => .cons r (each_fst rs)
theorem call_sortD (hc : X.calm = true) (hw : X.A.units + 66 < cLine) : CallR X (.builtin "sorted") (rSortD X.K) := fun pins s σ H args us Q I r h => by
  obtain ⟨a, vs, xs, rfl, hs, hd, hln, ok, q⟩ := h
  obtain ⟨its, rv, hl, hz⟩ := I.list hs
  rw [Vals.ref1 r]
  obtain ⟨as, rd⟩ := Dp.readsAll I _ _ its hd rv
  unfold okSort at ok
  rw [Bool.and_eq_true, Bool.and_eq_true, Bool.and_eq_true, decide_eq_true_eq] at ok
  obtain ⟨⟨⟨o1, o2⟩, o3⟩, o4⟩ := ok
  have ez := zip_snd vs xs hln
  have lz : (vs.zip xs).length = xs.length := by rw [List.length_zip]; omega
  refine PySem.W.sorted_data (bs := vs.zip xs) (enc := Prod.snd) (R := fun v b => RelV b.1 v) hl.isList (each_zip rv hln) (each_reads vs rd hln) (by rw [ez]; exact okSort_alike o1) (by rw [ez]; exact okSort_kind o2) (by omega) (fun b hb => ?_) fun out ho eo => ?_
  · have : b.2 ∈ xs := by rw [← ez]; exact List.mem_map_of_mem hb
    have := depth_at this
    omega
  · obtain ⟨ep, he'⟩ := PyProof.Rows.sortedAll_at s.heap its out.toArray
    have hlen : (((vs.zip xs).mergeSort (dataLe false Prod.snd)).map Prod.fst).length ≤ sizeLine := by
      rw [List.length_map, List.length_mergeSort]
      omega
    refine ⟨.ref _, upd H (s.heap.objs.size + 1) (.lst (((vs.zip xs).mergeSort (dataLe false Prod.snd)).map Prod.fst)), I.laid (t' := s.toks) (fun _ _ => PyProof.Rows.sortedAll_old) (Nat.le_succ _) ⟨hlen, out, ep, each_fst eo, he'⟩, rfl, q _ _ ?_ ?_ (I.hok.fresh (Nat.le_succ _))⟩
    · have hm : ((vs.zip xs).mergeSort (dataLe false Prod.snd)).map Prod.snd = ((vs.zip xs).map Prod.snd).mergeSort (dataLe false id) := List.map_mergeSort (fun a _ b _ => rfl)
      rw [hm, ez]
      rfl
    · intro b hb
      exact List.mem_mergeSort.mp hb
theorem zip_rp {F : Hp} {xs : List D} {vs : List V} (r : Rps K F xs vs) {b : V × D} (h : b ∈ vs.zip xs) : Rp K F b.2 b.1 := by
  obtain ⟨i, hi, rfl⟩ := List.getElem_of_mem h
  rw [List.length_zip] at hi
  rw [List.getElem_zip]
  exact r.at_ i _ _ (List.getElem?_eq_getElem (by omega)) (List.getElem?_eq_getElem (by omega))
theorem rps_of {F : Hp} : ∀ {bs : List (V × D)}, (∀ b ∈ bs, Rp K F b.2 b.1) → Rps K F (bs.map Prod.snd) (bs.map Prod.fst)
  | [], _ => .nil
  | b :: bs, h => .cons (h b (List.mem_cons_self ..)) (rps_of fun c hc => h c (List.mem_cons_of_mem _ hc))
theorem l_sorted : ClL K (rSortD K) cSorted := fun F H args ds d s r fe Q' k => by
  unfold cSorted at fe
  split at fe
  · rename_i xs
    obtain ⟨ok, rfl⟩ := ifs' fe
    obtain ⟨v, w, rfl, r1, r2⟩ := r.uncons
    cases r2.unnil
    obtain ⟨a, vs, rfl, h1, h2⟩ := r1.lst_inv
    have hcl : PyData.canLayAll0 xs = true := by
      unfold okSort at ok
      rw [Bool.and_eq_true, Bool.and_eq_true] at ok
      exact ok.1.2
    refine ⟨a, vs, xs, rfl, .of (s _ _ h1), Rp.dps _ _ hcl (h2.mono s), h2.len, ok, fun p bs e1 e2 hp => ?_⟩
    have rr := rps_of (K := K) (F := F) fun b hb => zip_rp h2 (e2 b hb)
    rw [e1] at rr
    exact k _ _ _ (Gr.new1 s hp _) (Rp.new_lst (H := H) rr (s.free hp))
  · cases fe
end
theorem fnSorted {X : Cx} {K : PySem.W.Frag} (hK : K = X.K) (hc : X.calm = true) (hx : X.A.units + 66 < cLine) : CallR X (.builtin "sorted") (rSortD K) := hK ▸ call_sortD hc hx
end RR
end
section
namespace RR
open PySem PySem.Spec L2
open PyProof.Rows hiding St
section
variable {X : Cx} {K : PySem.W.Frag} {pins : List (Addr × Obj)} {σ : St} {H : Hp} {s : Shared}
theorem Inv.noSys (I : L2.Inv X pins σ H s) (hs : ∃ mm, X.base.Ns sysModules mm) : H sysModules = none := by
  obtain ⟨mm, o, es, ep, e, _⟩ := hs
  exact (I.bs _ _ e).2
theorem readsAll_mk {h : Heap} : ∀ {us : List Value} {ds : List D}, us.length = ds.length → (∀ (i : Nat) u d, us[i]? = some u → ds[i]? = some d → ∃ as, Reads h u d as ∧ sysModules ∉ as) → ∃ as, ReadsAll h us ds as ∧ sysModules ∉ as
  | [], [], _, _ => ⟨[], .nil, fun h => nomatch h⟩
  | u :: us, d :: ds, hl, g => by
    obtain ⟨as, r, n⟩ := g 0 u d rfl rfl
    obtain ⟨bs, rs, ns⟩ := readsAll_mk (us := us) (ds := ds) (by simpa using hl) fun i u d a b => g (i + 1) u d (by simpa using a) (by simpa using b)
    exact ⟨as ++ bs, .cons r rs, fun h => (List.mem_append.mp h).elim n ns⟩
  | [], _ :: _, hl, _ => by simp at hl
  | _ :: _, [], hl, _ => by simp at hl
theorem key_reads {h : Heap} {k : Key} {u : Value} (i : keyIs k u = true) : Reads h u (keyD k) [] := by
  rcases keyIs_shape i with ⟨j, t, rfl, rfl⟩ | ⟨x, t, rfl, rfl⟩
  · exact .int j t
  · exact .str x t
theorem dict_reads {P : Program} {w : World} {h : Heap} : ∀ {kvs : List (Key × V)} {vs : List (Key × Value)} {es : List DictEntry} {ds : List (D × D)}, KV kvs vs → Pairs (mixKind P w) es vs → ds.map (·.1) = kvs.map (fun p => keyD p.1) →
    (∀ (i : Nat) x d u, kvs[i]? = some x → ds[i]? = some d → RelV x.2 u → ∃ as, Reads h u d.2 as ∧ sysModules ∉ as) →
    (∃ as, ReadsAll h (es.map (·.key)) (ds.map (·.1)) as ∧ sysModules ∉ as) ∧ ∃ bs, ReadsAll h (es.map (·.val)) (ds.map (·.2)) bs ∧ sysModules ∉ bs
  | [], _, _, [], .nil, .nil, _, _ => ⟨⟨[], .nil, fun h => nomatch h⟩, [], .nil, fun h => nomatch h⟩
  | x :: kvs, _, _, d :: ds, .cons r rs, .cons i1 i2 ps, hk, g => by
    rw [List.map_cons, List.map_cons] at hk
    injection hk with hk1 hk2
    obtain ⟨⟨as, a1, a2⟩, bs, b1, b2⟩ := dict_reads rs ps hk2 fun i x d u e1 e2 => g (i + 1) x d u (by simpa using e1) (by simpa using e2)
    obtain ⟨cs, c1, c2⟩ := g 0 x d _ rfl rfl r.2
    refine ⟨⟨[] ++ as, .cons ?_ a1, by simpa using a2⟩, cs ++ bs, .cons (by dsimp only; rw [i2]; exact c1) b1, fun h => (List.mem_append.mp h).elim c2 b2⟩
    dsimp only
    rw [hk1, r.1]
    exact key_reads i1
  | [], _, _, _ :: _, .nil, _, hk, _ => by simp at hk
  | _ :: _, _, _, [], .cons _ _, _, hk, _ => by simp at hk
theorem Rp.reads {F : Hp} {d : D} {v : V} (r : Rp K F d v) : F = H → K = X.K → ∀ (I : L2.Inv X pins σ H s) (hs : ∃ mm, X.base.Ns sysModules mm) (u : Value), RelV v u → ∃ as, Reads s.heap u d as ∧ sysModules ∉ as := by
  induction r with
  | non => intro _ _ I hs u ru; cases ru; exact ⟨_, .none, fun h => nomatch h⟩
  | bl b => intro _ _ I hs u ru; cases ru; exact ⟨_, .bool b, fun h => nomatch h⟩
  | int i => intro _ _ I hs u ru; obtain ⟨t, rfl⟩ := ru; exact ⟨_, .int i t, fun h => nomatch h⟩
  | str x => intro _ _ I hs u ru; obtain ⟨t, rfl⟩ := ru; exact ⟨_, .str x t, fun h => nomatch h⟩
  | @lst a xs ds h1 h2 h3 ih =>
    intro eF eK I hs u ru
    subst eF eK
    cases ru
    obtain ⟨its, rv, ⟨o, n, ho, hc, _, hd⟩, _⟩ := I.list (.of h1)
    have hl := rv.length
    obtain ⟨as, ra, na⟩ := readsAll_mk (h := s.heap) (us := its) (ds := ds) (by omega) fun i u d e1 e2 => by
      have hi : i < xs.length := by have := (List.getElem?_eq_some_iff.mp e1).1; omega
      obtain ⟨w, e3, e4⟩ := rv.get (List.getElem?_eq_getElem hi)
      rw [e1] at e3
      cases e3
      exact ih i _ d (List.getElem?_eq_getElem hi) e2 rfl rfl I hs u e4
    refine ⟨_, .list ho hc hd ra, fun h => ?_⟩
    rcases List.mem_cons.mp h with rfl | h
    · rw [Inv.noSys I hs] at h1; cases h1
    · exact na h
  | @tup a xs ds h1 h2 h3 ih =>
    intro eF eK I hs u ru
    subst eF eK
    cases ru
    obtain ⟨its, rv, ⟨o, ho, hc, n, hd⟩, _⟩ := I.tuple h1
    have hl := rv.length
    obtain ⟨as, ra, na⟩ := readsAll_mk (h := s.heap) (us := its) (ds := ds) (by omega) fun i u d e1 e2 => by
      have hi : i < xs.length := by have := (List.getElem?_eq_some_iff.mp e1).1; omega
      obtain ⟨w, e3, e4⟩ := rv.get (List.getElem?_eq_getElem hi)
      rw [e1] at e3
      cases e3
      exact ih i _ d (List.getElem?_eq_getElem hi) e2 rfl rfl I hs u e4
    exact ⟨_, .tuple ho hc hd ra, na⟩
  | @dct a kvs ds h1 h2 h3 ih =>
    intro eF eK I hs u ru
    subst eF eK
    cases ru
    obtain ⟨z, hd, vs, rel, o, es, ep, ho, he, hdat, hks, hps, hnd⟩ := dk_rd I.hok h1
    obtain ⟨⟨as, a1, a2⟩, bs, b1, b2⟩ := dict_reads (h := s.heap) rel hps h2 fun i x d u e1 e2 ru => ih i x d e1 e2 rfl rfl I hs u ru
    refine ⟨_, .dict ho he.1 hdat a1 b1, fun h => ?_⟩
    rcases List.mem_append.mp h with h | h
    · rcases List.mem_cons.mp h with rfl | h
      · exact absurd hd (by decide)
      · exact a2 h
    · exact b2 h
/-- repr of any data -/
def repOkD (d : D) : Bool := d.showable && decide (d.depth ≤ 64) && decide (d.shown.length ≤ sizeLine)
def rReprD (K : PySem.W.Frag) : List V → Hp → VK → Prop := fun xs H Q => ∃ (a : Addr) (d : D), xs = [.ref a] ∧ Rp K H d (.ref a) ∧ repOkD d = true ∧ Q (.str d.shown) H
theorem call_reprD (hs : ∃ mm, X.base.Ns sysModules mm) (hg : X.A.guards = some []) (hu : X.A.units + 66 < cLine) : CallR X (.builtin "repr") (rReprD X.K) := fun pins s σ H xs us Q I r h => by
  obtain ⟨a, d, rfl, hd, ok, q⟩ := h
  obtain ⟨u, rfl, ru⟩ := r.one
  cases ru
  simp only [repOkD, Bool.and_eq_true, decide_eq_true_eq] at ok
  obtain ⟨⟨c2, c3⟩, c4⟩ := ok
  obtain ⟨as, rd, na⟩ := hd.reads rfl rfl I hs _ rfl
  refine repr_of_reads' rd c2 (fun _ => na) hg (by omega) (fun _ _ z => z) (fun h' u tk hk => ?_) c4
  exact ⟨.str d.shown, H, I.kept (t' := tk) hk, ⟨_, rfl⟩, q⟩
end
end RR
end
section
namespace RR
open PySem PySem.Spec L2
open PyProof.Rows hiding St
section
variable {X : Cx} {p : Pm} {O : List Nat} {e : Expr} {te : TE} {me : ME} {tT : TT} {mT : MT}
def flatL : D → Bool
  | .list xs => xs.all flatD
  | _ => false
@[reducible] def mLookL (me : ME) : ME := fun Γ n Q => me Γ n fun d n1 => flatL d = true ∧ Q d n1
theorem Rps.flat_any {K : PySem.W.Frag} {F G : Hp} {ds : List D} {xs : List V} (f : ds.all flatD = true) (h : Rps K F ds xs) : Rps K G ds xs :=
  ⟨h.len, fun i x d e1 e2 => Rp.flat_any (List.all_eq_true.mp f d (List.mem_of_getElem? e2)) (h.at_ i x d e1 e2)⟩
end
end RR
end
section
namespace RR
open PySem PySem.Spec L2
open PyProof.Rows hiding St
end RR
end
section
namespace RR
open PySem PySem.Spec L2
open PyProof.Rows hiding St
section
variable {p : Pm} {F0 H0 F H F' H' : Hp} {O O' : List Nat} {σ σ' : St} {Γ Γ' : DEnv} {n n' : Nat} {a : Addr} {u w : HO} {kvs : List (Key × V)}
theorem Sep.dict (s : Sep p F0 H0 O F H σ Γ n) {i : Nat} {ds : List (D × D)} (hi : i ∉ O) (e : Γ[i]? = some (some (.dict ds))) : ∃ d kvs, σ[i]? = some (some (.ref d)) ∧ Rd F d (.dK kvs) ∧ ds.map (·.1) = kvs.map (fun p => keyD p.1) ∧ ∀ (i : Nat) x d, kvs[i]? = some x → ds[i]? = some d → Rp p.K F d.2 x.2 := by
  obtain ⟨v, h1, r⟩ := s.sh i _ hi e
  cases r with
  | dct a1 a2 a3 => exact ⟨_, _, h1, a1, a2, a3⟩
def tOrE (t u : TE) : TE := fun σ H Q => t σ H Q ∨ u σ H Q
theorem pe_or {X : Cx} {e : Expr} {t u : TE} (h : PE X e t) (k : PE X e u) : PE X e (tOrE t u) := ⟨fun pins s σ H D I q => q.elim (h.run pins s σ H D I) (k.run pins s σ H D I)⟩
@[reducible] def mIKeys (i : Nat) : MI := fun Γ n Q => ∃ ds, Γ[i]? = some (some (.dict ds)) ∧ Q (ds.map (·.1)) n
@[reducible] def mIVals (i : Nat) : MI := fun Γ n Q => ∃ ds, Γ[i]? = some (some (.dict ds)) ∧ Q (ds.map (·.2)) n
@[reducible] def mIItems (i : Nat) : MI := fun Γ n Q => ∃ ds, Γ[i]? = some (some (.dict ds)) ∧ Q (ds.map fun q => .tuple [q.1, q.2]) n
end
end RR
end
section
namespace RR
open PySem PySem.Spec L2
open PyProof.Rows hiding St
section
variable {X : Cx} {K : PySem.W.Frag}
def rCntD (K : PySem.W.Frag) : V → List V → Hp → VK → Prop := fun x xs H Q => ∃ (a : Addr) (y : V) (d : D) (ds : List D) (vs : List V), x = .ref a ∧ xs = [y] ∧ SqL K H a vs ∧ DpAll K H vs ds ∧ Dp K H y d ∧ PyData.plainAll ds = true ∧ d.plain = true ∧ d.depth ≤ 60 ∧ Q (.int ((ds.countP fun z => PyData.eqv z d : Nat) : Int)) H
theorem mt_cntD (hu : X.A.units + 65 < cLine) : MtR X "list.count" (rCntD X.K) := fun pins s σ H x xs v us Q I rx rxs w => by
  obtain ⟨a, y, d, ds, vs, rfl, rfl, hs, ha, hy, p1, p2, p3, fin⟩ := w
  cases rx
  obtain ⟨u, rfl, ru⟩ := rxs.one
  obtain ⟨its, rv, hl, hz⟩ := I.list hs
  obtain ⟨as, q1⟩ := Dp.readsAll I _ _ its ha rv
  obtain ⟨bs, q2⟩ := Dp.reads I d y u hy ru
  exact SeqAt.count_list_data (vs := its.toArray) hl.isList (by simpa using q1) q2 p1 p2 (by omega) ⟨.int _, H, I.tok _, ⟨s.toks, rfl⟩, fin⟩
def dCnt : D → D → Option D
  | .list xs, d => if PyData.plainAll xs = true ∧ PyData.canLayAll0 xs = true ∧ d.plain = true ∧ SeqAt.shaped d = true ∧ d.depth ≤ 60 then some (.int ((xs.countP fun z => PyData.eqv z d : Nat) : Int)) else none
  | _, _ => none
@[reducible] def mCnt (mo me : ME) : ME := fun Γ n Q => mo Γ n fun x n1 => ∃ xs, x = .list xs ∧ me Γ n1 fun d n2 => ∃ r, dCnt x d = some r ∧ Q r n2
variable {p : Pm} {O : List Nat} {o e f : Expr} {to te tf : TE} {mo me mf : ME} {apos cpos : Pos}
theorem le_cnt (ho : LE p O to mo) (he : LE p O te me) : LE p O (tBM p.K "list" (rCntD p.K) to (tCons te tNil)) (mCnt mo me) := fun F0 H0 F H σ Γ n Q s q Q' k =>
  ho F0 H0 F H σ Γ n _ s q _ fun dx x F1 H1 n1 s1 g1 r1 ⟨xs, ex, q1⟩ => by
    subst ex
    obtain ⟨a, vs, rfl, h1, r⟩ := r1.lst_inv
    refine ⟨.inl ⟨rfl, vs, .of (s1.fh _ _ h1)⟩, ?_⟩
    refine he F0 H0 F1 H1 σ Γ n1 _ s1 q1 _ fun d v F2 H2 n2 s2 g2 r2 ⟨z, fe, q2⟩ => ?_
    unfold dCnt at fe
    dsimp only at fe
    obtain ⟨⟨c1, c2, c3, c4, c5⟩, rfl⟩ := ifs' fe
    have rr := (r.mono g2.f).mono s2.fh
    exact ⟨a, v, d, xs, vs, rfl, rfl, .of (s2.fh _ _ (g2.f _ _ h1)), Rp.dps _ _ c2 rr, (r2.mono s2.fh).dpS c4, c1, c3, c5, k _ _ F2 H2 n2 s2 (g1.trans g2) (.int _) q2⟩
theorem eCnt (hK : p.K = X.K) (hu : X.A.units + 65 < cLine) (ho : RE X p O o to mo) (he : RE X p O e te me)
    (hbase : attributeBase o "count" X.env (eval o X.env) = eval o X.env := by rfl)
    (hfew : ((backTo cpos (starEach [e] X.env)).all (fun x => !x.1) && (backToKw cpos (keywordEach [] X.env)).all (fun x => x.1.isSome) && decide ([e].length + ([] : List Keyword).length + (if ([] : List Keyword).isEmpty then 0 else 1) < 30)) = true := by rfl)
    (hline : (apos.endLine == cpos.line) = true := by rfl) (h1 : starEach [e] X.env = (false, eval e X.env) :: starEach [] X.env := by rfl) (hpl : (backTo cpos (starEach [] X.env)).any (·.1) = false := by rfl) :
    RE X p O (.Call (.Attribute o "count" apos) [e] [] cpos) (tBM p.K "list" (rCntD p.K) to (tCons te tNil)) (mCnt mo me) :=
  ⟨hK ▸ pe_bm PySem.F.plainAttrs_list PySem.F.slot_list_count PySem.F.type_list_count (mt_cntD hu) ho.pe (pa_cons he.pe pa_nil h1) hbase hfew hline h1 hpl, le_cnt ho.le he.le⟩
end
end RR
end
section
namespace RR
open PySem PySem.Spec L2
open PyProof.Rows hiding St
abbrev VE := DEnv → Option D
abbrev VT := DEnv → Option Bool
abbrev VA := DEnv → Option (List D)
abbrev VP := List D → Option D
abbrev VI := DEnv → Option (List D)
abbrev VO := DEnv → Option (Option Int)
abbrev VG := D → DEnv → Option DEnv
abbrev VGs := List D → DEnv → Option DEnv
inductive Rs
  | nx (Γ : DEnv)
  | rt (d : D)
  | bk (Γ : DEnv)
  | ct (Γ : DEnv)
abbrev VS := DEnv → Option Rs
def Rs.to (E : EndsD) (n : Nat) : Rs → Prop
  | .nx Γ => E.nx Γ n
  | .rt d => E.rt d n
  | .bk Γ => E.bk Γ n
  | .ct Γ => E.ct Γ n
def FE (m : ME) (v : VE) : Prop := ∀ Γ n d (Q : D → Nat → Prop), v Γ = some d → Q d n → m Γ n Q
def FT (m : MT) (v : VT) : Prop := ∀ Γ n d (Q : Bool → Nat → Prop), v Γ = some d → Q d n → m Γ n Q
def FA (m : MA) (v : VA) : Prop := ∀ Γ n d (Q : List D → Nat → Prop), v Γ = some d → Q d n → m Γ n Q
def FO (m : MO) (v : VO) : Prop := ∀ Γ n d (Q : Option Int → Nat → Prop), v Γ = some d → Q d n → m Γ n Q
def FS (m : MS) (v : VS) : Prop := ∀ Γ n r (E : EndsD), v Γ = some r → r.to E n → m E Γ n
def FP (m : MP) (v : VP) : Prop := ∀ ds d (R : D → Prop), v ds = some d → R d → m ds R
def FGt (m : MG) (v : VG) : Prop := ∀ d Γ Γ' (Q : DEnv → Prop), v d Γ = some Γ' → Q Γ' → m d Γ Q
def FGs (m : List D → DEnv → (DEnv → Prop) → Prop) (v : VGs) : Prop := ∀ d Γ Γ' (Q : DEnv → Prop), v d Γ = some Γ' → Q Γ' → m d Γ Q
theorem bnd {α β : Type} {x : Option α} {f : α → Option β} {b : β} (h : x.bind f = some b) : ∃ a, x = some a ∧ f a = some b := by
  cases x with
  | none => cases h
  | some a => exact ⟨a, rfl, h⟩
theorem ifs {α : Type} {c : Prop} [Decidable c] {x y : α} (h : (if c then some x else none) = some y) : c ∧ x = y := by
  by_cases k : c
  · rw [if_pos k] at h; cases h; exact ⟨k, rfl⟩
  · rw [if_neg k] at h; cases h
section
variable {ma mb mc me : ME} {a b c e : VE} {f g : D → D → Option D} {u : D → Option D} {mt mu : MT} {t s : VT} {mA : MA} {vA : VA} {mS nS : MS} {vS wS : VS} {mG : MG} {vG : VG} {mGs : List D → DEnv → (DEnv → Prop) → Prop} {vGs : VGs}
def vC (d : D) : VE := fun _ => some d
def vVar (i : Nat) : VE := fun Γ => match Γ[i]? with | some (some d) => some d | _ => none
theorem f_C {d : D} : FE (mC d) (vC d) := fun Γ n d' Q e q => by cases e; exact q
theorem f_Var {i : Nat} : FE (mVar i) (vVar i) := fun Γ n d' Q e q => by
  unfold vVar at e
  split at e
  · cases e; exact ⟨_, by assumption, q⟩
  · cases e
def vOp (f : D → D → Option D) (a b : VE) : VE := fun Γ => (a Γ).bind fun x => (b Γ).bind fun y => f x y
theorem f_Op (ha : FE ma a) (hb : FE mb b) : FE (mOp f ma mb) (vOp f a b) := fun Γ n d Q e q => by
  obtain ⟨x, h1, e⟩ := bnd e
  obtain ⟨y, h2, e⟩ := bnd e
  exact ha Γ n x _ h1 (hb Γ n y _ h2 ⟨d, e, q⟩)
def vUn (f : D → Option D) (a : VE) : VE := fun Γ => (a Γ).bind f
theorem f_Un (ha : FE ma a) : FE (mUn u ma) (vUn u a) := fun Γ n d Q e q => by
  obtain ⟨x, h1, e⟩ := bnd e
  exact ha Γ n x _ h1 ⟨d, e, q⟩
def asB : D → Option Bool
  | .bool b => some b
  | _ => none
theorem asB_eq {d : D} {k : Bool} (h : asB d = some k) : d = .bool k := by
  unfold asB at h
  split at h
  · cases h; rfl
  · cases h
def vTest (a : VE) : VT := fun Γ => (a Γ).bind asB
theorem f_Test (ha : FE ma a) : FT (mTest ma) (vTest a) := fun Γ n d Q e q => by
  obtain ⟨x, h1, e⟩ := bnd e
  exact ha Γ n x _ h1 ⟨d, asB_eq e, q⟩
def vTru (a : VE) : VT := fun Γ => (a Γ).bind truD
theorem f_Tru (ha : FE ma a) : FT (mTru ma) (vTru a) := fun Γ n d Q e q => by
  obtain ⟨x, h1, e⟩ := bnd e
  exact ha Γ n x _ h1 ⟨d, e, q⟩
def vChain (f g : D → D → Option D) (a b c : VE) : VE := fun Γ => (a Γ).bind fun x => (b Γ).bind fun y => (f x y).bind fun r => (asB r).bind fun k => if k = true then (c Γ).bind fun z => g y z else some (.bool false)
theorem f_Chain (ha : FE ma a) (hb : FE mb b) (hc : FE mc c) : FE (mChain f g ma mb mc) (vChain f g a b c) := fun Γ n d Q e q => by
  obtain ⟨x, h1, e⟩ := bnd e
  obtain ⟨y, h2, e⟩ := bnd e
  obtain ⟨r, h3, e⟩ := bnd e
  obtain ⟨k, h4, e⟩ := bnd e
  refine ha Γ n x _ h1 (hb Γ n y _ h2 ⟨k, by rw [h3, asB_eq h4], ?_⟩)
  cases k with
  | true =>
    rw [if_pos rfl] at e ⊢
    obtain ⟨z, h5, e⟩ := bnd e
    exact hc Γ n z _ h5 ⟨d, e, q⟩
  | false =>
    rw [if_neg (by decide)] at e ⊢
    cases e
    exact q
def vAnd (t s : VT) : VT := fun Γ => (t Γ).bind fun k => if k = true then s Γ else some false
def vOr (t s : VT) : VT := fun Γ => (t Γ).bind fun k => if k = true then some true else s Γ
def vNot (t : VT) : VT := fun Γ => (t Γ).bind fun k => some (!k)
theorem f_And (ha : FT mt t) (hb : FT mu s) : FT (mAnd mt mu) (vAnd t s) := fun Γ n d Q e q => by
  obtain ⟨k, h1, e⟩ := bnd e
  refine ha Γ n k _ h1 ?_
  cases k with
  | true => rw [if_pos rfl] at e ⊢; exact hb Γ n d Q e q
  | false => rw [if_neg (by decide)] at e ⊢; cases e; exact q
theorem f_Or (ha : FT mt t) (hb : FT mu s) : FT (mOr mt mu) (vOr t s) := fun Γ n d Q e q => by
  obtain ⟨k, h1, e⟩ := bnd e
  refine ha Γ n k _ h1 ?_
  cases k with
  | true => rw [if_pos rfl] at e ⊢; cases e; exact q
  | false => rw [if_neg (by decide)] at e ⊢; exact hb Γ n d Q e q
theorem f_Not (ha : FT mt t) : FT (mNot mt) (vNot t) := fun Γ n d Q e q => by
  obtain ⟨k, h1, e⟩ := bnd e
  cases e
  exact ha Γ n k _ h1 q
def vAndV (a b : VE) : VE := fun Γ => (a Γ).bind fun x => (asB x).bind fun k => if k = true then b Γ else some (.bool false)
def vOrV (a b : VE) : VE := fun Γ => (a Γ).bind fun x => (asB x).bind fun k => if k = true then some (.bool true) else b Γ
def vNotV (a : VE) : VE := fun Γ => (a Γ).bind fun x => (asB x).bind fun k => some (.bool (!k))
theorem f_AndV (ha : FE ma a) (hb : FE mb b) : FE (mAndV ma mb) (vAndV a b) := fun Γ n d Q e q => by
  obtain ⟨x, h1, e⟩ := bnd e
  obtain ⟨k, h2, e⟩ := bnd e
  refine ha Γ n x _ h1 ⟨k, asB_eq h2, ?_⟩
  cases k with
  | true => rw [if_pos rfl] at e ⊢; exact hb Γ n d Q e q
  | false => rw [if_neg (by decide)] at e ⊢; cases e; exact q
theorem f_OrV (ha : FE ma a) (hb : FE mb b) : FE (mOrV ma mb) (vOrV a b) := fun Γ n d Q e q => by
  obtain ⟨x, h1, e⟩ := bnd e
  obtain ⟨k, h2, e⟩ := bnd e
  refine ha Γ n x _ h1 ⟨k, asB_eq h2, ?_⟩
  cases k with
  | true => rw [if_pos rfl] at e ⊢; cases e; exact q
  | false => rw [if_neg (by decide)] at e ⊢; exact hb Γ n d Q e q
theorem f_NotV (ha : FE ma a) : FE (mNotV ma) (vNotV a) := fun Γ n d Q e q => by
  obtain ⟨x, h1, e⟩ := bnd e
  obtain ⟨k, h2, e⟩ := bnd e
  cases e
  exact ha Γ n x _ h1 ⟨k, asB_eq h2, q⟩
def vIf (t : VT) (a b : VE) : VE := fun Γ => (t Γ).bind fun k => if k = true then a Γ else b Γ
theorem f_If (ht : FT mt t) (ha : FE ma a) (hb : FE mb b) : FE (mIf mt ma mb) (vIf t a b) := fun Γ n d Q e q => by
  obtain ⟨k, h1, e⟩ := bnd e
  refine ht Γ n k _ h1 ?_
  cases k with
  | true => rw [if_pos rfl] at e ⊢; exact ha Γ n d Q e q
  | false => rw [if_neg (by decide)] at e ⊢; exact hb Γ n d Q e q
def vNil : VA := fun _ => some []
def vCons (a : VE) (r : VA) : VA := fun Γ => (a Γ).bind fun x => (r Γ).bind fun xs => some (x :: xs)
theorem f_Nil : FA mNil vNil := fun Γ n d Q e q => by cases e; exact q
theorem f_Cons (ha : FE ma a) (hr : FA mA vA) : FA (mCons ma mA) (vCons a vA) := fun Γ n d Q e q => by
  obtain ⟨x, h1, e⟩ := bnd e
  obtain ⟨xs, h2, e⟩ := bnd e
  cases e
  exact ha Γ n x _ h1 (hr Γ n xs _ h2 q)
def vTup (r : VA) : VE := fun Γ => (r Γ).bind fun xs => if xs.length ≤ lim then some (.tuple xs) else none
def vLst (r : VA) : VE := fun Γ => (r Γ).bind fun xs => if xs.length ≤ lim then some (.list xs) else none
theorem f_Tup (h : FA mA vA) : FE (mTup mA) (vTup vA) := fun Γ n d Q e q => by
  obtain ⟨xs, h1, e⟩ := bnd e
  obtain ⟨h2, rfl⟩ := ifs e
  exact h Γ n xs _ h1 ⟨h2, q⟩
theorem f_Lst (h : FA mA vA) : FE (mLst mA) (vLst vA) := fun Γ n d Q e q => by
  obtain ⟨xs, h1, e⟩ := bnd e
  obtain ⟨h2, rfl⟩ := ifs e
  exact h Γ n xs _ h1 ⟨h2, q⟩
def vDict0 : VE := fun _ => some (.dict [])
theorem f_Dict0 : FE mDict0 vDict0 := fun Γ n d Q e q => by cases e; exact q
def vCl (k : List D → Option D) (r : VA) : VE := fun Γ => (r Γ).bind k
theorem f_Cl {k : List D → Option D} (h : FA mA vA) : FE (mCl k mA) (vCl k vA) := fun Γ n d Q e q => by
  obtain ⟨xs, h1, e⟩ := bnd e
  exact h Γ n xs _ h1 ⟨d, e, q⟩
def vIsi (T : String) (a : VE) : VE := fun Γ => (a Γ).bind fun x => some (.bool (isiB x T))
def vIsi2 (T U : String) (a : VE) : VE := fun Γ => (a Γ).bind fun x => some (.bool (isiB x T || isiB x U))
theorem f_Isi {T : String} (h : FE ma a) : FE (mIsi T ma) (vIsi T a) := fun Γ n d Q e q => by
  obtain ⟨x, h1, e⟩ := bnd e
  cases e
  exact h Γ n x _ h1 q
theorem f_Isi2 {T U : String} (h : FE ma a) : FE (mIsi2 T U ma) (vIsi2 T U a) := fun Γ n d Q e q => by
  obtain ⟨x, h1, e⟩ := bnd e
  cases e
  exact h Γ n x _ h1 q
def vNoPart : VO := fun _ => some none
def asI : D → Option Int
  | .int i => some i
  | _ => none
theorem asI_eq {d : D} {k : Int} (h : asI d = some k) : d = .int k := by
  unfold asI at h
  split at h
  · cases h; rfl
  · cases h
def vPart (a : VE) : VO := fun Γ => (a Γ).bind fun x => (asI x).bind fun i => some (some i)
theorem f_NoPart : FO mNoPart vNoPart := fun Γ n d Q e q => by cases e; exact q
theorem f_Part (h : FE ma a) : FO (mPart ma) (vPart a) := fun Γ n d Q e q => by
  obtain ⟨x, h1, e⟩ := bnd e
  obtain ⟨i, h2, e⟩ := bnd e
  cases e
  exact h Γ n x _ h1 ⟨i, asI_eq h2, q⟩
def vSl (a : VE) (lo hi : VO) : VE := fun Γ => (a Γ).bind fun x => (lo Γ).bind fun l => (hi Γ).bind fun h => dSl l h x
theorem f_Sl {ml mh : MO} {lo hi : VO} (h : FE ma a) (hl : FO ml lo) (hh : FO mh hi) : FE (mSl ma ml mh) (vSl a lo hi) := fun Γ n d Q e q => by
  obtain ⟨x, h1, e⟩ := bnd e
  obtain ⟨l, h2, e⟩ := bnd e
  obtain ⟨k, h3, e⟩ := bnd e
  exact h Γ n x _ h1 (hl Γ n l _ h2 (hh Γ n k _ h3 ⟨d, e, q⟩))
def vCall (f : VP) (r : VA) : VE := fun Γ => (r Γ).bind f
theorem f_Call {mf : MP} {f : VP} (hf : FP mf f) (h : FA mA vA) : FE (mCall mf mA) (vCall f vA) := fun Γ n d Q e q => by
  obtain ⟨xs, h1, e⟩ := bnd e
  exact h Γ n xs _ h1 (hf xs d _ e q)
def vLook (a : VE) : VE := fun Γ => (a Γ).bind fun x => if flatD x = true then some x else none
theorem f_Look (h : FE ma a) : FE (mLook ma) (vLook a) := fun Γ n d Q e q => by
  obtain ⟨x, h1, e⟩ := bnd e
  obtain ⟨h2, rfl⟩ := ifs e
  exact h Γ n x _ h1 ⟨h2, q⟩
def vgName (i : Nat) : VG := fun d Γ => some (Γ.set i (some d))
def vgNil : VGs := fun ds Γ => match ds with | [] => some Γ | _ => none
def vgCons (g : VG) (r : VGs) : VGs := fun ds Γ => match ds with | d :: ds => (g d Γ).bind fun Γ1 => r ds Γ1 | _ => none
def vgTup (k : Nat) (r : VGs) : VG := fun d Γ => match d with | .tuple ds => if ds.length = k then r ds Γ else none | _ => none
theorem f_gName {i : Nat} : FGt (mgName i) (vgName i) := fun d Γ Γ' Q e q => by cases e; exact q
theorem f_gNil : FGs mgNil vgNil := fun d Γ Γ' Q e q => by
  unfold vgNil at e
  split at e
  · cases e; exact ⟨rfl, q⟩
  · cases e
theorem f_gCons (h : FGt mG vG) (hr : FGs mGs vGs) : FGs (mgCons mG mGs) (vgCons vG vGs) := fun d Γ Γ' Q e q => by
  unfold vgCons at e
  split at e
  · obtain ⟨Γ1, h1, e⟩ := bnd e
    exact ⟨_, _, rfl, h _ _ _ _ h1 (hr _ _ _ _ e q)⟩
  · cases e
theorem f_gTup {k : Nat} (hr : FGs mGs vGs) : FGt (mgTup k mGs) (vgTup k vGs) := fun d Γ Γ' Q e q => by
  unfold vgTup at e
  split at e
  · split at e
    · exact ⟨_, rfl, by assumption, hr _ _ _ _ e q⟩
    · cases e
  · cases e
def FI' (m : MI) (v : VI) : Prop := ∀ Γ n d (Q : List D → Nat → Prop), v Γ = some d → Q d n → m Γ n Q
def vISeq (a : VE) : VI := fun Γ => (a Γ).bind seqD
theorem f_ISeq (h : FE ma a) : FI' (mISeq ma) (vISeq a) := fun Γ n d Q e q => by
  obtain ⟨x, h1, e⟩ := bnd e
  exact h Γ n x _ h1 ⟨d, e, q⟩
def enum1 : List D → Option (List D)
  | [d] => (seqD d).bind fun xs => some (enumD 0 xs)
  | _ => none
def vIEn (r : VA) : VI := fun Γ => (r Γ).bind enum1
theorem f_IEn (h : FA mA vA) : FI' (mIEn mA) (vIEn vA) := fun Γ n d Q e q => by
  obtain ⟨xs, h1, e⟩ := bnd e
  unfold enum1 at e
  split at e
  · obtain ⟨ys, h2, e⟩ := bnd e
    cases e
    exact h Γ n _ _ h1 ⟨_, ys, rfl, h2, q⟩
  · cases e
def zip2 : List D → Option (List D)
  | [.list xs, .list ys] => some (zipD xs ys)
  | [.tuple xs, .tuple ys] => some (zipD xs ys)
  | _ => none
def vIZ (r : VA) : VI := fun Γ => (r Γ).bind zip2
theorem f_IZ (h : FA mA vA) : FI' (mIZ mA) (vIZ vA) := fun Γ n d Q e q => by
  obtain ⟨xs, h1, e⟩ := bnd e
  unfold zip2 at e
  split at e
  · cases e; exact h Γ n _ _ h1 (.inl ⟨_, _, rfl, q⟩)
  · cases e; exact h Γ n _ _ h1 (.inr ⟨_, _, rfl, q⟩)
  · cases e
instance (i : Int) : Decidable (okR i) := inferInstanceAs (Decidable (_ ∧ _))
def range1 : List D → Option (List D)
  | [.int j] => if okR j then some (rangeD 0 j.toNat) else none
  | _ => none
def range2 : List D → Option (List D)
  | [.int i, .int j] => if okR i ∧ okR j then some (rangeD i (j - i).toNat) else none
  | _ => none
def vIR1 (r : VA) : VI := fun Γ => (r Γ).bind range1
def vIR2 (r : VA) : VI := fun Γ => (r Γ).bind range2
theorem f_IR1 (h : FA mA vA) : FI' (mIR1 mA) (vIR1 vA) := fun Γ n d Q e q => by
  obtain ⟨xs, h1, e⟩ := bnd e
  unfold range1 at e
  split at e
  · obtain ⟨h2, rfl⟩ := ifs e
    exact h Γ n _ _ h1 ⟨_, rfl, h2, q⟩
  · cases e
theorem f_IR2 (h : FA mA vA) : FI' (mIR2 mA) (vIR2 vA) := fun Γ n d Q e q => by
  obtain ⟨xs, h1, e⟩ := bnd e
  unfold range2 at e
  split at e
  · obtain ⟨h2, rfl⟩ := ifs e
    exact h Γ n _ _ h1 ⟨_, _, rfl, h2.1, h2.2, q⟩
  · cases e
def vcomp (g : VG) (t : VT) (e : VE) (Γ : DEnv) : List D → Option (List D)
  | [] => some []
  | d :: ds => (g d Γ).bind fun Γ2 => (t Γ2).bind fun b => if b = true then (e Γ2).bind fun y => (vcomp g t e Γ ds).bind fun r => some (y :: r) else vcomp g t e Γ ds
def vYes : VT := fun _ => some true
theorem f_Yes : FT mYes vYes := fun Γ n d Q e q => by cases e; exact q
theorem f_comp (hg : FGt mG vG) (ht : FT mt t) (he : FE me e) {Γ : DEnv} : ∀ (ds r : List D) (n : Nat) (Q : List D → Nat → Prop), vcomp vG t e Γ ds = some r → Q r n → compW mG mt me Γ ds n Q
  | [], r, n, Q, h, q => by cases h; exact q
  | d :: ds, r, n, Q, h, q => by
    obtain ⟨Γ2, h1, h⟩ := bnd h
    obtain ⟨k, h2, h⟩ := bnd h
    refine hg _ _ _ _ h1 (ht _ _ _ _ h2 ?_)
    cases k with
    | true =>
      rw [if_pos rfl] at h ⊢
      obtain ⟨y, h3, h⟩ := bnd h
      obtain ⟨r', h4, h⟩ := bnd h
      cases h
      exact he _ _ _ _ h3 (f_comp hg ht he ds r' n _ h4 q)
    | false =>
      rw [if_neg (by decide)] at h ⊢
      exact f_comp hg ht he ds r n _ h q
def vLc (i : VI) (g : VG) (t : VT) (e : VE) (vs : List Nat) : VE := fun Γ => (i Γ).bind fun ds => if ds.length ≤ lim then (vcomp g t e (wipeD Γ vs) ds).bind fun r => some (.list r) else none
theorem f_Lc {mi : MI} {i : VI} {vs : List Nat} (hi : FI' mi i) (hg : FGt mG vG) (ht : FT mt t) (he : FE me e) : FE (mLc mi mG mt me vs) (vLc i vG t e vs) := fun Γ n d Q h q => by
  obtain ⟨ds, h1, h⟩ := bnd h
  split at h
  · obtain ⟨r, h2, h⟩ := bnd h
    cases h
    exact hi _ _ _ _ h1 ⟨by assumption, f_comp hg ht he ds r n _ h2 q⟩
  · cases h
def vcompI (g : VG) (t : VT) (e : VE) (Γ : DEnv) : List D → List D → Option (List D)
  | [], acc => some acc
  | d :: ds, acc => (g d Γ).bind fun Γ2 => (t Γ2).bind fun b => if b = true then (e Γ2).bind fun y => if acc.length < lim then vcompI g t e Γ ds (acc ++ [y]) else none else vcompI g t e Γ ds acc
def vcompO (g : VG) (t : VT) (i1 : VI) (g1 : VG) (t1 : VT) (e : VE) (vs1 : List Nat) (Γ : DEnv) : List D → List D → Option (List D)
  | [], acc => some acc
  | d :: ds, acc => (g d Γ).bind fun Γ2 => (t Γ2).bind fun b => if b = true then (i1 Γ2).bind fun es => (vcompI g1 t1 e (wipeD Γ2 vs1) es acc).bind fun acc' => vcompO g t i1 g1 t1 e vs1 Γ ds acc' else vcompO g t i1 g1 t1 e vs1 Γ ds acc
theorem f_compI (hg : FGt mG vG) (ht : FT mt t) (he : FE me e) {Γ : DEnv} : ∀ (ds acc r : List D) (n : Nat) (Q : List D → Nat → Prop), vcompI vG t e Γ ds acc = some r → Q r n → compI mG mt me Γ ds n acc Q
  | [], acc, r, n, Q, h, q => by cases h; exact q
  | d :: ds, acc, r, n, Q, h, q => by
    obtain ⟨Γ2, h1, h⟩ := bnd h
    obtain ⟨k, h2, h⟩ := bnd h
    refine hg _ _ _ _ h1 (ht _ _ _ _ h2 ?_)
    cases k with
    | true =>
      rw [if_pos rfl] at h ⊢
      obtain ⟨y, h3, h⟩ := bnd h
      refine he _ _ _ _ h3 ?_
      split at h
      · exact ⟨by assumption, f_compI hg ht he ds _ r n _ h q⟩
      · cases h
    | false =>
      rw [if_neg (by decide)] at h ⊢
      exact f_compI hg ht he ds acc r n _ h q
theorem f_compO {mi1 : MI} {i1 : VI} {mG1 : MG} {vG1 : VG} {vs1 : List Nat} (hg : FGt mG vG) (ht : FT mt t) (hi : FI' mi1 i1) (hg1 : FGt mG1 vG1) (ht1 : FT mu s) (he : FE me e) {Γ : DEnv} : ∀ (ds acc r : List D) (n : Nat) (Q : List D → Nat → Prop), vcompO vG t i1 vG1 s e vs1 Γ ds acc = some r → Q r n → compO mG mt mi1 mG1 mu me vs1 Γ ds n acc Q
  | [], acc, r, n, Q, h, q => by cases h; exact q
  | d :: ds, acc, r, n, Q, h, q => by
    obtain ⟨Γ2, h1, h⟩ := bnd h
    obtain ⟨k, h2, h⟩ := bnd h
    refine hg _ _ _ _ h1 (ht _ _ _ _ h2 ?_)
    cases k with
    | true =>
      rw [if_pos rfl] at h ⊢
      obtain ⟨es, h3, h⟩ := bnd h
      obtain ⟨acc', h4, h⟩ := bnd h
      exact hi _ _ _ _ h3 (f_compI hg1 ht1 he es acc acc' n _ h4 (f_compO hg ht hi hg1 ht1 he ds acc' r n Q h q))
    | false =>
      rw [if_neg (by decide)] at h ⊢
      exact f_compO hg ht hi hg1 ht1 he ds acc r n _ h q
def vLc2 (i : VI) (g : VG) (t : VT) (i1 : VI) (g1 : VG) (t1 : VT) (e : VE) (vs vs1 : List Nat) : VE := fun Γ => (i Γ).bind fun ds => (vcompO g t i1 g1 t1 e vs1 (wipeD Γ vs) ds []).bind fun r => some (.list r)
theorem f_Lc2 {mi mi1 : MI} {i i1 : VI} {mG1 : MG} {vG1 : VG} {vs vs1 : List Nat} (hi : FI' mi i) (hg : FGt mG vG) (ht : FT mt t) (hi1 : FI' mi1 i1) (hg1 : FGt mG1 vG1) (ht1 : FT mu s) (he : FE me e) : FE (mLc2 mi mG mt mi1 mG1 mu me vs vs1) (vLc2 i vG t i1 vG1 s e vs vs1) := fun Γ n d Q h q => by
  obtain ⟨ds, h1, h⟩ := bnd h
  obtain ⟨r, h2, h⟩ := bnd h
  cases h
  exact hi _ _ _ _ h1 (f_compO hg ht hi1 hg1 ht1 he ds [] r n _ h2 q)
def vNext : VS := fun Γ => some (.nx Γ)
def vSeqS (t u : VS) : VS := fun Γ => (t Γ).bind fun r => match r with | .nx Γ1 => u Γ1 | r => some r
theorem f_Next : FS mNext vNext := fun Γ n r E e q => by cases e; exact q
theorem f_Seq (h : FS mS vS) (k : FS nS wS) : FS (mSeq mS nS) (vSeqS vS wS) := fun Γ n r E e q => by
  obtain ⟨r1, h1, e⟩ := bnd e
  refine h Γ n r1 _ h1 ?_
  cases r1 with
  | nx Γ1 => exact k Γ1 n r E e q
  | rt d => cases e; exact q
  | bk Γ1 => cases e; exact q
  | ct Γ1 => cases e; exact q
def vNever : VS := fun _ => none
theorem f_Never : FS mNever vNever := fun Γ n r E e q => by cases e
def vDrop (a : VE) : VS := fun Γ => (a Γ).bind fun _ => some (.nx Γ)
theorem f_Drop (h : FE ma a) : FS (mDrop ma) (vDrop a) := fun Γ n r E e q => by
  obtain ⟨x, h1, e⟩ := bnd e
  cases e
  exact h Γ n x _ h1 q
def vRet (a : VE) : VS := fun Γ => (a Γ).bind fun x => some (.rt x)
theorem f_Ret (h : FE ma a) : FS (mRet ma) (vRet a) := fun Γ n r E e q => by
  obtain ⟨x, h1, e⟩ := bnd e
  cases e
  exact h Γ n x _ h1 q
def vIfS (t : VT) (x y : VS) : VS := fun Γ => (t Γ).bind fun k => if k = true then x Γ else y Γ
theorem f_IfS (ht : FT mt t) (h : FS mS vS) (k : FS nS wS) : FS (mIfS mt mS nS) (vIfS t vS wS) := fun Γ n r E e q => by
  obtain ⟨b, h1, e⟩ := bnd e
  refine ht Γ n b _ h1 ?_
  cases b with
  | true => rw [if_pos rfl] at e ⊢; exact h Γ n r E e q
  | false => rw [if_neg (by decide)] at e ⊢; exact k Γ n r E e q
def vSet (i : Nat) (a : VE) : VS := fun Γ => (a Γ).bind fun x => some (.nx (Γ.set i (some x)))
theorem f_Set {i : Nat} (h : FE ma a) : FS (mSet i ma) (vSet i a) := fun Γ n r E e q => by
  obtain ⟨x, h1, e⟩ := bnd e
  cases e
  exact h Γ n x _ h1 q
def vAug (i : Nat) (f : D → D → Option D) (a : VE) : VS := fun Γ => (vVar i Γ).bind fun x => (a Γ).bind fun y => (f x y).bind fun z => some (.nx (Γ.set i (some z)))
theorem f_Aug {i : Nat} (h : FE ma a) : FS (mAug i f ma) (vAug i f a) := fun Γ n r E e q => by
  obtain ⟨x, h1, e⟩ := bnd e
  obtain ⟨y, h2, e⟩ := bnd e
  obtain ⟨z, h3, e⟩ := bnd e
  cases e
  unfold vVar at h1
  split at h1
  · cases h1
    exact ⟨_, by assumption, h Γ n y _ h2 ⟨z, h3, q⟩⟩
  · cases h1
def vPar (is : List Nat) (r : VA) : VS := fun Γ => (r Γ).bind fun ds => if ds.length = is.length then some (.nx (setsD Γ is ds)) else none
theorem f_Par {is : List Nat} (h : FA mA vA) : FS (mPar is mA) (vPar is vA) := fun Γ n r E e q => by
  obtain ⟨ds, h1, e⟩ := bnd e
  obtain ⟨h2, rfl⟩ := ifs e
  exact h Γ n ds _ h1 ⟨h2, q⟩
def vAsg (a : VE) (g : VG) : VS := fun Γ => (a Γ).bind fun x => (g x Γ).bind fun Γ1 => some (.nx Γ1)
theorem f_Asg (h : FE ma a) (hg : FGt mG vG) : FS (mAsg ma mG) (vAsg a vG) := fun Γ n r E e q => by
  obtain ⟨x, h1, e⟩ := bnd e
  obtain ⟨Γ1, h2, e⟩ := bnd e
  cases e
  exact h Γ n x _ h1 (hg _ _ _ _ h2 q)
def asL : D → Option (List D)
  | .list xs => some xs
  | _ => none
def vAppend (i : Nat) (a : VE) : VS := fun Γ => (vVar i Γ).bind fun x => (asL x).bind fun ds => (a Γ).bind fun d => if ds.length < lim then some (.nx (Γ.set i (some (.list (ds ++ [d]))))) else none
theorem f_Append {i : Nat} (h : FE ma a) : FS (mAppend i ma) (vAppend i a) := fun Γ n r E e q => by
  obtain ⟨x, h1, e⟩ := bnd e
  obtain ⟨ds, h2, e⟩ := bnd e
  obtain ⟨d, h3, e⟩ := bnd e
  obtain ⟨h4, rfl⟩ := ifs e
  unfold vVar at h1
  split at h1
  · cases h1
    unfold asL at h2
    split at h2
    · cases h2
      exact ⟨_, by assumption, h Γ n d _ h3 ⟨h4, q⟩⟩
    · cases h2
  · cases h1
def vfor (g : VG) (b : VS) : List D → DEnv → Option Rs
  | [], Γ => some (.nx Γ)
  | d :: ds, Γ => (g d Γ).bind fun Γ1 => (b Γ1).bind fun r => match r with | .nx Γ2 => vfor g b ds Γ2 | .ct Γ2 => vfor g b ds Γ2 | .bk Γ2 => some (.nx Γ2) | .rt x => some (.rt x)
def vFor (i : VI) (g : VG) (b : VS) : VS := fun Γ => (i Γ).bind fun ds => vfor g b ds Γ
theorem f_for (hg : FGt mG vG) (h : FS mS vS) {E : EndsD} {n : Nat} : ∀ (ds : List D) (Γ : DEnv) (r : Rs), vfor vG vS ds Γ = some r → r.to E n → forW mG mS E ds Γ n
  | [], Γ, r, e, q => by cases e; exact q
  | d :: ds, Γ, r, e, q => by
    obtain ⟨Γ1, h1, e⟩ := bnd e
    obtain ⟨r1, h2, e⟩ := bnd e
    refine hg _ _ _ _ h1 (h Γ1 n r1 _ h2 ?_)
    cases r1 with
    | nx Γ2 => exact f_for hg h ds Γ2 r e q
    | ct Γ2 => exact f_for hg h ds Γ2 r e q
    | bk Γ2 => cases e; exact q
    | rt x => cases e; exact q
theorem f_For {mi : MI} {i : VI} (hi : FI' mi i) (hg : FGt mG vG) (h : FS mS vS) : FS (mFor mi mG mS) (vFor i vG vS) := fun Γ n r E e q => by
  obtain ⟨ds, h1, e⟩ := bnd e
  exact hi _ _ _ _ h1 (f_for hg h ds Γ r e q)
def vwhile (t : VT) (b : VS) : Nat → DEnv → Option Rs
  | 0, _ => none
  | m + 1, Γ => (t Γ).bind fun k => if k = true then (b Γ).bind fun r => match r with | .nx Γ2 => vwhile t b m Γ2 | .ct Γ2 => vwhile t b m Γ2 | .bk Γ2 => some (.nx Γ2) | .rt x => some (.rt x) else some (.nx Γ)
def fuel : Nat := 100000
def vWhile (t : VT) (b : VS) : VS := fun Γ => vwhile t b fuel Γ
theorem f_While (ht : FT mt t) (h : FS mS vS) : FS (mWhile mt mS) (vWhile t vS) := fun Γ n r E e q => by
  refine ⟨fun m Γ n' => n' = n ∧ ∃ r, vwhile t vS m Γ = some r ∧ r.to E n, ⟨fuel, rfl, r, e, q⟩, ?_⟩
  rintro m Γ n' ⟨rfl, r, e, q⟩
  cases m with
  | zero => cases e
  | succ m =>
    obtain ⟨k, h1, e⟩ := bnd e
    refine ht Γ n' k _ h1 ?_
    cases k with
    | true =>
      rw [if_pos rfl] at e ⊢
      obtain ⟨r1, h2, e⟩ := bnd e
      refine h Γ n' r1 _ h2 ?_
      cases r1 with
      | nx Γ2 => exact ⟨m, Nat.lt_succ_self m, rfl, r, e, q⟩
      | ct Γ2 => exact ⟨m, Nat.lt_succ_self m, rfl, r, e, q⟩
      | bk Γ2 => cases e; exact q
      | rt x => cases e; exact q
    | false =>
      rw [if_neg (by decide)] at e ⊢
      cases e
      exact q
def outD : Rs → Option D
  | .nx _ => some .none
  | .rt d => some d
  | _ => none
def vFun (N : List Str) (np : Nat) (b : VS) : VP := fun ds => if ds.length = np then (b (startD N (ds.map some))).bind outD else none
theorem f_Fun {N : List Str} {np : Nat} (h : FS mS vS) : FP (mFun N np mS) (vFun N np vS) := fun ds d R e q => by
  unfold vFun at e
  split at e
  · obtain ⟨r, h1, e⟩ := bnd e
    refine ⟨by assumption, h _ _ r _ h1 ?_⟩
    cases r with
    | nx Γ => cases e; exact q
    | rt x => cases e; exact q
    | bk Γ => cases e
    | ct Γ => cases e
  · cases e
def vCallK (f : VP) (is : List Nat) (r : VA) : VE := fun Γ => (r Γ).bind fun ds => if ds.length = is.length then f (permL is ds) else none
theorem f_CallK {mf : MP} {f : VP} {is : List Nat} (hf : FP mf f) (h : FA mA vA) : FE (mCallK mf is mA) (vCallK f is vA) := fun Γ n d Q e q => by
  obtain ⟨xs, h1, e⟩ := bnd e
  split at e
  · exact h Γ n xs _ h1 ⟨by assumption, hf _ d _ e q⟩
  · cases e
def vdcomp (g : VG) (t : VT) (ek ev : VE) (Γ : DEnv) : List D → List (D × D) → Option (List (D × D))
  | [], acc => some acc
  | d :: ds, acc => (g d Γ).bind fun Γ2 => (t Γ2).bind fun b => if b = true then (ek Γ2).bind fun kd => (ev Γ2).bind fun y => (keyOf kd).bind fun k => vdcomp g t ek ev Γ ds (putD acc k y) else vdcomp g t ek ev Γ ds acc
theorem f_dcomp {mk : ME} {ek : VE} (hg : FGt mG vG) (ht : FT mt t) (hk : FE mk ek) (he : FE me e) {Γ : DEnv} : ∀ (ds : List D) (acc r : List (D × D)) (n : Nat) (Q : List (D × D) → Nat → Prop), vdcomp vG t ek e Γ ds acc = some r → Q r n → dcompW mG mt mk me Γ ds n acc Q
  | [], acc, r, n, Q, h, q => by cases h; exact q
  | d :: ds, acc, r, n, Q, h, q => by
    obtain ⟨Γ2, h1, h⟩ := bnd h
    obtain ⟨k, h2, h⟩ := bnd h
    refine hg _ _ _ _ h1 (ht _ _ _ _ h2 ?_)
    cases k with
    | true =>
      rw [if_pos rfl] at h ⊢
      obtain ⟨kd, h3, h⟩ := bnd h
      obtain ⟨y, h4, h⟩ := bnd h
      obtain ⟨k, h5, h⟩ := bnd h
      exact hk _ _ _ _ h3 (he _ _ _ _ h4 ⟨k, h5, f_dcomp hg ht hk he ds _ r n _ h q⟩)
    | false =>
      rw [if_neg (by decide)] at h ⊢
      exact f_dcomp hg ht hk he ds acc r n _ h q
def vDc (i : VI) (g : VG) (t : VT) (ek ev : VE) (vs : List Nat) : VE := fun Γ => (i Γ).bind fun ds => if ds.length ≤ lim then (vdcomp g t ek ev (wipeD Γ vs) ds []).bind fun r => some (.dict r) else none
theorem f_Dc {mi : MI} {i : VI} {mk : ME} {ek : VE} {vs : List Nat} (hi : FI' mi i) (hg : FGt mG vG) (ht : FT mt t) (hk : FE mk ek) (he : FE me e) : FE (mDc mi mG mt mk me vs) (vDc i vG t ek e vs) := fun Γ n d Q h q => by
  obtain ⟨ds, h1, h⟩ := bnd h
  split at h
  · obtain ⟨r, h2, h⟩ := bnd h
    cases h
    exact hi _ _ _ _ h1 ⟨by assumption, f_dcomp hg ht hk he ds [] r n _ h2 q⟩
  · cases h
def vRev (a : VE) : VE := fun Γ => (a Γ).bind dRev
theorem f_Rev (h : FE ma a) : FE (mRev ma) (vRev a) := fun Γ n d Q e q => by
  obtain ⟨x, h1, e⟩ := bnd e
  exact h Γ n x _ h1 ⟨d, e, q⟩
abbrev VPs := DEnv → Option (List (D × D))
def FPs (m : MPs) (v : VPs) : Prop := ∀ Γ n d (Q : List (D × D) → Nat → Prop), v Γ = some d → Q d n → m Γ n Q
def vpNil : VPs := fun _ => some []
def vpCons (a b : VE) (r : VPs) : VPs := fun Γ => (a Γ).bind fun x => (b Γ).bind fun y => (r Γ).bind fun l => some ((x, y) :: l)
def vDisp (r : VPs) : VE := fun Γ => (r Γ).bind dispD
theorem f_pNil : FPs mpNil vpNil := fun Γ n d Q e q => by cases e; exact q
theorem f_pCons {mP : MPs} {vP : VPs} (ha : FE ma a) (hb : FE mb b) (hr : FPs mP vP) : FPs (mpCons ma mb mP) (vpCons a b vP) := fun Γ n d Q e q => by
  obtain ⟨x, h1, e⟩ := bnd e
  obtain ⟨y, h2, e⟩ := bnd e
  obtain ⟨l, h3, e⟩ := bnd e
  cases e
  exact ha Γ n x _ h1 (hb Γ n y _ h2 (hr Γ n l _ h3 q))
theorem f_Disp {mP : MPs} {vP : VPs} (h : FPs mP vP) : FE (mDisp mP) (vDisp vP) := fun Γ n d Q e q => by
  obtain ⟨l, h1, e⟩ := bnd e
  exact h Γ n l _ h1 ⟨d, e, q⟩
def vLookL (a : VE) : VE := fun Γ => (a Γ).bind fun x => if flatL x = true then some x else none
theorem f_LookL (h : FE ma a) : FE (mLookL ma) (vLookL a) := fun Γ n d Q e q => by
  obtain ⟨x, h1, e⟩ := bnd e
  obtain ⟨h2, rfl⟩ := ifs e
  exact h Γ n x _ h1 ⟨h2, q⟩
def dictAt (i : Nat) (Γ : DEnv) : Option (List (D × D)) := match Γ[i]? with | some (some (.dict ds)) => some ds | _ => none
theorem dictAt_eq {i : Nat} {Γ : DEnv} {ds : List (D × D)} (h : dictAt i Γ = some ds) : Γ[i]? = some (some (.dict ds)) := by
  unfold dictAt at h
  split at h
  · cases h; assumption
  · cases h
def vIKeys (i : Nat) : VI := fun Γ => (dictAt i Γ).bind fun ds => some (ds.map (·.1))
def vIVals (i : Nat) : VI := fun Γ => (dictAt i Γ).bind fun ds => some (ds.map (·.2))
def vIItems (i : Nat) : VI := fun Γ => (dictAt i Γ).bind fun ds => some (ds.map fun q => .tuple [q.1, q.2])
theorem f_IKeys {i : Nat} : FI' (mIKeys i) (vIKeys i) := fun Γ n d Q e q => by
  obtain ⟨ds, h, e⟩ := bnd e
  cases e
  exact ⟨ds, dictAt_eq h, q⟩
theorem f_IVals {i : Nat} : FI' (mIVals i) (vIVals i) := fun Γ n d Q e q => by
  obtain ⟨ds, h, e⟩ := bnd e
  cases e
  exact ⟨ds, dictAt_eq h, q⟩
theorem f_IItems {i : Nat} : FI' (mIItems i) (vIItems i) := fun Γ n d Q e q => by
  obtain ⟨ds, h, e⟩ := bnd e
  cases e
  exact ⟨ds, dictAt_eq h, q⟩
def vCnt (a b : VE) : VE := fun Γ => (a Γ).bind fun x => (asL x).bind fun xs => (b Γ).bind fun d => dCnt (.list xs) d
theorem asL_eq {d : D} {xs : List D} (h : asL d = some xs) : d = .list xs := by
  unfold asL at h
  split at h
  · cases h; rfl
  · cases h
theorem f_Cnt (ha : FE ma a) (hb : FE mb b) : FE (mCnt ma mb) (vCnt a b) := fun Γ n d Q e q => by
  obtain ⟨x, h1, e⟩ := bnd e
  obtain ⟨xs, h2, e⟩ := bnd e
  obtain ⟨y, h3, e⟩ := bnd e
  exact ha Γ n x _ h1 ⟨xs, asL_eq h2, hb Γ n y _ h3 ⟨d, by rw [asL_eq h2]; exact e, q⟩⟩
end
end RR
end
section
namespace RC
open PySem PySem.Spec L2 RR
open PyProof.Rows hiding St
def c_ROW_BOUNDS : List (D × D) := [((.str "plain"), (.tuple [(.tuple [(.int 1), (.int 99)]), (.tuple [(.int 0), (.int 999)])])), ((.str "stop"), (.tuple [(.tuple [(.int 1), (.int 99)])])), ((.str "jump"), (.tuple [(.tuple [(.int 0), (.int 19)])])), ((.str "branch"), (.tuple [(.tuple [(.int 0), (.int 19)])])), ((.str "far"), (.tuple [(.tuple [(.int 0), (.int 4)])])), ((.str "load"), (.tuple [(.tuple [(.int 0), (.int 65535)])])), ((.str "word"), (.tuple [(.tuple [(.int 0), (.int 65535)])])), ((.str "align"), (.tuple [(.tuple [(.int 2), (.int 16)])]))]
def c_HIGHEST : D := (.int 65535)
def c_MOST_STEPS : D := (.int 1000)
def c_MOST_ROWS : D := (.int 20)
def c_MOST_PARTS : D := (.int 5)
def c_MOST_JUMPS_BESIDE_ALIGN : D := (.int 6)
def c_MULTIPLES : D := (.tuple [(.int 2), (.int 4), (.int 8), (.int 16)])
def c_JUMPS : D := (.tuple [(.str "jump"), (.str "branch")])
def c_GOING_ON : D := (.tuple [(.str "plain"), (.str "branch"), (.str "load"), (.str "align")])
def b_is_within : MS := (mRet (mAndV (mIsi "int" (mVar 0)) (mAndV (mNotV (mIsi "bool" (mVar 0))) (mChain dLe dLe (mVar 1) (mVar 0) (mVar 2)))))
def m_is_within : MP := mFun ["thing", "low", "high"] 3 b_is_within
def vb_is_within : VS := (vRet (vAndV (vIsi "int" (vVar 0)) (vAndV (vNotV (vIsi "bool" (vVar 0))) (vChain dLe dLe (vVar 1) (vVar 0) (vVar 2)))))
def v_is_within : VP := vFun ["thing", "low", "high"] 3 vb_is_within
theorem fp_is_within : FP m_is_within v_is_within := by
  unfold m_is_within v_is_within b_is_within vb_is_within
  exact f_Fun (f_Ret (f_AndV (f_Isi f_Var) (f_AndV (f_NotV (f_Isi f_Var)) (f_Chain f_Var f_Var f_Var))))
def b_are_within : MS := (mSeq (mIfS (mTest (mOp dNe (mCl cLen (mCons (mVar 0) mNil)) (mCl cLen (mCons (mVar 1) mNil)))) (mRet (mC (.bool false))) mNext) (mRet (mCl cAll (mCons (mLc (mIZ (mCons (mVar 0) (mCons (mVar 1) mNil))) (mgTup 2 (mgCons (mgName 2) (mgCons (mgTup 2 (mgCons (mgName 3) (mgCons (mgName 4) mgNil))) mgNil))) mYes (mCall m_is_within (mCons (mVar 2) (mCons (mVar 3) (mCons (mVar 4) mNil)))) [2, 3, 4]) mNil))))
def m_are_within : MP := mFun ["things", "bounds", "thing", "low", "high"] 2 b_are_within
def vb_are_within : VS := (vSeqS (vIfS (vTest (vOp dNe (vCl cLen (vCons (vVar 0) vNil)) (vCl cLen (vCons (vVar 1) vNil)))) (vRet (vC (.bool false))) vNext) (vRet (vCl cAll (vCons (vLc (vIZ (vCons (vVar 0) (vCons (vVar 1) vNil))) (vgTup 2 (vgCons (vgName 2) (vgCons (vgTup 2 (vgCons (vgName 3) (vgCons (vgName 4) vgNil))) vgNil))) vYes (vCall v_is_within (vCons (vVar 2) (vCons (vVar 3) (vCons (vVar 4) vNil)))) [2, 3, 4]) vNil))))
def v_are_within : VP := vFun ["things", "bounds", "thing", "low", "high"] 2 vb_are_within
theorem fp_are_within : FP m_are_within v_are_within := by
  unfold m_are_within v_are_within b_are_within vb_are_within
  exact f_Fun (f_Seq (f_IfS (f_Test (f_Op (f_Cl (f_Cons f_Var f_Nil)) (f_Cl (f_Cons f_Var f_Nil)))) (f_Ret f_C) f_Next) (f_Ret (f_Cl (f_Cons (f_Lc (f_IZ (f_Cons f_Var (f_Cons f_Var f_Nil))) (f_gTup (f_gCons f_gName (f_gCons (f_gTup (f_gCons f_gName (f_gCons f_gName f_gNil))) f_gNil))) f_Yes (f_Call fp_is_within (f_Cons f_Var (f_Cons f_Var (f_Cons f_Var f_Nil))))) f_Nil))))
def b_is_row : MS := (mSeq (mIfS (mOr (mNot (mTest (mIsi "tuple" (mVar 0)))) (mTest (mOp dEq (mCl cLen (mCons (mVar 0) mNil)) (mC (.int 0))))) (mRet (mC (.bool false))) mNext) (mSeq (mIfS (mOr (mNot (mTest (mIsi "str" (mOp dIx (mVar 0) (mC (.int 0)))))) (mTest (mUn (kNin c_ROW_BOUNDS) (mOp dIx (mVar 0) (mC (.int 0)))))) (mRet (mC (.bool false))) mNext) (mSeq (mIfS (mNot (mTest (mCall m_are_within (mCons (mSl (mVar 0) (mPart (mC (.int 1))) mNoPart) (mCons (mUn (kIx c_ROW_BOUNDS) (mOp dIx (mVar 0) (mC (.int 0)))) mNil))))) (mRet (mC (.bool false))) mNext) (mRet (mOrV (mOp dNe (mOp dIx (mVar 0) (mC (.int 0))) (mC (.str "align"))) (mOp dIn (mOp dIx (mVar 0) (mC (.int 1))) (mC c_MULTIPLES)))))))
def m_is_row : MP := mFun ["thing"] 1 b_is_row
def vb_is_row : VS := (vSeqS (vIfS (vOr (vNot (vTest (vIsi "tuple" (vVar 0)))) (vTest (vOp dEq (vCl cLen (vCons (vVar 0) vNil)) (vC (.int 0))))) (vRet (vC (.bool false))) vNext) (vSeqS (vIfS (vOr (vNot (vTest (vIsi "str" (vOp dIx (vVar 0) (vC (.int 0)))))) (vTest (vUn (kNin c_ROW_BOUNDS) (vOp dIx (vVar 0) (vC (.int 0)))))) (vRet (vC (.bool false))) vNext) (vSeqS (vIfS (vNot (vTest (vCall v_are_within (vCons (vSl (vVar 0) (vPart (vC (.int 1))) vNoPart) (vCons (vUn (kIx c_ROW_BOUNDS) (vOp dIx (vVar 0) (vC (.int 0)))) vNil))))) (vRet (vC (.bool false))) vNext) (vRet (vOrV (vOp dNe (vOp dIx (vVar 0) (vC (.int 0))) (vC (.str "align"))) (vOp dIn (vOp dIx (vVar 0) (vC (.int 1))) (vC c_MULTIPLES)))))))
def v_is_row : VP := vFun ["thing"] 1 vb_is_row
theorem fp_is_row : FP m_is_row v_is_row := by
  unfold m_is_row v_is_row b_is_row vb_is_row
  exact f_Fun (f_Seq (f_IfS (f_Or (f_Not (f_Test (f_Isi f_Var))) (f_Test (f_Op (f_Cl (f_Cons f_Var f_Nil)) f_C))) (f_Ret f_C) f_Next) (f_Seq (f_IfS (f_Or (f_Not (f_Test (f_Isi (f_Op f_Var f_C)))) (f_Test (f_Un (f_Op f_Var f_C)))) (f_Ret f_C) f_Next) (f_Seq (f_IfS (f_Not (f_Test (f_Call fp_are_within (f_Cons (f_Sl f_Var (f_Part f_C) f_NoPart) (f_Cons (f_Un (f_Op f_Var f_C)) f_Nil))))) (f_Ret f_C) f_Next) (f_Ret (f_OrV (f_Op (f_Op f_Var f_C) f_C) (f_Op (f_Op f_Var f_C) f_C))))))
def b_jump_rows : MS := (mRet (mLc (mIEn (mCons (mVar 0) mNil)) (mgTup 2 (mgCons (mgName 1) (mgCons (mgName 2) mgNil))) (mTest (mOp dIn (mOp dIx (mVar 2) (mC (.int 0))) (mC c_JUMPS))) (mVar 1) [1, 2]))
def m_jump_rows : MP := mFun ["part", "number", "row"] 1 b_jump_rows
def vb_jump_rows : VS := (vRet (vLc (vIEn (vCons (vVar 0) vNil)) (vgTup 2 (vgCons (vgName 1) (vgCons (vgName 2) vgNil))) (vTest (vOp dIn (vOp dIx (vVar 2) (vC (.int 0))) (vC c_JUMPS))) (vVar 1) [1, 2]))
def v_jump_rows : VP := vFun ["part", "number", "row"] 1 vb_jump_rows
theorem fp_jump_rows : FP m_jump_rows v_jump_rows := by
  unfold m_jump_rows v_jump_rows b_jump_rows vb_jump_rows
  exact f_Fun (f_Ret (f_Lc (f_IEn (f_Cons f_Var f_Nil)) (f_gTup (f_gCons f_gName (f_gCons f_gName f_gNil))) (f_Test (f_Op (f_Op f_Var f_C) f_C)) f_Var))
def b_is_even : MS := (mRet (mCl cAll (mCons (mLc (mISeq (mVar 0)) (mgName 1) mYes (mOp dNe (mOp dIx (mVar 1) (mC (.int 0))) (mC (.str "align"))) [1]) mNil)))
def m_is_even : MP := mFun ["part", "row"] 1 b_is_even
def vb_is_even : VS := (vRet (vCl cAll (vCons (vLc (vISeq (vVar 0)) (vgName 1) vYes (vOp dNe (vOp dIx (vVar 1) (vC (.int 0))) (vC (.str "align"))) [1]) vNil)))
def v_is_even : VP := vFun ["part", "row"] 1 vb_is_even
theorem fp_is_even : FP m_is_even v_is_even := by
  unfold m_is_even v_is_even b_is_even vb_is_even
  exact f_Fun (f_Ret (f_Cl (f_Cons (f_Lc (f_ISeq f_Var) f_gName f_Yes (f_Op (f_Op f_Var f_C) f_C)) f_Nil)))
def b_goals_stand : MS := (mSeq (mSet 1 (mLc (mISeq (mCall m_jump_rows (mCons (mVar 0) mNil))) (mgName 2) mYes (mOp dIx (mOp dIx (mVar 0) (mVar 2)) (mC (.int 1))) [2])) (mRet (mCl cAll (mCons (mLc (mISeq (mVar 1)) (mgName 3) mYes (mAndV (mOp dLt (mVar 3) (mCl cLen (mCons (mVar 0) mNil))) (mOp dNe (mOp dIx (mOp dIx (mVar 0) (mVar 3)) (mC (.int 0))) (mC (.str "word")))) [3]) mNil))))
def m_goals_stand : MP := mFun ["rows", "goals", "number", "goal"] 1 b_goals_stand
def vb_goals_stand : VS := (vSeqS (vSet 1 (vLc (vISeq (vCall v_jump_rows (vCons (vVar 0) vNil))) (vgName 2) vYes (vOp dIx (vOp dIx (vVar 0) (vVar 2)) (vC (.int 1))) [2])) (vRet (vCl cAll (vCons (vLc (vISeq (vVar 1)) (vgName 3) vYes (vAndV (vOp dLt (vVar 3) (vCl cLen (vCons (vVar 0) vNil))) (vOp dNe (vOp dIx (vOp dIx (vVar 0) (vVar 3)) (vC (.int 0))) (vC (.str "word")))) [3]) vNil))))
def v_goals_stand : VP := vFun ["rows", "goals", "number", "goal"] 1 vb_goals_stand
theorem fp_goals_stand : FP m_goals_stand v_goals_stand := by
  unfold m_goals_stand v_goals_stand b_goals_stand vb_goals_stand
  exact f_Fun (f_Seq (f_Set (f_Lc (f_ISeq (f_Call fp_jump_rows (f_Cons f_Var f_Nil))) f_gName f_Yes (f_Op (f_Op f_Var f_Var) f_C))) (f_Ret (f_Cl (f_Cons (f_Lc (f_ISeq f_Var) f_gName f_Yes (f_AndV (f_Op f_Var (f_Cl (f_Cons f_Var f_Nil))) (f_Op (f_Op (f_Op f_Var f_Var) f_C) f_C))) f_Nil))))
def b_words_are_shunned : MS := (mSeq (mIfS (mOr (mTest (mOp dEq (mOp dIx (mOp dIx (mVar 0) (mC (.int 0))) (mC (.int 0))) (mC (.str "word")))) (mTest (mOp dIn (mOp dIx (mOp dIx (mVar 0) (mUn dNeg (mC (.int 1)))) (mC (.int 0))) (mC c_GOING_ON)))) (mRet (mC (.bool false))) mNext) (mRet (mCl cAll (mCons (mLc (mIZ (mCons (mVar 0) (mCons (mSl (mVar 0) (mPart (mC (.int 1))) mNoPart) mNil))) (mgTup 2 (mgCons (mgName 1) (mgCons (mgName 2) mgNil))) mYes (mOrV (mOp dNotIn (mOp dIx (mVar 1) (mC (.int 0))) (mC c_GOING_ON)) (mOp dNe (mOp dIx (mVar 2) (mC (.int 0))) (mC (.str "word")))) [1, 2]) mNil))))
def m_words_are_shunned : MP := mFun ["rows", "row", "behind"] 1 b_words_are_shunned
def vb_words_are_shunned : VS := (vSeqS (vIfS (vOr (vTest (vOp dEq (vOp dIx (vOp dIx (vVar 0) (vC (.int 0))) (vC (.int 0))) (vC (.str "word")))) (vTest (vOp dIn (vOp dIx (vOp dIx (vVar 0) (vUn dNeg (vC (.int 1)))) (vC (.int 0))) (vC c_GOING_ON)))) (vRet (vC (.bool false))) vNext) (vRet (vCl cAll (vCons (vLc (vIZ (vCons (vVar 0) (vCons (vSl (vVar 0) (vPart (vC (.int 1))) vNoPart) vNil))) (vgTup 2 (vgCons (vgName 1) (vgCons (vgName 2) vgNil))) vYes (vOrV (vOp dNotIn (vOp dIx (vVar 1) (vC (.int 0))) (vC c_GOING_ON)) (vOp dNe (vOp dIx (vVar 2) (vC (.int 0))) (vC (.str "word")))) [1, 2]) vNil))))
def v_words_are_shunned : VP := vFun ["rows", "row", "behind"] 1 vb_words_are_shunned
theorem fp_words_are_shunned : FP m_words_are_shunned v_words_are_shunned := by
  unfold m_words_are_shunned v_words_are_shunned b_words_are_shunned vb_words_are_shunned
  exact f_Fun (f_Seq (f_IfS (f_Or (f_Test (f_Op (f_Op (f_Op f_Var f_C) f_C) f_C)) (f_Test (f_Op (f_Op (f_Op f_Var (f_Un f_C)) f_C) f_C))) (f_Ret f_C) f_Next) (f_Ret (f_Cl (f_Cons (f_Lc (f_IZ (f_Cons f_Var (f_Cons (f_Sl f_Var (f_Part f_C) f_NoPart) f_Nil))) (f_gTup (f_gCons f_gName (f_gCons f_gName f_gNil))) f_Yes (f_OrV (f_Op (f_Op f_Var f_C) f_C) (f_Op (f_Op f_Var f_C) f_C))) f_Nil))))
def b_is_part : MS := (mSeq (mIfS (mOr (mNot (mTest (mIsi "tuple" (mVar 0)))) (mNot (mTest (mChain dLe dLe (mC (.int 1)) (mCl cLen (mCons (mVar 0) mNil)) (mC c_MOST_ROWS))))) (mRet (mC (.bool false))) mNext) (mSeq (mIfS (mNot (mTest (mCl cAll (mCons (mLc (mISeq (mVar 0)) (mgName 1) mYes (mCall m_is_row (mCons (mVar 1) mNil)) [1]) mNil)))) (mRet (mC (.bool false))) mNext) (mSeq (mIfS (mAnd (mNot (mTest (mCall m_is_even (mCons (mVar 0) mNil)))) (mTest (mOp dGt (mCl cLen (mCons (mCall m_jump_rows (mCons (mVar 0) mNil)) mNil)) (mC c_MOST_JUMPS_BESIDE_ALIGN)))) (mRet (mC (.bool false))) mNext) (mRet (mAndV (mCall m_goals_stand (mCons (mVar 0) mNil)) (mCall m_words_are_shunned (mCons (mVar 0) mNil)))))))
def m_is_part : MP := mFun ["thing", "row"] 1 b_is_part
def vb_is_part : VS := (vSeqS (vIfS (vOr (vNot (vTest (vIsi "tuple" (vVar 0)))) (vNot (vTest (vChain dLe dLe (vC (.int 1)) (vCl cLen (vCons (vVar 0) vNil)) (vC c_MOST_ROWS))))) (vRet (vC (.bool false))) vNext) (vSeqS (vIfS (vNot (vTest (vCl cAll (vCons (vLc (vISeq (vVar 0)) (vgName 1) vYes (vCall v_is_row (vCons (vVar 1) vNil)) [1]) vNil)))) (vRet (vC (.bool false))) vNext) (vSeqS (vIfS (vAnd (vNot (vTest (vCall v_is_even (vCons (vVar 0) vNil)))) (vTest (vOp dGt (vCl cLen (vCons (vCall v_jump_rows (vCons (vVar 0) vNil)) vNil)) (vC c_MOST_JUMPS_BESIDE_ALIGN)))) (vRet (vC (.bool false))) vNext) (vRet (vAndV (vCall v_goals_stand (vCons (vVar 0) vNil)) (vCall v_words_are_shunned (vCons (vVar 0) vNil)))))))
def v_is_part : VP := vFun ["thing", "row"] 1 vb_is_part
theorem fp_is_part : FP m_is_part v_is_part := by
  unfold m_is_part v_is_part b_is_part vb_is_part
  exact f_Fun (f_Seq (f_IfS (f_Or (f_Not (f_Test (f_Isi f_Var))) (f_Not (f_Test (f_Chain f_C (f_Cl (f_Cons f_Var f_Nil)) f_C)))) (f_Ret f_C) f_Next) (f_Seq (f_IfS (f_Not (f_Test (f_Cl (f_Cons (f_Lc (f_ISeq f_Var) f_gName f_Yes (f_Call fp_is_row (f_Cons f_Var f_Nil))) f_Nil)))) (f_Ret f_C) f_Next) (f_Seq (f_IfS (f_And (f_Not (f_Test (f_Call fp_is_even (f_Cons f_Var f_Nil)))) (f_Test (f_Op (f_Cl (f_Cons (f_Call fp_jump_rows (f_Cons f_Var f_Nil)) f_Nil)) f_C))) (f_Ret f_C) f_Next) (f_Ret (f_AndV (f_Call fp_goals_stand (f_Cons f_Var f_Nil)) (f_Call fp_words_are_shunned (f_Cons f_Var f_Nil)))))))
def b_far_goals : MS := (mRet (mLc (mISeq (mVar 0)) (mgName 1) (mTest (mOp dEq (mOp dIx (mVar 1) (mC (.int 0))) (mC (.str "far")))) (mOp dIx (mVar 1) (mC (.int 1))) [1]))
def m_far_goals : MP := mFun ["part", "row"] 1 b_far_goals
def vb_far_goals : VS := (vRet (vLc (vISeq (vVar 0)) (vgName 1) (vTest (vOp dEq (vOp dIx (vVar 1) (vC (.int 0))) (vC (.str "far")))) (vOp dIx (vVar 1) (vC (.int 1))) [1]))
def v_far_goals : VP := vFun ["part", "row"] 1 vb_far_goals
theorem fp_far_goals : FP m_far_goals v_far_goals := by
  unfold m_far_goals v_far_goals b_far_goals vb_far_goals
  exact f_Fun (f_Ret (f_Lc (f_ISeq f_Var) f_gName (f_Test (f_Op (f_Op f_Var f_C) f_C)) (f_Op f_Var f_C)))
def b_is_book : MS := (mSeq (mIfS (mOr (mNot (mTest (mIsi "tuple" (mVar 0)))) (mNot (mTest (mChain dLe dLe (mC (.int 1)) (mCl cLen (mCons (mVar 0) mNil)) (mC c_MOST_PARTS))))) (mRet (mC (.bool false))) mNext) (mSeq (mIfS (mNot (mTest (mCl cAll (mCons (mLc (mISeq (mVar 0)) (mgName 1) mYes (mCall m_is_part (mCons (mVar 1) mNil)) [1]) mNil)))) (mRet (mC (.bool false))) mNext) (mRet (mCl cAll (mCons (mLc2 (mISeq (mVar 0)) (mgName 1) mYes (mISeq (mCall m_far_goals (mCons (mVar 1) mNil))) (mgName 2) mYes (mOp dLt (mVar 2) (mCl cLen (mCons (mVar 0) mNil))) [1, 2] [2]) mNil)))))
def m_is_book : MP := mFun ["thing", "part", "goal"] 1 b_is_book
def vb_is_book : VS := (vSeqS (vIfS (vOr (vNot (vTest (vIsi "tuple" (vVar 0)))) (vNot (vTest (vChain dLe dLe (vC (.int 1)) (vCl cLen (vCons (vVar 0) vNil)) (vC c_MOST_PARTS))))) (vRet (vC (.bool false))) vNext) (vSeqS (vIfS (vNot (vTest (vCl cAll (vCons (vLc (vISeq (vVar 0)) (vgName 1) vYes (vCall v_is_part (vCons (vVar 1) vNil)) [1]) vNil)))) (vRet (vC (.bool false))) vNext) (vRet (vCl cAll (vCons (vLc2 (vISeq (vVar 0)) (vgName 1) vYes (vISeq (vCall v_far_goals (vCons (vVar 1) vNil))) (vgName 2) vYes (vOp dLt (vVar 2) (vCl cLen (vCons (vVar 0) vNil))) [1, 2] [2]) vNil)))))
def v_is_book : VP := vFun ["thing", "part", "goal"] 1 vb_is_book
theorem fp_is_book : FP m_is_book v_is_book := by
  unfold m_is_book v_is_book b_is_book vb_is_book
  exact f_Fun (f_Seq (f_IfS (f_Or (f_Not (f_Test (f_Isi f_Var))) (f_Not (f_Test (f_Chain f_C (f_Cl (f_Cons f_Var f_Nil)) f_C)))) (f_Ret f_C) f_Next) (f_Seq (f_IfS (f_Not (f_Test (f_Cl (f_Cons (f_Lc (f_ISeq f_Var) f_gName f_Yes (f_Call fp_is_part (f_Cons f_Var f_Nil))) f_Nil)))) (f_Ret f_C) f_Next) (f_Ret (f_Cl (f_Cons (f_Lc2 (f_ISeq f_Var) f_gName f_Yes (f_ISeq (f_Call fp_far_goals (f_Cons f_Var f_Nil))) f_gName f_Yes (f_Op f_Var (f_Cl (f_Cons f_Var f_Nil)))) f_Nil)))))
def b_check_book : MS := (mIfS (mNot (mTest (mCall m_is_book (mCons (mVar 0) mNil)))) mNever mNext)
def m_check_book : MP := mFun ["book"] 1 b_check_book
def vb_check_book : VS := (vIfS (vNot (vTest (vCall v_is_book (vCons (vVar 0) vNil)))) vNever vNext)
def v_check_book : VP := vFun ["book"] 1 vb_check_book
theorem fp_check_book : FP m_check_book v_check_book := by
  unfold m_check_book v_check_book b_check_book vb_check_book
  exact f_Fun (f_IfS (f_Not (f_Test (f_Call fp_is_book (f_Cons f_Var f_Nil)))) f_Never f_Next)
def b_check_number : MS := (mIfS (mNot (mTest (mCall m_is_within (mCons (mVar 0) (mCons (mC (.int 0)) (mCons (mVar 1) mNil)))))) mNever mNext)
def m_check_number : MP := mFun ["number", "highest"] 2 b_check_number
def vb_check_number : VS := (vIfS (vNot (vTest (vCall v_is_within (vCons (vVar 0) (vCons (vC (.int 0)) (vCons (vVar 1) vNil)))))) vNever vNext)
def v_check_number : VP := vFun ["number", "highest"] 2 vb_check_number
theorem fp_check_number : FP m_check_number v_check_number := by
  unfold m_check_number v_check_number b_check_number vb_check_number
  exact f_Fun (f_IfS (f_Not (f_Test (f_Call fp_is_within (f_Cons f_Var (f_Cons f_C (f_Cons f_Var f_Nil)))))) f_Never f_Next)
def b_added : MS := (mSeq (mIfS (mTest (mOp dEq (mOp dIx (mVar 0) (mC (.int 0))) (mC (.str "plain")))) (mRet (mOp dMod (mOp dAdd (mVar 1) (mOp dIx (mVar 0) (mC (.int 2)))) (mOp dAdd (mC c_HIGHEST) (mC (.int 1))))) mNext) (mSeq (mIfS (mTest (mOp dEq (mOp dIx (mVar 0) (mC (.int 0))) (mC (.str "load")))) (mRet (mOp dMod (mOp dAdd (mVar 1) (mOp dIx (mVar 0) (mC (.int 1)))) (mOp dAdd (mC c_HIGHEST) (mC (.int 1))))) mNext) (mRet (mVar 1))))
def m_added : MP := mFun ["row", "total"] 2 b_added
def vb_added : VS := (vSeqS (vIfS (vTest (vOp dEq (vOp dIx (vVar 0) (vC (.int 0))) (vC (.str "plain")))) (vRet (vOp dMod (vOp dAdd (vVar 1) (vOp dIx (vVar 0) (vC (.int 2)))) (vOp dAdd (vC c_HIGHEST) (vC (.int 1))))) vNext) (vSeqS (vIfS (vTest (vOp dEq (vOp dIx (vVar 0) (vC (.int 0))) (vC (.str "load")))) (vRet (vOp dMod (vOp dAdd (vVar 1) (vOp dIx (vVar 0) (vC (.int 1)))) (vOp dAdd (vC c_HIGHEST) (vC (.int 1))))) vNext) (vRet (vVar 1))))
def v_added : VP := vFun ["row", "total"] 2 vb_added
theorem fp_added : FP m_added v_added := by
  unfold m_added v_added b_added vb_added
  exact f_Fun (f_Seq (f_IfS (f_Test (f_Op (f_Op f_Var f_C) f_C)) (f_Ret (f_Op (f_Op f_Var (f_Op f_Var f_C)) (f_Op f_C f_C))) f_Next) (f_Seq (f_IfS (f_Test (f_Op (f_Op f_Var f_C) f_C)) (f_Ret (f_Op (f_Op f_Var (f_Op f_Var f_C)) (f_Op f_C f_C))) f_Next) (f_Ret f_Var)))
def b_next_place : MS := (mSeq (mAsg (mVar 1) (mgTup 2 (mgCons (mgName 3) (mgCons (mgName 4) mgNil)))) (mSeq (mSet 5 (mOp dIx (mOp dIx (mVar 0) (mVar 3)) (mVar 4))) (mSeq (mIfS (mTest (mOp dEq (mOp dIx (mVar 5) (mC (.int 0))) (mC (.str "far")))) (mRet (mTup (mCons (mOp dIx (mVar 5) (mC (.int 1))) (mCons (mC (.int 0)) mNil)))) mNext) (mSeq (mIfS (mOr (mTest (mOp dEq (mOp dIx (mVar 5) (mC (.int 0))) (mC (.str "jump")))) (mAnd (mTest (mOp dEq (mOp dIx (mVar 5) (mC (.int 0))) (mC (.str "branch")))) (mTest (mOp dEq (mOp dMod (mVar 2) (mC (.int 2))) (mC (.int 1)))))) (mRet (mTup (mCons (mVar 3) (mCons (mOp dIx (mVar 5) (mC (.int 1))) mNil)))) mNext) (mRet (mTup (mCons (mVar 3) (mCons (mOp dAdd (mVar 4) (mC (.int 1))) mNil))))))))
def m_next_place : MP := mFun ["book", "place", "total", "part", "number", "row"] 3 b_next_place
def vb_next_place : VS := (vSeqS (vAsg (vVar 1) (vgTup 2 (vgCons (vgName 3) (vgCons (vgName 4) vgNil)))) (vSeqS (vSet 5 (vOp dIx (vOp dIx (vVar 0) (vVar 3)) (vVar 4))) (vSeqS (vIfS (vTest (vOp dEq (vOp dIx (vVar 5) (vC (.int 0))) (vC (.str "far")))) (vRet (vTup (vCons (vOp dIx (vVar 5) (vC (.int 1))) (vCons (vC (.int 0)) vNil)))) vNext) (vSeqS (vIfS (vOr (vTest (vOp dEq (vOp dIx (vVar 5) (vC (.int 0))) (vC (.str "jump")))) (vAnd (vTest (vOp dEq (vOp dIx (vVar 5) (vC (.int 0))) (vC (.str "branch")))) (vTest (vOp dEq (vOp dMod (vVar 2) (vC (.int 2))) (vC (.int 1)))))) (vRet (vTup (vCons (vVar 3) (vCons (vOp dIx (vVar 5) (vC (.int 1))) vNil)))) vNext) (vRet (vTup (vCons (vVar 3) (vCons (vOp dAdd (vVar 4) (vC (.int 1))) vNil))))))))
def v_next_place : VP := vFun ["book", "place", "total", "part", "number", "row"] 3 vb_next_place
theorem fp_next_place : FP m_next_place v_next_place := by
  unfold m_next_place v_next_place b_next_place vb_next_place
  exact f_Fun (f_Seq (f_Asg f_Var (f_gTup (f_gCons f_gName (f_gCons f_gName f_gNil)))) (f_Seq (f_Set (f_Op (f_Op f_Var f_Var) f_Var)) (f_Seq (f_IfS (f_Test (f_Op (f_Op f_Var f_C) f_C)) (f_Ret (f_Tup (f_Cons (f_Op f_Var f_C) (f_Cons f_C f_Nil)))) f_Next) (f_Seq (f_IfS (f_Or (f_Test (f_Op (f_Op f_Var f_C) f_C)) (f_And (f_Test (f_Op (f_Op f_Var f_C) f_C)) (f_Test (f_Op (f_Op f_Var f_C) f_C)))) (f_Ret (f_Tup (f_Cons f_Var (f_Cons (f_Op f_Var f_C) f_Nil)))) f_Next) (f_Ret (f_Tup (f_Cons f_Var (f_Cons (f_Op f_Var f_C) f_Nil))))))))
def b_run_book : MS := (mSeq (mDrop (mCall m_check_book (mCons (mVar 0) mNil))) (mSeq (mDrop (mCall m_check_number (mCons (mVar 1) (mCons (mC c_HIGHEST) mNil)))) (mSeq (mDrop (mCall m_check_number (mCons (mVar 2) (mCons (mC c_MOST_STEPS) mNil)))) (mSeq (mSet 3 (mTup (mCons (mC (.int 0)) (mCons (mC (.int 0)) mNil)))) (mSeq (mSet 4 (mC (.int 0))) (mSeq (mWhile (mTest (mOp dLt (mVar 4) (mVar 2))) (mSeq (mSet 5 (mOp dIx (mOp dIx (mVar 0) (mOp dIx (mVar 3) (mC (.int 0)))) (mOp dIx (mVar 3) (mC (.int 1))))) (mSeq (mIfS (mTest (mOp dNe (mOp dIx (mVar 5) (mC (.int 0))) (mC (.str "align")))) (mAug 4 dAddI (mC (.int 1))) mNext) (mSeq (mIfS (mTest (mOp dEq (mOp dIx (mVar 5) (mC (.int 0))) (mC (.str "stop")))) (mRet (mTup (mCons (mC (.str "stop")) (mCons (mVar 1) (mCons (mVar 4) mNil))))) mNext) (mSeq (mSet 1 (mCall m_added (mCons (mVar 5) (mCons (mVar 1) mNil)))) (mSet 3 (mCall m_next_place (mCons (mVar 0) (mCons (mVar 3) (mCons (mVar 1) mNil)))))))))) (mRet (mTup (mCons (mC (.str "limit")) (mCons (mVar 1) (mCons (mVar 4) mNil)))))))))))
def m_run_book : MP := mFun ["book", "total", "limit", "place", "steps", "row"] 3 b_run_book
def vb_run_book : VS := (vSeqS (vDrop (vCall v_check_book (vCons (vVar 0) vNil))) (vSeqS (vDrop (vCall v_check_number (vCons (vVar 1) (vCons (vC c_HIGHEST) vNil)))) (vSeqS (vDrop (vCall v_check_number (vCons (vVar 2) (vCons (vC c_MOST_STEPS) vNil)))) (vSeqS (vSet 3 (vTup (vCons (vC (.int 0)) (vCons (vC (.int 0)) vNil)))) (vSeqS (vSet 4 (vC (.int 0))) (vSeqS (vWhile (vTest (vOp dLt (vVar 4) (vVar 2))) (vSeqS (vSet 5 (vOp dIx (vOp dIx (vVar 0) (vOp dIx (vVar 3) (vC (.int 0)))) (vOp dIx (vVar 3) (vC (.int 1))))) (vSeqS (vIfS (vTest (vOp dNe (vOp dIx (vVar 5) (vC (.int 0))) (vC (.str "align")))) (vAug 4 dAddI (vC (.int 1))) vNext) (vSeqS (vIfS (vTest (vOp dEq (vOp dIx (vVar 5) (vC (.int 0))) (vC (.str "stop")))) (vRet (vTup (vCons (vC (.str "stop")) (vCons (vVar 1) (vCons (vVar 4) vNil))))) vNext) (vSeqS (vSet 1 (vCall v_added (vCons (vVar 5) (vCons (vVar 1) vNil)))) (vSet 3 (vCall v_next_place (vCons (vVar 0) (vCons (vVar 3) (vCons (vVar 1) vNil)))))))))) (vRet (vTup (vCons (vC (.str "limit")) (vCons (vVar 1) (vCons (vVar 4) vNil)))))))))))
def v_run_book : VP := vFun ["book", "total", "limit", "place", "steps", "row"] 3 vb_run_book
theorem fp_run_book : FP m_run_book v_run_book := by
  unfold m_run_book v_run_book b_run_book vb_run_book
  exact f_Fun (f_Seq (f_Drop (f_Call fp_check_book (f_Cons f_Var f_Nil))) (f_Seq (f_Drop (f_Call fp_check_number (f_Cons f_Var (f_Cons f_C f_Nil)))) (f_Seq (f_Drop (f_Call fp_check_number (f_Cons f_Var (f_Cons f_C f_Nil)))) (f_Seq (f_Set (f_Tup (f_Cons f_C (f_Cons f_C f_Nil)))) (f_Seq (f_Set f_C) (f_Seq (f_While (f_Test (f_Op f_Var f_Var)) (f_Seq (f_Set (f_Op (f_Op f_Var (f_Op f_Var f_C)) (f_Op f_Var f_C))) (f_Seq (f_IfS (f_Test (f_Op (f_Op f_Var f_C) f_C)) (f_Aug f_C) f_Next) (f_Seq (f_IfS (f_Test (f_Op (f_Op f_Var f_C) f_C)) (f_Ret (f_Tup (f_Cons f_C (f_Cons f_Var (f_Cons f_Var f_Nil))))) f_Next) (f_Seq (f_Set (f_Call fp_added (f_Cons f_Var (f_Cons f_Var f_Nil)))) (f_Set (f_Call fp_next_place (f_Cons f_Var (f_Cons f_Var (f_Cons f_Var f_Nil)))))))))) (f_Ret (f_Tup (f_Cons f_C (f_Cons f_Var (f_Cons f_Var f_Nil)))))))))))
theorem mulb {x y a b : Int} (h1 : 0 ≤ x) (h2 : x ≤ a) (h3 : 0 ≤ y) (h4 : y ≤ b) : 0 ≤ x * y ∧ x * y ≤ a * b :=
  ⟨Int.mul_nonneg h1 h3, Int.mul_le_mul h2 h4 h3 (Int.le_trans h1 h2)⟩
theorem primes_at (j : Int) (h0 : 0 ≤ j) (h1 : j < 13) : ∃ p : Int, atI [PyData.int 2147483629, PyData.int 2147483587, PyData.int 2147483579, PyData.int 2147483563, PyData.int 2147483549, PyData.int 2147483543, PyData.int 2147483497, PyData.int 2147483489, PyData.int 2147483477, PyData.int 2147483423, PyData.int 2147483399, PyData.int 2147483353, PyData.int 2147483323] j = some (.int p) ∧ 0 < p ∧ p < 2147483648 := by
  have : j = 0 ∨ j = 1 ∨ j = 2 ∨ j = 3 ∨ j = 4 ∨ j = 5 ∨ j = 6 ∨ j = 7 ∨ j = 8 ∨ j = 9 ∨ j = 10 ∨ j = 11 ∨ j = 12 := by omega
  rcases this with h | h | h | h | h | h | h | h | h | h | h | h | h <;> subst h <;> exact ⟨_, rfl, by decide, by decide⟩
local macro_rules | `(tactic| walk_at "st") => `(tactic| first
  | refine ⟨_, rfl, ?_⟩
  | refine ⟨rfl, ?_⟩
  | refine ⟨by decide, ?_⟩)
theorem iteB {p A B : Prop} [Decidable p] (h1 : p → A) (h2 : ¬ p → B) : if decide p = true then A else B := by
  by_cases h : p
  · rw [if_pos (decide_eq_true h)]; exact h1 h
  · rw [if_neg (by rw [decide_eq_false h]; decide)]; exact h2 h
theorem if_some {c : Prop} [Decidable c] {d : D} (h : c) : (if c then some d else none) = some d := if_pos h
end RC
end
section
namespace RC
open PySem PySem.Spec L2 RR
open PyProof.Rows hiding St
def c_SHORT : D := (.int 0)
def c_REACH : D := (.int 1)
def c_LONG : D := (.int 2)
def c_FAR : D := (.int 3)
def c_LOAD : D := (.int 5)
def c_SPAN : D := (.int 6)
def c_WORD : D := (.int 7)
def c_MACHINE_BOUNDS : D := (.tuple [(.tuple [(.int 1), (.int 9)]), (.tuple [(.int 0), (.int 999)]), (.tuple [(.int 2), (.int 20)]), (.tuple [(.int 1), (.int 20)]), (.tuple [(.int 0), (.int 9999)]), (.tuple [(.int 1), (.int 9)]), (.tuple [(.int 0), (.int 999)]), (.tuple [(.int 1), (.int 16)])])
def b_is_machine : MS := (mSeq (mIfS (mOr (mNot (mTest (mIsi "tuple" (mVar 0)))) (mNot (mTest (mCall m_are_within (mCons (mVar 0) (mCons (mC c_MACHINE_BOUNDS) mNil)))))) (mRet (mC (.bool false))) mNext) (mRet (mOp dLt (mOp dIx (mVar 0) (mC c_SHORT)) (mOp dIx (mVar 0) (mC c_LONG)))))
def m_is_machine : MP := mFun ["thing"] 1 b_is_machine
def vb_is_machine : VS := (vSeqS (vIfS (vOr (vNot (vTest (vIsi "tuple" (vVar 0)))) (vNot (vTest (vCall v_are_within (vCons (vVar 0) (vCons (vC c_MACHINE_BOUNDS) vNil)))))) (vRet (vC (.bool false))) vNext) (vRet (vOp dLt (vOp dIx (vVar 0) (vC c_SHORT)) (vOp dIx (vVar 0) (vC c_LONG)))))
def v_is_machine : VP := vFun ["thing"] 1 vb_is_machine
theorem fp_is_machine : FP m_is_machine v_is_machine := by
  unfold m_is_machine v_is_machine b_is_machine vb_is_machine
  exact f_Fun (f_Seq (f_IfS (f_Or (f_Not (f_Test (f_Isi f_Var))) (f_Not (f_Test (f_Call fp_are_within (f_Cons f_Var (f_Cons f_C f_Nil)))))) (f_Ret f_C) f_Next) (f_Ret (f_Op (f_Op f_Var f_C) (f_Op f_Var f_C))))
def b_is_jump_row : MS := (mRet (mAndV (mCall m_is_within (mCons (mVar 1) (mCons (mC (.int 0)) (mCons (mOp dSub (mCl cLen (mCons (mVar 0) mNil)) (mC (.int 1))) mNil)))) (mOp dIn (mOp dIx (mOp dIx (mVar 0) (mVar 1)) (mC (.int 0))) (mC c_JUMPS))))
def m_is_jump_row : MP := mFun ["part", "thing"] 2 b_is_jump_row
def vb_is_jump_row : VS := (vRet (vAndV (vCall v_is_within (vCons (vVar 1) (vCons (vC (.int 0)) (vCons (vOp dSub (vCl cLen (vCons (vVar 0) vNil)) (vC (.int 1))) vNil)))) (vOp dIn (vOp dIx (vOp dIx (vVar 0) (vVar 1)) (vC (.int 0))) (vC c_JUMPS))))
def v_is_jump_row : VP := vFun ["part", "thing"] 2 vb_is_jump_row
theorem fp_is_jump_row : FP m_is_jump_row v_is_jump_row := by
  unfold m_is_jump_row v_is_jump_row b_is_jump_row vb_is_jump_row
  exact f_Fun (f_Ret (f_AndV (f_Call fp_is_within (f_Cons f_Var (f_Cons f_C (f_Cons (f_Op (f_Cl (f_Cons f_Var f_Nil)) f_C) f_Nil)))) (f_Op (f_Op (f_Op f_Var f_Var) f_C) f_C)))
def b_is_ascending : MS := (mRet (mCl cAll (mCons (mLc (mIZ (mCons (mVar 0) (mCons (mSl (mVar 0) (mPart (mC (.int 1))) mNoPart) mNil))) (mgTup 2 (mgCons (mgName 1) (mgCons (mgName 2) mgNil))) mYes (mOp dLt (mVar 1) (mVar 2)) [1, 2]) mNil)))
def m_is_ascending : MP := mFun ["members", "member", "behind"] 1 b_is_ascending
def vb_is_ascending : VS := (vRet (vCl cAll (vCons (vLc (vIZ (vCons (vVar 0) (vCons (vSl (vVar 0) (vPart (vC (.int 1))) vNoPart) vNil))) (vgTup 2 (vgCons (vgName 1) (vgCons (vgName 2) vgNil))) vYes (vOp dLt (vVar 1) (vVar 2)) [1, 2]) vNil)))
def v_is_ascending : VP := vFun ["members", "member", "behind"] 1 vb_is_ascending
theorem fp_is_ascending : FP m_is_ascending v_is_ascending := by
  unfold m_is_ascending v_is_ascending b_is_ascending vb_is_ascending
  exact f_Fun (f_Ret (f_Cl (f_Cons (f_Lc (f_IZ (f_Cons f_Var (f_Cons (f_Sl f_Var (f_Part f_C) f_NoPart) f_Nil))) (f_gTup (f_gCons f_gName (f_gCons f_gName f_gNil))) f_Yes (f_Op f_Var f_Var)) f_Nil)))
def b_check_part : MS := (mIfS (mNot (mTest (mCall m_is_part (mCons (mVar 0) mNil)))) mNever mNext)
def m_check_part : MP := mFun ["part"] 1 b_check_part
def vb_check_part : VS := (vIfS (vNot (vTest (vCall v_is_part (vCons (vVar 0) vNil)))) vNever vNext)
def v_check_part : VP := vFun ["part"] 1 vb_check_part
theorem fp_check_part : FP m_check_part v_check_part := by
  unfold m_check_part v_check_part b_check_part vb_check_part
  exact f_Fun (f_IfS (f_Not (f_Test (f_Call fp_is_part (f_Cons f_Var f_Nil)))) f_Never f_Next)
def b_check_machine : MS := (mIfS (mNot (mTest (mCall m_is_machine (mCons (mVar 0) mNil)))) mNever mNext)
def m_check_machine : MP := mFun ["machine"] 1 b_check_machine
def vb_check_machine : VS := (vIfS (vNot (vTest (vCall v_is_machine (vCons (vVar 0) vNil)))) vNever vNext)
def v_check_machine : VP := vFun ["machine"] 1 vb_check_machine
theorem fp_check_machine : FP m_check_machine v_check_machine := by
  unfold m_check_machine v_check_machine b_check_machine vb_check_machine
  exact f_Fun (f_IfS (f_Not (f_Test (f_Call fp_is_machine (f_Cons f_Var f_Nil)))) f_Never f_Next)
def b_is_forms : MS := (mSeq (mIfS (mOr (mNot (mTest (mIsi "list" (mVar 1)))) (mNot (mTest (mCl cAll (mCons (mLc (mISeq (mVar 1)) (mgName 2) mYes (mCall m_is_jump_row (mCons (mVar 0) (mCons (mVar 2) mNil))) [2]) mNil))))) (mRet (mC (.bool false))) mNext) (mRet (mCall m_is_ascending (mCons (mVar 1) mNil))))
def m_is_forms : MP := mFun ["part", "thing", "row"] 2 b_is_forms
def vb_is_forms : VS := (vSeqS (vIfS (vOr (vNot (vTest (vIsi "list" (vVar 1)))) (vNot (vTest (vCl cAll (vCons (vLc (vISeq (vVar 1)) (vgName 2) vYes (vCall v_is_jump_row (vCons (vVar 0) (vCons (vVar 2) vNil))) [2]) vNil))))) (vRet (vC (.bool false))) vNext) (vRet (vCall v_is_ascending (vCons (vVar 1) vNil))))
def v_is_forms : VP := vFun ["part", "thing", "row"] 2 vb_is_forms
theorem fp_is_forms : FP m_is_forms v_is_forms := by
  unfold m_is_forms v_is_forms b_is_forms vb_is_forms
  exact f_Fun (f_Seq (f_IfS (f_Or (f_Not (f_Test (f_Isi f_Var))) (f_Not (f_Test (f_Cl (f_Cons (f_Lc (f_ISeq f_Var) f_gName f_Yes (f_Call fp_is_jump_row (f_Cons f_Var (f_Cons f_Var f_Nil)))) f_Nil))))) (f_Ret f_C) f_Next) (f_Ret (f_Call fp_is_ascending (f_Cons f_Var f_Nil))))
def b_check_forms : MS := (mIfS (mNot (mTest (mCall m_is_forms (mCons (mVar 0) (mCons (mVar 1) mNil))))) mNever mNext)
def m_check_forms : MP := mFun ["part", "forms"] 2 b_check_forms
def vb_check_forms : VS := (vIfS (vNot (vTest (vCall v_is_forms (vCons (vVar 0) (vCons (vVar 1) vNil))))) vNever vNext)
def v_check_forms : VP := vFun ["part", "forms"] 2 vb_check_forms
theorem fp_check_forms : FP m_check_forms v_check_forms := by
  unfold m_check_forms v_check_forms b_check_forms vb_check_forms
  exact f_Fun (f_IfS (f_Not (f_Test (f_Call fp_is_forms (f_Cons f_Var (f_Cons f_Var f_Nil))))) f_Never f_Next)
def b_check_formed : MS := (mSeq (mDrop (mCall m_check_part (mCons (mVar 0) mNil))) (mSeq (mDrop (mCall m_check_machine (mCons (mVar 1) mNil))) (mDrop (mCall m_check_forms (mCons (mVar 0) (mCons (mVar 2) mNil))))))
def m_check_formed : MP := mFun ["part", "machine", "forms"] 3 b_check_formed
def vb_check_formed : VS := (vSeqS (vDrop (vCall v_check_part (vCons (vVar 0) vNil))) (vSeqS (vDrop (vCall v_check_machine (vCons (vVar 1) vNil))) (vDrop (vCall v_check_forms (vCons (vVar 0) (vCons (vVar 2) vNil))))))
def v_check_formed : VP := vFun ["part", "machine", "forms"] 3 vb_check_formed
theorem fp_check_formed : FP m_check_formed v_check_formed := by
  unfold m_check_formed v_check_formed b_check_formed vb_check_formed
  exact f_Fun (f_Seq (f_Drop (f_Call fp_check_part (f_Cons f_Var f_Nil))) (f_Seq (f_Drop (f_Call fp_check_machine (f_Cons f_Var f_Nil))) (f_Drop (f_Call fp_check_forms (f_Cons f_Var (f_Cons f_Var f_Nil))))))
def b_row_size : MS := (mSeq (mIfS (mTest (mOp dIn (mOp dIx (mVar 0) (mC (.int 0))) (mC c_JUMPS))) (mRet (mIf (mTest (mVar 3)) (mOp dIx (mVar 1) (mC c_SHORT)) (mOp dIx (mVar 1) (mC c_LONG)))) mNext) (mSeq (mIfS (mTest (mOp dEq (mOp dIx (mVar 0) (mC (.int 0))) (mC (.str "far")))) (mRet (mOp dIx (mVar 1) (mC c_FAR))) mNext) (mSeq (mIfS (mTest (mOp dEq (mOp dIx (mVar 0) (mC (.int 0))) (mC (.str "load")))) (mRet (mOp dIx (mVar 1) (mC c_LOAD))) mNext) (mSeq (mIfS (mTest (mOp dEq (mOp dIx (mVar 0) (mC (.int 0))) (mC (.str "word")))) (mRet (mOp dIx (mVar 1) (mC c_WORD))) mNext) (mSeq (mIfS (mTest (mOp dEq (mOp dIx (mVar 0) (mC (.int 0))) (mC (.str "align")))) (mRet (mOp dMod (mUn dNeg (mVar 2)) (mOp dIx (mVar 0) (mC (.int 1))))) mNext) (mRet (mOp dIx (mVar 0) (mC (.int 1)))))))))
def m_row_size : MP := mFun ["row", "machine", "address", "is_short"] 4 b_row_size
def vb_row_size : VS := (vSeqS (vIfS (vTest (vOp dIn (vOp dIx (vVar 0) (vC (.int 0))) (vC c_JUMPS))) (vRet (vIf (vTest (vVar 3)) (vOp dIx (vVar 1) (vC c_SHORT)) (vOp dIx (vVar 1) (vC c_LONG)))) vNext) (vSeqS (vIfS (vTest (vOp dEq (vOp dIx (vVar 0) (vC (.int 0))) (vC (.str "far")))) (vRet (vOp dIx (vVar 1) (vC c_FAR))) vNext) (vSeqS (vIfS (vTest (vOp dEq (vOp dIx (vVar 0) (vC (.int 0))) (vC (.str "load")))) (vRet (vOp dIx (vVar 1) (vC c_LOAD))) vNext) (vSeqS (vIfS (vTest (vOp dEq (vOp dIx (vVar 0) (vC (.int 0))) (vC (.str "word")))) (vRet (vOp dIx (vVar 1) (vC c_WORD))) vNext) (vSeqS (vIfS (vTest (vOp dEq (vOp dIx (vVar 0) (vC (.int 0))) (vC (.str "align")))) (vRet (vOp dMod (vUn dNeg (vVar 2)) (vOp dIx (vVar 0) (vC (.int 1))))) vNext) (vRet (vOp dIx (vVar 0) (vC (.int 1)))))))))
def v_row_size : VP := vFun ["row", "machine", "address", "is_short"] 4 vb_row_size
theorem fp_row_size : FP m_row_size v_row_size := by
  unfold m_row_size v_row_size b_row_size vb_row_size
  exact f_Fun (f_Seq (f_IfS (f_Test (f_Op (f_Op f_Var f_C) f_C)) (f_Ret (f_If (f_Test f_Var) (f_Op f_Var f_C) (f_Op f_Var f_C))) f_Next) (f_Seq (f_IfS (f_Test (f_Op (f_Op f_Var f_C) f_C)) (f_Ret (f_Op f_Var f_C)) f_Next) (f_Seq (f_IfS (f_Test (f_Op (f_Op f_Var f_C) f_C)) (f_Ret (f_Op f_Var f_C)) f_Next) (f_Seq (f_IfS (f_Test (f_Op (f_Op f_Var f_C) f_C)) (f_Ret (f_Op f_Var f_C)) f_Next) (f_Seq (f_IfS (f_Test (f_Op (f_Op f_Var f_C) f_C)) (f_Ret (f_Op (f_Un f_Var) (f_Op f_Var f_C))) f_Next) (f_Ret (f_Op f_Var f_C)))))))
def b_addresses_of : MS := (mSeq (mSet 3 (mLst (mCons (mC (.int 0)) mNil))) (mSeq (mFor (mIEn (mCons (mVar 0) mNil)) (mgTup 2 (mgCons (mgName 4) (mgCons (mgName 5) mgNil))) (mSeq (mSet 6 (mLook (mOp dIx (mVar 3) (mUn dNeg (mC (.int 1)))))) (mAppend 3 (mOp dAdd (mVar 6) (mCall m_row_size (mCons (mVar 5) (mCons (mVar 1) (mCons (mVar 6) (mCons (mOp dIn (mVar 4) (mVar 2)) mNil))))))))) (mRet (mVar 3))))
def m_addresses_of : MP := mFun ["part", "machine", "forms", "addresses", "number", "row", "address"] 3 b_addresses_of
def vb_addresses_of : VS := (vSeqS (vSet 3 (vLst (vCons (vC (.int 0)) vNil))) (vSeqS (vFor (vIEn (vCons (vVar 0) vNil)) (vgTup 2 (vgCons (vgName 4) (vgCons (vgName 5) vgNil))) (vSeqS (vSet 6 (vLook (vOp dIx (vVar 3) (vUn dNeg (vC (.int 1)))))) (vAppend 3 (vOp dAdd (vVar 6) (vCall v_row_size (vCons (vVar 5) (vCons (vVar 1) (vCons (vVar 6) (vCons (vOp dIn (vVar 4) (vVar 2)) vNil))))))))) (vRet (vVar 3))))
def v_addresses_of : VP := vFun ["part", "machine", "forms", "addresses", "number", "row", "address"] 3 vb_addresses_of
theorem fp_addresses_of : FP m_addresses_of v_addresses_of := by
  unfold m_addresses_of v_addresses_of b_addresses_of vb_addresses_of
  exact f_Fun (f_Seq (f_Set (f_Lst (f_Cons f_C f_Nil))) (f_Seq (f_For (f_IEn (f_Cons f_Var f_Nil)) (f_gTup (f_gCons f_gName (f_gCons f_gName f_gNil))) (f_Seq (f_Set (f_Look (f_Op f_Var (f_Un f_C)))) (f_Append (f_Op f_Var (f_Call fp_row_size (f_Cons f_Var (f_Cons f_Var (f_Cons f_Var (f_Cons (f_Op f_Var f_Var) f_Nil))))))))) (f_Ret f_Var)))
def b_distance : MS := (mRet (mCl cAbs (mCons (mOp dSub (mOp dIx (mVar 0) (mVar 1)) (mOp dIx (mVar 0) (mVar 2))) mNil)))
def m_distance : MP := mFun ["addresses", "row", "other"] 3 b_distance
def vb_distance : VS := (vRet (vCl cAbs (vCons (vOp dSub (vOp dIx (vVar 0) (vVar 1)) (vOp dIx (vVar 0) (vVar 2))) vNil)))
def v_distance : VP := vFun ["addresses", "row", "other"] 3 vb_distance
theorem fp_distance : FP m_distance v_distance := by
  unfold m_distance v_distance b_distance vb_distance
  exact f_Fun (f_Ret (f_Cl (f_Cons (f_Op (f_Op f_Var f_Var) (f_Op f_Var f_Var)) f_Nil)))
def b_server : MS := (mSeq (mSet 4 (mTup (mCons (mC (.str "word")) (mCons (mOp dIx (mOp dIx (mVar 0) (mVar 3)) (mC (.int 1))) mNil)))) (mSeq (mSet 5 (mLc (mIEn (mCons (mVar 0) mNil)) (mgTup 2 (mgCons (mgName 6) (mgCons (mgName 7) mgNil))) (mTest (mOp dEq (mVar 7) (mVar 4))) (mVar 6) [6, 7])) (mSeq (mSet 8 (mLc (mISeq (mVar 5)) (mgName 9) mYes (mTup (mCons (mCall m_distance (mCons (mVar 1) (mCons (mVar 3) (mCons (mVar 9) mNil)))) (mCons (mVar 9) mNil))) [9])) (mSeq (mSet 10 (mLc (mISeq (mVar 8)) (mgName 11) (mTest (mOp dLe (mOp dIx (mVar 11) (mC (.int 0))) (mVar 2))) (mVar 11) [11])) (mRet (mIf (mTru (mVar 10)) (mOp dIx (mCl cMinD (mCons (mVar 10) mNil)) (mC (.int 1))) (mC .none)))))))
def m_server : MP := mFun ["part", "addresses", "span", "load", "wanted", "words", "number", "row", "away", "word", "near", "pair"] 4 b_server
def vb_server : VS := (vSeqS (vSet 4 (vTup (vCons (vC (.str "word")) (vCons (vOp dIx (vOp dIx (vVar 0) (vVar 3)) (vC (.int 1))) vNil)))) (vSeqS (vSet 5 (vLc (vIEn (vCons (vVar 0) vNil)) (vgTup 2 (vgCons (vgName 6) (vgCons (vgName 7) vgNil))) (vTest (vOp dEq (vVar 7) (vVar 4))) (vVar 6) [6, 7])) (vSeqS (vSet 8 (vLc (vISeq (vVar 5)) (vgName 9) vYes (vTup (vCons (vCall v_distance (vCons (vVar 1) (vCons (vVar 3) (vCons (vVar 9) vNil)))) (vCons (vVar 9) vNil))) [9])) (vSeqS (vSet 10 (vLc (vISeq (vVar 8)) (vgName 11) (vTest (vOp dLe (vOp dIx (vVar 11) (vC (.int 0))) (vVar 2))) (vVar 11) [11])) (vRet (vIf (vTru (vVar 10)) (vOp dIx (vCl cMinD (vCons (vVar 10) vNil)) (vC (.int 1))) (vC .none)))))))
def v_server : VP := vFun ["part", "addresses", "span", "load", "wanted", "words", "number", "row", "away", "word", "near", "pair"] 4 vb_server
theorem fp_server : FP m_server v_server := by
  unfold m_server v_server b_server vb_server
  exact f_Fun (f_Seq (f_Set (f_Tup (f_Cons f_C (f_Cons (f_Op (f_Op f_Var f_Var) f_C) f_Nil)))) (f_Seq (f_Set (f_Lc (f_IEn (f_Cons f_Var f_Nil)) (f_gTup (f_gCons f_gName (f_gCons f_gName f_gNil))) (f_Test (f_Op f_Var f_Var)) f_Var)) (f_Seq (f_Set (f_Lc (f_ISeq f_Var) f_gName f_Yes (f_Tup (f_Cons (f_Call fp_distance (f_Cons f_Var (f_Cons f_Var (f_Cons f_Var f_Nil)))) (f_Cons f_Var f_Nil))))) (f_Seq (f_Set (f_Lc (f_ISeq f_Var) f_gName (f_Test (f_Op (f_Op f_Var f_C) f_Var)) f_Var)) (f_Ret (f_If (f_Tru f_Var) (f_Op (f_Cl (f_Cons f_Var f_Nil)) f_C) f_C))))))
def b_unfit_rows : MS := (mSeq (mSet 3 (mCall m_addresses_of (mCons (mVar 0) (mCons (mVar 1) (mCons (mVar 2) mNil))))) (mRet (mLc (mISeq (mVar 2)) (mgName 4) (mTest (mOp dGt (mCall m_distance (mCons (mVar 3) (mCons (mVar 4) (mCons (mOp dIx (mOp dIx (mVar 0) (mVar 4)) (mC (.int 1))) mNil)))) (mOp dIx (mVar 1) (mC c_REACH)))) (mVar 4) [4])))
def m_unfit_rows : MP := mFun ["part", "machine", "forms", "addresses", "row"] 3 b_unfit_rows
def vb_unfit_rows : VS := (vSeqS (vSet 3 (vCall v_addresses_of (vCons (vVar 0) (vCons (vVar 1) (vCons (vVar 2) vNil))))) (vRet (vLc (vISeq (vVar 2)) (vgName 4) (vTest (vOp dGt (vCall v_distance (vCons (vVar 3) (vCons (vVar 4) (vCons (vOp dIx (vOp dIx (vVar 0) (vVar 4)) (vC (.int 1))) vNil)))) (vOp dIx (vVar 1) (vC c_REACH)))) (vVar 4) [4])))
def v_unfit_rows : VP := vFun ["part", "machine", "forms", "addresses", "row"] 3 vb_unfit_rows
theorem fp_unfit_rows : FP m_unfit_rows v_unfit_rows := by
  unfold m_unfit_rows v_unfit_rows b_unfit_rows vb_unfit_rows
  exact f_Fun (f_Seq (f_Set (f_Call fp_addresses_of (f_Cons f_Var (f_Cons f_Var (f_Cons f_Var f_Nil))))) (f_Ret (f_Lc (f_ISeq f_Var) f_gName (f_Test (f_Op (f_Call fp_distance (f_Cons f_Var (f_Cons f_Var (f_Cons (f_Op (f_Op f_Var f_Var) f_C) f_Nil)))) (f_Op f_Var f_C))) f_Var)))
def b_servers : MS := (mSeq (mSet 3 (mCall m_addresses_of (mCons (mVar 0) (mCons (mVar 1) (mCons (mVar 2) mNil))))) (mSeq (mSet 4 (mLc (mIEn (mCons (mVar 0) mNil)) (mgTup 2 (mgCons (mgName 5) (mgCons (mgName 6) mgNil))) (mTest (mOp dEq (mOp dIx (mVar 6) (mC (.int 0))) (mC (.str "load")))) (mVar 5) [5, 6])) (mRet (mDc (mISeq (mVar 4)) (mgName 7) mYes (mVar 7) (mCall m_server (mCons (mVar 0) (mCons (mVar 3) (mCons (mOp dIx (mVar 1) (mC c_SPAN)) (mCons (mVar 7) mNil))))) [7]))))
def m_servers : MP := mFun ["part", "machine", "forms", "addresses", "loads", "number", "row", "load"] 3 b_servers
def vb_servers : VS := (vSeqS (vSet 3 (vCall v_addresses_of (vCons (vVar 0) (vCons (vVar 1) (vCons (vVar 2) vNil))))) (vSeqS (vSet 4 (vLc (vIEn (vCons (vVar 0) vNil)) (vgTup 2 (vgCons (vgName 5) (vgCons (vgName 6) vgNil))) (vTest (vOp dEq (vOp dIx (vVar 6) (vC (.int 0))) (vC (.str "load")))) (vVar 5) [5, 6])) (vRet (vDc (vISeq (vVar 4)) (vgName 7) vYes (vVar 7) (vCall v_server (vCons (vVar 0) (vCons (vVar 3) (vCons (vOp dIx (vVar 1) (vC c_SPAN)) (vCons (vVar 7) vNil))))) [7]))))
def v_servers : VP := vFun ["part", "machine", "forms", "addresses", "loads", "number", "row", "load"] 3 vb_servers
theorem fp_servers : FP m_servers v_servers := by
  unfold m_servers v_servers b_servers vb_servers
  exact f_Fun (f_Seq (f_Set (f_Call fp_addresses_of (f_Cons f_Var (f_Cons f_Var (f_Cons f_Var f_Nil))))) (f_Seq (f_Set (f_Lc (f_IEn (f_Cons f_Var f_Nil)) (f_gTup (f_gCons f_gName (f_gCons f_gName f_gNil))) (f_Test (f_Op (f_Op f_Var f_C) f_C)) f_Var)) (f_Ret (f_Dc (f_ISeq f_Var) f_gName f_Yes f_Var (f_Call fp_server (f_Cons f_Var (f_Cons f_Var (f_Cons (f_Op f_Var f_C) (f_Cons f_Var f_Nil)))))))))
def b_places : MS := (mSeq (mDrop (mCall m_check_formed (mCons (mVar 0) (mCons (mVar 1) (mCons (mVar 2) mNil))))) (mRet (mCall m_addresses_of (mCons (mVar 0) (mCons (mVar 1) (mCons (mVar 2) mNil))))))
def m_places : MP := mFun ["part", "machine", "forms"] 3 b_places
def vb_places : VS := (vSeqS (vDrop (vCall v_check_formed (vCons (vVar 0) (vCons (vVar 1) (vCons (vVar 2) vNil))))) (vRet (vCall v_addresses_of (vCons (vVar 0) (vCons (vVar 1) (vCons (vVar 2) vNil))))))
def v_places : VP := vFun ["part", "machine", "forms"] 3 vb_places
theorem fp_places : FP m_places v_places := by
  unfold m_places v_places b_places vb_places
  exact f_Fun (f_Seq (f_Drop (f_Call fp_check_formed (f_Cons f_Var (f_Cons f_Var (f_Cons f_Var f_Nil))))) (f_Ret (f_Call fp_addresses_of (f_Cons f_Var (f_Cons f_Var (f_Cons f_Var f_Nil))))))
def b_misfits : MS := (mSeq (mDrop (mCall m_check_formed (mCons (mVar 0) (mCons (mVar 1) (mCons (mVar 2) mNil))))) (mRet (mCall m_unfit_rows (mCons (mVar 0) (mCons (mVar 1) (mCons (mVar 2) mNil))))))
def m_misfits : MP := mFun ["part", "machine", "forms"] 3 b_misfits
def vb_misfits : VS := (vSeqS (vDrop (vCall v_check_formed (vCons (vVar 0) (vCons (vVar 1) (vCons (vVar 2) vNil))))) (vRet (vCall v_unfit_rows (vCons (vVar 0) (vCons (vVar 1) (vCons (vVar 2) vNil))))))
def v_misfits : VP := vFun ["part", "machine", "forms"] 3 vb_misfits
theorem fp_misfits : FP m_misfits v_misfits := by
  unfold m_misfits v_misfits b_misfits vb_misfits
  exact f_Fun (f_Seq (f_Drop (f_Call fp_check_formed (f_Cons f_Var (f_Cons f_Var (f_Cons f_Var f_Nil))))) (f_Ret (f_Call fp_unfit_rows (f_Cons f_Var (f_Cons f_Var (f_Cons f_Var f_Nil))))))
def b_served : MS := (mSeq (mDrop (mCall m_check_formed (mCons (mVar 0) (mCons (mVar 1) (mCons (mVar 2) mNil))))) (mRet (mCall m_servers (mCons (mVar 0) (mCons (mVar 1) (mCons (mVar 2) mNil))))))
def m_served : MP := mFun ["part", "machine", "forms"] 3 b_served
def vb_served : VS := (vSeqS (vDrop (vCall v_check_formed (vCons (vVar 0) (vCons (vVar 1) (vCons (vVar 2) vNil))))) (vRet (vCall v_servers (vCons (vVar 0) (vCons (vVar 1) (vCons (vVar 2) vNil))))))
def v_served : VP := vFun ["part", "machine", "forms"] 3 vb_served
theorem fp_served : FP m_served v_served := by
  unfold m_served v_served b_served vb_served
  exact f_Fun (f_Seq (f_Drop (f_Call fp_check_formed (f_Cons f_Var (f_Cons f_Var (f_Cons f_Var f_Nil))))) (f_Ret (f_Call fp_servers (f_Cons f_Var (f_Cons f_Var (f_Cons f_Var f_Nil))))))
def b_check_even_part : MS := (mSeq (mDrop (mCall m_check_part (mCons (mVar 0) mNil))) (mIfS (mNot (mTest (mCall m_is_even (mCons (mVar 0) mNil)))) mNever mNext))
def m_check_even_part : MP := mFun ["part"] 1 b_check_even_part
def vb_check_even_part : VS := (vSeqS (vDrop (vCall v_check_part (vCons (vVar 0) vNil))) (vIfS (vNot (vTest (vCall v_is_even (vCons (vVar 0) vNil)))) vNever vNext))
def v_check_even_part : VP := vFun ["part"] 1 vb_check_even_part
theorem fp_check_even_part : FP m_check_even_part v_check_even_part := by
  unfold m_check_even_part v_check_even_part b_check_even_part vb_check_even_part
  exact f_Fun (f_Seq (f_Drop (f_Call fp_check_part (f_Cons f_Var f_Nil))) (f_IfS (f_Not (f_Test (f_Call fp_is_even (f_Cons f_Var f_Nil)))) f_Never f_Next))
def b_without : MS := (mRet (mLc (mISeq (mVar 0)) (mgName 2) (mTest (mOp dNe (mVar 2) (mVar 1))) (mVar 2) [2]))
def m_without : MP := mFun ["rows", "row", "other"] 2 b_without
def vb_without : VS := (vRet (vLc (vISeq (vVar 0)) (vgName 2) (vTest (vOp dNe (vVar 2) (vVar 1))) (vVar 2) [2]))
def v_without : VP := vFun ["rows", "row", "other"] 2 vb_without
theorem fp_without : FP m_without v_without := by
  unfold m_without v_without b_without vb_without
  exact f_Fun (f_Ret (f_Lc (f_ISeq f_Var) f_gName (f_Test (f_Op f_Var f_Var)) f_Var))
def b_growth : MS := (mSeq (mSet 2 (mCall m_jump_rows (mCons (mVar 0) mNil))) (mSeq (mSet 3 (mLst mNil)) (mSeq (mSet 4 (mCall m_unfit_rows (mCons (mVar 0) (mCons (mVar 1) (mCons (mVar 2) mNil))))) (mSeq (mWhile (mTru (mVar 4)) (mSeq (mAppend 3 (mOp dIx (mVar 4) (mC (.int 0)))) (mSeq (mSet 2 (mCall m_without (mCons (mVar 2) (mCons (mOp dIx (mVar 4) (mC (.int 0))) mNil)))) (mSet 4 (mCall m_unfit_rows (mCons (mVar 0) (mCons (mVar 1) (mCons (mVar 2) mNil)))))))) (mRet (mTup (mCons (mVar 2) (mCons (mVar 3) mNil))))))))
def m_growth : MP := mFun ["part", "machine", "forms", "chain", "unfit"] 2 b_growth
def vb_growth : VS := (vSeqS (vSet 2 (vCall v_jump_rows (vCons (vVar 0) vNil))) (vSeqS (vSet 3 (vLst vNil)) (vSeqS (vSet 4 (vCall v_unfit_rows (vCons (vVar 0) (vCons (vVar 1) (vCons (vVar 2) vNil))))) (vSeqS (vWhile (vTru (vVar 4)) (vSeqS (vAppend 3 (vOp dIx (vVar 4) (vC (.int 0)))) (vSeqS (vSet 2 (vCall v_without (vCons (vVar 2) (vCons (vOp dIx (vVar 4) (vC (.int 0))) vNil)))) (vSet 4 (vCall v_unfit_rows (vCons (vVar 0) (vCons (vVar 1) (vCons (vVar 2) vNil)))))))) (vRet (vTup (vCons (vVar 2) (vCons (vVar 3) vNil))))))))
def v_growth : VP := vFun ["part", "machine", "forms", "chain", "unfit"] 2 vb_growth
theorem fp_growth : FP m_growth v_growth := by
  unfold m_growth v_growth b_growth vb_growth
  exact f_Fun (f_Seq (f_Set (f_Call fp_jump_rows (f_Cons f_Var f_Nil))) (f_Seq (f_Set (f_Lst f_Nil)) (f_Seq (f_Set (f_Call fp_unfit_rows (f_Cons f_Var (f_Cons f_Var (f_Cons f_Var f_Nil))))) (f_Seq (f_While (f_Tru f_Var) (f_Seq (f_Append (f_Op f_Var f_C)) (f_Seq (f_Set (f_Call fp_without (f_Cons f_Var (f_Cons (f_Op f_Var f_C) f_Nil)))) (f_Set (f_Call fp_unfit_rows (f_Cons f_Var (f_Cons f_Var (f_Cons f_Var f_Nil)))))))) (f_Ret (f_Tup (f_Cons f_Var (f_Cons f_Var f_Nil))))))))
def b_is_chain : MS := (mSeq (mIfS (mNot (mTest (mIsi "list" (mVar 2)))) (mRet (mC (.bool false))) mNext) (mSeq (mSet 3 (mCall m_jump_rows (mCons (mVar 0) mNil))) (mSeq (mFor (mISeq (mVar 2)) (mgName 4) (mSeq (mIfS (mOr (mNot (mTest (mCall m_is_jump_row (mCons (mVar 0) (mCons (mVar 4) mNil))))) (mTest (mOp dNotIn (mVar 4) (mCall m_unfit_rows (mCons (mVar 0) (mCons (mVar 1) (mCons (mVar 3) mNil))))))) (mRet (mC (.bool false))) mNext) (mSet 3 (mCall m_without (mCons (mVar 3) (mCons (mVar 4) mNil)))))) (mRet (mC (.bool true))))))
def m_is_chain : MP := mFun ["part", "machine", "thing", "forms", "row"] 3 b_is_chain
def vb_is_chain : VS := (vSeqS (vIfS (vNot (vTest (vIsi "list" (vVar 2)))) (vRet (vC (.bool false))) vNext) (vSeqS (vSet 3 (vCall v_jump_rows (vCons (vVar 0) vNil))) (vSeqS (vFor (vISeq (vVar 2)) (vgName 4) (vSeqS (vIfS (vOr (vNot (vTest (vCall v_is_jump_row (vCons (vVar 0) (vCons (vVar 4) vNil))))) (vTest (vOp dNotIn (vVar 4) (vCall v_unfit_rows (vCons (vVar 0) (vCons (vVar 1) (vCons (vVar 3) vNil))))))) (vRet (vC (.bool false))) vNext) (vSet 3 (vCall v_without (vCons (vVar 3) (vCons (vVar 4) vNil)))))) (vRet (vC (.bool true))))))
def v_is_chain : VP := vFun ["part", "machine", "thing", "forms", "row"] 3 vb_is_chain
theorem fp_is_chain : FP m_is_chain v_is_chain := by
  unfold m_is_chain v_is_chain b_is_chain vb_is_chain
  exact f_Fun (f_Seq (f_IfS (f_Not (f_Test (f_Isi f_Var))) (f_Ret f_C) f_Next) (f_Seq (f_Set (f_Call fp_jump_rows (f_Cons f_Var f_Nil))) (f_Seq (f_For (f_ISeq f_Var) f_gName (f_Seq (f_IfS (f_Or (f_Not (f_Test (f_Call fp_is_jump_row (f_Cons f_Var (f_Cons f_Var f_Nil))))) (f_Test (f_Op f_Var (f_Call fp_unfit_rows (f_Cons f_Var (f_Cons f_Var (f_Cons f_Var f_Nil))))))) (f_Ret f_C) f_Next) (f_Set (f_Call fp_without (f_Cons f_Var (f_Cons f_Var f_Nil)))))) (f_Ret f_C))))
def b_grown : MS := (mSeq (mDrop (mCall m_check_even_part (mCons (mVar 0) mNil))) (mSeq (mDrop (mCall m_check_machine (mCons (mVar 1) mNil))) (mRet (mCall m_growth (mCons (mVar 0) (mCons (mVar 1) mNil))))))
def m_grown : MP := mFun ["part", "machine"] 2 b_grown
def vb_grown : VS := (vSeqS (vDrop (vCall v_check_even_part (vCons (vVar 0) vNil))) (vSeqS (vDrop (vCall v_check_machine (vCons (vVar 1) vNil))) (vRet (vCall v_growth (vCons (vVar 0) (vCons (vVar 1) vNil))))))
def v_grown : VP := vFun ["part", "machine"] 2 vb_grown
theorem fp_grown : FP m_grown v_grown := by
  unfold m_grown v_grown b_grown vb_grown
  exact f_Fun (f_Seq (f_Drop (f_Call fp_check_even_part (f_Cons f_Var f_Nil))) (f_Seq (f_Drop (f_Call fp_check_machine (f_Cons f_Var f_Nil))) (f_Ret (f_Call fp_growth (f_Cons f_Var (f_Cons f_Var f_Nil))))))
def b_shows_chain : MS := (mSeq (mDrop (mCall m_check_even_part (mCons (mVar 0) mNil))) (mSeq (mDrop (mCall m_check_machine (mCons (mVar 1) mNil))) (mRet (mCall m_is_chain (mCons (mVar 0) (mCons (mVar 1) (mCons (mVar 2) mNil)))))))
def m_shows_chain : MP := mFun ["part", "machine", "thing"] 3 b_shows_chain
def vb_shows_chain : VS := (vSeqS (vDrop (vCall v_check_even_part (vCons (vVar 0) vNil))) (vSeqS (vDrop (vCall v_check_machine (vCons (vVar 1) vNil))) (vRet (vCall v_is_chain (vCons (vVar 0) (vCons (vVar 1) (vCons (vVar 2) vNil)))))))
def v_shows_chain : VP := vFun ["part", "machine", "thing"] 3 vb_shows_chain
theorem fp_shows_chain : FP m_shows_chain v_shows_chain := by
  unfold m_shows_chain v_shows_chain b_shows_chain vb_shows_chain
  exact f_Fun (f_Seq (f_Drop (f_Call fp_check_even_part (f_Cons f_Var f_Nil))) (f_Seq (f_Drop (f_Call fp_check_machine (f_Cons f_Var f_Nil))) (f_Ret (f_Call fp_is_chain (f_Cons f_Var (f_Cons f_Var (f_Cons f_Var f_Nil)))))))
end RC
end
section
namespace RC
open PySem PySem.Spec L2 RR
open PyProof.Rows hiding St
def b__law_size : MS := (mSeq (mIfS (mTest (mOp dIn (mOp dIx (mVar 0) (mC (.int 0))) (mTup (mCons (mC (.str "plain")) (mCons (mC (.str "stop")) mNil))))) (mRet (mOp dIx (mVar 0) (mC (.int 1)))) mNext) (mSeq (mIfS (mTest (mOp dIn (mOp dIx (mVar 0) (mC (.int 0))) (mTup (mCons (mC (.str "jump")) (mCons (mC (.str "branch")) mNil))))) (mRet (mIf (mTest (mVar 2)) (mOp dIx (mVar 1) (mC (.int 0))) (mOp dIx (mVar 1) (mC (.int 2))))) mNext) (mSeq (mIfS (mTest (mOp dEq (mOp dIx (mVar 0) (mC (.int 0))) (mC (.str "align")))) (mRet (mOp dMod (mCl cInt (mCons (mOp dSub (mC (.int 0)) (mVar 3)) mNil)) (mOp dIx (mVar 0) (mC (.int 1))))) mNext) (mRet (mOp dIx (mVar 1) (mOp dIx (mDisp (mpCons (mC (.str "far")) (mC (.int 3)) (mpCons (mC (.str "load")) (mC (.int 5)) (mpCons (mC (.str "word")) (mC (.int 7)) mpNil)))) (mOp dIx (mVar 0) (mC (.int 0)))))))))
def m__law_size : MP := mFun ["row", "machine", "is_short", "at"] 4 b__law_size
def vb__law_size : VS := (vSeqS (vIfS (vTest (vOp dIn (vOp dIx (vVar 0) (vC (.int 0))) (vTup (vCons (vC (.str "plain")) (vCons (vC (.str "stop")) vNil))))) (vRet (vOp dIx (vVar 0) (vC (.int 1)))) vNext) (vSeqS (vIfS (vTest (vOp dIn (vOp dIx (vVar 0) (vC (.int 0))) (vTup (vCons (vC (.str "jump")) (vCons (vC (.str "branch")) vNil))))) (vRet (vIf (vTest (vVar 2)) (vOp dIx (vVar 1) (vC (.int 0))) (vOp dIx (vVar 1) (vC (.int 2))))) vNext) (vSeqS (vIfS (vTest (vOp dEq (vOp dIx (vVar 0) (vC (.int 0))) (vC (.str "align")))) (vRet (vOp dMod (vCl cInt (vCons (vOp dSub (vC (.int 0)) (vVar 3)) vNil)) (vOp dIx (vVar 0) (vC (.int 1))))) vNext) (vRet (vOp dIx (vVar 1) (vOp dIx (vDisp (vpCons (vC (.str "far")) (vC (.int 3)) (vpCons (vC (.str "load")) (vC (.int 5)) (vpCons (vC (.str "word")) (vC (.int 7)) vpNil)))) (vOp dIx (vVar 0) (vC (.int 0)))))))))
def v__law_size : VP := vFun ["row", "machine", "is_short", "at"] 4 vb__law_size
theorem fp__law_size : FP m__law_size v__law_size := by
  unfold m__law_size v__law_size b__law_size vb__law_size
  exact f_Fun (f_Seq (f_IfS (f_Test (f_Op (f_Op f_Var f_C) (f_Tup (f_Cons f_C (f_Cons f_C f_Nil))))) (f_Ret (f_Op f_Var f_C)) f_Next) (f_Seq (f_IfS (f_Test (f_Op (f_Op f_Var f_C) (f_Tup (f_Cons f_C (f_Cons f_C f_Nil))))) (f_Ret (f_If (f_Test f_Var) (f_Op f_Var f_C) (f_Op f_Var f_C))) f_Next) (f_Seq (f_IfS (f_Test (f_Op (f_Op f_Var f_C) f_C)) (f_Ret (f_Op (f_Cl (f_Cons (f_Op f_C f_Var) f_Nil)) (f_Op f_Var f_C))) f_Next) (f_Ret (f_Op f_Var (f_Op (f_Disp (f_pCons f_C f_C (f_pCons f_C f_C (f_pCons f_C f_C f_pNil)))) (f_Op f_Var f_C)))))))
def b__law_places : MS := (mSeq (mPar [3, 4] (mCons (mLst mNil) (mCons (mC (.int 0)) mNil))) (mSeq (mFor (mIEn (mCons (mVar 0) mNil)) (mgTup 2 (mgCons (mgName 5) (mgCons (mgName 6) mgNil))) (mSeq (mAppend 3 (mVar 4)) (mSet 4 (mOp dAdd (mVar 4) (mCall m__law_size (mCons (mVar 6) (mCons (mVar 1) (mCons (mOp dIn (mVar 5) (mVar 2)) (mCons (mVar 4) mNil))))))))) (mRet (mOp dAdd (mVar 3) (mLst (mCons (mVar 4) mNil))))))
def m__law_places : MP := mFun ["part", "machine", "forms", "found", "at", "number", "row"] 3 b__law_places
def vb__law_places : VS := (vSeqS (vPar [3, 4] (vCons (vLst vNil) (vCons (vC (.int 0)) vNil))) (vSeqS (vFor (vIEn (vCons (vVar 0) vNil)) (vgTup 2 (vgCons (vgName 5) (vgCons (vgName 6) vgNil))) (vSeqS (vAppend 3 (vVar 4)) (vSet 4 (vOp dAdd (vVar 4) (vCall v__law_size (vCons (vVar 6) (vCons (vVar 1) (vCons (vOp dIn (vVar 5) (vVar 2)) (vCons (vVar 4) vNil))))))))) (vRet (vOp dAdd (vVar 3) (vLst (vCons (vVar 4) vNil))))))
def v__law_places : VP := vFun ["part", "machine", "forms", "found", "at", "number", "row"] 3 vb__law_places
theorem fp__law_places : FP m__law_places v__law_places := by
  unfold m__law_places v__law_places b__law_places vb__law_places
  exact f_Fun (f_Seq (f_Par (f_Cons (f_Lst f_Nil) (f_Cons f_C f_Nil))) (f_Seq (f_For (f_IEn (f_Cons f_Var f_Nil)) (f_gTup (f_gCons f_gName (f_gCons f_gName f_gNil))) (f_Seq (f_Append f_Var) (f_Set (f_Op f_Var (f_Call fp__law_size (f_Cons f_Var (f_Cons f_Var (f_Cons (f_Op f_Var f_Var) (f_Cons f_Var f_Nil))))))))) (f_Ret (f_Op f_Var (f_Lst (f_Cons f_Var f_Nil))))))
def b__law_misfits : MS := (mSeq (mSet 3 (mCall m__law_places (mCons (mVar 0) (mCons (mVar 1) (mCons (mVar 2) mNil))))) (mRet (mLc (mISeq (mVar 2)) (mgName 4) (mTest (mOp dGt (mCl cAbs (mCons (mOp dSub (mOp dIx (mVar 3) (mOp dIx (mOp dIx (mVar 0) (mVar 4)) (mC (.int 1)))) (mOp dIx (mVar 3) (mVar 4))) mNil)) (mOp dIx (mVar 1) (mC (.int 1))))) (mVar 4) [4])))
def m__law_misfits : MP := mFun ["part", "machine", "forms", "found", "row"] 3 b__law_misfits
def vb__law_misfits : VS := (vSeqS (vSet 3 (vCall v__law_places (vCons (vVar 0) (vCons (vVar 1) (vCons (vVar 2) vNil))))) (vRet (vLc (vISeq (vVar 2)) (vgName 4) (vTest (vOp dGt (vCl cAbs (vCons (vOp dSub (vOp dIx (vVar 3) (vOp dIx (vOp dIx (vVar 0) (vVar 4)) (vC (.int 1)))) (vOp dIx (vVar 3) (vVar 4))) vNil)) (vOp dIx (vVar 1) (vC (.int 1))))) (vVar 4) [4])))
def v__law_misfits : VP := vFun ["part", "machine", "forms", "found", "row"] 3 vb__law_misfits
theorem fp__law_misfits : FP m__law_misfits v__law_misfits := by
  unfold m__law_misfits v__law_misfits b__law_misfits vb__law_misfits
  exact f_Fun (f_Seq (f_Set (f_Call fp__law_places (f_Cons f_Var (f_Cons f_Var (f_Cons f_Var f_Nil))))) (f_Ret (f_Lc (f_ISeq f_Var) f_gName (f_Test (f_Op (f_Cl (f_Cons (f_Op (f_Op f_Var (f_Op (f_Op f_Var f_Var) f_C)) (f_Op f_Var f_Var)) f_Nil)) (f_Op f_Var f_C))) f_Var)))
def b__law_jumps : MS := (mRet (mLc (mIEn (mCons (mVar 0) mNil)) (mgTup 2 (mgCons (mgName 1) (mgCons (mgName 2) mgNil))) (mTest (mOp dIn (mOp dIx (mVar 2) (mC (.int 0))) (mTup (mCons (mC (.str "jump")) (mCons (mC (.str "branch")) mNil))))) (mVar 1) [1, 2]))
def m__law_jumps : MP := mFun ["part", "number", "row"] 1 b__law_jumps
def vb__law_jumps : VS := (vRet (vLc (vIEn (vCons (vVar 0) vNil)) (vgTup 2 (vgCons (vgName 1) (vgCons (vgName 2) vgNil))) (vTest (vOp dIn (vOp dIx (vVar 2) (vC (.int 0))) (vTup (vCons (vC (.str "jump")) (vCons (vC (.str "branch")) vNil))))) (vVar 1) [1, 2]))
def v__law_jumps : VP := vFun ["part", "number", "row"] 1 vb__law_jumps
theorem fp__law_jumps : FP m__law_jumps v__law_jumps := by
  unfold m__law_jumps v__law_jumps b__law_jumps vb__law_jumps
  exact f_Fun (f_Ret (f_Lc (f_IEn (f_Cons f_Var f_Nil)) (f_gTup (f_gCons f_gName (f_gCons f_gName f_gNil))) (f_Test (f_Op (f_Op f_Var f_C) (f_Tup (f_Cons f_C (f_Cons f_C f_Nil))))) f_Var))
end RC
end
section
namespace RC
open PySem PySem.Spec L2 RR
open PyProof.Rows hiding St
end RC
end
section
namespace RC
open PySem PySem.Spec L2 RR
open PyProof.Rows hiding St
local macro_rules | `(tactic| walk_at "st") => `(tactic| first
  | refine ⟨_, rfl, ?_⟩
  | refine ⟨rfl, ?_⟩
  | refine ⟨by decide, ?_⟩)
def b__law_w_shifted : MS := (mRet (mCl cTuple (mCons (mLc (mISeq (mVar 0)) (mgName 1) mYes (mIf (mTest (mOp dIn (mOp dIx (mVar 1) (mC (.int 0))) (mTup (mCons (mC (.str "jump")) (mCons (mC (.str "branch")) mNil))))) (mTup (mCons (mOp dIx (mVar 1) (mC (.int 0))) (mCons (mOp dAdd (mOp dIx (mVar 1) (mC (.int 1))) (mC (.int 1))) mNil))) (mVar 1)) [1]) mNil)))
def m__law_w_shifted : MP := mFun ["part", "row"] 1 b__law_w_shifted
def vb__law_w_shifted : VS := (vRet (vCl cTuple (vCons (vLc (vISeq (vVar 0)) (vgName 1) vYes (vIf (vTest (vOp dIn (vOp dIx (vVar 1) (vC (.int 0))) (vTup (vCons (vC (.str "jump")) (vCons (vC (.str "branch")) vNil))))) (vTup (vCons (vOp dIx (vVar 1) (vC (.int 0))) (vCons (vOp dAdd (vOp dIx (vVar 1) (vC (.int 1))) (vC (.int 1))) vNil))) (vVar 1)) [1]) vNil)))
def v__law_w_shifted : VP := vFun ["part", "row"] 1 vb__law_w_shifted
theorem fp__law_w_shifted : FP m__law_w_shifted v__law_w_shifted := by
  unfold m__law_w_shifted v__law_w_shifted b__law_w_shifted vb__law_w_shifted
  exact f_Fun (f_Ret (f_Cl (f_Cons (f_Lc (f_ISeq f_Var) f_gName f_Yes (f_If (f_Test (f_Op (f_Op f_Var f_C) (f_Tup (f_Cons f_C (f_Cons f_C f_Nil))))) (f_Tup (f_Cons (f_Op f_Var f_C) (f_Cons (f_Op (f_Op f_Var f_C) f_C) f_Nil))) f_Var)) f_Nil)))
def b_opens : MS := (mRet (mOp dEq (mOp dIx (mVar 0) (mC (.int 0))) (mTup (mCons (mC (.str "plain")) (mCons (mOp dIx (mVar 1) (mC c_FAR)) (mCons (mC (.int 0)) mNil))))))
def m_opens : MP := mFun ["part", "machine"] 2 b_opens
def vb_opens : VS := (vRet (vOp dEq (vOp dIx (vVar 0) (vC (.int 0))) (vTup (vCons (vC (.str "plain")) (vCons (vOp dIx (vVar 1) (vC c_FAR)) (vCons (vC (.int 0)) vNil))))))
def v_opens : VP := vFun ["part", "machine"] 2 vb_opens
theorem fp_opens : FP m_opens v_opens := by
  unfold m_opens v_opens b_opens vb_opens
  exact f_Fun (f_Ret (f_Op (f_Op f_Var f_C) (f_Tup (f_Cons f_C (f_Cons (f_Op f_Var f_C) (f_Cons f_C f_Nil))))))
def b_has_door : MS := (mSeq (mDrop (mCall m_check_part (mCons (mVar 0) mNil))) (mSeq (mDrop (mCall m_check_machine (mCons (mVar 1) mNil))) (mRet (mCall m_opens (mCons (mVar 0) (mCons (mVar 1) mNil))))))
def m_has_door : MP := mFun ["part", "machine"] 2 b_has_door
def vb_has_door : VS := (vSeqS (vDrop (vCall v_check_part (vCons (vVar 0) vNil))) (vSeqS (vDrop (vCall v_check_machine (vCons (vVar 1) vNil))) (vRet (vCall v_opens (vCons (vVar 0) (vCons (vVar 1) vNil))))))
def v_has_door : VP := vFun ["part", "machine"] 2 vb_has_door
theorem fp_has_door : FP m_has_door v_has_door := by
  unfold m_has_door v_has_door b_has_door vb_has_door
  exact f_Fun (f_Seq (f_Drop (f_Call fp_check_part (f_Cons f_Var f_Nil))) (f_Seq (f_Drop (f_Call fp_check_machine (f_Cons f_Var f_Nil))) (f_Ret (f_Call fp_opens (f_Cons f_Var (f_Cons f_Var f_Nil))))))
def b_is_part_number : MS := (mRet (mCall m_is_within (mCons (mVar 1) (mCons (mC (.int 0)) (mCons (mOp dSub (mCl cLen (mCons (mVar 0) mNil)) (mC (.int 1))) mNil)))))
def m_is_part_number : MP := mFun ["book", "thing"] 2 b_is_part_number
def vb_is_part_number : VS := (vRet (vCall v_is_within (vCons (vVar 1) (vCons (vC (.int 0)) (vCons (vOp dSub (vCl cLen (vCons (vVar 0) vNil)) (vC (.int 1))) vNil)))))
def v_is_part_number : VP := vFun ["book", "thing"] 2 vb_is_part_number
theorem fp_is_part_number : FP m_is_part_number v_is_part_number := by
  unfold m_is_part_number v_is_part_number b_is_part_number vb_is_part_number
  exact f_Fun (f_Ret (f_Call fp_is_within (f_Cons f_Var (f_Cons f_C (f_Cons (f_Op (f_Cl (f_Cons f_Var f_Nil)) f_C) f_Nil)))))
def b_with_part : MS := (mRet (mOp dAdd (mOp dAdd (mSl (mVar 0) mNoPart (mPart (mVar 1))) (mTup (mCons (mVar 2) mNil))) (mSl (mVar 0) (mPart (mOp dAdd (mVar 1) (mC (.int 1)))) mNoPart)))
def m_with_part : MP := mFun ["book", "p", "part"] 3 b_with_part
def vb_with_part : VS := (vRet (vOp dAdd (vOp dAdd (vSl (vVar 0) vNoPart (vPart (vVar 1))) (vTup (vCons (vVar 2) vNil))) (vSl (vVar 0) (vPart (vOp dAdd (vVar 1) (vC (.int 1)))) vNoPart)))
def v_with_part : VP := vFun ["book", "p", "part"] 3 vb_with_part
theorem fp_with_part : FP m_with_part v_with_part := by
  unfold m_with_part v_with_part b_with_part vb_with_part
  exact f_Fun (f_Ret (f_Op (f_Op (f_Sl f_Var f_NoPart (f_Part f_Var)) (f_Tup (f_Cons f_Var f_Nil))) (f_Sl f_Var (f_Part (f_Op f_Var f_C)) f_NoPart)))
def b_twin_of : MS := (mSeq (mSet 3 (mOp dAdd (mTup (mCons (mTup (mCons (mC (.str "far")) (mCons (mCl cLen (mCons (mVar 0) mNil)) mNil))) mNil)) (mSl (mOp dIx (mVar 0) (mVar 1)) (mPart (mC (.int 1))) mNoPart))) (mRet (mOp dAdd (mCall m_with_part (mCons (mVar 0) (mCons (mVar 1) (mCons (mVar 3) mNil)))) (mTup (mCons (mVar 2) mNil)))))
def m_twin_of : MP := mFun ["book", "p", "part", "through"] 3 b_twin_of
def vb_twin_of : VS := (vSeqS (vSet 3 (vOp dAdd (vTup (vCons (vTup (vCons (vC (.str "far")) (vCons (vCl cLen (vCons (vVar 0) vNil)) vNil))) vNil)) (vSl (vOp dIx (vVar 0) (vVar 1)) (vPart (vC (.int 1))) vNoPart))) (vRet (vOp dAdd (vCall v_with_part (vCons (vVar 0) (vCons (vVar 1) (vCons (vVar 3) vNil)))) (vTup (vCons (vVar 2) vNil)))))
def v_twin_of : VP := vFun ["book", "p", "part", "through"] 3 vb_twin_of
theorem fp_twin_of : FP m_twin_of v_twin_of := by
  unfold m_twin_of v_twin_of b_twin_of vb_twin_of
  exact f_Fun (f_Seq (f_Set (f_Op (f_Tup (f_Cons (f_Tup (f_Cons f_C (f_Cons (f_Cl (f_Cons f_Var f_Nil)) f_Nil))) f_Nil)) (f_Sl (f_Op f_Var f_Var) (f_Part f_C) f_NoPart))) (f_Ret (f_Op (f_Call fp_with_part (f_Cons f_Var (f_Cons f_Var (f_Cons f_Var f_Nil)))) (f_Tup (f_Cons f_Var f_Nil)))))
def b_check_twin : MS := (mSeq (mIfS (mOr (mNot (mTest (mCall m_is_part_number (mCons (mVar 0) (mCons (mVar 2) mNil))))) (mNot (mTest (mCall m_opens (mCons (mOp dIx (mVar 0) (mVar 2)) (mCons (mVar 1) mNil)))))) mNever mNext) (mIfS (mNot (mTest (mCall m_is_book (mCons (mCall m_twin_of (mCons (mVar 0) (mCons (mVar 2) (mCons (mVar 3) mNil)))) mNil)))) mNever mNext))
def m_check_twin : MP := mFun ["book", "machine", "p", "part"] 4 b_check_twin
def vb_check_twin : VS := (vSeqS (vIfS (vOr (vNot (vTest (vCall v_is_part_number (vCons (vVar 0) (vCons (vVar 2) vNil))))) (vNot (vTest (vCall v_opens (vCons (vOp dIx (vVar 0) (vVar 2)) (vCons (vVar 1) vNil)))))) vNever vNext) (vIfS (vNot (vTest (vCall v_is_book (vCons (vCall v_twin_of (vCons (vVar 0) (vCons (vVar 2) (vCons (vVar 3) vNil)))) vNil)))) vNever vNext))
def v_check_twin : VP := vFun ["book", "machine", "p", "part"] 4 vb_check_twin
theorem fp_check_twin : FP m_check_twin v_check_twin := by
  unfold m_check_twin v_check_twin b_check_twin vb_check_twin
  exact f_Fun (f_Seq (f_IfS (f_Or (f_Not (f_Test (f_Call fp_is_part_number (f_Cons f_Var (f_Cons f_Var f_Nil))))) (f_Not (f_Test (f_Call fp_opens (f_Cons (f_Op f_Var f_Var) (f_Cons f_Var f_Nil)))))) f_Never f_Next) (f_IfS (f_Not (f_Test (f_Call fp_is_book (f_Cons (f_Call fp_twin_of (f_Cons f_Var (f_Cons f_Var (f_Cons f_Var f_Nil)))) f_Nil)))) f_Never f_Next))
def b_twin : MS := (mSeq (mDrop (mCall m_check_book (mCons (mVar 0) mNil))) (mSeq (mDrop (mCall m_check_machine (mCons (mVar 1) mNil))) (mSeq (mDrop (mCall m_check_twin (mCons (mVar 0) (mCons (mVar 1) (mCons (mVar 2) (mCons (mVar 3) mNil)))))) (mRet (mCall m_twin_of (mCons (mVar 0) (mCons (mVar 2) (mCons (mVar 3) mNil))))))))
def m_twin : MP := mFun ["book", "machine", "p", "part"] 4 b_twin
def vb_twin : VS := (vSeqS (vDrop (vCall v_check_book (vCons (vVar 0) vNil))) (vSeqS (vDrop (vCall v_check_machine (vCons (vVar 1) vNil))) (vSeqS (vDrop (vCall v_check_twin (vCons (vVar 0) (vCons (vVar 1) (vCons (vVar 2) (vCons (vVar 3) vNil)))))) (vRet (vCall v_twin_of (vCons (vVar 0) (vCons (vVar 2) (vCons (vVar 3) vNil))))))))
def v_twin : VP := vFun ["book", "machine", "p", "part"] 4 vb_twin
theorem fp_twin : FP m_twin v_twin := by
  unfold m_twin v_twin b_twin vb_twin
  exact f_Fun (f_Seq (f_Drop (f_Call fp_check_book (f_Cons f_Var f_Nil))) (f_Seq (f_Drop (f_Call fp_check_machine (f_Cons f_Var f_Nil))) (f_Seq (f_Drop (f_Call fp_check_twin (f_Cons f_Var (f_Cons f_Var (f_Cons f_Var (f_Cons f_Var f_Nil)))))) (f_Ret (f_Call fp_twin_of (f_Cons f_Var (f_Cons f_Var (f_Cons f_Var f_Nil))))))))
end RC
end
section
namespace RR
open PySem PySem.Spec L2
open PyProof.Rows hiding St
/-- a statement that never returns: what a return would mean is nothing to it -/
def NRt (m : MS) : Prop := ∀ (E : EndsD) (R : D → Nat → Prop), m E = m { E with rt := R }
theorem nr_set {i : Nat} {me : ME} : NRt (mSet i me) := fun E R => rfl
theorem nr_drop {me : ME} : NRt (mDrop me) := fun E R => rfl
theorem nr_append {i : Nat} {me : ME} : NRt (mAppend i me) := fun E R => rfl
theorem nr_next : NRt mNext := fun E R => rfl
theorem nr_seq {t u : MS} (h : NRt t) (k : NRt u) : NRt (mSeq t u) := fun E R => by
  show t { E with nx := u E } = t { nx := u { E with rt := R }, rt := R, bk := E.bk, ct := E.ct }
  rw [h { E with nx := u E } R, k E R]
theorem nr_if {c : MT} {t u : MS} (h : NRt t) (k : NRt u) : NRt (mIfS c t u) := fun E R => by
  show (fun Γ n => c Γ n fun b n1 => if b = true then t E Γ n1 else u E Γ n1) = fun Γ n => c Γ n fun b n1 => if b = true then t { E with rt := R } Γ n1 else u { E with rt := R } Γ n1
  rw [h E R, k E R]
theorem nr_forW {g : MG} {tb : MS} (h : NRt tb) (E : EndsD) (R : D → Nat → Prop) : ∀ ds, forW g tb E ds = forW g tb { E with rt := R } ds
  | [] => rfl
  | d :: ds => by
    funext Γ n
    unfold forW
    rw [nr_forW h E R ds, h { E with nx := forW g tb { E with rt := R } ds, ct := forW g tb { E with rt := R } ds, bk := E.nx } R]
theorem nr_for {mi : MI} {g : MG} {tb : MS} (h : NRt tb) : NRt (mFor mi g tb) := fun E R => by
  show (fun Γ n => mi Γ n fun ds n1 => forW g tb E ds Γ n1) = fun Γ n => mi Γ n fun ds n1 => forW g tb { E with rt := R } ds Γ n1
  have : forW g tb E = forW g tb { E with rt := R } := funext fun ds => nr_forW h E R ds
  rw [this]
section
variable {X : Cx} {p : Pm} {O O1 Ob : List Nat} {st : Stmt} {sts : List Stmt} {t u : TS} {m mu : MS} {e : Expr} {te : TE} {me : ME} {pos : Pos} {c : Expr} {tA : TT} {mA : MT}
/-- a block that ends with a return of something new -/
def LSF (p : Pm) (O : List Nat) (t : TS) (m : MS) : Prop :=
  ∀ F0 H0 F H σ Γ n (N : DEnv → Nat → Prop) (R : D → Nat → Prop), Sep p F0 H0 O F H σ Γ n → m { nx := N, rt := R } Γ n → ∀ E' : Ends,
    (∀ d a F' H' n', Fin0 p F0 H0 F' H' n' → Own p.K F' H' d a → F' a = none → H0 a = none → R d n' → E'.rt (.ref a) H') → t E' σ H
structure RSF (X : Cx) (p : Pm) (O : List Nat) (sts : List Stmt) (t : TS) (m : MS) : Prop where
  ps : PSs X sts t
  le : LSF p O t m
theorem rsf_ret (he : RF X p O e te me) : RSF X p O [.Return (some e) pos] (tRet te) (mRet me) := ⟨pss_one (ps_ret he.pe), fun F0 H0 F H σ Γ n N R s q E' hr =>
  he.le F0 H0 F H σ Γ n _ s q _ fun d a F1 H1 n1 s1 g1 w f ha q1 => hr d a F1 H1 n1 s1.fin w f (s.h0 ha).1 q1⟩
/-- a def that leaves all as it is, and whose result is new -/
def spFr (K : PySem.W.Frag) (m : MP) : Sp := fun vs H Q _ => ∃ (F : Hp) (ds : List D) (R : D → Prop), Same F H ∧ Rps K F ds vs ∧ m ds R ∧ ∀ d a F' H', Gr F H F' H' → Own K F' H' d a → F' a = none → H a = none → R d → Q (.ref a) H'
theorem spF_fr {K : PySem.W.Frag} {m : MP} (vs : List V) (H : Hp) (Q : VK) (E : XK) (h : spF K m vs H Q E) : spFr K m vs H Q E := by
  obtain ⟨F, ds, R, s, r, q, k⟩ := h
  refine ⟨F, ds, R, s, r, q, fun d a F' H' g w f ha rd => ?_⟩
  have up : ∀ {o : HO}, H' a = some o → Gr F H (upd F' a o) H' := fun {o} e => ⟨g.f.trans (same_up f), fun b u z => by
      by_cases hb : b = a
      · subst hb; rw [upd_same] at z; cases z; exact e
      · rw [upd_ne hb] at z; exact g.fh _ _ z, g.h, fun b u z => by
      by_cases hb : b = a
      · subst hb; exact .inr ha
      · rw [upd_ne hb] at z; exact g.new b u z⟩
  cases w with
  | lst e1 e2 => exact k _ _ _ H' (up e1) (.of_lst upd_same (e2.mono (same_up f))) rd
  | dct e1 e2 e3 => exact k _ _ _ H' (up e1) (.dct (.inl upd_same) e2 fun i x d a b => (e3 i x d a b).mono (same_up f)) rd
theorem FI.plain {P : Program} {w : World} {K : PySem.W.Frag} {mg : Str → Option Value} {base : Heap} {k : Nat} {x : Str} {ps : List Str} {mf : MP} (F : FI P w K mg base k x ps (spFr K mf)) : FI P w K mg base k x ps (spF K mf) := by
  obtain ⟨f, fd, G, h⟩ := F.ex
  exact ⟨f, fd, G.imp spF_fr, h⟩
end
theorem FnG.fresh {P : Program} {w : World} {K : PySem.W.Frag} {mg : Str → Option Value} {base : Heap} {x qual : Str} {st : Stmt} {f : Addr} {fd : FuncData} {N ps : List Str} {k : Nat} {mb : MS} (F : Fun K x qual st f fd) (S : FnScope N ps (defScope st))
    (body : ∀ (cdv : Value) (A : Around) (outer : List Env) (s : Shared) (H : Hp) (E : XK), Room k (A.deeper (envOfC qual (defScope st) s.heap.objs.size f cdv)) → GB (k + 1) A →
      ∃ t, RSF (bodyCx P w K mg base N qual (defScope st) f cdv A outer s H E) ⟨K, none, 0⟩ [] (defBody st) t mb) : FnG P w K mg base (k + 1) f fd ps (spFr K (mFun N ps.length mb)) := by
  refine FnG.mk' F S (fun vs H Q E ⟨Fz, ds, R, s, r, ⟨hl, _⟩, _⟩ => r.len.trans hl) fun cdv A outer s H vs Q E hr hg ⟨Fz, ds, R, sm, r, ⟨hl, q⟩, fin⟩ => ?_
  obtain ⟨t, B⟩ := body cdv A outer s H E hr hg
  have hN : vs.length ≤ N.length := by
    rw [r.len, hl]
    have := congrArg List.length S.pre
    rw [List.length_take] at this
    omega
  refine ⟨t, B.ps, B.le Fz H Fz H _ _ 0 _ _ (sep_start sm r hN) q _ fun d a F' H' n' s' w f ha q' => ?_⟩
  exact fin d a F' H' ⟨s'.f0, s'.fh, fun b o e => s'.stay b o e (fun ⟨_, _, z, _⟩ => nomatch z), s'.newF⟩ w f ha q'
end RR
end
section
namespace RR
open PySem PySem.Spec L2
open PyProof.Rows hiding St
section
variable {X : Cx} {p : Pm} {O Ob : List Nat} {i : Nat} {o e ke value : Expr} {pos pos' cpos : Pos} {kt : Option Str} {td ty tv te tk : TE} {me mk : ME}
/-- a slot that is no longer looked at -/
theorem Sep.forget {F0 H0 F H : Hp} {σ : St} {Γ : DEnv} {n : Nat} (s : Sep p F0 H0 O F H σ Γ n) (i : Nat) : Sep p F0 H0 (O.filter (· ≠ i)) F H σ (Γ.set i none) n := by
  have gd : ∀ {j : Nat} {d : D}, (Γ.set i none)[j]? = some (some d) → j ≠ i ∧ Γ[j]? = some (some d) := fun {j d} e => by
    by_cases h : i = j
    · subst h
      rw [set_at, if_pos rfl] at e
      split at e <;> cases e
    · rw [List.getElem?_set_ne h] at e
      exact ⟨Ne.symm h, e⟩
  have of : ∀ {j : Nat}, j ∈ O.filter (· ≠ i) → j ∈ O := fun h => (List.mem_filter.mp h).1
  refine ⟨s.f0, s.fh, s.stay, s.newF, s.pen, by rw [List.length_set]; exact s.len, fun j d hj e => ?_, fun j hj d e => s.ow j (of hj) d (gd e).2, fun j hj k hk hjk a dj dk h1 h2 h3 h4 => s.dj j (of hj) k (of hk) hjk a dj dk (gd h1).2 (gd h2).2 h3 h4⟩
  obtain ⟨h1, h2⟩ := gd e
  exact s.sh j d (fun z => hj (List.mem_filter.mpr ⟨z, by simpa using h1⟩)) h2
theorem RKs.of {K : PySem.W.Frag} {F : Hp} : ∀ {ds : List (D × D)} {kvs : List (Key × V)}, ds.map (·.1) = kvs.map (fun p => keyD p.1) → (∀ (i : Nat) x d, kvs[i]? = some x → ds[i]? = some d → Rp K F d.2 x.2) → RKs K F ds kvs
  | [], [], _, _ => .nil
  | [], _ :: _, h, _ => by cases h
  | _ :: _, [], h, _ => by cases h
  | (kd, d) :: ds, (k, v) :: kvs, h, r => by
    rw [List.map_cons, List.map_cons] at h
    obtain ⟨h1, h2⟩ := List.cons.inj h
    cases (show kd = keyD k from h1)
    exact .cons (r 0 _ _ rfl rfl) (RKs.of h2 fun i x d e1 e2 => r (i + 1) x d (by simpa using e1) (by simpa using e2))
theorem set_same {α : Type} {xs : List α} {i : Nat} {x : α} (h : xs[i]? = some x) : xs.set i x = xs := by
  apply List.ext_getElem?
  intro j
  by_cases e : i = j
  · subst e
    rw [set_at, if_pos rfl, h, if_pos (List.getElem?_eq_some_iff.mp h).1]
  · rw [List.getElem?_set_ne e]
/-- what the slot's thing becomes -/
theorem Sep.rewrite {F0 H0 F H : Hp} {σ : St} {Γ : DEnv} {n : Nat} {a : Addr} {d0 d : D} {u : HO} (s : Sep p F0 H0 O F H σ Γ n) (hi : i ∈ O) (hp : p.off i) (ei : Γ[i]? = some (some d0)) (e1 : σ[i]? = some (some (.ref a))) (f : F a = none) (h0 : H0 a = none) (np : ¬ p.isPen a) (w : Own p.K F (upd H a u) d a) :
    ∃ F', Same F F' ∧ Sep p F0 H0 O F' (upd H a u) σ (Γ.set i (some d)) n := by
  have sl : ∀ j ∈ O.filter (· ≠ i), ∀ dj, (Γ.set i none)[j]? = some (some dj) → σ[j]? ≠ some (some (.ref a)) := fun j hj dj e z => by
    obtain ⟨j1, j2⟩ := List.mem_filter.mp hj
    have hji : j ≠ i := by simpa using j2
    rw [List.getElem?_set_ne (Ne.symm hji)] at e
    exact s.dj i hi j j1 (Ne.symm hji) a d0 dj ei e e1 z
  have s4 := (s.forget i).poke (o := u) f h0 np sl
  have s5 := s4.putOwn hp ⟨w, f, h0, np, sl⟩
  rw [set_same e1, List.set_set] at s5
  obtain ⟨F3, e3, s6⟩ := s5.weak (O' := O) fun j hj => by
    by_cases h : j = i
    · subst h; exact List.mem_cons_self ..
    · exact List.mem_cons_of_mem _ (List.mem_filter.mpr ⟨hj, by simpa using h⟩)
  exact ⟨F3, e3, s6⟩
end
end RR
end
section
namespace RR
open PySem PySem.Spec L2
open PyProof.Rows hiding St
open PySem.W (alike dataLt dataLe EachIs)
end RR
namespace RR
open PySem PySem.Spec L2
open PyProof.Rows hiding St
/-- what a slot holds is its own no more -/
theorem RSF.pre {X : Cx} {p : Pm} {O O2 : List Nat} {sts : List Stmt} {t : TS} {m : MS} (h : RSF X p O2 sts t m) (k : ∀ i ∈ O2, i ∈ O) : RSF X p O sts t m := ⟨h.ps, fun F0 H0 F H σ Γ n N R s q E' hr => by
  obtain ⟨F2, e2, s2⟩ := s.weak k
  exact h.le F0 H0 F2 H σ Γ n N R s2 q E' hr⟩
end RR
end
section
namespace RR
open PySem PySem.Spec L2
open PyProof.Rows hiding St
end RR
end
section
namespace RC
open PySem PySem.Spec L2 RR
open PyProof.Rows hiding St
end RC
end
section
namespace RR
open PySem PySem.Spec L2
open PyProof.Rows hiding St
section
variable {X : Cx} {p : Pm} {O Ob : List Nat} {i j : Nat} {e : Expr} {te : TE} {me : ME} {x y : Str} {q q2 pos ap : Pos}
@[reducible] def mExtend (i : Nat) (me : ME) : MS := fun E Γ n => ∃ ds, Γ[i]? = some (some (.list ds)) ∧ me Γ n fun d n1 => ∃ ys, d = .list ys ∧ ds.length + ys.length ≤ lim ∧ E.nx (Γ.set i (some (.list (ds ++ ys)))) n1
@[reducible] def mClear (i : Nat) : MS := fun E Γ n => ∃ ds, Γ[i]? = some (some (.list ds)) ∧ E.nx (Γ.set i (some (.list []))) n
theorem nr_extend : NRt (mExtend i me) := fun E R => rfl
theorem lim_le {k : Nat} (h : k ≤ lim) : k ≤ sizeLine := Nat.le_of_lt (lim_lt h)
theorem ls_extend (he : LE p O te me) (hi : i ∈ O) (hp : p.off i) : LS p Ob O O (tDrop (tBM p.K "list" rExtend (tVar i) (tCons te tNil))) (mExtend i me) := fun F0 H0 F H σ Γ n E s ⟨ds, ei, q⟩ E' hn _ _ _ => by
  obtain ⟨a, e1, w, z1, z2, z3⟩ := s.ow i hi _ ei
  cases w with
  | lst w1 w2 =>
    rename_i xs
    refine ⟨.ref a, e1, .inl ⟨rfl, xs, .of w1⟩, ?_⟩
    refine he F0 H0 F H σ Γ n _ s q _ fun d v F1 H1 n1 s1 g1 r1 ⟨ys, ed, l, q1⟩ => ?_
    subst ed
    obtain ⟨b, vs, rfl, hb, rb⟩ := r1.lst_inv
    have w1' := g1.h _ _ w1 z3
    have f1 := g1.none z1 w1 z3
    have rr := (w2.mono g1.f).append rb
    obtain ⟨F3, e3, s6⟩ := s1.rewrite (u := .lst (xs ++ vs)) (d := .list (ds ++ ys)) hi hp ei e1 f1 z2 z3 (.lst upd_same rr)
    exact ⟨a, b, xs, vs, rfl, rfl, w1', s1.fh _ _ hb, by rw [w2.len, rb.len]; exact lim_le l, hn F3 _ σ _ n1 s6 (g1.f.trans e3) q1⟩
theorem sExt (i : Nat) (hK : p.K = X.K) (hv : PE X (.Name x q) (tVar i)) (he : RE X p O e te me) (hi : i ∈ O) (hp : p.off i)
    (hbase : attributeBase (.Name x q) "extend" X.env (eval (.Name x q) X.env) = eval (.Name x q) X.env := by rfl)
    (hfew : ((backTo q2 (starEach [e] X.env)).all (fun x => !x.1) && (backToKw q2 (keywordEach [] X.env)).all (fun x => x.1.isSome) && decide ([e].length + ([] : List Keyword).length + (if ([] : List Keyword).isEmpty then 0 else 1) < 30)) = true := by rfl)
    (hline : (ap.endLine == q2.line) = true := by rfl) (h1 : starEach [e] X.env = (false, eval e X.env) :: starEach [] X.env := by rfl) (hpl : (backTo q2 (starEach [] X.env)).any (·.1) = false := by rfl)
    (hs : swapsWith (.Call (.Attribute (.Name x q) "extend" ap) [e] [] q2) none pos.line X.env = pure false := by rfl) :
    RS X p Ob O O (.Expr (.Call (.Attribute (.Name x q) "extend" ap) [e] [] q2) pos) (tDrop (tBM p.K "list" rExtend (tVar i) (tCons te tNil))) (mExtend i me) :=
  ⟨hK ▸ ps_expr (pe_bm PySem.F.plainAttrs_list PySem.F.slot_list_extend PySem.F.type_list_extend mt_extend hv (pa_cons he.pe pa_nil h1) hbase hfew hline h1 hpl) hs, ls_extend he.le hi hp⟩
theorem ls_clear (hi : i ∈ O) (hp : p.off i) : LS p Ob O O (tDrop (tBM0 p.K "list" rClear (tVar i))) (mClear i) := fun F0 H0 F H σ Γ n E s ⟨ds, ei, q⟩ E' hn _ _ _ => by
  obtain ⟨a, e1, w, z1, z2, z3⟩ := s.ow i hi _ ei
  cases w with
  | lst w1 w2 =>
    rename_i xs
    obtain ⟨F3, e3, s6⟩ := s.rewrite (u := .lst []) (d := .list []) hi hp ei e1 z1 z2 z3 (.lst upd_same .nil)
    exact ⟨.ref a, e1, .inl ⟨rfl, xs, .of w1⟩, a, xs, rfl, rfl, w1, hn F3 _ σ _ n s6 e3 q⟩
theorem sClear (i : Nat) (hK : p.K = X.K) (hv : PE X (.Name x q) (tVar i)) (hi : i ∈ O) (hp : p.off i)
    (hbase : attributeBase (.Name x q) "clear" X.env (eval (.Name x q) X.env) = eval (.Name x q) X.env := by rfl) (hline : (ap.endLine == q2.line) = true := by rfl)
    (hs : swapsWith (.Call (.Attribute (.Name x q) "clear" ap) [] [] q2) none pos.line X.env = pure false := by rfl) :
    RS X p Ob O O (.Expr (.Call (.Attribute (.Name x q) "clear" ap) [] [] q2) pos) (tDrop (tBM0 p.K "list" rClear (tVar i))) (mClear i) :=
  ⟨hK ▸ ps_expr (pe_bm0 PySem.F.plainAttrs_list PySem.F.slot_list_clear PySem.F.type_list_clear mt_clear hv hbase hline) hs, ls_clear hi hp⟩
end
end RR
end
section
namespace RR
open PySem PySem.Spec L2
open PyProof.Rows hiding St
section
variable {ma : ME} {a : VE} {i j : Nat}
def listAt (i : Nat) (Γ : DEnv) : Option (List D) := match Γ[i]? with | some (some (.list ds)) => some ds | _ => none
theorem listAt_eq {i : Nat} {Γ : DEnv} {ds : List D} (h : listAt i Γ = some ds) : Γ[i]? = some (some (.list ds)) := by
  unfold listAt at h
  split at h
  · rename_i e; cases h; exact e
  · cases h
def vExtend (i : Nat) (a : VE) : VS := fun Γ => (listAt i Γ).bind fun ds => (a Γ).bind fun d => (asL d).bind fun ys => if ds.length + ys.length ≤ lim then some (.nx (Γ.set i (some (.list (ds ++ ys))))) else none
theorem f_Extend (h : FE ma a) : FS (mExtend i ma) (vExtend i a) := fun Γ n r E e q => by
  obtain ⟨ds, h1, e⟩ := bnd e
  obtain ⟨d, h2, e⟩ := bnd e
  obtain ⟨ys, h3, e⟩ := bnd e
  obtain ⟨h4, rfl⟩ := ifs e
  exact ⟨ds, listAt_eq h1, h Γ n d _ h2 ⟨ys, asL_eq h3, h4, q⟩⟩
end
end RR
end
section
namespace RR
open PySem PySem.Spec L2
open PyProof.Rows hiding St
def spFd (K : PySem.W.Frag) (m : MP) : Sp := fun vs H Q _ => ∃ (F : Hp) (ds : List D) (R : D → Prop), Same F H ∧ Rps K F ds vs ∧ m ds R ∧
  ∀ d1 d2 v1 t b F' H', Gr F H F' H' → Rps K F' [d1, d2] [v1, .ref b] → F' t = some (.tup [v1, .ref b]) → (∀ xs, d1 = .list xs → v1 ≠ .ref b) → H t = none → R (.tuple [d1, d2]) → Q (.ref t) H'
section
variable {X : Cx} {p : Pm} {O O1 Ob : List Nat} {i j : Nat} {st : Stmt} {sts : List Stmt} {t u : TS} {m mu : MS} {e : Expr} {es : List Expr} {te : TE} {me : ME} {pos q : Pos} {ta : TA} {ma : MA} {x : Str}
def LSD (p : Pm) (O : List Nat) (t : TS) (m : MS) : Prop :=
  ∀ F0 H0 F H σ Γ n (N : DEnv → Nat → Prop) (R : D → Nat → Prop), Sep p F0 H0 O F H σ Γ n → m { nx := N, rt := R } Γ n → ∀ E' : Ends,
    (∀ d1 d2 v1 t b F' H' n', Fin0 p F0 H0 F' H' n' → Rps p.K F' [d1, d2] [v1, .ref b] → F' t = some (.tup [v1, .ref b]) → (∀ xs, d1 = .list xs → v1 ≠ .ref b) → H0 t = none → R (.tuple [d1, d2]) n' → E'.rt (.ref t) H') → t E' σ H
structure RSD (X : Cx) (p : Pm) (O : List Nat) (sts : List Stmt) (t : TS) (m : MS) : Prop where
  ps : PSs X sts t
  le : LSD p O t m
theorem rsd_cons (h1 : RS X p [] O O1 st t m) (hn : NRt m) (h2 : RSD X p O1 sts u mu) : RSD X p O (st :: sts) (tSeq t u) (mSeq m mu) := ⟨pss_cons h1.ps h2.ps, fun F0 H0 F H σ Γ n N R s q E' hr => by
  have q' : m { nx := mu { nx := N, rt := R }, rt := fun _ _ => False } Γ n := by
    rw [← hn { nx := mu { nx := N, rt := R }, rt := R } fun _ _ => False]; exact q
  exact h1.le F0 H0 F H σ Γ n _ s q' _ (fun F1 H1 σ1 Γ1 n1 s1 e1 q1 => h2.le F0 H0 F1 H1 σ1 Γ1 n1 N R s1 q1 E' hr) (fun _ _ _ _ _ _ _ z => z.elim) (fun _ _ _ _ _ _ _ z => z.elim) (fun _ _ _ _ _ _ _ z => z.elim)⟩
theorem rsd_call {k : Nat} {ps : List Str} {mf : MP} (F : FI X.prog X.w X.K X.mg X.base k x ps (spFd X.K mf)) {lv : Nat} (hr : Room k X.A) (hg : GB lv X.A) (hK : p.K = X.K) (hgl : Gl X x) (ha : RA X p O (e :: es) ta ma)
    (hdb : (x == ("__debug__" : Str)) = false := by decide) (he : starEach (e :: es) X.env = (false, eval e X.env) :: starEach es X.env := by rfl) (hpl : (backTo pos (starEach es X.env)).any (·.1) = false := by rfl) (hkm : k ≤ lv := by first | decide | omega) {pos' : Pos} :
    RSD X p O [.Return (some (.Call (.Name x q) (e :: es) [] pos)) pos'] (tRet (tCall (spFd p.K mf) [] E0 ta)) (mRet (mCall mf ma)) := by
  obtain ⟨f, fd, G, h1, h2, h3, _⟩ := F.ex
  refine ⟨pss_one (ps_ret (hK ▸ pe_callG G hr (hg.le hkm) hgl h1 h2 h3 ha.pa hdb he hpl)), fun F0 H0 F H σ Γ n N R s q E' hr => ?_⟩
  exact ha.le F0 H0 F H σ Γ n _ s q _ fun ds vs F1 H1 n1 s1 g1 r1 q1 =>
    ⟨F1, ds, _, s1.fh, by rw [List.append_nil]; exact r1, q1, fun d1 d2 v1 t b F2 H2 g2 r2 e2 z ht q2 => hr d1 d2 v1 t b F2 H2 n1 (s1.gr g2).fin r2 e2 z (s1.h0 ht).1 q2⟩
end
theorem FnG.two {P : Program} {w : World} {K : PySem.W.Frag} {mg : Str → Option Value} {base : Heap} {x qual : Str} {st : Stmt} {f : Addr} {fd : FuncData} {N ps : List Str} {k : Nat} {mb : MS} (F : Fun K x qual st f fd) (S : FnScope N ps (defScope st))
    (body : ∀ (cdv : Value) (A : Around) (outer : List Env) (s : Shared) (H : Hp) (E : XK), Room k (A.deeper (envOfC qual (defScope st) s.heap.objs.size f cdv)) → GB (k + 1) A →
      ∃ t, RSD (bodyCx P w K mg base N qual (defScope st) f cdv A outer s H E) ⟨K, none, 0⟩ [] (defBody st) t mb) : FnG P w K mg base (k + 1) f fd ps (spFd K (mFun N ps.length mb)) := by
  refine FnG.mk' F S (fun vs H Q E ⟨Fz, ds, R, s, r, ⟨hl, _⟩, _⟩ => r.len.trans hl) fun cdv A outer s H vs Q E hr hg ⟨Fz, ds, R, sm, r, ⟨hl, q⟩, fin⟩ => ?_
  obtain ⟨t, B⟩ := body cdv A outer s H E hr hg
  have hN : vs.length ≤ N.length := by
    rw [r.len, hl]
    have := congrArg List.length S.pre
    rw [List.length_take] at this
    omega
  refine ⟨t, B.ps, B.le Fz H Fz H _ _ 0 _ _ (sep_start sm r hN) q _ fun d1 d2 v1 t b F' H' n' s' r2 e2 z ht q' => ?_⟩
  exact fin d1 d2 v1 t b F' H' ⟨s'.f0, s'.fh, fun b o e => s'.stay b o e (fun ⟨_, _, z, _⟩ => nomatch z), s'.newF⟩ r2 e2 z ht q'
def tupD : D → Bool
  | .tuple xs => tupAll xs
  | .list _ => false
  | .dict _ => false
  | _ => true
where tupAll : List D → Bool
  | [] => true
  | x :: xs => tupD x && tupAll xs
/-- the tuples alone -/
def Ft (F : Hp) : Hp := fun a => match F a with
  | some (.tup xs) => some (.tup xs)
  | some (.frz o (.tup xs)) => some (.frz o (.tup xs))
  | _ => none
theorem Ft_sub {F : Hp} {a : Addr} {o : HO} (h : Ft F a = some o) : F a = some o := by
  unfold Ft at h
  split at h
  · rename_i e; cases h; exact e
  · rename_i e; cases h; exact e
  · cases h
theorem Ft_lst {F : Hp} {a : Addr} {xs : List V} : Ft F a ≠ some (.lst xs) := fun h => by
  unfold Ft at h
  split at h <;> cases h
theorem Ft_tup {K : PySem.W.Frag} {F : Hp} {a : Addr} {xs : List V} (h : SqT K F a xs) : SqT K (Ft F) a xs := by
  rcases h with (h | ⟨o, h⟩) | h
  · refine .inl (.inl ?_)
    unfold Ft; rw [h]
  · refine .inl (.inr ⟨o, ?_⟩)
    unfold Ft; rw [h]
  · exact .inr h
theorem tupAll_at : ∀ {ds : List D}, tupD.tupAll ds = true → ∀ {i : Nat} {d : D}, ds[i]? = some d → tupD d = true
  | x :: xs, h, i, d, e => by
    rw [tupD.tupAll, Bool.and_eq_true] at h
    cases i with
    | zero => cases e; exact h.1
    | succ i => exact tupAll_at h.2 e
theorem Rp.tups {K : PySem.W.Frag} {F : Hp} {d : D} {v : V} (h : Rp K F d v) : tupD d = true → Rp K (Ft F) d v := by
  induction h with
  | non => intro _; exact .non
  | bl b => intro _; exact .bl b
  | int i => intro _; exact .int i
  | str x => intro _; exact .str x
  | lst _ _ _ _ => intro z; cases z
  | dct _ _ _ _ => intro z; cases z
  | tup h1 h2 _ ih =>
    intro z
    rw [tupD] at z
    exact .tup (Ft_tup h1) h2 fun i x d e1 e2 => ih i x d e1 e2 (tupAll_at z e2)
theorem Rps.tups {K : PySem.W.Frag} {F : Hp} {ds : List D} {vs : List V} (h : Rps K F ds vs) (z : ds.all tupD = true) : Rps K (Ft F) ds vs :=
  ⟨h.len, fun i x d e1 e2 => (h.at_ i x d e1 e2).tups (List.all_eq_true.mp z d (List.mem_of_getElem? e2))⟩
section
variable {X : Cx} {p : Pm} {O Ob : List Nat} {F0 H0 F H : Hp} {σ : St} {Γ : DEnv} {n : Nat}
/-- back to what stood frozen before -/
theorem Sep.past {F' H' : Hp} {n' : Nat} (s : Sep p F0 H0 O F H σ Γ n) (hh : ∀ a o, H a = some o → ¬ p.isPen a → H' a = some o) (ff : Same F F') (hp : ∀ a i, p.ap = some (a, i) → PenAt p.dr.ad F' H' a n') (ht : p.dr.tb = []) : Sep p F0 H0 O F H' σ Γ n' := by
  have np : ∀ {a : Addr} {o : HO}, F a = some o → ¬ p.isPen a := fun e ⟨b, i, z, hb⟩ => by
    rcases hb with rfl | ⟨y, hy, _⟩
    · rw [(s.pen _ i z).1] at e; cases e
    · rw [ht] at hy; cases hy
  refine ⟨s.f0, fun a o e => hh a o (s.fh a o e) (np e), fun a o e q => hh a o (s.stay a o e q) q, s.newF, fun a i e => ?_, s.len, s.sh, fun j hj d e => ?_, s.dj⟩
  · obtain ⟨h1, h2, ⟨w0, l0, xs0, _, z0, _⟩, _⟩ := s.pen a i e
    obtain ⟨w, l, xs, y1, y2, y3⟩ := hp a i e
    have := ff _ _ z0
    rw [y2] at this
    exact ⟨h1, h2, ⟨w, l, xs, y1, z0.trans this.symm, y3⟩, ht ▸ .nil⟩
  · obtain ⟨a, e1, w, z1, z2, z3⟩ := s.ow j hj d e
    refine ⟨a, e1, ?_, z1, z2, z3⟩
    cases w with
    | lst q1 q2 => exact .lst (hh _ _ q1 z3) q2
    | dct q1 q2 q3 => exact .dct (hh _ _ q1 z3) q2 q3
/-- a slot that holds anything -/
theorem Sep.scr (s : Sep p F0 H0 O F H σ Γ n) {i : Nat} (hi : i ∉ O) (hp : p.off i) (x : Option V) : Sep p F0 H0 O F H (σ.set i x) (Γ.set i none) n := by
  have gd : ∀ {j : Nat} {d : D}, (Γ.set i none)[j]? = some (some d) → i ≠ j ∧ Γ[j]? = some (some d) := fun {j d} e => by
    by_cases h : i = j
    · subst h
      rw [set_at, if_pos rfl] at e
      split at e <;> cases e
    · rw [List.getElem?_set_ne h] at e
      exact ⟨h, e⟩
  refine ⟨s.f0, s.fh, s.stay, s.newF, fun a j e => ?_, by rw [List.length_set, List.length_set]; exact s.len, fun j d hj e => ?_, fun j hj d e => ?_, fun j hj k hk hjk a dj dk h1 h2 h3 h4 => ?_⟩
  · obtain ⟨h1, h2, h3⟩ := s.pen a j e
    exact ⟨h1, by rw [List.getElem?_set_ne (Ne.symm (hp a j e))]; exact h2, h3⟩
  · obtain ⟨h1, h2⟩ := gd e
    rw [List.getElem?_set_ne h1]
    exact s.sh j d hj h2
  · obtain ⟨h1, h2⟩ := gd e
    rw [List.getElem?_set_ne h1]
    exact s.ow j hj d h2
  · obtain ⟨z1, y1⟩ := gd h1
    obtain ⟨z2, y2⟩ := gd h2
    rw [List.getElem?_set_ne z1] at h3
    rw [List.getElem?_set_ne z2] at h4
    exact s.dj j hj k hk hjk a dj dk y1 y2 h3 h4
end
end RR
end
section
namespace RR
open PySem PySem.Spec L2
open PyProof.Rows hiding St
/-- what two that stand in one heap hold together -/
def joinF (F G : Hp) : Hp := fun a => match G a with | some o => some o | none => F a
end RR
namespace RR
open PySem PySem.Spec L2
open PyProof.Rows hiding St
section
variable {X : Cx} {p : Pm} {O Ob : List Nat} {e : Expr} {es : List Expr} {t : TA} {x : Str} {q pos : Pos}
theorem pFd {k : Nat} {ps : List Str} {mf : MP} (F : FI X.prog X.w X.K X.mg X.base k x ps (spFd X.K mf)) {lv : Nat} (hr : Room k X.A) (hg : GB lv X.A) (hK : p.K = X.K) (hgl : Gl X x) (ha : PA X (e :: es) t)
    (hdb : (x == ("__debug__" : Str)) = false := by decide) (he : starEach (e :: es) X.env = (false, eval e X.env) :: starEach es X.env := by rfl) (hpl : (backTo pos (starEach es X.env)).any (·.1) = false := by rfl) (hkm : k ≤ lv := by first | decide | omega) :
    PE X (.Call (.Name x q) (e :: es) [] pos) (tCall (spFd p.K mf) [] E0 t) := by
  obtain ⟨f, fd, G, h1, h2, h3, _⟩ := F.ex
  exact hK ▸ pe_callG G hr (hg.le hkm) hgl h1 h2 h3 ha hdb he hpl
variable {iT iD iU : Nat} {te1 te3 : TE} {m1 m3 : ME} {mf : MP} {ta : TA} {ma : MA} {tT tT5 : TT} {mT mT5 : MT} {xT xD xU : Str} {e1 eC e3 c3 c5 i0 i1 : Expr} {p1 p2 p3 p4 p5 p6 p7 p8 p9 p10 p11 p12 p13 p14 p15 p16 p17 p18 p19 p20 p21 p22 p23 : Pos} {kt k2 : Nat} {j1 j2 j3 j4 j5 j6 : Option Str}
end
end RR
namespace RR
open PySem PySem.Spec L2
open PyProof.Rows hiding St
end RR
end
section
namespace RC
open PySem PySem.Spec L2 RR
open PyProof.Rows hiding St
def b__law_chain : MS := (mSeq (mPar [2, 3] (mCons (mCall m__law_jumps (mCons (mVar 0) mNil)) (mCons (mLst mNil) mNil))) (mSeq (mWhile (mTest (mOp dNe (mCall m__law_misfits (mCons (mVar 0) (mCons (mVar 1) (mCons (mVar 2) mNil)))) (mLst mNil))) (mSeq (mAppend 3 (mOp dIx (mCall m__law_misfits (mCons (mVar 0) (mCons (mVar 1) (mCons (mVar 2) mNil)))) (mC (.int 0)))) (mSet 2 (mLookL (mLc (mISeq (mVar 2)) (mgName 4) (mTest (mOp dNe (mVar 4) (mOp dIx (mVar 3) (mUn dNeg (mC (.int 1)))))) (mVar 4) [4]))))) (mRet (mVar 3))))
def m__law_chain : MP := mFun ["part", "machine", "forms", "chain", "row"] 2 b__law_chain
def vb__law_chain : VS := (vSeqS (vPar [2, 3] (vCons (vCall v__law_jumps (vCons (vVar 0) vNil)) (vCons (vLst vNil) vNil))) (vSeqS (vWhile (vTest (vOp dNe (vCall v__law_misfits (vCons (vVar 0) (vCons (vVar 1) (vCons (vVar 2) vNil)))) (vLst vNil))) (vSeqS (vAppend 3 (vOp dIx (vCall v__law_misfits (vCons (vVar 0) (vCons (vVar 1) (vCons (vVar 2) vNil)))) (vC (.int 0)))) (vSet 2 (vLookL (vLc (vISeq (vVar 2)) (vgName 4) (vTest (vOp dNe (vVar 4) (vOp dIx (vVar 3) (vUn dNeg (vC (.int 1)))))) (vVar 4) [4]))))) (vRet (vVar 3))))
def v__law_chain : VP := vFun ["part", "machine", "forms", "chain", "row"] 2 vb__law_chain
theorem fp__law_chain : FP m__law_chain v__law_chain := by
  unfold m__law_chain v__law_chain b__law_chain vb__law_chain
  exact f_Fun (f_Seq (f_Par (f_Cons (f_Call fp__law_jumps (f_Cons f_Var f_Nil)) (f_Cons (f_Lst f_Nil) f_Nil))) (f_Seq (f_While (f_Test (f_Op (f_Call fp__law_misfits (f_Cons f_Var (f_Cons f_Var (f_Cons f_Var f_Nil)))) (f_Lst f_Nil))) (f_Seq (f_Append (f_Op (f_Call fp__law_misfits (f_Cons f_Var (f_Cons f_Var (f_Cons f_Var f_Nil)))) f_C)) (f_Set (f_LookL (f_Lc (f_ISeq f_Var) f_gName (f_Test (f_Op f_Var (f_Op f_Var (f_Un f_C)))) f_Var))))) (f_Ret f_Var)))
def b__law_greatest : MS := (mSeq (mPar [2, 3] (mCons (mLst (mCons (mLst mNil) mNil)) (mCons (mLst mNil) mNil))) (mSeq (mFor (mISeq (mCall m__law_jumps (mCons (mVar 0) mNil))) (mgName 4) (mSet 2 (mOp dAdd (mVar 2) (mLc (mISeq (mVar 2)) (mgName 5) mYes (mOp dAdd (mVar 5) (mLst (mCons (mVar 4) mNil))) [5])))) (mSeq (mFor (mISeq (mVar 2)) (mgName 6) (mIfS (mTest (mOp dEq (mCall m__law_misfits (mCons (mVar 0) (mCons (mVar 1) (mCons (mVar 6) mNil)))) (mLst mNil))) (mSet 3 (mOp dAdd (mVar 3) (mLc (mISeq (mVar 6)) (mgName 4) (mTest (mOp dNotIn (mVar 4) (mVar 3))) (mVar 4) [4]))) mNext)) (mRet (mCl cSorted (mCons (mVar 3) mNil))))))
def m__law_greatest : MP := mFun ["part", "machine", "lists", "found", "row", "some", "forms"] 2 b__law_greatest
def vb__law_greatest : VS := (vSeqS (vPar [2, 3] (vCons (vLst (vCons (vLst vNil) vNil)) (vCons (vLst vNil) vNil))) (vSeqS (vFor (vISeq (vCall v__law_jumps (vCons (vVar 0) vNil))) (vgName 4) (vSet 2 (vOp dAdd (vVar 2) (vLc (vISeq (vVar 2)) (vgName 5) vYes (vOp dAdd (vVar 5) (vLst (vCons (vVar 4) vNil))) [5])))) (vSeqS (vFor (vISeq (vVar 2)) (vgName 6) (vIfS (vTest (vOp dEq (vCall v__law_misfits (vCons (vVar 0) (vCons (vVar 1) (vCons (vVar 6) vNil)))) (vLst vNil))) (vSet 3 (vOp dAdd (vVar 3) (vLc (vISeq (vVar 6)) (vgName 4) (vTest (vOp dNotIn (vVar 4) (vVar 3))) (vVar 4) [4]))) vNext)) (vRet (vCl cSorted (vCons (vVar 3) vNil))))))
def v__law_greatest : VP := vFun ["part", "machine", "lists", "found", "row", "some", "forms"] 2 vb__law_greatest
theorem fp__law_greatest : FP m__law_greatest v__law_greatest := by
  unfold m__law_greatest v__law_greatest b__law_greatest vb__law_greatest
  exact f_Fun (f_Seq (f_Par (f_Cons (f_Lst (f_Cons (f_Lst f_Nil) f_Nil)) (f_Cons (f_Lst f_Nil) f_Nil))) (f_Seq (f_For (f_ISeq (f_Call fp__law_jumps (f_Cons f_Var f_Nil))) f_gName (f_Set (f_Op f_Var (f_Lc (f_ISeq f_Var) f_gName f_Yes (f_Op f_Var (f_Lst (f_Cons f_Var f_Nil))))))) (f_Seq (f_For (f_ISeq f_Var) f_gName (f_IfS (f_Test (f_Op (f_Call fp__law_misfits (f_Cons f_Var (f_Cons f_Var (f_Cons f_Var f_Nil)))) (f_Lst f_Nil))) (f_Set (f_Op f_Var (f_Lc (f_ISeq f_Var) f_gName (f_Test (f_Op f_Var f_Var)) f_Var))) f_Next)) (f_Ret (f_Cl (f_Cons f_Var f_Nil))))))
end RC
end
section
namespace RR
open PySem PySem.Spec L2
open PyProof.Rows hiding St
end RR
end
section
namespace RR
open PySem PySem.Spec L2
open PyProof.Rows hiding St
def dropD (ds : List (D × D)) (k : Key) : List (D × D) := ds.filter fun q => decide (keyOf q.1 ≠ some k)
theorem RKs.drop {K : PySem.W.Frag} {F : Hp} {ds : List (D × D)} {kvs : List (Key × V)} (h : RKs K F ds kvs) (k : Key) : RKs K F (dropD ds k) (dropK kvs k) := by
  induction h with
  | nil => exact .nil
  | @cons k' d v ds kvs r _ ih =>
    unfold dropD dropK at ih ⊢
    rw [List.filter_cons, List.filter_cons]
    by_cases e : k' = k
    · rw [if_neg (by show ¬ decide (keyOf (keyD k') ≠ some k) = true; rw [keyOf_D, e]; simp), if_neg (by show ¬ decide (k' ≠ k) = true; rw [e]; simp)]
      exact ih
    · rw [if_pos (by show decide (keyOf (keyD k') ≠ some k) = true; rw [keyOf_D]; exact decide_eq_true fun z => e (Option.some.inj z)), if_pos (by show decide (k' ≠ k) = true; exact decide_eq_true e)]
      exact .cons r ih
end RR
end
section
namespace RR
open PySem PySem.Spec L2
open PyProof.Rows hiding St
end RR
end
section
namespace RR
open PySem PySem.Spec L2
open PyProof.Rows hiding St
end RR
end
section
namespace RR
open PySem PySem.Spec L2
open PyProof.Rows hiding St
end RR
end
section
namespace RR
open PySem PySem.Spec L2
open PyProof.Rows hiding St
end RR
end
section
namespace RR
open PySem PySem.Spec L2
open PyProof.Rows hiding St
open PySem.W (alike dataLt)
variable {K : PySem.W.Frag} {X : Cx}
def notNon : D → Bool
  | .none => false
  | _ => true
def dLtA : D → D → Option D := fun x y => if alike x y = true ∧ notNon x = true ∧ x.canLay0 = true ∧ y.canLay0 = true ∧ x.depth ≤ 60 then some (.bool (dataLt x y)) else none
def rLtD (K : PySem.W.Frag) : R2 := fun x y H Q => ∃ d e, Dp K H x d ∧ Dp K H y e ∧ alike d e = true ∧ notNon d = true ∧ d.depth ≤ 60 ∧ Q (.bl (dataLt d e)) H
theorem op_ltD (hu : X.A.units + 64 < cLine) : OpR X (compareOp .Lt) (rLtD X.K) := by
  intro pins s σ H x y v u Q I rx ry h
  obtain ⟨d, e, hd, he, ha, hn, hp, q⟩ := h
  obtain ⟨as, r1⟩ := Dp.reads I d x v hd rx
  obtain ⟨bs, r2⟩ := Dp.reads I e y u he ry
  exact PySem.W.lt_data r1 r2 ha (fun z => by rw [z] at hn; cases hn) (by omega) ⟨.bl _, H, I, rfl, q⟩
theorem oLtD (hK : K = X.K) (hu : X.A.units + 64 < cLine) : OpR X (compareOp .Lt) (rLtD K) := hK ▸ op_ltD hu
theorem l_ltD : OpL K (rLtD K) dLtA := fun F H x y dx dy d s rx ry fe Q' k => by
  unfold dLtA at fe
  split at fe
  · rename_i h
    cases fe
    exact ⟨dx, dy, Rp.dp _ _ h.2.2.1 (rx.mono s), Rp.dp _ _ h.2.2.2.1 (ry.mono s), h.1, h.2.1, h.2.2.2.2, k _ F H (.refl s) (.bl _)⟩
  · cases fe
end RR
end
section
namespace RR
open PySem PySem.Spec L2
open PyProof.Rows hiding St
section
variable {X : Cx} {K : PySem.W.Frag}
def cReprX : List D → Option D
  | [d] => if repOkD d = true then some (.str (PyData.shown d)) else none
  | _ => none
def rReprX (K : PySem.W.Frag) : List V → Hp → VK → Prop := fun xs H Q => ∃ (v : V) (d : D), xs = [v] ∧ Rp K H d v ∧ repOkD d = true ∧ Q (.str d.shown) H
theorem call_reprX (hs : ∃ mm, X.base.Ns sysModules mm) (hg : X.A.guards = some []) (hu : X.A.units + 66 < cLine) : CallR X (.builtin "repr") (rReprX X.K) := fun pins s σ H xs us Q I r h => by
  obtain ⟨v, d, rfl, hd, ok, q⟩ := h
  have ref : ∀ a, v = .ref a → d ≠ .none → _ := fun a e _ => by
    subst e
    exact call_reprD hs hg hu pins s σ H [.ref a] us Q I r ⟨a, d, rfl, hd, ok, q⟩
  obtain ⟨u, rfl, ru⟩ := r.one
  have ok0 := ok
  simp only [repOkD, Bool.and_eq_true, decide_eq_true_eq] at ok
  obtain ⟨⟨c2, c3⟩, c4⟩ := ok
  cases hd with
  | non =>
    cases ru
    refine PySem.P.repr_of_none ⟨.str "None", H, I.tok _, ⟨s.toks, rfl⟩, ?_⟩
    simpa only [PyData.shown] using q
  | bl b =>
    cases ru
    refine PySem.P.repr_of_bool ⟨.str (if b then "True" else "False"), H, I.tok _, ⟨s.toks, ?_⟩, ?_⟩
    · cases b <;> rfl
    · cases b <;> simpa only [PyData.shown] using q
  | int i =>
    obtain ⟨t, rfl⟩ := ru
    refine PySem.P.repr_of_int (by simpa [PyData.showable] using c2) ⟨.str (toString i), H, I.tok _, ⟨s.toks, rfl⟩, ?_⟩
    simpa only [PyData.shown] using q
  | str x =>
    obtain ⟨t, rfl⟩ := ru
    refine PySem.P.repr_of_str ⟨.str (reprText x), H, I.tok _, ⟨s.toks, rfl⟩, ?_⟩ ?_
    · simpa only [PyData.shown] using q
    · simpa only [PyData.shown] using c4
  | lst h1 h2 h3 => exact ref _ rfl (fun z => nomatch z)
  | tup h1 h2 h3 => exact ref _ rfl (fun z => nomatch z)
  | dct h1 h2 h3 => exact ref _ rfl (fun z => nomatch z)
theorem l_reprX : ClL K (rReprX K) cReprX := fun F H xs ds d s r fe Q' k => by
  unfold cReprX at fe
  split at fe
  · obtain ⟨ok, rfl⟩ := ifs' fe
    obtain ⟨v, w, rfl, r1, r2⟩ := r.uncons
    cases r2.unnil
    exact ⟨v, _, rfl, r1.mono s, ok, k _ F H (.refl s) (.str _)⟩
  · cases fe
theorem fnReprX (hs : ∃ mm, X.base.Ns sysModules mm) (hK : K = X.K) (hg : X.A.guards = some []) (hu : X.A.units + 66 < cLine) : CallR X (.builtin "repr") (rReprX K) := hK ▸ call_reprX hs hg hu
end
end RR
end
section
namespace RC
open PySem PySem.Spec L2 RR
open PyProof.Rows hiding St
def b__law_spread_v3 : MS := (mSeq (mIfS (mTest (mOp dGe (mVar 0) (mOp dPow (mC (.int 10)) (mC (.int 18))))) (mRet (mVar 0)) mNext) (mSeq (mSet 2 (mLst (mCons (mC (.int 2147483629)) (mCons (mC (.int 2147483587)) (mCons (mC (.int 2147483579)) (mCons (mC (.int 2147483563)) (mCons (mC (.int 2147483549)) (mCons (mC (.int 2147483543)) (mCons (mC (.int 2147483497)) (mCons (mC (.int 2147483489)) mNil)))))))))) (mSeq (mSet 2 (mOp dAdd (mVar 2) (mLst (mCons (mC (.int 2147483477)) (mCons (mC (.int 2147483423)) (mCons (mC (.int 2147483399)) (mCons (mC (.int 2147483353)) (mCons (mC (.int 2147483323)) mNil)))))))) (mSeq (mSet 3 (mOp dMul (mOp dMod (mCl cInt (mCons (mVar 0) mNil)) (mC (.int 1000000007))) (mOp dAdd (mOp dMul (mC (.int 2)) (mVar 1)) (mC (.int 69069))))) (mSeq (mSet 3 (mOp dMod (mCl cInt (mCons (mOp dPow (mOp dAdd (mOp dAdd (mVar 3) (mOp dMul (mVar 1) (mC (.int 40503)))) (mC (.int 977))) (mC (.int 3))) mNil)) (mOp dIx (mVar 2) (mOp dMod (mCl cInt (mCons (mVar 1) mNil)) (mC (.int 13)))))) (mSeq (mSet 4 (mOp dMod (mCl cInt (mCons (mOp dPow (mOp dAdd (mOp dAdd (mOp dMul (mVar 3) (mOp dAdd (mVar 1) (mC (.int 3)))) (mOp dMod (mCl cInt (mCons (mVar 0) mNil)) (mC (.int 65537)))) (mC (.int 5))) (mC (.int 5))) mNil)) (mOp dIx (mVar 2) (mOp dMod (mCl cInt (mCons (mOp dAdd (mVar 1) (mC (.int 5))) mNil)) (mC (.int 13)))))) (mSeq (mSet 5 (mOp dMod (mCl cInt (mCons (mOp dPow (mOp dAdd (mOp dAdd (mVar 4) (mOp dMod (mCl cInt (mCons (mVar 3) mNil)) (mC (.int 1009)))) (mVar 1)) (mC (.int 3))) mNil)) (mOp dIx (mVar 2) (mOp dMod (mCl cInt (mCons (mOp dAdd (mVar 1) (mC (.int 7))) mNil)) (mC (.int 13)))))) (mRet (mOp dAdd (mOp dMul (mOp dAdd (mOp dMul (mVar 3) (mC (.int 2147483647))) (mVar 4)) (mC (.int 2147483647))) (mVar 5))))))))))
def m__law_spread_v3 : MP := mFun ["cell", "k", "primes", "one", "two", "three"] 2 b__law_spread_v3
local macro_rules | `(tactic| walk_at "st") => `(tactic| first
  | refine ⟨_, rfl, ?_⟩
  | refine ⟨rfl, ?_⟩
  | refine ⟨by decide, ?_⟩)
theorem spread_ok_law_spread_v3 : SpreadOk m__law_spread_v3 := by
  intro c w R h0 h1 q
  obtain ⟨p1, e1, a1, b1⟩ := primes_at (w % 13) (Int.emod_nonneg _ (by decide)) (Int.emod_lt_of_pos _ (by decide))
  obtain ⟨p2, e2, a2, b2⟩ := primes_at ((w + 5) % 13) (Int.emod_nonneg _ (by decide)) (Int.emod_lt_of_pos _ (by decide))
  obtain ⟨p3, e3, a3, b3⟩ := primes_at ((w + 7) % 13) (Int.emod_nonneg _ (by decide)) (Int.emod_lt_of_pos _ (by decide))
  unfold m__law_spread_v3 b__law_spread_v3
  have hx0 : 0 ≤ c % 1000000007 := Int.emod_nonneg _ (by decide)
  have hx1 : c % 1000000007 < 1000000007 := Int.emod_lt_of_pos _ (by decide)
  have hy0 : 0 ≤ c % 65537 := Int.emod_nonneg _ (by decide)
  have hy1 : c % 65537 < 65537 := Int.emod_lt_of_pos _ (by decide)
  have m1 := mulb hx0 (show c % 1000000007 ≤ 1000000007 by omega) (show 0 ≤ 2 * w + 69069 by omega) (show 2 * w + 69069 ≤ 3000000 by omega)
  repeat walk_at "st"
  refine iteB (fun h => ?_) (fun h => ?_)
  · repeat walk_at "st"
    exact q c (Int.le_trans (by decide) h)
  · repeat walk_at "st"
    refine ⟨_, if_some (.inl ⟨by omega, by omega⟩), ?_⟩
    repeat walk_at "st"
    generalize c % 1000000007 * (2 * w + 69069) = z at m1 ⊢
    refine ⟨_, if_some (.inr ⟨by decide, by decide⟩), ?_⟩
    repeat walk_at "st"
    refine ⟨_, if_some ⟨by decide, by decide, by omega⟩, ?_⟩
    repeat walk_at "st"
    refine ⟨_, e1, ?_⟩
    refine ⟨_, if_some a1, ?_⟩
    repeat walk_at "st"
    have hu0 : 0 ≤ (z + w * 40503 + 977) ^ (3 : Int).toNat % p1 := Int.emod_nonneg _ (by omega)
    have hu1 : (z + w * 40503 + 977) ^ (3 : Int).toNat % p1 < p1 := Int.emod_lt_of_pos _ a1
    generalize (z + w * 40503 + 977) ^ (3 : Int).toNat % p1 = u at hu0 hu1 ⊢
    refine ⟨_, if_some (.inl ⟨by omega, by omega⟩), ?_⟩
    repeat walk_at "st"
    have m2 := mulb hu0 (show u ≤ 2147483648 by omega) (show 0 ≤ w + 3 by omega) (show w + 3 ≤ 1048579 by omega)
    generalize u * (w + 3) = z2 at m2 ⊢
    refine ⟨_, if_some ⟨by decide, by decide, by omega⟩, ?_⟩
    repeat walk_at "st"
    refine ⟨_, e2, ?_⟩
    refine ⟨_, if_some a2, ?_⟩
    repeat walk_at "st"
    generalize hv : (z2 + c % 65537 + 5) ^ (5 : Int).toNat % p2 = v
    have hv0 : 0 ≤ v := by rw [← hv]; exact Int.emod_nonneg _ (by omega)
    have hv1 : v < p2 := by rw [← hv]; exact Int.emod_lt_of_pos _ a2
    have hr0 : 0 ≤ u % 1009 := Int.emod_nonneg _ (by decide)
    have hr1 : u % 1009 < 1009 := Int.emod_lt_of_pos _ (by decide)
    refine ⟨_, if_some ⟨by decide, by decide, by omega⟩, ?_⟩
    repeat walk_at "st"
    refine ⟨_, e3, ?_⟩
    refine ⟨_, if_some a3, ?_⟩
    repeat walk_at "st"
    refine ⟨_, if_some (.inr ⟨by decide, by decide⟩), ?_⟩
    repeat walk_at "st"
    refine ⟨_, if_some (.inr ⟨by decide, by decide⟩), ?_⟩
    repeat walk_at "st"
    have ht0 : 0 ≤ (v + u % 1009 + w) ^ (3 : Int).toNat % p3 := Int.emod_nonneg _ (by omega)
    exact q _ (by omega)
abbrev m__law_take_v3 : MF := m_take
def b__law_one_of_v2 : MS := (mRet (mOp dIx (mVar 1) (mCallP m__law_take_v3 (mCons (mCl cLen (mCons (mVar 1) mNil)) mNil))))
def m__law_one_of_v2 : MF := mFunP ["pen", "some"] 1 b__law_one_of_v2
def b__law_any_words : MS := (mSeq (mSet 3 (mLst mNil)) (mSeq (mFor (mIR1 (mCons (mVar 2) mNil)) (mgName 4) (mSeq (mSet 5 (mLook (mOrV (mOp dEq (mVar 4) (mC (.int 0))) (mOp dIn (mOp dIx (mVar 3) (mUn dNeg (mC (.int 1)))) (mTup (mCons (mC (.str "plain")) (mCons (mC (.str "branch")) (mCons (mC (.str "load")) (mCons (mC (.str "align")) mNil))))))))) (mSeq (mSet 6 (mOp dAdd (mLst (mCons (mC (.str "stop")) (mCons (mC (.str "jump")) (mCons (mC (.str "jump")) (mCons (mC (.str "far")) mNil))))) (mIf (mTru (mVar 5)) (mLst mNil) (mLst (mCons (mC (.str "word")) (mCons (mC (.str "word")) mNil)))))) (mSeq (mIfS (mTest (mOp dLt (mVar 4) (mOp dSub (mVar 2) (mC (.int 1))))) (mSeq (mSet 6 (mOp dAdd (mVar 6) (mLst (mCons (mC (.str "plain")) (mCons (mC (.str "plain")) (mCons (mC (.str "branch")) (mCons (mC (.str "branch")) (mCons (mC (.str "load")) (mCons (mC (.str "load")) mNil))))))))) (mSet 6 (mOp dAdd (mVar 6) (mIf (mTest (mOp dGt (mVar 1) (mC (.int 0)))) (mOp dMul (mLst (mCons (mC (.str "align")) mNil)) (mC (.int 3))) (mLst mNil))))) mNext) (mSeq (mSet 7 (mCallP m__law_one_of_v2 (mCons (mVar 6) mNil))) (mSeq (mSet 8 (mLook (mOp dAdd (mCnt (mVar 3) (mC (.str "jump"))) (mCnt (mVar 3) (mC (.str "branch")))))) (mSeq (mIfS (mAnd (mTest (mOp dIn (mVar 7) (mTup (mCons (mC (.str "jump")) (mCons (mC (.str "branch")) mNil))))) (mTest (mChain dGe dGt (mVar 8) (mVar 1) (mC (.int 0))))) (mSet 7 (mIf (mTest (mOp dEq (mVar 7) (mC (.str "jump")))) (mC (.str "stop")) (mC (.str "plain")))) mNext) (mAppend 3 (mVar 7))))))))) (mRet (mVar 3))))
def m__law_any_words : MF := mFunP ["pen", "bends", "many", "found", "k", "goes", "some", "one", "many_jumps"] 2 b__law_any_words
def b__law_any_part : MS := (mSeq (mSet 4 (mCallP m__law_any_words (mCons (mVar 2) (mCons (mOp dAdd (mC (.int 1)) (mCallP m__law_take_v3 (mCons (mVar 3) mNil))) mNil)))) (mSeq (mPar [5, 6] (mCons (mLc (mIEn (mCons (mVar 4) mNil)) (mgTup 2 (mgCons (mgName 7) (mgCons (mgName 8) mgNil))) (mTest (mOp dNe (mVar 8) (mC (.str "word")))) (mVar 7) [7, 8]) (mCons (mLst mNil) mNil))) (mSeq (mFor (mISeq (mVar 4)) (mgName 8) (mIfS (mTest (mOp dEq (mVar 8) (mC (.str "plain")))) (mAppend 6 (mTup (mCons (mVar 8) (mCons (mOp dAdd (mC (.int 1)) (mCallP m__law_take_v3 (mCons (mC (.int 9)) mNil))) (mCons (mCallP m__law_take_v3 (mCons (mC (.int 4)) mNil)) mNil))))) (mIfS (mTest (mOp dIn (mVar 8) (mTup (mCons (mC (.str "jump")) (mCons (mC (.str "branch")) mNil))))) (mAppend 6 (mTup (mCons (mVar 8) (mCons (mCallP m__law_one_of_v2 (mCons (mVar 5) mNil)) mNil)))) (mIfS (mTest (mOp dEq (mVar 8) (mC (.str "align")))) (mAppend 6 (mTup (mCons (mVar 8) (mCons (mCallP m__law_one_of_v2 (mCons (mLst (mCons (mC (.int 2)) (mCons (mC (.int 4)) (mCons (mC (.int 8)) (mCons (mC (.int 16)) mNil))))) mNil)) mNil)))) (mIfS (mTest (mOp dEq (mVar 8) (mC (.str "stop")))) (mAppend 6 (mTup (mCons (mVar 8) (mCons (mOp dAdd (mC (.int 1)) (mCallP m__law_take_v3 (mCons (mC (.int 6)) mNil))) mNil)))) (mAppend 6 (mTup (mCons (mVar 8) (mCons (mCallP m__law_take_v3 (mCons (mIf (mTest (mOp dEq (mVar 8) (mC (.str "far")))) (mVar 1) (mC (.int 3))) mNil)) mNil))))))))) (mRet (mCl cTuple (mCons (mVar 6) mNil))))))
def m__law_any_part : MF := mFunP ["pen", "many", "bends", "most", "words", "goals", "rows", "k", "one"] 3 b__law_any_part
def b__law_jumps_v2 : MS := (mRet (mLc (mIEn (mCons (mVar 0) mNil)) (mgTup 2 (mgCons (mgName 1) (mgCons (mgName 2) mgNil))) (mTest (mOp dIn (mOp dIx (mVar 2) (mC (.int 0))) (mTup (mCons (mC (.str "jump")) (mCons (mC (.str "branch")) mNil))))) (mVar 1) [1, 2]))
def m__law_jumps_v2 : MP := mFun ["part", "k", "row"] 1 b__law_jumps_v2
def vb__law_jumps_v2 : VS := (vRet (vLc (vIEn (vCons (vVar 0) vNil)) (vgTup 2 (vgCons (vgName 1) (vgCons (vgName 2) vgNil))) (vTest (vOp dIn (vOp dIx (vVar 2) (vC (.int 0))) (vTup (vCons (vC (.str "jump")) (vCons (vC (.str "branch")) vNil))))) (vVar 1) [1, 2]))
def v__law_jumps_v2 : VP := vFun ["part", "k", "row"] 1 vb__law_jumps_v2
theorem fp__law_jumps_v2 : FP m__law_jumps_v2 v__law_jumps_v2 := by
  unfold m__law_jumps_v2 v__law_jumps_v2 b__law_jumps_v2 vb__law_jumps_v2
  exact f_Fun (f_Ret (f_Lc (f_IEn (f_Cons f_Var f_Nil)) (f_gTup (f_gCons f_gName (f_gCons f_gName f_gNil))) (f_Test (f_Op (f_Op f_Var f_C) (f_Tup (f_Cons f_C (f_Cons f_C f_Nil))))) f_Var))
def b__law_places_v2 : MS := (mSeq (mSet 3 (mLst (mCons (mC (.int 0)) mNil))) (mSeq (mFor (mIEn (mCons (mVar 0) mNil)) (mgTup 2 (mgCons (mgName 4) (mgCons (mgName 5) mgNil))) (mSeq (mPar [6, 7] (mCons (mLook (mOp dIx (mVar 3) (mUn dNeg (mC (.int 1))))) (mCons (mOp dIx (mVar 5) (mC (.int 1))) mNil))) (mSeq (mIfS (mTest (mOp dIn (mOp dIx (mVar 5) (mC (.int 0))) (mTup (mCons (mC (.str "jump")) (mCons (mC (.str "branch")) mNil))))) (mSet 7 (mIf (mTest (mOp dIn (mVar 4) (mVar 2))) (mOp dIx (mVar 1) (mC (.int 0))) (mOp dIx (mVar 1) (mC (.int 2))))) (mIfS (mTest (mOp dEq (mOp dIx (mVar 5) (mC (.int 0))) (mC (.str "align")))) (mSet 7 (mOp dMod (mCl cInt (mCons (mOp dSub (mOp dIx (mVar 5) (mC (.int 1))) (mOp dMod (mCl cInt (mCons (mVar 6) mNil)) (mOp dIx (mVar 5) (mC (.int 1))))) mNil)) (mOp dIx (mVar 5) (mC (.int 1))))) (mIfS (mTest (mOp dIn (mOp dIx (mVar 5) (mC (.int 0))) (mTup (mCons (mC (.str "far")) (mCons (mC (.str "load")) (mCons (mC (.str "word")) mNil)))))) (mSet 7 (mOp dIx (mDisp (mpCons (mC (.str "far")) (mOp dIx (mVar 1) (mC (.int 3))) (mpCons (mC (.str "load")) (mOp dIx (mVar 1) (mC (.int 5))) (mpCons (mC (.str "word")) (mOp dIx (mVar 1) (mC (.int 7))) mpNil)))) (mOp dIx (mVar 5) (mC (.int 0))))) mNext))) (mAppend 3 (mOp dAdd (mVar 6) (mVar 7)))))) (mRet (mVar 3))))
def m__law_places_v2 : MP := mFun ["part", "machine", "forms", "found", "k", "row", "at", "size"] 3 b__law_places_v2
def vb__law_places_v2 : VS := (vSeqS (vSet 3 (vLst (vCons (vC (.int 0)) vNil))) (vSeqS (vFor (vIEn (vCons (vVar 0) vNil)) (vgTup 2 (vgCons (vgName 4) (vgCons (vgName 5) vgNil))) (vSeqS (vPar [6, 7] (vCons (vLook (vOp dIx (vVar 3) (vUn dNeg (vC (.int 1))))) (vCons (vOp dIx (vVar 5) (vC (.int 1))) vNil))) (vSeqS (vIfS (vTest (vOp dIn (vOp dIx (vVar 5) (vC (.int 0))) (vTup (vCons (vC (.str "jump")) (vCons (vC (.str "branch")) vNil))))) (vSet 7 (vIf (vTest (vOp dIn (vVar 4) (vVar 2))) (vOp dIx (vVar 1) (vC (.int 0))) (vOp dIx (vVar 1) (vC (.int 2))))) (vIfS (vTest (vOp dEq (vOp dIx (vVar 5) (vC (.int 0))) (vC (.str "align")))) (vSet 7 (vOp dMod (vCl cInt (vCons (vOp dSub (vOp dIx (vVar 5) (vC (.int 1))) (vOp dMod (vCl cInt (vCons (vVar 6) vNil)) (vOp dIx (vVar 5) (vC (.int 1))))) vNil)) (vOp dIx (vVar 5) (vC (.int 1))))) (vIfS (vTest (vOp dIn (vOp dIx (vVar 5) (vC (.int 0))) (vTup (vCons (vC (.str "far")) (vCons (vC (.str "load")) (vCons (vC (.str "word")) vNil)))))) (vSet 7 (vOp dIx (vDisp (vpCons (vC (.str "far")) (vOp dIx (vVar 1) (vC (.int 3))) (vpCons (vC (.str "load")) (vOp dIx (vVar 1) (vC (.int 5))) (vpCons (vC (.str "word")) (vOp dIx (vVar 1) (vC (.int 7))) vpNil)))) (vOp dIx (vVar 5) (vC (.int 0))))) vNext))) (vAppend 3 (vOp dAdd (vVar 6) (vVar 7)))))) (vRet (vVar 3))))
def v__law_places_v2 : VP := vFun ["part", "machine", "forms", "found", "k", "row", "at", "size"] 3 vb__law_places_v2
theorem fp__law_places_v2 : FP m__law_places_v2 v__law_places_v2 := by
  unfold m__law_places_v2 v__law_places_v2 b__law_places_v2 vb__law_places_v2
  exact f_Fun (f_Seq (f_Set (f_Lst (f_Cons f_C f_Nil))) (f_Seq (f_For (f_IEn (f_Cons f_Var f_Nil)) (f_gTup (f_gCons f_gName (f_gCons f_gName f_gNil))) (f_Seq (f_Par (f_Cons (f_Look (f_Op f_Var (f_Un f_C))) (f_Cons (f_Op f_Var f_C) f_Nil))) (f_Seq (f_IfS (f_Test (f_Op (f_Op f_Var f_C) (f_Tup (f_Cons f_C (f_Cons f_C f_Nil))))) (f_Set (f_If (f_Test (f_Op f_Var f_Var)) (f_Op f_Var f_C) (f_Op f_Var f_C))) (f_IfS (f_Test (f_Op (f_Op f_Var f_C) f_C)) (f_Set (f_Op (f_Cl (f_Cons (f_Op (f_Op f_Var f_C) (f_Op (f_Cl (f_Cons f_Var f_Nil)) (f_Op f_Var f_C))) f_Nil)) (f_Op f_Var f_C))) (f_IfS (f_Test (f_Op (f_Op f_Var f_C) (f_Tup (f_Cons f_C (f_Cons f_C (f_Cons f_C f_Nil)))))) (f_Set (f_Op (f_Disp (f_pCons f_C (f_Op f_Var f_C) (f_pCons f_C (f_Op f_Var f_C) (f_pCons f_C (f_Op f_Var f_C) f_pNil)))) (f_Op f_Var f_C))) f_Next))) (f_Append (f_Op f_Var f_Var))))) (f_Ret f_Var)))
def b__law_misfits_v2 : MS := (mSeq (mSet 3 (mCall m__law_places_v2 (mCons (mVar 0) (mCons (mVar 1) (mCons (mVar 2) mNil))))) (mRet (mLc (mISeq (mVar 2)) (mgName 4) (mTest (mOp dGt (mCl cAbs (mCons (mOp dSub (mOp dIx (mVar 3) (mOp dIx (mOp dIx (mVar 0) (mVar 4)) (mC (.int 1)))) (mOp dIx (mVar 3) (mVar 4))) mNil)) (mOp dIx (mVar 1) (mC (.int 1))))) (mVar 4) [4])))
def m__law_misfits_v2 : MP := mFun ["part", "machine", "forms", "found", "k"] 3 b__law_misfits_v2
def vb__law_misfits_v2 : VS := (vSeqS (vSet 3 (vCall v__law_places_v2 (vCons (vVar 0) (vCons (vVar 1) (vCons (vVar 2) vNil))))) (vRet (vLc (vISeq (vVar 2)) (vgName 4) (vTest (vOp dGt (vCl cAbs (vCons (vOp dSub (vOp dIx (vVar 3) (vOp dIx (vOp dIx (vVar 0) (vVar 4)) (vC (.int 1)))) (vOp dIx (vVar 3) (vVar 4))) vNil)) (vOp dIx (vVar 1) (vC (.int 1))))) (vVar 4) [4])))
def v__law_misfits_v2 : VP := vFun ["part", "machine", "forms", "found", "k"] 3 vb__law_misfits_v2
theorem fp__law_misfits_v2 : FP m__law_misfits_v2 v__law_misfits_v2 := by
  unfold m__law_misfits_v2 v__law_misfits_v2 b__law_misfits_v2 vb__law_misfits_v2
  exact f_Fun (f_Seq (f_Set (f_Call fp__law_places_v2 (f_Cons f_Var (f_Cons f_Var (f_Cons f_Var f_Nil))))) (f_Ret (f_Lc (f_ISeq f_Var) f_gName (f_Test (f_Op (f_Cl (f_Cons (f_Op (f_Op f_Var (f_Op (f_Op f_Var f_Var) f_C)) (f_Op f_Var f_Var)) f_Nil)) (f_Op f_Var f_C))) f_Var)))
def b_is_ascending_v2 : MS := (mRet (mCl cAll (mCons (mLc (mIZ (mCons (mVar 0) (mCons (mSl (mVar 0) (mPart (mC (.int 1))) mNoPart) mNil))) (mgTup 2 (mgCons (mgName 1) (mgCons (mgName 2) mgNil))) mYes (mOp dLtA (mVar 1) (mVar 2)) [1, 2]) mNil)))
def m_is_ascending_v2 : MP := mFun ["members", "member", "behind"] 1 b_is_ascending_v2
def vb_is_ascending_v2 : VS := (vRet (vCl cAll (vCons (vLc (vIZ (vCons (vVar 0) (vCons (vSl (vVar 0) (vPart (vC (.int 1))) vNoPart) vNil))) (vgTup 2 (vgCons (vgName 1) (vgCons (vgName 2) vgNil))) vYes (vOp dLtA (vVar 1) (vVar 2)) [1, 2]) vNil)))
def v_is_ascending_v2 : VP := vFun ["members", "member", "behind"] 1 vb_is_ascending_v2
theorem fp_is_ascending_v2 : FP m_is_ascending_v2 v_is_ascending_v2 := by
  unfold m_is_ascending_v2 v_is_ascending_v2 b_is_ascending_v2 vb_is_ascending_v2
  exact f_Fun (f_Ret (f_Cl (f_Cons (f_Lc (f_IZ (f_Cons f_Var (f_Cons (f_Sl f_Var (f_Part f_C) f_NoPart) f_Nil))) (f_gTup (f_gCons f_gName (f_gCons f_gName f_gNil))) f_Yes (f_Op f_Var f_Var)) f_Nil)))
def b_are_pairs : MS := (mSeq (mIfS (mNot (mTest (mIsi "list" (mVar 0)))) (mRet (mC (.bool false))) mNext) (mSeq (mIfS (mNot (mTest (mCl cAll (mCons (mLc (mISeq (mVar 0)) (mgName 2) mYes (mAndV (mIsi "tuple" (mVar 2)) (mCall m_are_within (mCons (mVar 2) (mCons (mVar 1) mNil)))) [2]) mNil)))) (mRet (mC (.bool false))) mNext) (mRet (mCall m_is_ascending_v2 (mCons (mVar 0) mNil)))))
def m_are_pairs : MP := mFun ["thing", "bounds", "pair"] 2 b_are_pairs
def vb_are_pairs : VS := (vSeqS (vIfS (vNot (vTest (vIsi "list" (vVar 0)))) (vRet (vC (.bool false))) vNext) (vSeqS (vIfS (vNot (vTest (vCl cAll (vCons (vLc (vISeq (vVar 0)) (vgName 2) vYes (vAndV (vIsi "tuple" (vVar 2)) (vCall v_are_within (vCons (vVar 2) (vCons (vVar 1) vNil)))) [2]) vNil)))) (vRet (vC (.bool false))) vNext) (vRet (vCall v_is_ascending_v2 (vCons (vVar 0) vNil)))))
def v_are_pairs : VP := vFun ["thing", "bounds", "pair"] 2 vb_are_pairs
theorem fp_are_pairs : FP m_are_pairs v_are_pairs := by
  unfold m_are_pairs v_are_pairs b_are_pairs vb_are_pairs
  exact f_Fun (f_Seq (f_IfS (f_Not (f_Test (f_Isi f_Var))) (f_Ret f_C) f_Next) (f_Seq (f_IfS (f_Not (f_Test (f_Cl (f_Cons (f_Lc (f_ISeq f_Var) f_gName f_Yes (f_AndV (f_Isi f_Var) (f_Call fp_are_within (f_Cons f_Var (f_Cons f_Var f_Nil))))) f_Nil)))) (f_Ret f_C) f_Next) (f_Ret (f_Call fp_is_ascending_v2 (f_Cons f_Var f_Nil)))))
def b_renumbered : MS := (mSeq (mIfS (mTest (mOp dIn (mOp dIx (mVar 0) (mC (.int 0))) (mC c_JUMPS))) (mRet (mTup (mCons (mOp dIx (mVar 0) (mC (.int 0))) (mCons (mOp dIx (mVar 1) (mOp dIx (mVar 0) (mC (.int 1)))) mNil)))) mNext) (mRet (mVar 0)))
def m_renumbered : MP := mFun ["row", "table"] 2 b_renumbered
def vb_renumbered : VS := (vSeqS (vIfS (vTest (vOp dIn (vOp dIx (vVar 0) (vC (.int 0))) (vC c_JUMPS))) (vRet (vTup (vCons (vOp dIx (vVar 0) (vC (.int 0))) (vCons (vOp dIx (vVar 1) (vOp dIx (vVar 0) (vC (.int 1)))) vNil)))) vNext) (vRet (vVar 0)))
def v_renumbered : VP := vFun ["row", "table"] 2 vb_renumbered
theorem fp_renumbered : FP m_renumbered v_renumbered := by
  unfold m_renumbered v_renumbered b_renumbered vb_renumbered
  exact f_Fun (f_Seq (f_IfS (f_Test (f_Op (f_Op f_Var f_C) f_C)) (f_Ret (f_Tup (f_Cons (f_Op f_Var f_C) (f_Cons (f_Op f_Var (f_Op f_Var f_C)) f_Nil)))) f_Next) (f_Ret f_Var))
def b_size_of : MS := (mRet (mOp dIx (mCall m_addresses_of (mCons (mVar 0) (mCons (mVar 1) (mCons (mVar 2) mNil)))) (mUn dNeg (mC (.int 1)))))
def m_size_of : MP := mFun ["part", "machine", "forms"] 3 b_size_of
def vb_size_of : VS := (vRet (vOp dIx (vCall v_addresses_of (vCons (vVar 0) (vCons (vVar 1) (vCons (vVar 2) vNil)))) (vUn dNeg (vC (.int 1)))))
def v_size_of : VP := vFun ["part", "machine", "forms"] 3 vb_size_of
theorem fp_size_of : FP m_size_of v_size_of := by
  unfold m_size_of v_size_of b_size_of vb_size_of
  exact f_Fun (f_Ret (f_Op (f_Call fp_addresses_of (f_Cons f_Var (f_Cons f_Var (f_Cons f_Var f_Nil)))) (f_Un f_C)))
end RC
end
section
namespace RR
open PySem PySem.Spec L2
open PyProof.Rows hiding St
structure EX where
  nx : DEnv → Nat → Prop
  rt : D → Nat → Prop
  xc : Str → Prop
/-- a class of errors: made with a text, known by its name -/
structure XC (K : PySem.W.Frag) (mg : Str → Option Value) (x : Str) (C : Addr) : Prop where
  g : mg x = some (.ref C)
  k : PySem.W.keepIn K (.ref C) = true
  q : ∃ bm n, PySem.W.excIn K C bm n = true ∧ ∃ B i, ExcBaseFacts B n i bm
  b : PySem.W.subIn K (.ref C) (.type "BaseException") = some true
  t : PySem.W.typeIn K (.ref C) = some (.type "type")
end RR
end
section
namespace RR
open PySem PySem.Spec L2
open PyProof.Rows hiding St
end RR
end
section
namespace RR
open PySem PySem.Spec L2
open PyProof.Rows hiding St
end RR
end
section
namespace RR
open PySem PySem.Spec L2
open PyProof.Rows hiding St
end RR
end
section
namespace RR
open PySem PySem.Spec L2
open PyProof.Rows hiding St
/-- empty tables stay -/
def TbS (H H' : Hp) : Prop := ∀ T, H T = some (.tbl #[]) → H' T = some (.tbl #[])
theorem TbS.refl {H : Hp} : TbS H H := fun _ h => h
theorem TbS.new {H H1 : Hp} {b : Addr} {o : HO} (t : TbS H H1) (n : H1 b = none) : TbS H (upd H1 b o) := fun T h => by
  rw [upd_ne (ne_of_none (t T h) n)]; exact t T h
theorem TbS.lst {H H1 : Hp} {b : Addr} {o : HO} {xs : List V} (t : TbS H H1) (n : H1 b = some (.lst xs)) : TbS H (upd H1 b o) := fun T h => by
  have z : T ≠ b := fun z => by have := t T h; rw [z, n] at this; cases this
  rw [upd_ne z]; exact t T h
end RR
end
section
namespace RR
open PySem PySem.Spec L2
open PyProof.Rows hiding St
/-- which of these classes an error of the class C is of -/
def KitL (K : PySem.W.Frag) (mg : Str → Option Value) (C : Addr) : List (Str × Bool) → Prop
  | [] => True
  | (y, b) :: r => (∃ c, mg y = some (.ref c) ∧ PySem.W.kitOne K (.ref C) (.ref c) = some b) ∧ KitL K mg C r
/-- a class under the class top that is caught -/
def XK (K : PySem.W.Frag) (mg : Str → Option Value) (top : Str) (ys : List (Str × Bool)) (x : Str) : Prop :=
  ∃ C, XC K mg x C ∧ ExcC K C ∧ (∃ CR, mg top = some (.ref CR) ∧ PySem.W.exmOne K (.ref C) (.ref CR) = some true) ∧ KitL K mg C ys
theorem XK.at {K : PySem.W.Frag} {mg : Str → Option Value} {top x : Str} {ys : List (Str × Bool)} {C CR : Addr} (h : XK K mg top ys x) (hC : mg x = some (.ref C)) (hR : mg top = some (.ref CR)) : ExcC K C ∧ PySem.W.exmOne K (.ref C) (.ref CR) = some true ∧ KitL K mg C ys := by
  obtain ⟨C', h1, h2, ⟨R', h3, h4⟩, h5⟩ := h
  rw [h1.g] at hC
  rw [h3] at hR
  cases hC
  cases hR
  exact ⟨h2, h4, h5⟩
end RR
end
section
namespace RC
open PySem PySem.Spec L2 RR
open PyProof.Rows hiding St
end RC
end
section
namespace RR
open PySem PySem.Spec L2
open PyProof.Rows hiding St
end RR
end
section
namespace RR
open PySem PySem.Spec L2
open PyProof.Rows hiding St
end RR
end
section
namespace Cmb
open PySem PySem.Spec
open Sem (wp)
section
variable {prog : Program} {w : World} {A : Around} {E : Value → Shared → Prop} {s : Shared}
/-- one index list behind another, as the model steps -/
def nextC (n : Nat) (ix : List Nat) : Option (List Nat) :=
  match (List.range ix.length).reverse.find? fun i => ix.getD i 0 != i + n - ix.length with
  | none => none
  | some i => some (ix.take i ++ (List.range (ix.length - i)).map (ix.getD i 0 + 1 + ·))
end
end Cmb
end
section
namespace RR
open PySem PySem.Spec L2
open PyProof.Rows hiding St
def chainGo (n : Nat) : Nat → List Nat → Option (List (List Nat))
  | 0, _ => none
  | f + 1, ix => match Cmb.nextC n ix with
    | none => some [ix]
    | some ix' => (chainGo n f ix').map fun r => ix :: r
/-- the index lists, as the model steps from one to the next -/
def combL (n r : Nat) : Option (List (List Nat)) := if r > n then some [] else chainGo n 100000 (List.range r)
def pickD (xs : List D) (ix : List Nat) : D := .tuple (ix.map fun j => xs.getD j .none)
@[reducible] def mICb (ma : MA) : MI := fun Γ n Q => ma Γ n fun ds n1 => ∃ (xs : List D) (r : Nat) (cs : List (List Nat)), ds = [.list xs, .int (r : Int)] ∧ xs.length ≤ 1000 ∧ r ≤ 1000 ∧ combL xs.length r = some cs ∧ Q (cs.map (pickD xs)) n1
def asN : D → Option Nat
  | .int i => if 0 ≤ i then some i.toNat else none
  | _ => none
def vICb (a : VA) : VI := fun Γ => (a Γ).bind fun ds => match ds with
  | [.list xs, d] => (asN d).bind fun r => if xs.length ≤ 1000 ∧ r ≤ 1000 then (combL xs.length r).map fun cs => cs.map (pickD xs) else none
  | _ => none
theorem asN_eq {d : D} {r : Nat} (h : asN d = some r) : d = .int (r : Int) := by
  unfold asN at h
  split at h
  · split at h
    · cases h; congr 1; omega
    · cases h
  · cases h
theorem f_ICb {mA : MA} {vA : VA} (h : FA mA vA) : FI' (mICb mA) (vICb vA) := fun Γ n d Q e q => by
  obtain ⟨ds, h1, e⟩ := bnd e
  split at e
  · obtain ⟨r, h2, e⟩ := bnd e
    split at e
    · rename_i hh
      obtain ⟨cs, hc, rfl⟩ := Option.map_eq_some_iff.mp e
      rw [asN_eq h2] at h1
      exact h Γ n _ _ h1 ⟨_, r, cs, rfl, hh.1, hh.2, hc, q⟩
    · cases e
  · cases e
end RR
end
section
namespace RR
open PySem PySem.Spec L2
open PyProof.Rows hiding St
def dAddL : D → D → Option D
  | .list xs, .list ys => if xs.length + ys.length ≤ lim then some (.list (xs ++ ys)) else none
  | _, _ => none
theorem dAddL_eq {x y d : D} (h : dAddL x y = some d) : ∃ xs ys, x = .list xs ∧ y = .list ys ∧ xs.length + ys.length ≤ lim ∧ d = .list (xs ++ ys) := by
  unfold dAddL at h
  split at h
  · obtain ⟨hl, rfl⟩ := ifs' h
    exact ⟨_, _, rfl, rfl, hl, rfl⟩
  · cases h
theorem lf_cat {p : Pm} {O : List Nat} {ta tb : TE} {ma mb : ME} (ha : LE p O ta ma) (hb : LE p O tb mb) : LF p O (tOp rCat ta tb) (mOp dAddL ma mb) := fun F0 H0 F H σ Γ n Q s q Q' k => by
  refine ha F0 H0 F H σ Γ n _ s q _ fun dx x F1 H1 n1 s1 g1 r1 q1 => ?_
  refine hb F0 H0 F1 H1 σ Γ n1 _ s1 q1 _ fun dy y F2 H2 n2 s2 g2 r2 ⟨d, fe, q2⟩ => ?_
  obtain ⟨xs, ys, rfl, rfl, hl, rfl⟩ := dAddL_eq fe
  obtain ⟨a, us, rfl, h1, ra⟩ := (r1.mono g2.f).lst_inv
  obtain ⟨b, vs, rfl, h2, rb⟩ := r2.lst_inv
  refine ⟨a, b, us, vs, rfl, rfl, s2.fh _ _ h1, s2.fh _ _ h2, by rw [ra.len, rb.len]; exact lim_line hl, fun z hz => ?_⟩
  have hz0 : H z = none := by
    cases w : H z with
    | none => rfl
    | some o =>
      have := (g1.trans g2).h z o w fun hp => by
        cases w2 : H2 z with
        | none =>
          obtain ⟨b', i, e, hb'⟩ := hp
          rcases hb' with rfl | ⟨y, hy, rfl⟩
          · obtain ⟨o, q⟩ := (s2.pen _ i e).2.2.1.at
            rw [hz] at q; cases q
          · obtain ⟨_, ps, q, _⟩ := (s2.pen b' i e).2.2.2 y hy
            rw [hz] at q; cases q
        | some o2 => rw [hz] at w2; cases w2
      rw [hz] at this
      cases this
  have gr := Gr.new0 s2.fh hz (.lst (us ++ vs))
  exact k _ _ F2 _ n2 (s2.gr gr) ((g1.trans g2).trans gr.gp) (.lst upd_same (ra.append rb)) (s2.fh.free hz) hz0 q2
theorem f_cat {X : Cx} {p : Pm} {O : List Nat} {e f : Expr} {pos : Pos} {ta tb : TE} {ma mb : ME} (ha : RE X p O e ta ma) (hb : RE X p O f tb mb) : RF X p O (.BinOp e .Add f pos) (tOp rCat ta tb) (mOp dAddL ma mb) := ⟨pe_op op_cat ha.pe hb.pe, lf_cat ha.le hb.le⟩
end RR
end
section
namespace RR
open PySem PySem.Spec L2
open PyProof.Rows hiding St
end RR
end
section
namespace RC
open PySem PySem.Spec L2 RR
open PyProof.Rows hiding St
end RC
end
section
namespace RR
open PySem PySem.Spec L2
open PyProof.Rows hiding St
end RR
end
section
namespace RR
open PySem PySem.Spec L2
open PyProof.Rows hiding St
end RR
end
section
namespace RR
open PySem PySem.Spec L2
open PyProof.Rows hiding St
end RR
end
section
namespace RR
open PySem PySem.Spec L2
open PyProof.Rows hiding St
end RR
end
section
namespace RR
open PySem PySem.Spec L2
open PyProof.Rows hiding St
end RR
namespace RR
open PySem PySem.Spec L2
open PyProof.Rows hiding St
end RR
end
section
namespace RR
open PySem PySem.Spec L2
open PyProof.Rows hiding St
end RR
namespace RR
open PySem PySem.Spec L2
open PyProof.Rows hiding St
end RR
end
section
namespace RR
open PySem PySem.Spec L2
open PyProof.Rows hiding St
end RR
end
section
namespace RR
open PySem PySem.Spec L2
open PyProof.Rows hiding St
end RR
namespace RR
open PySem PySem.Spec L2
open PyProof.Rows hiding St
end RR
namespace RR
open PySem PySem.Spec L2
open PyProof.Rows hiding St
end RR
end
section
namespace RR
open PySem PySem.Spec L2
open PyProof.Rows hiding St
open PySem.W (dataLe)
def putIn {α : Type} (le : α → α → Bool) (a : α) : List α → List α
  | [] => [a]
  | b :: bs => if le a b = true then a :: b :: bs else b :: putIn le a bs
def sortE {α : Type} (le : α → α → Bool) : List α → List α
  | [] => []
  | a :: as => putIn le a (sortE le as)
theorem putIn_at {α : Type} {le : α → α → Bool} {a : α} : ∀ {l1 l2 : List α}, (∀ b ∈ l1, (!le a b) = true) → (∀ b ∈ l2, le a b = true) → putIn le a (l1 ++ l2) = l1 ++ a :: l2
  | [], [], _, _ => rfl
  | [], b :: l2, _, h => by
    show putIn le a (b :: l2) = a :: b :: l2
    unfold putIn
    rw [if_pos (h b (List.mem_cons_self ..))]
  | b :: l1, l2, h, k => by
    show putIn le a (b :: (l1 ++ l2)) = b :: (l1 ++ a :: l2)
    unfold putIn
    have := h b (List.mem_cons_self ..)
    rw [Bool.not_eq_true'] at this
    rw [this, if_neg (by decide), putIn_at (fun c hc => h c (List.mem_cons_of_mem _ hc)) k]
theorem sortE_eq {α : Type} {le : α → α → Bool} (tr : ∀ a b c, le a b = true → le b c = true → le a c = true) (to : ∀ a b, (le a b || le b a) = true) : ∀ l : List α, l.mergeSort le = sortE le l
  | [] => List.mergeSort_nil
  | a :: l => by
    obtain ⟨l1, l2, e1, e2, e3⟩ := List.mergeSort_cons tr to a l
    have s := List.pairwise_mergeSort tr to (a :: l)
    rw [e1] at s
    have s2 := (List.pairwise_append.mp s).2.1
    rw [e1, sortE, ← sortE_eq tr to l, e2]
    exact (putIn_at e3 (List.pairwise_cons.mp s2).1).symm
theorem sortD_E (xs : List D) : sortD xs = sortE (dataLe false id) xs := by
  have t := PySem.W.sortLe_total (PyProof.Rows.listOrd PyProof.Rows.itemOrd) false fun b : D => PySem.W.keyToks b
  exact sortE_eq t.trans (fun a b => by rw [Bool.or_eq_true]; exact t.total a b) xs
def cSortedE (xs : List D) : Option D := match xs with
  | [.list xs] => if okSort xs = true then some (.list (sortE (dataLe false id) xs)) else none
  | _ => none
theorem cSorted_E : cSorted = cSortedE := by
  funext xs
  unfold cSorted cSortedE
  first
    | (simp only [sortD_E]; done)
    | (simp only [sortD_E]; rfl)
theorem f_ClE {f g : List D → Option D} {ma : MA} {va : VA} (e : f = g) (h : FA ma va) : FE (mCl f ma) (vCl g va) := e ▸ f_Cl h
end RR
end
section
namespace RC
open PySem PySem.Spec L2 RR
open PyProof.Rows hiding St
end RC
end
section
namespace RR
open PySem PySem.Spec L2
open PyProof.Rows hiding St
end RR
end
section
namespace RR
open PySem PySem.Spec L2
open PyProof.Rows hiding St
@[reducible] def mOkS (me : ME) : ME := fun Γ n Q => me Γ n fun d n1 => ∃ z : Str, d = .str z ∧ z.length ≤ 1921 ∧ Q d n1
@[reducible] def mOkI (me : ME) : ME := fun Γ n Q => me Γ n fun d n1 => ∃ i : Int, d = .int i ∧ i.natAbs.log2 < 1920 ∧ Q d n1
inductive RJ (X : Cx) (p : Pm) : List Expr → List TE → MA → Prop
  | nil : RJ X p [] [] mNil
  | str {e : Expr} {te : TE} {me : ME} {es : List Expr} {ts : List TE} {ma : MA} (h : RE X p [] e te me) (r : RJ X p es ts ma) : RJ X p (e :: es) (te :: ts) (mCons (mOkS me) ma)
  | fmt {e : Expr} {te : TE} {me : ME} {pos : Pos} {es : List Expr} {ts : List TE} {ma : MA} (h : RE X p [] e te me) (r : RJ X p es ts ma) : RJ X p (.FormattedValue e (-1) none pos :: es) (tFmt te :: ts) (mCons (mOkI me) ma)
section
variable {X : Cx} {p : Pm} {W : WX} {es : List Expr} {ts : List TE} {ma : MA} {x : Str}
theorem RJ.le (h : RJ X p es ts ma) {F0 H0 : Hp} {σ : St} {Γ : DEnv} : ∀ {F H : Hp} {n : Nat} {acc : Str} {R : List D → Nat → Prop} {Q : Str → Hp → Prop}, Sep p F0 H0 [] F H σ Γ n → ma Γ n R → acc.length + 2000 * es.length ≤ sizeLine →
    (∀ out F' H' n' ds, Sep p F0 H0 [] F' H' σ Γ n' → R ds n' → Q out H') → tJs ts acc σ H Q := by
  induction h with
  | nil => exact fun s q _ k => k _ _ _ _ _ s q
  | str h r ih =>
    intro F H n acc R Q s q hl k
    refine h.le F0 H0 F H σ Γ n _ s q _ fun d v F1 H1 n1 s1 g1 r1 ⟨z, ez, hz, q1⟩ => ?_
    subst ez
    cases r1.str_inv
    rw [List.length_cons] at hl
    have hz2 : (acc ++ z).length = acc.length + z.length := Str.length_append ..
    refine ⟨z, rfl, by omega, ih s1 q1 (by omega) fun out F' H' n' ds s' hr => k out F' H' n' _ s' hr⟩
  | fmt h r ih =>
    intro F H n acc R Q s q hl k
    refine h.le F0 H0 F H σ Γ n _ s q _ fun d v F1 H1 n1 s1 g1 r1 ⟨i, ez, hz, q1⟩ => ?_
    subst ez
    cases r1.int_inv
    rw [List.length_cons] at hl
    have hi : (Str.ofString (toString i)).length ≤ 1921 := PyProof.Rows.int_text_len_1921 hz
    have hz2 : (acc ++ Str.ofString (toString i)).length = acc.length + (Str.ofString (toString i)).length := Str.length_append ..
    exact .inr ⟨i, rfl, hz, Str.ofString (toString i), rfl, by omega, ih s1 q1 (by omega) fun out F' H' n' ds s' hr => k out F' H' n' _ s' hr⟩
end
end RR
end
section
namespace RR
open PySem PySem.Spec L2
open PyProof.Rows hiding St
end RR
end
section
namespace RR
open PySem PySem.Spec L2
open PyProof.Rows hiding St
inductive Rx
  | nx (Γ : DEnv)
  | rt (d : D)
  | xc (x : Str)
def Rx.to (E : EX) (n : Nat) : Rx → Prop
  | .nx Γ => E.nx Γ n
  | .rt d => E.rt d n
  | .xc x => E.xc x
end RR
end
section
namespace RC
open PySem PySem.Spec L2 RR
open PyProof.Rows hiding St
def b_sublists : MS := (mRet (mLc2 (mIR1 (mCons (mOp dAdd (mCl cLen (mCons (mVar 0) mNil)) (mC (.int 1))) mNil)) (mgName 1) mYes (mICb (mCons (mVar 0) (mCons (mVar 1) mNil))) (mgName 2) mYes (mCl cList (mCons (mVar 2) mNil)) [1, 2] [2]))
def m_sublists : MP := mFun ["members", "many", "some"] 1 b_sublists
def vb_sublists : VS := (vRet (vLc2 (vIR1 (vCons (vOp dAdd (vCl cLen (vCons (vVar 0) vNil)) (vC (.int 1))) vNil)) (vgName 1) vYes (vICb (vCons (vVar 0) (vCons (vVar 1) vNil))) (vgName 2) vYes (vCl cList (vCons (vVar 2) vNil)) [1, 2] [2]))
def v_sublists : VP := vFun ["members", "many", "some"] 1 vb_sublists
theorem fp_sublists : FP m_sublists v_sublists := by
  unfold m_sublists v_sublists b_sublists vb_sublists
  exact f_Fun (f_Ret (f_Lc2 (f_IR1 (f_Cons (f_Op (f_Cl (f_Cons f_Var f_Nil)) f_C) f_Nil)) f_gName f_Yes (f_ICb (f_Cons f_Var (f_Cons f_Var f_Nil))) f_gName f_Yes (f_Cl (f_Cons f_Var f_Nil))))
end RC
end
section
namespace RR
open PySem PySem.Spec L2
open PyProof.Rows hiding St
end RR
end
section
namespace RC
open PySem PySem.Spec L2 RR
open PyProof.Rows hiding St
def c_MOST_TRIED : D := (.int 6)
def b_is_forms_v2 : MS := (mSeq (mIfS (mOr (mNot (mTest (mIsi "list" (mVar 1)))) (mNot (mTest (mCl cAll (mCons (mLc (mISeq (mVar 1)) (mgName 2) mYes (mCall m_is_jump_row (mCons (mVar 0) (mCons (mVar 2) mNil))) [2]) mNil))))) (mRet (mC (.bool false))) mNext) (mRet (mCall m_is_ascending_v2 (mCons (mVar 1) mNil))))
def m_is_forms_v2 : MP := mFun ["part", "thing", "row"] 2 b_is_forms_v2
def vb_is_forms_v2 : VS := (vSeqS (vIfS (vOr (vNot (vTest (vIsi "list" (vVar 1)))) (vNot (vTest (vCl cAll (vCons (vLc (vISeq (vVar 1)) (vgName 2) vYes (vCall v_is_jump_row (vCons (vVar 0) (vCons (vVar 2) vNil))) [2]) vNil))))) (vRet (vC (.bool false))) vNext) (vRet (vCall v_is_ascending_v2 (vCons (vVar 1) vNil))))
def v_is_forms_v2 : VP := vFun ["part", "thing", "row"] 2 vb_is_forms_v2
theorem fp_is_forms_v2 : FP m_is_forms_v2 v_is_forms_v2 := by
  unfold m_is_forms_v2 v_is_forms_v2 b_is_forms_v2 vb_is_forms_v2
  exact f_Fun (f_Seq (f_IfS (f_Or (f_Not (f_Test (f_Isi f_Var))) (f_Not (f_Test (f_Cl (f_Cons (f_Lc (f_ISeq f_Var) f_gName f_Yes (f_Call fp_is_jump_row (f_Cons f_Var (f_Cons f_Var f_Nil)))) f_Nil))))) (f_Ret f_C) f_Next) (f_Ret (f_Call fp_is_ascending_v2 (f_Cons f_Var f_Nil))))
def b_least_forms : MS := (mSeq (mSet 2 (mLc (mISeq (mCall m_sublists (mCons (mCall m_jump_rows (mCons (mVar 0) mNil)) mNil))) (mgName 3) (mNot (mTru (mCall m_unfit_rows (mCons (mVar 0) (mCons (mVar 1) (mCons (mVar 3) mNil)))))) (mVar 3) [3])) (mRet (mOp dIx (mCl cMinD (mCons (mLc (mISeq (mVar 2)) (mgName 3) mYes (mTup (mCons (mCall m_size_of (mCons (mVar 0) (mCons (mVar 1) (mCons (mVar 3) mNil)))) (mCons (mUn dNeg (mCl cLen (mCons (mVar 3) mNil))) (mCons (mVar 3) mNil)))) [3]) mNil)) (mC (.int 2)))))
def m_least_forms : MP := mFun ["part", "machine", "fitting", "forms"] 2 b_least_forms
def vb_least_forms : VS := (vSeqS (vSet 2 (vLc (vISeq (vCall v_sublists (vCons (vCall v_jump_rows (vCons (vVar 0) vNil)) vNil))) (vgName 3) (vNot (vTru (vCall v_unfit_rows (vCons (vVar 0) (vCons (vVar 1) (vCons (vVar 3) vNil)))))) (vVar 3) [3])) (vRet (vOp dIx (vCl cMinD (vCons (vLc (vISeq (vVar 2)) (vgName 3) vYes (vTup (vCons (vCall v_size_of (vCons (vVar 0) (vCons (vVar 1) (vCons (vVar 3) vNil)))) (vCons (vUn dNeg (vCl cLen (vCons (vVar 3) vNil))) (vCons (vVar 3) vNil)))) [3]) vNil)) (vC (.int 2)))))
def v_least_forms : VP := vFun ["part", "machine", "fitting", "forms"] 2 vb_least_forms
theorem fp_least_forms : FP m_least_forms v_least_forms := by
  unfold m_least_forms v_least_forms b_least_forms vb_least_forms
  exact f_Fun (f_Seq (f_Set (f_Lc (f_ISeq (f_Call fp_sublists (f_Cons (f_Call fp_jump_rows (f_Cons f_Var f_Nil)) f_Nil))) f_gName (f_Not (f_Tru (f_Call fp_unfit_rows (f_Cons f_Var (f_Cons f_Var (f_Cons f_Var f_Nil)))))) f_Var)) (f_Ret (f_Op (f_Cl (f_Cons (f_Lc (f_ISeq f_Var) f_gName f_Yes (f_Tup (f_Cons (f_Call fp_size_of (f_Cons f_Var (f_Cons f_Var (f_Cons f_Var f_Nil)))) (f_Cons (f_Un (f_Cl (f_Cons f_Var f_Nil))) (f_Cons f_Var f_Nil))))) f_Nil)) f_C)))
def b_laid_forms : MS := (mSeq (mIfS (mTest (mCall m_is_even (mCons (mVar 0) mNil))) (mRet (mOp dIx (mCall m_growth (mCons (mVar 0) (mCons (mVar 1) mNil))) (mC (.int 0)))) mNext) (mRet (mCall m_least_forms (mCons (mVar 0) (mCons (mVar 1) mNil)))))
def m_laid_forms : MP := mFun ["part", "machine"] 2 b_laid_forms
def vb_laid_forms : VS := (vSeqS (vIfS (vTest (vCall v_is_even (vCons (vVar 0) vNil))) (vRet (vOp dIx (vCall v_growth (vCons (vVar 0) (vCons (vVar 1) vNil))) (vC (.int 0)))) vNext) (vRet (vCall v_least_forms (vCons (vVar 0) (vCons (vVar 1) vNil)))))
def v_laid_forms : VP := vFun ["part", "machine"] 2 vb_laid_forms
theorem fp_laid_forms : FP m_laid_forms v_laid_forms := by
  unfold m_laid_forms v_laid_forms b_laid_forms vb_laid_forms
  exact f_Fun (f_Seq (f_IfS (f_Test (f_Call fp_is_even (f_Cons f_Var f_Nil))) (f_Ret (f_Op (f_Call fp_growth (f_Cons f_Var (f_Cons f_Var f_Nil))) f_C)) f_Next) (f_Ret (f_Call fp_least_forms (f_Cons f_Var (f_Cons f_Var f_Nil)))))
end RC
end
section
namespace RR
open PySem PySem.Spec L2
open PyProof.Rows hiding St
open PySem.W (alike dataLt minD maxD)
def okRg (a b : Int) : Prop := 0 ≤ a ∧ a ≤ 1000 ∧ 0 ≤ b ∧ b ≤ 1000
instance (a b : Int) : Decidable (okRg a b) := by unfold okRg; infer_instance
theorem okRg.ok {a b : Int} (h : okRg a b) : RgOk a b := RgOk.of_le h.1 (by have := h.2.2.2; omega) (by have := h.2.1; omega) h.2.2.1
end RR
namespace RR
open PySem PySem.Spec L2
open PyProof.Rows hiding St
end RR
end
section
namespace RR
open PySem PySem.Spec L2
open PyProof.Rows hiding St
end RR
end
section
namespace RR
open PySem PySem.Spec L2
open PyProof.Rows hiding St
end RR
end
section
namespace RR
open PySem PySem.Spec L2
open PyProof.Rows hiding St
end RR
end
section
namespace RC
open PySem PySem.Spec L2 RR
open PyProof.Rows hiding St
end RC
end
section
namespace RR
open PySem PySem.Spec L2
open PyProof.Rows hiding St
end RR
namespace RR
open PySem PySem.Spec L2
open PyProof.Rows hiding St
end RR
end
section
namespace RR
open PySem PySem.Spec L2
open PyProof.Rows hiding St
end RR
end
section
namespace RR
open PySem PySem.Spec L2
open PyProof.Rows hiding St
end RR
end
section
namespace RC
open PySem PySem.Spec L2 RR
open PyProof.Rows hiding St
end RC
end
section
namespace RR
open PySem PySem.Spec L2
open PyProof.Rows hiding St
end RR
end
section
namespace RR
open PySem PySem.Spec L2
open PyProof.Rows hiding St
end RR
end
section
namespace RR
open PySem PySem.Spec L2
open PyProof.Rows hiding St
end RR
end
section
namespace RC
open PySem PySem.Spec L2 RR
open PyProof.Rows hiding St
end RC
end
section
namespace RR
open PySem PySem.Spec L2
open PyProof.Rows hiding St
end RR
end
section
namespace RR
open PySem PySem.Spec L2
open PyProof.Rows hiding St
end RR
end
section
namespace RR
open PySem PySem.Spec L2
open PyProof.Rows hiding St
end RR
end
section
namespace RC
open PySem PySem.Spec L2 RR
open PyProof.Rows hiding St
def b__law_grown : MS := (mSeq (mSet 2 (mCall m__law_jumps_v2 (mCons (mVar 0) mNil))) (mSeq (mSet 3 (mCall m__law_misfits_v2 (mCons (mVar 0) (mCons (mVar 1) (mCons (mVar 2) mNil))))) (mSeq (mWhile (mTest (mOp dNe (mVar 3) (mLst mNil))) (mSeq (mSet 2 (mLc (mISeq (mVar 2)) (mgName 4) (mTest (mOp dNotIn (mVar 4) (mVar 3))) (mVar 4) [4])) (mSet 3 (mCall m__law_misfits_v2 (mCons (mVar 0) (mCons (mVar 1) (mCons (mVar 2) mNil))))))) (mRet (mVar 2)))))
def m__law_grown : MP := mFun ["part", "machine", "forms", "bad", "k"] 2 b__law_grown
def vb__law_grown : VS := (vSeqS (vSet 2 (vCall v__law_jumps_v2 (vCons (vVar 0) vNil))) (vSeqS (vSet 3 (vCall v__law_misfits_v2 (vCons (vVar 0) (vCons (vVar 1) (vCons (vVar 2) vNil))))) (vSeqS (vWhile (vTest (vOp dNe (vVar 3) (vLst vNil))) (vSeqS (vSet 2 (vLc (vISeq (vVar 2)) (vgName 4) (vTest (vOp dNotIn (vVar 4) (vVar 3))) (vVar 4) [4])) (vSet 3 (vCall v__law_misfits_v2 (vCons (vVar 0) (vCons (vVar 1) (vCons (vVar 2) vNil))))))) (vRet (vVar 2)))))
def v__law_grown : VP := vFun ["part", "machine", "forms", "bad", "k"] 2 vb__law_grown
theorem fp__law_grown : FP m__law_grown v__law_grown := by
  unfold m__law_grown v__law_grown b__law_grown vb__law_grown
  exact f_Fun (f_Seq (f_Set (f_Call fp__law_jumps_v2 (f_Cons f_Var f_Nil))) (f_Seq (f_Set (f_Call fp__law_misfits_v2 (f_Cons f_Var (f_Cons f_Var (f_Cons f_Var f_Nil))))) (f_Seq (f_While (f_Test (f_Op f_Var (f_Lst f_Nil))) (f_Seq (f_Set (f_Lc (f_ISeq f_Var) f_gName (f_Test (f_Op f_Var f_Var)) f_Var)) (f_Set (f_Call fp__law_misfits_v2 (f_Cons f_Var (f_Cons f_Var (f_Cons f_Var f_Nil))))))) (f_Ret f_Var))))
def b__law_lists : MS := (mSeq (mSet 1 (mLst (mCons (mLst mNil) mNil))) (mSeq (mFor (mISeq (mVar 0)) (mgName 2) (mSet 1 (mOp dAdd (mVar 1) (mLc (mISeq (mVar 1)) (mgName 3) mYes (mOp dAdd (mVar 3) (mLst (mCons (mVar 2) mNil))) [3])))) (mRet (mVar 1))))
def m__law_lists : MP := mFun ["members", "found", "one", "row"] 1 b__law_lists
def vb__law_lists : VS := (vSeqS (vSet 1 (vLst (vCons (vLst vNil) vNil))) (vSeqS (vFor (vISeq (vVar 0)) (vgName 2) (vSet 1 (vOp dAdd (vVar 1) (vLc (vISeq (vVar 1)) (vgName 3) vYes (vOp dAdd (vVar 3) (vLst (vCons (vVar 2) vNil))) [3])))) (vRet (vVar 1))))
def v__law_lists : VP := vFun ["members", "found", "one", "row"] 1 vb__law_lists
theorem fp__law_lists : FP m__law_lists v__law_lists := by
  unfold m__law_lists v__law_lists b__law_lists vb__law_lists
  exact f_Fun (f_Seq (f_Set (f_Lst (f_Cons (f_Lst f_Nil) f_Nil))) (f_Seq (f_For (f_ISeq f_Var) f_gName (f_Set (f_Op f_Var (f_Lc (f_ISeq f_Var) f_gName f_Yes (f_Op f_Var (f_Lst (f_Cons f_Var f_Nil))))))) (f_Ret f_Var)))
def b__law_least : MS := (mSeq (mSet 2 (mLst mNil)) (mSeq (mFor (mISeq (mCall m__law_lists (mCons (mCall m__law_jumps_v2 (mCons (mVar 0) mNil)) mNil))) (mgName 3) (mIfS (mTest (mOp dEq (mCall m__law_misfits_v2 (mCons (mVar 0) (mCons (mVar 1) (mCons (mVar 3) mNil)))) (mLst mNil))) (mAppend 2 (mTup (mCons (mOp dIx (mCall m__law_places_v2 (mCons (mVar 0) (mCons (mVar 1) (mCons (mVar 3) mNil)))) (mUn dNeg (mC (.int 1)))) (mCons (mUn dNeg (mCl cLen (mCons (mVar 3) mNil))) (mCons (mVar 3) mNil))))) mNext)) (mRet (mOp dIx (mCl cMinD (mCons (mVar 2) mNil)) (mC (.int 2))))))
def m__law_least : MP := mFun ["part", "machine", "rows", "forms"] 2 b__law_least
def vb__law_least : VS := (vSeqS (vSet 2 (vLst vNil)) (vSeqS (vFor (vISeq (vCall v__law_lists (vCons (vCall v__law_jumps_v2 (vCons (vVar 0) vNil)) vNil))) (vgName 3) (vIfS (vTest (vOp dEq (vCall v__law_misfits_v2 (vCons (vVar 0) (vCons (vVar 1) (vCons (vVar 3) vNil)))) (vLst vNil))) (vAppend 2 (vTup (vCons (vOp dIx (vCall v__law_places_v2 (vCons (vVar 0) (vCons (vVar 1) (vCons (vVar 3) vNil)))) (vUn dNeg (vC (.int 1)))) (vCons (vUn dNeg (vCl cLen (vCons (vVar 3) vNil))) (vCons (vVar 3) vNil))))) vNext)) (vRet (vOp dIx (vCl cMinD (vCons (vVar 2) vNil)) (vC (.int 2))))))
def v__law_least : VP := vFun ["part", "machine", "rows", "forms"] 2 vb__law_least
theorem fp__law_least : FP m__law_least v__law_least := by
  unfold m__law_least v__law_least b__law_least vb__law_least
  exact f_Fun (f_Seq (f_Set (f_Lst f_Nil)) (f_Seq (f_For (f_ISeq (f_Call fp__law_lists (f_Cons (f_Call fp__law_jumps_v2 (f_Cons f_Var f_Nil)) f_Nil))) f_gName (f_IfS (f_Test (f_Op (f_Call fp__law_misfits_v2 (f_Cons f_Var (f_Cons f_Var (f_Cons f_Var f_Nil)))) (f_Lst f_Nil))) (f_Append (f_Tup (f_Cons (f_Op (f_Call fp__law_places_v2 (f_Cons f_Var (f_Cons f_Var (f_Cons f_Var f_Nil)))) (f_Un f_C)) (f_Cons (f_Un (f_Cl (f_Cons f_Var f_Nil))) (f_Cons f_Var f_Nil))))) f_Next)) (f_Ret (f_Op (f_Cl (f_Cons f_Var f_Nil)) f_C))))
def b__law_laid : MS := (mSeq (mSet 2 (mOp dNotIn (mC (.str "align")) (mLc (mISeq (mVar 0)) (mgName 3) mYes (mOp dIx (mVar 3) (mC (.int 0))) [3]))) (mRet (mIf (mTest (mVar 2)) (mCall m__law_grown (mCons (mVar 0) (mCons (mVar 1) mNil))) (mCall m__law_least (mCons (mVar 0) (mCons (mVar 1) mNil))))))
def m__law_laid : MP := mFun ["part", "machine", "is_flat", "row"] 2 b__law_laid
def vb__law_laid : VS := (vSeqS (vSet 2 (vOp dNotIn (vC (.str "align")) (vLc (vISeq (vVar 0)) (vgName 3) vYes (vOp dIx (vVar 3) (vC (.int 0))) [3]))) (vRet (vIf (vTest (vVar 2)) (vCall v__law_grown (vCons (vVar 0) (vCons (vVar 1) vNil))) (vCall v__law_least (vCons (vVar 0) (vCons (vVar 1) vNil))))))
def v__law_laid : VP := vFun ["part", "machine", "is_flat", "row"] 2 vb__law_laid
theorem fp__law_laid : FP m__law_laid v__law_laid := by
  unfold m__law_laid v__law_laid b__law_laid vb__law_laid
  exact f_Fun (f_Seq (f_Set (f_Op f_C (f_Lc (f_ISeq f_Var) f_gName f_Yes (f_Op f_Var f_C)))) (f_Ret (f_If (f_Test f_Var) (f_Call fp__law_grown (f_Cons f_Var (f_Cons f_Var f_Nil))) (f_Call fp__law_least (f_Cons f_Var (f_Cons f_Var f_Nil))))))
def b_check_forms_v2 : MS := (mIfS (mNot (mTest (mCall m_is_forms_v2 (mCons (mVar 0) (mCons (mVar 1) mNil))))) mNever mNext)
def m_check_forms_v2 : MP := mFun ["part", "forms"] 2 b_check_forms_v2
def vb_check_forms_v2 : VS := (vIfS (vNot (vTest (vCall v_is_forms_v2 (vCons (vVar 0) (vCons (vVar 1) vNil))))) vNever vNext)
def v_check_forms_v2 : VP := vFun ["part", "forms"] 2 vb_check_forms_v2
theorem fp_check_forms_v2 : FP m_check_forms_v2 v_check_forms_v2 := by
  unfold m_check_forms_v2 v_check_forms_v2 b_check_forms_v2 vb_check_forms_v2
  exact f_Fun (f_IfS (f_Not (f_Test (f_Call fp_is_forms_v2 (f_Cons f_Var (f_Cons f_Var f_Nil))))) f_Never f_Next)
def b_bar : MS := (mSeq (mDrop (mCall m_check_part (mCons (mVar 0) mNil))) (mSeq (mDrop (mCall m_check_machine (mCons (mVar 1) mNil))) (mSeq (mDrop (mCall m_check_forms_v2 (mCons (mVar 0) (mCons (mVar 2) mNil)))) (mSeq (mSet 3 (mCall m_unfit_rows (mCons (mVar 0) (mCons (mVar 1) (mCons (mVar 2) mNil))))) (mRet (mIf (mTru (mVar 3)) (mOp dIx (mVar 3) (mC (.int 0))) (mC .none)))))))
def m_bar : MP := mFun ["part", "machine", "rival", "unfit"] 3 b_bar
def vb_bar : VS := (vSeqS (vDrop (vCall v_check_part (vCons (vVar 0) vNil))) (vSeqS (vDrop (vCall v_check_machine (vCons (vVar 1) vNil))) (vSeqS (vDrop (vCall v_check_forms_v2 (vCons (vVar 0) (vCons (vVar 2) vNil)))) (vSeqS (vSet 3 (vCall v_unfit_rows (vCons (vVar 0) (vCons (vVar 1) (vCons (vVar 2) vNil))))) (vRet (vIf (vTru (vVar 3)) (vOp dIx (vVar 3) (vC (.int 0))) (vC .none)))))))
def v_bar : VP := vFun ["part", "machine", "rival", "unfit"] 3 vb_bar
theorem fp_bar : FP m_bar v_bar := by
  unfold m_bar v_bar b_bar vb_bar
  exact f_Fun (f_Seq (f_Drop (f_Call fp_check_part (f_Cons f_Var f_Nil))) (f_Seq (f_Drop (f_Call fp_check_machine (f_Cons f_Var f_Nil))) (f_Seq (f_Drop (f_Call fp_check_forms_v2 (f_Cons f_Var (f_Cons f_Var f_Nil)))) (f_Seq (f_Set (f_Call fp_unfit_rows (f_Cons f_Var (f_Cons f_Var (f_Cons f_Var f_Nil))))) (f_Ret (f_If (f_Tru f_Var) (f_Op f_Var f_C) f_C))))))
def b_laid : MS := (mSeq (mDrop (mCall m_check_part (mCons (mVar 0) mNil))) (mSeq (mDrop (mCall m_check_machine (mCons (mVar 1) mNil))) (mSeq (mSet 2 (mCall m_laid_forms (mCons (mVar 0) (mCons (mVar 1) mNil)))) (mRet (mTup (mCons (mVar 2) (mCons (mCall m_addresses_of (mCons (mVar 0) (mCons (mVar 1) (mCons (mVar 2) mNil)))) mNil)))))))
def m_laid : MP := mFun ["part", "machine", "forms"] 2 b_laid
def vb_laid : VS := (vSeqS (vDrop (vCall v_check_part (vCons (vVar 0) vNil))) (vSeqS (vDrop (vCall v_check_machine (vCons (vVar 1) vNil))) (vSeqS (vSet 2 (vCall v_laid_forms (vCons (vVar 0) (vCons (vVar 1) vNil)))) (vRet (vTup (vCons (vVar 2) (vCons (vCall v_addresses_of (vCons (vVar 0) (vCons (vVar 1) (vCons (vVar 2) vNil)))) vNil)))))))
def v_laid : VP := vFun ["part", "machine", "forms"] 2 vb_laid
theorem fp_laid : FP m_laid v_laid := by
  unfold m_laid v_laid b_laid vb_laid
  exact f_Fun (f_Seq (f_Drop (f_Call fp_check_part (f_Cons f_Var f_Nil))) (f_Seq (f_Drop (f_Call fp_check_machine (f_Cons f_Var f_Nil))) (f_Seq (f_Set (f_Call fp_laid_forms (f_Cons f_Var (f_Cons f_Var f_Nil)))) (f_Ret (f_Tup (f_Cons f_Var (f_Cons (f_Call fp_addresses_of (f_Cons f_Var (f_Cons f_Var (f_Cons f_Var f_Nil)))) f_Nil)))))))
def b_check_few_jumps : MS := (mIfS (mTest (mOp dGt (mCl cLen (mCons (mCall m_jump_rows (mCons (mVar 0) mNil)) mNil)) (mC c_MOST_TRIED))) mNever mNext)
def m_check_few_jumps : MP := mFun ["part"] 1 b_check_few_jumps
def vb_check_few_jumps : VS := (vIfS (vTest (vOp dGt (vCl cLen (vCons (vCall v_jump_rows (vCons (vVar 0) vNil)) vNil)) (vC c_MOST_TRIED))) vNever vNext)
def v_check_few_jumps : VP := vFun ["part"] 1 vb_check_few_jumps
theorem fp_check_few_jumps : FP m_check_few_jumps v_check_few_jumps := by
  unfold m_check_few_jumps v_check_few_jumps b_check_few_jumps vb_check_few_jumps
  exact f_Fun (f_IfS (f_Test (f_Op (f_Cl (f_Cons (f_Call fp_jump_rows (f_Cons f_Var f_Nil)) f_Nil)) f_C)) f_Never f_Next)
def b_least : MS := (mSeq (mDrop (mCall m_check_part (mCons (mVar 0) mNil))) (mSeq (mDrop (mCall m_check_machine (mCons (mVar 1) mNil))) (mSeq (mDrop (mCall m_check_few_jumps (mCons (mVar 0) mNil))) (mRet (mCall m_least_forms (mCons (mVar 0) (mCons (mVar 1) mNil)))))))
def m_least : MP := mFun ["part", "machine"] 2 b_least
def vb_least : VS := (vSeqS (vDrop (vCall v_check_part (vCons (vVar 0) vNil))) (vSeqS (vDrop (vCall v_check_machine (vCons (vVar 1) vNil))) (vSeqS (vDrop (vCall v_check_few_jumps (vCons (vVar 0) vNil))) (vRet (vCall v_least_forms (vCons (vVar 0) (vCons (vVar 1) vNil)))))))
def v_least : VP := vFun ["part", "machine"] 2 vb_least
theorem fp_least : FP m_least v_least := by
  unfold m_least v_least b_least vb_least
  exact f_Fun (f_Seq (f_Drop (f_Call fp_check_part (f_Cons f_Var f_Nil))) (f_Seq (f_Drop (f_Call fp_check_machine (f_Cons f_Var f_Nil))) (f_Seq (f_Drop (f_Call fp_check_few_jumps (f_Cons f_Var f_Nil))) (f_Ret (f_Call fp_least_forms (f_Cons f_Var (f_Cons f_Var f_Nil)))))))
end RC
end
section
namespace RR
open PySem PySem.Spec L2
open PyProof.Rows hiding St
def kd31 : D → Nat
  | .none => 0
  | .bool _ => 1
  | .int _ => 2
  | .str _ => 3
  | _ => 4
def kv31 : V → Nat
  | .non => 0
  | .bl _ => 1
  | .int _ => 2
  | .str _ => 3
  | _ => 4
theorem kd_rp {K : PySem.W.Frag} {F : Hp} {d : D} {v : V} (h : Rp K F d v) : kd31 d = kv31 v := by cases h <;> rfl
/-- a list that is not the thing g: another length, or its first member of another kind -/
def apL (g : D) (ds : List D) : Bool := match g with
  | .list gs => !(ds.length == gs.length) || !(ds.head?.map kd31 == gs.head?.map kd31)
  | .dict _ => true
  | _ => false
/-- no list, no dict in d is the thing g -/
def apD (g : D) : D → Bool
  | .list xs => apL g xs && apAll xs
  | .tuple xs => apAll xs
  | .dict _ => false
  | _ => true
where apAll : List D → Bool
  | [] => true
  | x :: xs => apD g x && apAll xs
theorem apAll_mem {g : D} : ∀ {xs : List D}, apD.apAll g xs = true → ∀ x ∈ xs, apD g x = true
  | x :: xs, h, y, hy => by
    rw [apD.apAll, Bool.and_eq_true] at h
    rcases List.mem_cons.mp hy with rfl | hy
    · exact h.1
    · exact apAll_mem h.2 y hy
theorem head_kd {K : PySem.W.Frag} {F : Hp} {ds : List D} {xs : List V} (h : Rps K F ds xs) : ds.head?.map kd31 = xs.head?.map kv31 := by
  cases ds with
  | nil => rw [h.unnil]; rfl
  | cons d ds =>
    obtain ⟨v, r, rfl, h1, _⟩ := h.uncons
    show some (kd31 d) = some (kv31 v)
    rw [kd_rp h1]
theorem Rp.cut {K : PySem.W.Frag} {F F2 H : Hp} {g d : D} {a : Addr} {v : V} (w : Own K F H g a) (ho : ∀ o, F2 a = some o → H a = some o) (h : Rp K F2 d v) : apD g d = true → Rp K (fun b => if b = a then none else F2 b) d v := by
  have keep : ∀ {b : Addr} {o : HO}, F2 b = some o → b ≠ a → (fun b => if b = a then none else F2 b) b = some o := fun {b o} e z => by
    show (if b = a then none else F2 b) = some o
    rw [if_neg z]; exact e
  induction h with
  | non => exact fun _ => .non
  | bl b => exact fun _ => .bl b
  | int i => exact fun _ => .int i
  | str x => exact fun _ => .str x
  | @lst b xs ds h1 h2 h3 ih =>
    intro ap
    rw [apD, Bool.and_eq_true] at ap
    have hb : b ≠ a := by
      rintro rfl
      have e := ho _ h1
      cases w with
      | lst q1 q2 =>
        rw [e] at q1
        cases q1
        have k1 := head_kd q2
        have k2 := head_kd (⟨h2, h3⟩ : Rps K F2 ds xs)
        have l1 := q2.len
        have := ap.1
        unfold apL at this
        simp only [Bool.or_eq_true, Bool.not_eq_true', beq_eq_false_iff_ne] at this
        rcases this with z | z
        · exact z (h2.symm.trans l1)
        · exact z (k2.trans k1.symm)
      | dct q1 _ _ => rw [e] at q1; cases q1
    exact .lst (keep h1 hb) h2 fun i x d e1 e2 => ih i x d e1 e2 (apAll_mem ap.2 d (List.mem_of_getElem? e2))
  | @tup b xs ds h1 h2 h3 ih =>
    intro ap
    rw [apD] at ap
    refine .tup ?_ h2 fun i x d e1 e2 => ih i x d e1 e2 (apAll_mem ap d (List.mem_of_getElem? e2))
    have hb : ∀ {o : HO}, F2 b = some o → (∀ xs, o ≠ .lst xs) → (∀ xs, o ≠ .dK xs) → b ≠ a := fun {o} e n1 n2 => by
      rintro rfl
      have e := ho _ e
      cases w with
      | lst q1 _ => rw [e] at q1; cases q1; exact n1 _ rfl
      | dct q1 _ _ => rw [e] at q1; cases q1; exact n2 _ rfl
    rcases h1 with (h1 | ⟨o, h1⟩) | h1
    · exact .inl (.inl (keep h1 (hb h1 (fun _ z => nomatch z) (fun _ z => nomatch z))))
    · exact .inl (.inr ⟨o, keep h1 (hb h1 (fun _ z => nomatch z) (fun _ z => nomatch z))⟩)
    · exact .inr h1
  | dct _ _ _ _ =>
    intro ap
    rw [apD] at ap
    cases ap
section
variable {X : Cx} {p : Pm} {O : List Nat} {e : Expr} {te : TE} {me : ME} {tT : TT} {mT : MT}
theorem Sep.unlookA {F0 H0 F H F1 F2 H2 : Hp} {σ : St} {Γ : DEnv} {n n2 : Nat} {i : Nat} (s : Sep p F0 H0 O F H σ Γ n) (e1 : Same F F1) (hn : ∀ b o, F1 b = some o → F b = some o ∨ (i ∈ O ∧ σ[i]? = some (some (.ref b)) ∧ ∃ d, Γ[i]? = some (some d)))
    (s2 : Sep p F0 H0 (O.filter (· ≠ i)) F2 H2 σ Γ n2) (g : Gp p F1 H F2 H2) : ∃ F3, Sep p F0 H0 O F3 H2 σ Γ n2 ∧ Gp p F H F3 H2 ∧ (F3 = F2 ∨ ∃ a d, Γ[i]? = some (some d) ∧ Own p.K F H d a ∧ (∀ o, F2 a = some o → H a = some o) ∧ F3 = fun b => if b = a then none else F2 b) := by
  by_cases hi : i ∈ O ∧ ∃ d, Γ[i]? = some (some d)
  · obtain ⟨hi, d, ed⟩ := hi
    obtain ⟨a, ea, w, fa, h0a, pa⟩ := s.ow i hi d ed
    have key : ∀ b o, F1 b = some o → b ≠ a → F b = some o := fun b o h hb => by
      rcases hn b o h with z | ⟨_, z, _⟩
      · exact z
      · rw [ea] at z; cases z; exact absurd rfl hb
    have nf : ∀ {b : Addr} {o : HO}, F b = some o → b ≠ a := fun h z => by rw [z, fa] at h; cases h
    have f3 : ∀ b o, F b = some o → (fun b => if b = a then none else F2 b) b = some o := fun b o h => by
      show (if b = a then none else F2 b) = some o
      rw [if_neg (nf h)]
      exact g.f _ _ (e1 _ _ h)
    have f32 : ∀ b o, (fun b => if b = a then none else F2 b) b = some o → b ≠ a ∧ F2 b = some o := fun b o h => by
      have h' : (if b = a then none else F2 b) = some o := h
      by_cases z : b = a
      · rw [if_pos z] at h'; cases h'
      · rw [if_neg z] at h'; exact ⟨z, h'⟩
    obtain ⟨oa, hoa⟩ := w.at
    have ha2 : ∀ {u : HO}, H a = some u → H2 a = some u := fun h => g.h a _ h pa
    refine ⟨fun b => if b = a then none else F2 b, ⟨fun b o h => f3 b o (s.f0 b o h), fun b o h => s2.fh _ _ (f32 b o h).2, s2.stay, fun b o h => s2.newF b o (f32 b o h).2, fun b j h => ?_, s.len, fun j dj hj h => ?_, fun j hj dj h => ?_, s.dj⟩, ⟨fun b o h => f3 b o h, g.h, fun b o h => ?_⟩, .inr ⟨a, d, ed, w, fun o h => ?_, rfl⟩⟩
    · obtain ⟨h1, h2, ⟨x, l, xs, z1, z2, z3⟩, zt⟩ := s2.pen b j h
      obtain ⟨_, _, ⟨_, _, ys, _, y2, _⟩, _⟩ := s.pen b j h
      have hb : b ≠ a := fun z => pa ⟨b, j, h, .inl z.symm⟩
      have hd : p.dr.ad ≠ a := nf y2
      refine ⟨?_, h2, ⟨x, l, xs, z1, ?_, z3⟩, fun y hy => ?_⟩
      · show (if b = a then none else F2 b) = none
        rw [if_neg hb]; exact h1
      · show (if p.dr.ad = a then none else F2 p.dr.ad) = some _
        rw [if_neg hd]; exact z2
      · obtain ⟨t1, ps, t2, t3, t4⟩ := zt y hy
        refine ⟨?_, ps, t2, t3, fun pos cv hc => ?_⟩
        · show (if y.1 = a then none else F2 y.1) = none
          split
          · rfl
          · exact t1
        · obtain ⟨c, e1, e2⟩ := t4 pos cv hc
          refine ⟨c, e1, ?_⟩
          show (if c = a then none else F2 c) = some _
          rw [if_neg fun z => ?_]
          · exact e2
          · have h3 := s2.fh _ _ e2
            have h4 := g.h a _ hoa pa
            rw [z, h4] at h3
            exact w.notCode hoa _ (Option.some.inj h3)
    · obtain ⟨v, h1, r⟩ := s.sh j dj hj h
      exact ⟨v, h1, r.mono f3⟩
    · obtain ⟨b, h1, r, z1, z2, z3⟩ := s.ow j hj dj h
      have hb3 : (fun b => if b = a then none else F2 b) b = none := by
        show (if b = a then none else F2 b) = none
        by_cases z : b = a
        · rw [if_pos z]
        · rw [if_neg z]
          by_cases hji : j = i
          · subst hji
            rw [ea] at h1
            cases h1
            exact absurd rfl z
          · obtain ⟨b', h1', _, z1', _⟩ := s2.ow j (List.mem_filter.mpr ⟨hj, by simpa using hji⟩) dj h
            rw [h1] at h1'
            cases h1'
            exact z1'
      refine ⟨b, h1, ?_, hb3, z2, z3⟩
      cases r with
      | lst q1 q2 => exact .lst (g.h _ _ q1 z3) (q2.mono f3)
      | dct q1 q2 q3 => exact .dct (g.h _ _ q1 z3) q2 fun i x d a b => (q3 i x d a b).mono f3
    · obtain ⟨h1, h2⟩ := f32 b o h
      rcases g.new b o h2 with z | z | z
      · exact .inl (key b o z h1)
      · exact .inr (.inl z)
      · exact .inr (.inr z)
    · have h2 := s2.fh _ _ h
      have h4 := g.h a _ hoa pa
      rw [h2] at h4
      rw [Option.some.inj h4]; exact hoa
  · have hF : F1 = F := by
      funext b
      cases h : F1 b with
      | none => cases q : F b with
        | none => rfl
        | some o => rw [e1 _ _ q] at h; cases h
      | some o =>
        rcases hn b o h with z | ⟨z1, _, z2⟩
        · exact z.symm
        · exact absurd ⟨z1, z2⟩ hi
    subst hF
    refine ⟨F2, ⟨s2.f0, s2.fh, s2.stay, s2.newF, s2.pen, s.len, fun j dj hj h => s2.sh j dj (fun z => hj (List.mem_filter.mp z).1) h, fun j hj dj h => ?_, s.dj⟩, g, .inl rfl⟩
    exact s2.ow j (List.mem_filter.mpr ⟨hj, by
      simp only [ne_eq, decide_not, Bool.not_eq_eq_eq_not, Bool.not_true, decide_eq_false_iff_not]
      intro z
      subst z
      exact hi ⟨hj, dj, h⟩⟩) dj h
@[reducible] def mLookA (i : Nat) (me : ME) : ME := fun Γ n Q => ∃ g, Γ[i]? = some (some g) ∧ me Γ n fun d n1 => apD g d = true ∧ Q d n1
theorem le_lookA (i : Nat) (h : LE p (O.filter (· ≠ i)) te me) : LE p O te (mLookA i me) := fun F0 H0 F H σ Γ n Q s ⟨g, eg, q⟩ Q' k => by
  obtain ⟨F1, e1, s1, hn⟩ := s.look i
  refine h F0 H0 F1 H σ Γ n _ s1 q _ fun d v F2 H2 n2 s2 g2 r2 ⟨ap, q2⟩ => ?_
  obtain ⟨F3, s3, g3, z⟩ := s.unlookA e1 hn s2 g2
  refine k d v F3 H2 n2 s3 g3 ?_ q2
  rcases z with rfl | ⟨a, d', ed, w, ho, rfl⟩
  · exact r2
  · have : d' = g := by rw [eg] at ed; cases ed; rfl
    subst this
    exact r2.cut w ho ap
theorem eLookA (i : Nat) {O' : List Nat} (h : RE X p O' e te me) (k : O' = O.filter (· ≠ i)) : RE X p O e te (mLookA i me) := ⟨h.pe, le_lookA i (k ▸ h.le)⟩
end
def vLookA (i : Nat) (v : VE) : VE := fun Γ => (Γ[i]?).bind fun x => x.bind fun g => (v Γ).bind fun d => if apD g d = true then some d else none
theorem f_LookA {i : Nat} {me : ME} {v : VE} (h : FE me v) : FE (mLookA i me) (vLookA i v) := fun Γ n d Q e q => by
  obtain ⟨x, h1, e⟩ := bnd e
  obtain ⟨g, h2, e⟩ := bnd e
  obtain ⟨d', h3, e⟩ := bnd e
  obtain ⟨h4, rfl⟩ := ifs e
  subst h2
  exact ⟨g, h1, h Γ n d' _ h3 ⟨h4, q⟩⟩
end RR
end
section
namespace RR
open PySem PySem.Spec L2
open PyProof.Rows hiding St
end RR
end
section
namespace RR
open PySem PySem.Spec L2
open PyProof.Rows hiding St
theorem rsd_pre {X : Cx} {p : Pm} {O O2 : List Nat} {sts : List Stmt} {t : TS} {m : MS} (i : Nat) (h : RSD X p O2 sts t m) (k : O2 = O.filter (· ≠ i)) : RSD X p O sts t m := ⟨h.ps, fun F0 H0 F H σ Γ n N R s q E' hr => by
  subst k
  obtain ⟨F1, e1, s1⟩ := s.freeze i
  exact h.le F0 H0 F1 H σ Γ n N R s1 q E' hr⟩
end RR
end
section
namespace RR
open PySem PySem.Spec L2
open PyProof.Rows hiding St
end RR
end
section
namespace RR
open PySem PySem.Spec L2
open PyProof.Rows hiding St
def lstT : D → Bool
  | .list ds => ds.all tupD
  | _ => false
open Classical in
/-- what is frozen: the tuples, and the lists that are handed in -/
noncomputable def Fl (F : Hp) (args : List D) (vs : List V) : Hp := fun b => if ∃ (i : Nat) (ds : List D), args[i]? = some (.list ds) ∧ vs[i]? = some (.ref b) then F b else Ft F b
section
variable {K : PySem.W.Frag} {F H : Hp} {args : List D} {vs : List V}
theorem Fl_sub {b : Addr} {o : HO} (h : Fl F args vs b = some o) : F b = some o := by
  unfold Fl at h
  split at h
  · exact h
  · exact Ft_sub h
theorem Fl_of_Ft {b : Addr} {o : HO} (h : Ft F b = some o) : Fl F args vs b = some o := by
  unfold Fl
  split
  · exact Ft_sub h
  · exact h
theorem Fl_lst {b : Addr} {xs : List V} (h : Fl F args vs b = some (.lst xs)) : ∃ (i : Nat) (ds : List D), args[i]? = some (.list ds) ∧ vs[i]? = some (.ref b) := by
  unfold Fl at h
  split at h
  · assumption
  · exact absurd h Ft_lst
theorem Fl_at {i : Nat} {ds : List D} {b : Addr} (h : args[i]? = some (.list ds)) (k : vs[i]? = some (.ref b)) : Fl F args vs b = F b := by
  unfold Fl
  exact if_pos ⟨i, ds, h, k⟩
theorem Rps.lists (r : Rps K F args vs) (z : (args.all fun d => tupD d || lstT d) = true) : Rps K (Fl F args vs) args vs := ⟨r.len, fun i x d e1 e2 => by
  have hz := List.all_eq_true.mp z d (List.mem_of_getElem? e2)
  rw [Bool.or_eq_true] at hz
  have sm : Same (Ft F) (Fl F args vs) := fun b o e => Fl_of_Ft e
  have r1 := r.at_ i x d e1 e2
  rcases hz with hz | hz
  · exact (r1.tups hz).mono sm
  · cases d with
    | list ds =>
      obtain ⟨b, xs, rfl, hb, rb⟩ := r1.lst_inv
      have e := (Fl_at (F := F) e2 e1).trans hb
      have r2 := (rb.tups hz).mono sm
      exact .lst e r2.len r2.at_
    | _ => cases hz⟩
end
section
variable {X : Cx} {p : Pm} {O Ob : List Nat} {iD j : Nat} {mf : MP} {ta : TA} {ma : MA}
theorem not_given {F F3 : Hp} {K : PySem.W.Frag} {args : List D} {vs : List V} {a : Addr} {xs : List D} {xsV : List V} (r : Rps K F args vs) (f : Same (Fl F args vs) F3) (fa : F3 a = some (.lst xsV)) (rx : Rps K F3 xs xsV)
    (hn : ∀ ds, PyData.list ds ∈ args → apL (.list ds) xs = true) : Fl F args vs a ≠ some (.lst xsV) := fun h => by
  obtain ⟨i, ds, h1, h2⟩ := Fl_lst h
  have hF := Fl_sub h
  obtain ⟨b, us, eb, hb, rb⟩ := (r.at_ i _ _ h2 h1).lst_inv
  cases eb
  rw [hF] at hb
  cases hb
  have z := hn ds (List.mem_of_getElem? h1)
  have k1 := head_kd rb
  have k2 := head_kd rx
  unfold apL at z
  simp only [Bool.or_eq_true, Bool.not_eq_true', beq_eq_false_iff_ne] at z
  rcases z with z | z
  · exact z (rx.len.symm.trans rb.len)
  · exact z (k2.trans k1.symm)
end
end RR
end
section
namespace RR
open PySem PySem.Spec L2
open PyProof.Rows hiding St
end RR
end
section
namespace RC
open PySem PySem.Spec L2 RR
open PyProof.Rows hiding St
end RC
end
section
namespace RR
open PySem PySem.Spec L2
open PyProof.Rows hiding St
section
variable {X : Cx} {p : Pm} {O Ob : List Nat} {iD iR j : Nat} {mf : MP} {ta : TA} {ma : MA}
def newsR (args : List D) (ys : List D) : Bool := args.all fun g => match g with
  | .list _ => apL g ys
  | _ => true
@[reducible] def mTwoR (j : Nat) (mf : MP) (ma : MA) (Γ : DEnv) (n : Nat) (P : D → List D → Nat → Prop) : Prop := ∃ g, Γ[j]? = some (some g) ∧ ma Γ n fun args n2 => (args.all fun d => tupD d || lstT d) = true ∧ mf args fun d =>
  ∃ d1 ys, d = .tuple [d1, .list ys] ∧ tupD d1 = true ∧ ys.all flatD = true ∧ newsR args ys = true ∧ apL g ys = true ∧ P d1 ys n2
mutual
theorem tup_ap {g : D} : ∀ d : D, tupD d = true → apD g d = true
  | .tuple xs, h => by
    rw [tupD] at h
    rw [apD]
    exact tups_ap xs h
  | .none, _ => rfl
  | .bool _, _ => rfl
  | .int _, _ => rfl
  | .str _, _ => rfl
  | .list _, h => by cases h
  | .dict _, h => by cases h
theorem tups_ap {g : D} : ∀ xs : List D, tupD.tupAll xs = true → apD.apAll g xs = true
  | [], _ => rfl
  | x :: xs, h => by
    rw [tupD.tupAll, Bool.and_eq_true] at h
    rw [apD.apAll, tup_ap x h.1, tups_ap xs h.2]; rfl
end
theorem two_callR {F0 H0 F H : Hp} {σ : St} {Γ : DEnv} {n : Nat} (ha : LA p (O.filter (· ≠ j)) ta ma) (s : Sep p F0 H0 O F H σ Γ n) {P : D → List D → Nat → Prop} (q : mTwoR j mf ma Γ n P) {Q : V → Hp → Prop}
    (k : ∀ d1 ys v1 b t ysV F3 H3 n2, Sep p F0 H0 O F3 H3 σ Γ n2 → Gp p F H F3 H3 → H b = none → H t = none → H3 b = some (.lst ysV) → H3 t = some (.tup [v1, .ref b]) →
      Rps p.K F3 ys ysV → ys.all flatD = true → Rp p.K F3 (.tuple [d1, .list ys]) (.ref t) → P d1 ys n2 → Q (.ref t) H3) : tCall (spFd p.K mf) [] E0 ta σ H Q := by
  obtain ⟨g, eg, q⟩ := q
  obtain ⟨F1, e1, s1, hn1⟩ := s.look j
  refine ha F0 H0 F1 H σ Γ n _ s1 q _ fun args vs F2 H2 n2 s2 g2 ra ⟨tu, q2⟩ => ?_
  refine ⟨Fl F2 args vs, args, _, fun b o e => s2.fh _ _ (Fl_sub e), by rw [List.append_nil]; exact ra.lists tu, q2, fun d1 d2 v1 t b F3 H3 g3 r3 ht dist hnew ⟨d1', ys, ed, tp, fy, nw, ay, q3⟩ => ?_⟩
  cases ed
  obtain ⟨v1', r31, e31, ra1, r32⟩ := r3.uncons
  cases e31
  obtain ⟨_, _, e32, rb1, r33⟩ := r32.uncons
  cases e32
  obtain ⟨b', ysV, eb, fb3, ry⟩ := rb1.lst_inv
  cases eb
  have nwy : ∀ ds, PyData.list ds ∈ args → apL (.list ds) ys = true := fun ds h => List.all_eq_true.mp nw _ h
  have nb : H2 b = none := (g3.new b _ fb3).elim (fun z => absurd z (not_given ra g3.f fb3 ry nwy)) id
  have sj : ∀ {x : Addr} {o : HO}, joinF F2 F3 x = some o → F3 x = some o ∨ (F3 x = none ∧ F2 x = some o) := fun {x o} e => by
    unfold joinF at e
    cases z : F3 x with
    | none => rw [z] at e; exact .inr ⟨rfl, e⟩
    | some u => rw [z] at e; exact .inl e
  have s3j : Same F3 (joinF F2 F3) := fun x o e => by unfold joinF; rw [e]
  have s2j : Same F2 (joinF F2 F3) := fun x o e => by
    unfold joinF
    cases z : F3 x with
    | none => exact e
    | some u =>
      have y1 := g3.fh _ _ z
      have y2 := g3.h _ _ (s2.fh _ _ e)
      rw [y1] at y2
      exact y2
  have gs : Gr F2 H2 (joinF F2 F3) H3 := ⟨s2j, fun x o e => (sj e).elim (fun z => g3.fh _ _ z) fun z => g3.h _ _ (s2.fh _ _ z.2), g3.h, fun x o e => (sj e).elim (fun z => (g3.new x o z).imp Fl_sub id) fun z => .inl z.2⟩
  have s3 := s2.gr gs
  have rt : Rp p.K (joinF F2 F3) (.tuple [d1, .list ys]) (.ref t) := .of_tup (.inl (.inl (s3j _ _ ht))) (r3.mono s3j)
  obtain ⟨F4, s4, g4, z4⟩ := s.unlookA e1 hn1 s3 (g2.trans gs.gp)
  have nH : ∀ {x : Addr}, H2 x = none → H x = none := fun {x} z => by
    cases y : H x with
    | none => rfl
    | some o => rw [g2.h x o y (s2.h0 z).2] at z; cases z
  have ap : apD g (.tuple [d1, .list ys]) = true := by
    have fa : ∀ zs : List D, zs.all flatD = true → apD.apAll g zs = true := fun zs => by
      induction zs with
      | nil => exact fun _ => rfl
      | cons z zs ih =>
        intro h
        rw [List.all_cons, Bool.and_eq_true] at h
        rw [apD.apAll, ih h.2, Bool.and_true]
        cases z <;> first | rfl | (exfalso; have := h.1; unfold flatD at this; cases this)
    rw [apD, apD.apAll, apD.apAll, apD.apAll, tup_ap d1 tp, apD, ay, fa ys fy]; rfl
  have rt4 : Rp p.K F4 (.tuple [d1, .list ys]) (.ref t) := by
    rcases z4 with rfl | ⟨a', d', ed, w, ho, rfl⟩
    · exact rt
    · have : d' = g := by rw [eg] at ed; cases ed; rfl
      subst this
      exact rt.cut w ho ap
  exact k d1 ys v1 b t ysV F4 H3 n2 s4 g4 (nH nb) (nH hnew) (g3.fh _ _ fb3) (g3.fh _ _ ht) (ry.flat_any fy) fy rt4 q3
end
end RR
end
section
namespace RR
open PySem PySem.Spec L2
open PyProof.Rows hiding St
def tKillR (p : Pm) (iD iR : Nat) (cV : V) (mf : MP) (ta : TA) (tT : TT) : TS :=
  tSeq (tAsg (tCall (spFd p.K mf) [] E0 ta) (gName iD)) (tSeq (tIfS tT (tRet (tC (.bl false))) tNext)
    (tSeq (tAsg (tOp (rIxA p.K) (tVar iD) (tC (.int 1))) (gName iR)) (tDrop (tBM p.K "list" rAppend (tVar iR) (tCons (tC cV) tNil)))))
@[reducible] def mKillR (iD iR j : Nat) (c : D) (mf : MP) (ma : MA) (mT : MT) : MS := fun E Γ n =>
  iD < Γ.length ∧ iR < Γ.length ∧ mTwoR j mf ma Γ n fun d1 ys n2 => ys.length < lim ∧
    mT (Γ.set iD (some (.tuple [d1, .list ys]))) n2 fun b n4 => if b = true then E.rt (.bool false) n4 else E.nx ((Γ.set iR none).set iD none) n4
section
variable {X : Cx} {p : Pm} {O Ob : List Nat} {iD iR j : Nat} {c : D} {cV : V} {mf : MP} {ta : TA} {ma : MA} {tT : TT} {mT : MT}
theorem ls_killR (ha : LA p (O.filter (· ≠ j)) ta ma) (hT : LT p O tT mT) (nD : iD ∉ O) (nR : iR ∉ O) (oD : p.off iD) (oR : p.off iR) (dDR : iD ≠ iR) (htb : p.dr.tb = []) :
    LS p Ob O O (tKillR p iD iR cV mf ta tT) (mKillR iD iR j c mf ma mT) := fun F0 H0 F H σ Γ n E s ⟨hlD, hlR, q⟩ E' hn hr _ _ => by
  refine two_callR ha s q fun d1 ys v1 b t ysV F3 H3 n2 s3 g3 Hb Ht h3b h3t ry fy rt ⟨ly, q3⟩ => ?_
  have s4 := s3.put nD oD rt
  refine hT F0 H0 _ H3 _ _ n2 _ s4 q3 _ fun bb F5 H5 n4 s7 g7 q5 => ?_
  cases bb with
  | true =>
    rw [if_pos rfl] at q5 ⊢
    exact hr (.bool false) (.bl false) F5 H5 n4 s7.fin (.bl false) q5
  | false =>
    rw [if_neg (by decide)] at q5 ⊢
    have b5 := g7.h _ _ h3b (s.h0 Hb).2
    have t5 := g7.h _ _ h3t (s.h0 Ht).2
    have G5 : Gp p F H F5 H5 := g3.trans g7
    let σ2 : St := σ.set iD (some (.ref t))
    let σ3 : St := σ2.set iR (some (.ref b))
    let ΓW : DEnv := (Γ.set iR none).set iD none
    have lσ : σ.length = Γ.length := s.len
    have eD2 : σ2[iD]? = some (some (.ref t)) := by
      show (σ.set iD (some (.ref t)))[iD]? = _
      rw [set_at, if_pos rfl, if_pos (by rw [lσ]; exact hlD)]
    have eR3 : σ3[iR]? = some (some (.ref b)) := by
      show ((σ.set iD (some (.ref t))).set iR (some (.ref b)))[iR]? = _
      rw [set_at, if_pos rfl, if_pos (by rw [List.length_set, lσ]; exact hlR)]
    have slA : ∀ {x : Addr}, H x = none → ∀ j ∈ O, ∀ dj, ΓW[j]? = some (some dj) → σ3[j]? ≠ some (some (.ref x)) := fun {x} hx j hj dj e z => by
      have j2 : iD ≠ j := fun y => nD (y ▸ hj)
      have j3 : iR ≠ j := fun y => nR (y ▸ hj)
      have e' : Γ[j]? = some (some dj) := by
        have e0 : ((Γ.set iR none).set iD none)[j]? = some (some dj) := e
        rwa [List.getElem?_set_ne j2, List.getElem?_set_ne j3] at e0
      have z' : σ[j]? = some (some (.ref x)) := by
        have z0 : ((σ.set iD (some (.ref t))).set iR (some (.ref b)))[j]? = some (some (.ref x)) := z
        rwa [List.getElem?_set_ne j3, List.getElem?_set_ne j2] at z0
      obtain ⟨c, c1, w, _⟩ := s.ow j hj dj e'
      rw [z'] at c1
      cases c1
      obtain ⟨o, ho⟩ := w.at
      rw [hx] at ho; cases ho
    have fN : ∀ {x : Addr}, H x = none → F x = none := fun z => s.fh.free z
    have sC : Sep p F0 H0 O F H5 σ3 ΓW n4 := by
      have y := (((s.past G5.h G5.f (fun a i e => (s7.pen a i e).2.2.1) htb).scr nD oD (some (.ref t))).scr nR oR (some (.ref b)))
      have eΓ : (Γ.set iD none).set iR none = ΓW := by
        show _ = (Γ.set iR none).set iD none
        rw [List.set_comm _ _ dDR]
      rw [eΓ] at y
      exact y
    refine ⟨.ref t, eD2, .inr (.inl ⟨t, _, 1, .ref b, rfl, rfl, .inl (.inl t5), rfl, ?_⟩)⟩
    refine ⟨.ref b, eR3, .inl ⟨rfl, ysV, .of b5⟩, b, ysV, cV, rfl, rfl, b5, by rw [ry.len]; exact lim_lt (Nat.le_of_lt ly), ?_⟩
    exact hn F _ σ3 ΓW n4 (sC.poke (o := .lst (ysV ++ [cV])) (fN Hb) (s.h0 Hb).1 (s.h0 Hb).2 (slA Hb)) (.refl F) q5
end
section
variable {X : Cx} {p : Pm} {O O' O1 Ob : List Nat} {sts rest : List Stmt} {c3 : Expr} {args : List Expr} {iD iR j : Nat} {c : D} {cV : V} {mf : MP} {ta : TA} {ma : MA} {tT : TT} {mT : MT} {u : TS} {mu : MS}
theorem ssKillRr (ha : RA X p O' args ta ma) (hO : O' = O.filter (· ≠ j)) (hT : RT X p O c3 tT mT) (hr : RSs X p Ob O O1 rest u mu)
    (hps : PA X args ta → PT X c3 tT → PSs X rest u → PSs X sts (tSeq (tAsg (tCall (spFd p.K mf) [] E0 ta) (gName iD)) (tSeq (tIfS tT (tRet (tC (.bl false))) tNext)
    (tSeq (tAsg (tOp (rIxA p.K) (tVar iD) (tC (.int 1))) (gName iR)) (tSeq (tDrop (tBM p.K "list" rAppend (tVar iR) (tCons (tC cV) tNil))) u)))))
    (nD : iD ∉ O) (nR : iR ∉ O) (oD : p.off iD) (oR : p.off iR) (dDR : iD ≠ iR) (htb : p.dr.tb = [] := by rfl) :
    RSs X p Ob O O1 sts (tSeq (tAsg (tCall (spFd p.K mf) [] E0 ta) (gName iD)) (tSeq (tIfS tT (tRet (tC (.bl false))) tNext)
    (tSeq (tAsg (tOp (rIxA p.K) (tVar iD) (tC (.int 1))) (gName iR)) (tSeq (tDrop (tBM p.K "list" rAppend (tVar iR) (tCons (tC cV) tNil))) u)))) (mSeq (mKillR iD iR j c mf ma mT) mu) := ⟨hps ha.pa hT.pt hr.ps, by
      have := ls_seq (ls_killR (mf := mf) (iD := iD) (iR := iR) (c := c) (cV := cV) (hO ▸ ha.le) hT.le nD nR oD oR dDR htb) hr.le
      exact this⟩
end
end RR
end
section
namespace RR
open PySem PySem.Spec L2
open PyProof.Rows hiding St
section
variable {X : Cx} {p : Pm} {O : List Nat} {j : Nat} {e1 : Expr} {t1 : TE} {m1 : ME} {pos q tp : Pos} {x : Str} {k : Nat}
theorem rsd_pairE (j : Nat) (hj : j ∈ O) (hv : PE X (.Name x q) (tVar j)) (he : RE X p O e1 t1 m1) (h1 : starEach [e1, .Name x q] X.env = (false, eval e1 X.env) :: starEach [.Name x q] X.env := by rfl) (h2 : starEach [.Name x q] X.env = (false, eval (.Name x q) X.env) :: starEach [] X.env := by rfl) : RSD X p O [.Return (some (.Tuple [e1, .Name x q] k tp)) pos] (tRet (tTup (tCons t1 (tCons (tVar j) tNil)))) (mRet (mTup (mCons m1 (mCons (mVar j) mNil)))) := ⟨pss_one (ps_ret (pe_tup (pa_cons he.pe (pa_cons hv pa_nil h2) h1))), fun F0 H0 F H σ Γ n N R s q E' hr => by
  refine he.le F0 H0 F H σ Γ n _ s q _ fun d1 v1 F1 H1 n1 s1 g1 r1 ⟨d2, e2, l, q1⟩ => ?_
  obtain ⟨b, f2, w, fb, h0, np⟩ := s1.ow j hj d2 e2
  refine ⟨.ref b, f2, by show 2 ≤ sizeLine; exact Nat.le_trans (show 2 ≤ lim by decide) (lim_le (Nat.le_refl _)), fun t ht => ?_⟩
  have fr : Free p H0 (O.filter (· ≠ j)) F1 H1 σ (Γ.set j none) d2 b := ⟨w, fb, h0, np, fun k hk dk ek z => by
    obtain ⟨k1, k2⟩ := List.mem_filter.mp hk
    have hkj : k ≠ j := by simpa using k2
    rw [List.getElem?_set_ne (Ne.symm hkj)] at ek
    exact s1.dj j hj k k1 (Ne.symm hkj) b d2 dk e2 ek f2 z⟩
  obtain ⟨F2, s2, sm, _, rb, _⟩ := (s1.forget j).freeze0 fr
  have g := Gr.new1 (F := F2) s2.fh ht (.tup [v1, .ref b])
  have s3 := s2.gr g
  refine hr d1 d2 v1 t b _ _ n1 s3.fin (.cons ((r1.mono sm).mono g.f) (.cons (rb.mono g.f) .nil)) upd_same (fun xs ed z => ?_) (s1.h0 ht).1 q1
  subst ed z
  obtain ⟨a, xs', ea, fa, _⟩ := r1.lst_inv
  cases ea
  rw [fb] at fa; cases fa⟩
end
end RR
end
section
namespace RR
open PySem PySem.Spec L2
open PyProof.Rows hiding St
def pairKD (q : Key × D) : D := .tuple [keyD q.1, q.2]
@[reducible] def mDictP (me : ME) : ME := fun Γ n Q => me Γ n fun d n1 => ∃ ps : List (Key × D), d = .list (ps.map pairKD) ∧ Q (.dict (ps.foldl (fun acc q => putD acc q.1 q.2) [])) n1
theorem keyD_rp {K : PySem.W.Frag} {F : Hp} {k : Key} {v : V} (h : Rp K F (keyD k) v) : v = kV k := by
  cases k <;> (cases h; rfl)
theorem pairs_rp {K : PySem.W.Frag} {F : Hp} : ∀ {ps : List (Key × D)} {xs : List V}, Rps K F (ps.map pairKD) xs → ∃ (as : List Addr) (kvs : List (Key × V)), xs = as.map V.ref ∧ Paired (fun p kv => SqT K F p [kV kv.1, kv.2]) as kvs ∧ ∀ (acc : List (D × D)) (bcc : List (Key × V)), RKs K F acc bcc → RKs K F (ps.foldl (fun acc q => putD acc q.1 q.2) acc) (mergeK bcc kvs)
  | [], xs, h => ⟨[], [], h.unnil, .nil, fun acc bcc r => r⟩
  | q :: ps, xs, h => by
    obtain ⟨v, r, rfl, h1, h2⟩ := h.uncons
    obtain ⟨as, kvs, rfl, hp, hf⟩ := pairs_rp h2
    obtain ⟨a, us, rfl, ht, hu⟩ := h1.tup_inv
    obtain ⟨v1, r1, rfl, u1, hu⟩ := hu.uncons
    obtain ⟨v2, r2, rfl, u2, hu⟩ := hu.uncons
    cases hu.unnil
    have e1 := keyD_rp u1
    subst e1
    exact ⟨a :: as, (q.1, v2) :: kvs, rfl, .cons ht hp, fun acc bcc r => hf _ _ (r.put q.1 u2)⟩
def rDictP (K : PySem.W.Frag) : List V → Hp → VK → Prop := fun xs H Q => ∃ (a : Addr) (ps : List Addr) (kvs : List (Key × V)), xs = [.ref a] ∧ SqL K H a (ps.map V.ref) ∧ Paired (fun p kv => SqT K H p [kV kv.1, kv.2]) ps kvs ∧ ∀ p, H p = none → Q (.ref p) (upd H p (.dK (mergeK [] kvs)))
section
variable {X : Cx} {p : Pm} {O : List Nat} {e : Expr} {te : TE} {me : ME} {q pos : Pos}
theorem Paired.mono66 {α β : Type} {P Q : α → β → Prop} (h : ∀ a b, P a b → Q a b) : ∀ {xs : List α} {ys : List β}, Paired P xs ys → Paired Q xs ys := fun r => by
  induction r with
  | nil => exact .nil
  | cons a _ ih => exact .cons (h _ _ a) ih
theorem lf_dictP (h : LE p O te me) : LF p O (tCB (rDictP p.K) (tCons te tNil)) (mDictP me) := fun F0 H0 F H σ Γ n Q s q Q' k =>
  h F0 H0 F H σ Γ n _ s q _ fun d v F1 H1 n1 s1 g1 r1 ⟨ps, ed, q1⟩ => by
    subst ed
    obtain ⟨b, xs, rfl, hb, rb⟩ := r1.lst_inv
    obtain ⟨as, kvs, rfl, hp, hf⟩ := pairs_rp rb
    have rk := hf [] [] .nil
    refine ⟨b, as, kvs, rfl, .inl (.inl (s1.fh _ _ hb)), Paired.mono66 (fun a kv z => Same.sqt s1.fh z) hp, fun a ha => ?_⟩
    have g := Gr.new0 s1.fh ha (.dK (mergeK [] kvs))
    refine k _ a F1 _ n1 (s1.gr g) (g1.trans g.gp) (.dct upd_same rk.keys rk.at_) (s1.fh.free ha) ?_ q1
    cases z : H a with
    | none => rfl
    | some o => rw [g1.h a o z (s1.h0 ha).2] at ha; cases ha
theorem fDictP (hK : p.K = X.K) (hc : X.calm = true) (hg : Gl X "dict") (hm : X.mg "dict" = none) (he : RE X p O e te me)
    (h1 : starEach [e] X.env = (false, eval e X.env) :: starEach [] X.env := by rfl) (hpl : (backTo pos (starEach [] X.env)).any (·.1) = false := by rfl) :
    RF X p O (.Call (.Name "dict" q) [e] [] pos) (tCB (rDictP p.K) (tCons te tNil)) (mDictP me) :=
  ⟨hK ▸ pe_callTy (call_dictP hc) hg hm (by decide +kernel) (pa_cons he.pe pa_nil h1) (by decide) (by decide) h1 hpl, lf_dictP he.le⟩
end
end RR
end
section
namespace RR
open PySem PySem.Spec L2
open PyProof.Rows hiding St
def unpair : List D → Option (List (Key × D))
  | [] => some []
  | .tuple [k, v] :: r => (keyOf k).bind fun k' => (unpair r).bind fun ps => some ((k', v) :: ps)
  | _ => none
theorem keyOf_keyD {k : D} {k' : Key} (h : keyOf k = some k') : k = keyD k' := by
  unfold keyOf at h
  split at h <;> cases h <;> rfl
theorem unpair_eq : ∀ {xs : List D} {ps : List (Key × D)}, unpair xs = some ps → xs = ps.map pairKD
  | [], ps, h => by
    rw [unpair] at h
    cases h; rfl
  | .tuple [k, v] :: r, ps, h => by
    rw [unpair] at h
    obtain ⟨k', h1, h⟩ := bnd h
    obtain ⟨qs, h2, h⟩ := bnd h
    cases h
    rw [List.map_cons, ← unpair_eq h2, keyOf_keyD h1]; rfl
def asLst : D → Option (List D)
  | .list xs => some xs
  | _ => none
theorem asLst_eq {d : D} {xs : List D} (h : asLst d = some xs) : d = .list xs := by
  cases d <;> first | (cases h; rfl) | cases h
def vDictP (a : VE) : VE := fun Γ => (a Γ).bind fun d => (asLst d).bind fun xs => (unpair xs).bind fun ps => some (.dict (ps.foldl (fun acc q => putD acc q.1 q.2) []))
theorem f_DictP {ma : ME} {a : VE} (h : FE ma a) : FE (mDictP ma) (vDictP a) := fun Γ n d Q e q => by
  obtain ⟨x, h1, e⟩ := bnd e
  obtain ⟨xs, h2, e⟩ := bnd e
  obtain ⟨ps, h3, e⟩ := bnd e
  cases e
  exact h Γ n x _ h1 ⟨ps, (asLst_eq h2).trans (congrArg _ (unpair_eq h3)), q⟩
theorem spF_fd {K : PySem.W.Frag} {m : MP} (vs : List V) (H : Hp) (Q : VK) (E : L2.XK) (h : spF K m vs H Q E) : spFd K m vs H Q E := by
  obtain ⟨F, ds, R, s, r, q, k⟩ := h
  exact ⟨F, ds, R, s, r, q, fun d1 d2 v1 t b F' H' g rr ht _ _ rd => k _ _ F' H' g (.of_tup (.inl (.inl ht)) rr) rd⟩
theorem FI.plainD {P : Program} {w : World} {K : PySem.W.Frag} {mg : Str → Option Value} {base : Heap} {k : Nat} {x : Str} {ps : List Str} {mf : MP} (F : FI P w K mg base k x ps (spFd K mf)) : FI P w K mg base k x ps (spF K mf) := by
  obtain ⟨f, fd, G, h⟩ := F.ex
  exact ⟨f, fd, G.imp spF_fd, h⟩
end RR
end
section
namespace RC
open PySem PySem.Spec L2 RR
open PyProof.Rows hiding St
def b__law_put_in : MS := (mSeq (mPar [2, 3] (mCons (mLst mNil) (mCons (mLst mNil) mNil))) (mSeq (mFor (mIR1 (mCons (mOp dAdd (mCl cLen (mCons (mVar 0) mNil)) (mC (.int 1))) mNil)) (mgName 4) (mSeq (mSet 5 (mCl cSorted (mCons (mLc (mISeq (mVar 1)) (mgTup 2 (mgCons (mgName 6) (mgCons (mgName 7) mgNil))) (mTest (mOp dEq (mVar 6) (mVar 4))) (mVar 7) [6, 7]) mNil))) (mSeq (mIfS (mAnd (mTest (mOp dNe (mVar 5) (mLst mNil))) (mTest (mOp dIn (mOp dIx (mOp dIx (mVar 0) (mOp dSub (mVar 4) (mC (.int 1)))) (mC (.int 0))) (mTup (mCons (mC (.str "plain")) (mCons (mC (.str "branch")) (mCons (mC (.str "load")) (mCons (mC (.str "align")) mNil)))))))) (mAppend 2 (mTup (mCons (mC (.str "over")) (mCons (mVar 4) mNil)))) mNext) (mSeq (mSet 2 (mOp dAddL (mVar 2) (mLc (mISeq (mVar 5)) (mgName 7) mYes (mTup (mCons (mC (.str "word")) (mCons (mVar 7) mNil))) [7]))) (mIfS (mTest (mOp dLt (mVar 4) (mCl cLen (mCons (mVar 0) mNil)))) (mSeq (mAppend 3 (mLook (mCl cLen (mCons (mVar 2) mNil)))) (mAppend 2 (mOp dIx (mVar 0) (mVar 4)))) mNext))))) (mSeq (mPar [8, 9] (mCons (mLst mNil) (mCons (mDictP (mLc (mIEn (mCons (mVar 3) mNil)) (mgTup 2 (mgCons (mgName 4) (mgCons (mgName 10) mgNil))) mYes (mTup (mCons (mVar 10) (mCons (mVar 4) mNil))) [4, 10])) mNil))) (mSeq (mFor (mIEn (mCons (mVar 2) mNil)) (mgTup 2 (mgCons (mgName 10) (mgCons (mgName 11) mgNil))) (mIfS (mTest (mOp dEq (mOp dIx (mVar 11) (mC (.int 0))) (mC (.str "over")))) (mAppend 8 (mTup (mCons (mC (.str "jump")) (mCons (mOp dIx (mVar 3) (mOp dIx (mVar 11) (mC (.int 1)))) mNil)))) (mIfS (mAnd (mTest (mOp dIn (mVar 10) (mVar 9))) (mTest (mOp dIn (mOp dIx (mVar 11) (mC (.int 0))) (mTup (mCons (mC (.str "jump")) (mCons (mC (.str "branch")) mNil)))))) (mAppend 8 (mTup (mCons (mOp dIx (mVar 11) (mC (.int 0))) (mCons (mOp dIx (mVar 3) (mOp dIx (mVar 11) (mC (.int 1)))) mNil)))) (mAppend 8 (mVar 11))))) (mRet (mTup (mCons (mCl cTuple (mCons (mVar 8) mNil)) (mCons (mVar 3) mNil))))))))
def m__law_put_in : MP := mFun ["part", "placed", "rows", "table", "k", "values", "spot", "value", "made", "old", "at", "row"] 2 b__law_put_in
def vb__law_put_in : VS := (vSeqS (vPar [2, 3] (vCons (vLst vNil) (vCons (vLst vNil) vNil))) (vSeqS (vFor (vIR1 (vCons (vOp dAdd (vCl cLen (vCons (vVar 0) vNil)) (vC (.int 1))) vNil)) (vgName 4) (vSeqS (vSet 5 (vCl cSortedE (vCons (vLc (vISeq (vVar 1)) (vgTup 2 (vgCons (vgName 6) (vgCons (vgName 7) vgNil))) (vTest (vOp dEq (vVar 6) (vVar 4))) (vVar 7) [6, 7]) vNil))) (vSeqS (vIfS (vAnd (vTest (vOp dNe (vVar 5) (vLst vNil))) (vTest (vOp dIn (vOp dIx (vOp dIx (vVar 0) (vOp dSub (vVar 4) (vC (.int 1)))) (vC (.int 0))) (vTup (vCons (vC (.str "plain")) (vCons (vC (.str "branch")) (vCons (vC (.str "load")) (vCons (vC (.str "align")) vNil)))))))) (vAppend 2 (vTup (vCons (vC (.str "over")) (vCons (vVar 4) vNil)))) vNext) (vSeqS (vSet 2 (vOp dAddL (vVar 2) (vLc (vISeq (vVar 5)) (vgName 7) vYes (vTup (vCons (vC (.str "word")) (vCons (vVar 7) vNil))) [7]))) (vIfS (vTest (vOp dLt (vVar 4) (vCl cLen (vCons (vVar 0) vNil)))) (vSeqS (vAppend 3 (vLook (vCl cLen (vCons (vVar 2) vNil)))) (vAppend 2 (vOp dIx (vVar 0) (vVar 4)))) vNext))))) (vSeqS (vPar [8, 9] (vCons (vLst vNil) (vCons (vDictP (vLc (vIEn (vCons (vVar 3) vNil)) (vgTup 2 (vgCons (vgName 4) (vgCons (vgName 10) vgNil))) vYes (vTup (vCons (vVar 10) (vCons (vVar 4) vNil))) [4, 10])) vNil))) (vSeqS (vFor (vIEn (vCons (vVar 2) vNil)) (vgTup 2 (vgCons (vgName 10) (vgCons (vgName 11) vgNil))) (vIfS (vTest (vOp dEq (vOp dIx (vVar 11) (vC (.int 0))) (vC (.str "over")))) (vAppend 8 (vTup (vCons (vC (.str "jump")) (vCons (vOp dIx (vVar 3) (vOp dIx (vVar 11) (vC (.int 1)))) vNil)))) (vIfS (vAnd (vTest (vOp dIn (vVar 10) (vVar 9))) (vTest (vOp dIn (vOp dIx (vVar 11) (vC (.int 0))) (vTup (vCons (vC (.str "jump")) (vCons (vC (.str "branch")) vNil)))))) (vAppend 8 (vTup (vCons (vOp dIx (vVar 11) (vC (.int 0))) (vCons (vOp dIx (vVar 3) (vOp dIx (vVar 11) (vC (.int 1)))) vNil)))) (vAppend 8 (vVar 11))))) (vRet (vTup (vCons (vCl cTuple (vCons (vVar 8) vNil)) (vCons (vVar 3) vNil))))))))
def v__law_put_in : VP := vFun ["part", "placed", "rows", "table", "k", "values", "spot", "value", "made", "old", "at", "row"] 2 vb__law_put_in
theorem fp__law_put_in : FP m__law_put_in v__law_put_in := by
  unfold m__law_put_in v__law_put_in b__law_put_in vb__law_put_in
  exact f_Fun (f_Seq (f_Par (f_Cons (f_Lst f_Nil) (f_Cons (f_Lst f_Nil) f_Nil))) (f_Seq (f_For (f_IR1 (f_Cons (f_Op (f_Cl (f_Cons f_Var f_Nil)) f_C) f_Nil)) f_gName (f_Seq (f_Set (f_ClE cSorted_E (f_Cons (f_Lc (f_ISeq f_Var) (f_gTup (f_gCons f_gName (f_gCons f_gName f_gNil))) (f_Test (f_Op f_Var f_Var)) f_Var) f_Nil))) (f_Seq (f_IfS (f_And (f_Test (f_Op f_Var (f_Lst f_Nil))) (f_Test (f_Op (f_Op (f_Op f_Var (f_Op f_Var f_C)) f_C) (f_Tup (f_Cons f_C (f_Cons f_C (f_Cons f_C (f_Cons f_C f_Nil)))))))) (f_Append (f_Tup (f_Cons f_C (f_Cons f_Var f_Nil)))) f_Next) (f_Seq (f_Set (f_Op f_Var (f_Lc (f_ISeq f_Var) f_gName f_Yes (f_Tup (f_Cons f_C (f_Cons f_Var f_Nil)))))) (f_IfS (f_Test (f_Op f_Var (f_Cl (f_Cons f_Var f_Nil)))) (f_Seq (f_Append (f_Look (f_Cl (f_Cons f_Var f_Nil)))) (f_Append (f_Op f_Var f_Var))) f_Next))))) (f_Seq (f_Par (f_Cons (f_Lst f_Nil) (f_Cons (f_DictP (f_Lc (f_IEn (f_Cons f_Var f_Nil)) (f_gTup (f_gCons f_gName (f_gCons f_gName f_gNil))) f_Yes (f_Tup (f_Cons f_Var (f_Cons f_Var f_Nil))))) f_Nil))) (f_Seq (f_For (f_IEn (f_Cons f_Var f_Nil)) (f_gTup (f_gCons f_gName (f_gCons f_gName f_gNil))) (f_IfS (f_Test (f_Op (f_Op f_Var f_C) f_C)) (f_Append (f_Tup (f_Cons f_C (f_Cons (f_Op f_Var (f_Op f_Var f_C)) f_Nil)))) (f_IfS (f_And (f_Test (f_Op f_Var f_Var)) (f_Test (f_Op (f_Op f_Var f_C) (f_Tup (f_Cons f_C (f_Cons f_C f_Nil)))))) (f_Append (f_Tup (f_Cons (f_Op f_Var f_C) (f_Cons (f_Op f_Var (f_Op f_Var f_C)) f_Nil)))) (f_Append f_Var)))) (f_Ret (f_Tup (f_Cons (f_Cl (f_Cons f_Var f_Nil)) (f_Cons f_Var f_Nil))))))))
def b_put_words_v2 : MS := (mSeq (mSet 2 (mLst mNil)) (mSeq (mSet 3 (mLst mNil)) (mSeq (mFor (mIEn (mCons (mVar 0) mNil)) (mgTup 2 (mgCons (mgName 4) (mgCons (mgName 5) mgNil))) (mSeq (mAppend 3 (mLook (mCl cLen (mCons (mVar 2) mNil)))) (mSeq (mAppend 2 (mVar 5)) (mSeq (mSet 6 (mLc (mISeq (mVar 1)) (mgTup 2 (mgCons (mgName 7) (mgCons (mgName 8) mgNil))) (mTest (mOp dEq (mVar 7) (mOp dAdd (mVar 4) (mC (.int 1))))) (mVar 8) [7, 8])) (mSeq (mIfS (mAnd (mTru (mVar 6)) (mTest (mOp dIn (mOp dIx (mVar 5) (mC (.int 0))) (mC c_GOING_ON)))) (mAppend 2 (mTup (mCons (mC (.str "jump")) (mCons (mOp dAdd (mVar 4) (mC (.int 1))) mNil)))) mNext) (mExtend 2 (mLc (mISeq (mVar 6)) (mgName 8) mYes (mTup (mCons (mC (.str "word")) (mCons (mVar 8) mNil))) [8]))))))) (mRet (mTup (mCons (mLookA 3 (mCl cTuple (mCons (mLc (mISeq (mVar 2)) (mgName 5) mYes (mCall m_renumbered (mCons (mVar 5) (mCons (mVar 3) mNil))) [5]) mNil))) (mCons (mVar 3) mNil)))))))
def m_put_words_v2 : MP := mFun ["part", "placed", "rows", "table", "number", "row", "values", "spot", "value"] 2 b_put_words_v2
def vb_put_words_v2 : VS := (vSeqS (vSet 2 (vLst vNil)) (vSeqS (vSet 3 (vLst vNil)) (vSeqS (vFor (vIEn (vCons (vVar 0) vNil)) (vgTup 2 (vgCons (vgName 4) (vgCons (vgName 5) vgNil))) (vSeqS (vAppend 3 (vLook (vCl cLen (vCons (vVar 2) vNil)))) (vSeqS (vAppend 2 (vVar 5)) (vSeqS (vSet 6 (vLc (vISeq (vVar 1)) (vgTup 2 (vgCons (vgName 7) (vgCons (vgName 8) vgNil))) (vTest (vOp dEq (vVar 7) (vOp dAdd (vVar 4) (vC (.int 1))))) (vVar 8) [7, 8])) (vSeqS (vIfS (vAnd (vTru (vVar 6)) (vTest (vOp dIn (vOp dIx (vVar 5) (vC (.int 0))) (vC c_GOING_ON)))) (vAppend 2 (vTup (vCons (vC (.str "jump")) (vCons (vOp dAdd (vVar 4) (vC (.int 1))) vNil)))) vNext) (vExtend 2 (vLc (vISeq (vVar 6)) (vgName 8) vYes (vTup (vCons (vC (.str "word")) (vCons (vVar 8) vNil))) [8]))))))) (vRet (vTup (vCons (vLookA 3 (vCl cTuple (vCons (vLc (vISeq (vVar 2)) (vgName 5) vYes (vCall v_renumbered (vCons (vVar 5) (vCons (vVar 3) vNil))) [5]) vNil))) (vCons (vVar 3) vNil)))))))
def v_put_words_v2 : VP := vFun ["part", "placed", "rows", "table", "number", "row", "values", "spot", "value"] 2 vb_put_words_v2
theorem fp_put_words_v2 : FP m_put_words_v2 v_put_words_v2 := by
  unfold m_put_words_v2 v_put_words_v2 b_put_words_v2 vb_put_words_v2
  exact f_Fun (f_Seq (f_Set (f_Lst f_Nil)) (f_Seq (f_Set (f_Lst f_Nil)) (f_Seq (f_For (f_IEn (f_Cons f_Var f_Nil)) (f_gTup (f_gCons f_gName (f_gCons f_gName f_gNil))) (f_Seq (f_Append (f_Look (f_Cl (f_Cons f_Var f_Nil)))) (f_Seq (f_Append f_Var) (f_Seq (f_Set (f_Lc (f_ISeq f_Var) (f_gTup (f_gCons f_gName (f_gCons f_gName f_gNil))) (f_Test (f_Op f_Var (f_Op f_Var f_C))) f_Var)) (f_Seq (f_IfS (f_And (f_Tru f_Var) (f_Test (f_Op (f_Op f_Var f_C) f_C))) (f_Append (f_Tup (f_Cons f_C (f_Cons (f_Op f_Var f_C) f_Nil)))) f_Next) (f_Extend (f_Lc (f_ISeq f_Var) f_gName f_Yes (f_Tup (f_Cons f_C (f_Cons f_Var f_Nil)))))))))) (f_Ret (f_Tup (f_Cons (f_LookA (f_Cl (f_Cons (f_Lc (f_ISeq f_Var) f_gName f_Yes (f_Call fp_renumbered (f_Cons f_Var (f_Cons f_Var f_Nil)))) f_Nil))) (f_Cons f_Var f_Nil)))))))
def b_check_placed_v2 : MS := (mSeq (mIfS (mNot (mTest (mCall m_are_pairs (mCons (mVar 1) (mCons (mTup (mCons (mTup (mCons (mC (.int 1)) (mCons (mCl cLen (mCons (mVar 0) mNil)) mNil))) (mCons (mTup (mCons (mC (.int 0)) (mCons (mC c_HIGHEST) mNil))) mNil))) mNil))))) mNever mNext) (mIfS (mNot (mTest (mCall m_is_part (mCons (mOp dIx (mCall m_put_words_v2 (mCons (mVar 0) (mCons (mVar 1) mNil))) (mC (.int 0))) mNil)))) mNever mNext))
def m_check_placed_v2 : MP := mFun ["part", "placed"] 2 b_check_placed_v2
def vb_check_placed_v2 : VS := (vSeqS (vIfS (vNot (vTest (vCall v_are_pairs (vCons (vVar 1) (vCons (vTup (vCons (vTup (vCons (vC (.int 1)) (vCons (vCl cLen (vCons (vVar 0) vNil)) vNil))) (vCons (vTup (vCons (vC (.int 0)) (vCons (vC c_HIGHEST) vNil))) vNil))) vNil))))) vNever vNext) (vIfS (vNot (vTest (vCall v_is_part (vCons (vOp dIx (vCall v_put_words_v2 (vCons (vVar 0) (vCons (vVar 1) vNil))) (vC (.int 0))) vNil)))) vNever vNext))
def v_check_placed_v2 : VP := vFun ["part", "placed"] 2 vb_check_placed_v2
theorem fp_check_placed_v2 : FP m_check_placed_v2 v_check_placed_v2 := by
  unfold m_check_placed_v2 v_check_placed_v2 b_check_placed_v2 vb_check_placed_v2
  exact f_Fun (f_Seq (f_IfS (f_Not (f_Test (f_Call fp_are_pairs (f_Cons f_Var (f_Cons (f_Tup (f_Cons (f_Tup (f_Cons f_C (f_Cons (f_Cl (f_Cons f_Var f_Nil)) f_Nil))) (f_Cons (f_Tup (f_Cons f_C (f_Cons f_C f_Nil))) f_Nil))) f_Nil))))) f_Never f_Next) (f_IfS (f_Not (f_Test (f_Call fp_is_part (f_Cons (f_Op (f_Call fp_put_words_v2 (f_Cons f_Var (f_Cons f_Var f_Nil))) f_C) f_Nil)))) f_Never f_Next))
def b_with_words_v2 : MS := (mSeq (mDrop (mCall m_check_part (mCons (mVar 0) mNil))) (mSeq (mDrop (mCall m_check_placed_v2 (mCons (mVar 0) (mCons (mVar 1) mNil)))) (mRet (mCall m_put_words_v2 (mCons (mVar 0) (mCons (mVar 1) mNil))))))
def m_with_words_v2 : MP := mFun ["part", "placed"] 2 b_with_words_v2
def vb_with_words_v2 : VS := (vSeqS (vDrop (vCall v_check_part (vCons (vVar 0) vNil))) (vSeqS (vDrop (vCall v_check_placed_v2 (vCons (vVar 0) (vCons (vVar 1) vNil)))) (vRet (vCall v_put_words_v2 (vCons (vVar 0) (vCons (vVar 1) vNil))))))
def v_with_words_v2 : VP := vFun ["part", "placed"] 2 vb_with_words_v2
theorem fp_with_words_v2 : FP m_with_words_v2 v_with_words_v2 := by
  unfold m_with_words_v2 v_with_words_v2 b_with_words_v2 vb_with_words_v2
  exact f_Fun (f_Seq (f_Drop (f_Call fp_check_part (f_Cons f_Var f_Nil))) (f_Seq (f_Drop (f_Call fp_check_placed_v2 (f_Cons f_Var (f_Cons f_Var f_Nil)))) (f_Ret (f_Call fp_put_words_v2 (f_Cons f_Var (f_Cons f_Var f_Nil))))))
def b_c41_law : MS := (mSeq (mFor (mIR1 (mCons (mC (.int 8)) mNil)) (mgName 2) (mSeq (mSet 3 (mCallP m__law_any_part (mCons (mC (.int 3)) (mCons (mOp dMul (mC (.int 4)) (mCallP m__law_take_v3 (mCons (mC (.int 2)) mNil))) (mCons (mCallP m__law_one_of_v2 (mCons (mLst (mCons (mC (.int 3)) (mCons (mC (.int 8)) (mCons (mC (.int 14)) mNil)))) mNil)) mNil))))) (mSeq (mSet 4 (mLst mNil)) (mFor (mIR1 (mCons (mC (.int 4)) mNil)) (mgName 5) (mSeq (mPar [6, 7] (mCons (mLook (mLook (mCl cReprX (mCons (mTup (mCons (mVar 3) (mCons (mVar 4) mNil))) mNil)))) (mCons (mLookA 4 (mCall m__law_put_in (mCons (mVar 3) (mCons (mVar 4) mNil)))) mNil))) (mSeq (mIfS (mOr (mTest (mOp dGt (mCl cLen (mCons (mOp dIx (mVar 7) (mC (.int 0))) mNil)) (mC (.int 20)))) (mNot (mTest (mCall m_is_part (mCons (mOp dIx (mVar 7) (mC (.int 0))) mNil))))) mBreak mNext) (mSeq (mKillR 8 9 4 .none m_with_words_v2 (mCons (mVar 3) (mCons (mVar 4) mNil)) (mOr (mTest (mOp dNe (mCl cReprX (mCons (mVar 8) mNil)) (mCl cReprX (mCons (mVar 7) mNil)))) (mOr (mTest (mOp dNe (mCl cReprX (mCons (mTup (mCons (mVar 3) (mCons (mVar 4) mNil))) mNil)) (mVar 6))) (mTest (mOp dNotB (mCall m_is_part (mCons (mOp dIx (mVar 8) (mC (.int 0))) mNil)) (mC (.bool true))))))) (mSeq (mIfS (mTest (mOp dIn (mC .none) (mOp dIx (mCall m_with_words_v2 (mCons (mVar 3) (mCons (mVar 4) mNil))) (mC (.int 1))))) (mRet (mC (.bool false))) mNext) (mSeq (mSet 10 (mTup (mCons (mOp dAdd (mC (.int 1)) (mCallP m__law_take_v3 (mCons (mCl cLen (mCons (mVar 3) mNil)) mNil))) (mCons (mCallP m__law_one_of_v2 (mCons (mLst (mCons (mC (.int 0)) (mCons (mC (.int 1)) (mCons (mC (.int 2)) (mCons (mC (.int 10)) (mCons (mC (.int 999)) (mCons (mC (.int 65535)) mNil))))))) mNil)) mNil)))) (mIfS (mTest (mOp dNotIn (mVar 10) (mVar 4))) (mSeq (mSet 11 (mLookA 4 (mCl cSorted (mCons (mOp dAdd (mVar 4) (mLst (mCons (mVar 10) mNil))) mNil)))) (mSeq (mClear 4) (mExtend 4 (mVar 11)))) mNext)))))))))) (mRet (mC (.bool true))))
end RC
end
section
namespace K41
open PySem PySem.Spec L2 RR RC
open PyProof.Rows hiding St
def topS (i : Nat) : Stmt := PySem.Challenge.pw_reachrows_k41_words_put_in.main.body.getD i (.Pass ⟨0, 0, 0, 0⟩)
structure Txt (P : Program) (w : World) (K : PySem.W.Frag) (mg : Str → Option Value) (base : Heap) : Prop where
  sys : ∃ mm, base.Ns sysModules mm
  n_all : mg "all" = none
  n_bool : mg "bool" = none
  n_dict : mg "dict" = none
  n_enumerate : mg "enumerate" = none
  n_int : mg "int" = none
  n_isinstance : mg "isinstance" = none
  n_len : mg "len" = none
  n_list : mg "list" = none
  n_range : mg "range" = none
  n_repr : mg "repr" = none
  n_sorted : mg "sorted" = none
  n_str : mg "str" = none
  n_tuple : mg "tuple" = none
  n_zip : mg "zip" = none
  k_ROW_BOUNDS : ∃ a, DK K w mg "ROW_BOUNDS" c_ROW_BOUNDS a
  c_HIGHEST : CI K mg "HIGHEST" c_HIGHEST (.int 65535)
  c_MOST_ROWS : CI K mg "MOST_ROWS" c_MOST_ROWS (.int 20)
  c_MOST_JUMPS_BESIDE_ALIGN : CI K mg "MOST_JUMPS_BESIDE_ALIGN" c_MOST_JUMPS_BESIDE_ALIGN (.int 6)
  c_MULTIPLES : ∃ a : Addr, CI K mg "MULTIPLES" c_MULTIPLES (.ref a)
  c_JUMPS : ∃ a : Addr, CI K mg "JUMPS" c_JUMPS (.ref a)
  c_GOING_ON : ∃ a : Addr, CI K mg "GOING_ON" c_GOING_ON (.ref a)
  d__law_spread : FD K mg "_law_spread" (topS 30) ["cell", "k"]
  d__law_take : FD K mg "_law_take" (topS 31) ["pen", "many"]
  d__law_one_of : FD K mg "_law_one_of" (topS 32) ["pen", "some"]
  d__law_any_words : FD K mg "_law_any_words" (topS 34) ["pen", "bends", "many"]
  d__law_any_part : FD K mg "_law_any_part" (topS 35) ["pen", "many", "bends", "most"]
  d__law_open : FD K mg "_law_open" (topS 29) ["script"]
  d__law_put_in : FD K mg "_law_put_in" (topS 36) ["part", "placed"]
  d_jump_rows : FD K mg "jump_rows" (topS 15) ["part"]
  d_goals_stand : FD K mg "goals_stand" (topS 19) ["rows"]
  d_is_even : FD K mg "is_even" (topS 18) ["part"]
  d_is_within : FD K mg "is_within" (topS 12) ["thing", "low", "high"]
  d_are_within : FD K mg "are_within" (topS 13) ["things", "bounds"]
  d_is_row : FD K mg "is_row" (topS 14) ["thing"]
  d_words_are_shunned : FD K mg "words_are_shunned" (topS 20) ["rows"]
  d_is_part : FD K mg "is_part" (topS 21) ["thing"]
  d_check_part : FD K mg "check_part" (topS 22) ["part"]
  d_is_ascending : FD K mg "is_ascending" (topS 16) ["members"]
  d_are_pairs : FD K mg "are_pairs" (topS 17) ["thing", "bounds"]
  d_renumbered : FD K mg "renumbered" (topS 24) ["row", "table"]
  d_put_words : FD K mg "put_words" (topS 25) ["part", "placed"]
  d_check_placed : FD K mg "check_placed" (topS 26) ["part", "placed"]
  d_with_words : FD K mg "with_words" (topS 27) ["part", "placed"]
  d_law : FD K mg "law" (topS 37) ["script"]
variable {P : Program} {w : World} {K : PySem.W.Frag} {mg : Str → Option Value} {base : Heap}
abbrev s__law_spread : Stmt := topS 30
theorem sc__law_spread : FnScope ["cell", "k", "primes", "one", "two", "three"] ["cell", "k"] (defScope s__law_spread) := ⟨rfl, rfl, rfl, by decide +kernel, rfl, by decide +kernel, by decide +kernel⟩
theorem ok__law_spread (T : Txt P w K mg base) : FI P w K mg base 1 "_law_spread" ["cell", "k"] (spF K m__law_spread_v3) := by
  obtain ⟨f, fd, F, g, b⟩ := T.d__law_spread.ex
  refine ⟨f, fd, FnG.pure F sc__law_spread fun cdv A outer s H E hr hg => ?_, g, F.kp, b, Fun.lk F⟩
  have hu := hr.units
  have hv := hv_of hr
  have hx := hx_of hr
  have hw := hu_of hr
  unfold b__law_spread_v3
  exact ⟨_, [], (ss_cons (sIf (O' := []) (t_cmp op_ge l_cmp (e_var 0 (pv 0) (by decide)) (e_op op_pow l_pow e_int e_int) (nomark _)) (ss_one (s_ret (e_var 0 (pv 0) (by decide)))) ss_nil (fun _ h => h) (by decide)) (ss_cons (sSet 2 sc__law_spread.nd rfl (.inl rfl) (e_lst (a_cons e_int (a_cons e_int (a_cons e_int (a_cons e_int (a_cons e_int (a_cons e_int (a_cons e_int (a_cons e_int a_nil))))))))) (by decide) off0) (ss_cons (sSet 2 sc__law_spread.nd rfl (.inl rfl) (e_op (oAdd rfl) l_add (e_var 2 (pv 2) (by decide)) (e_lst (a_cons e_int (a_cons e_int (a_cons e_int (a_cons e_int (a_cons e_int a_nil))))))) (by decide) off0) (ss_cons (sSet 3 sc__law_spread.nd rfl (.inl rfl) (e_op o_mul l_mul (e_op op_mod l_mod (cT call_int1 l_int (by rfl) T.n_int (by decide +kernel) (a_cons (e_var 0 (pv 0) (by decide)) a_nil)) e_int) (e_op (oAdd rfl) l_add (e_op o_mul l_mul e_int (e_var 1 (pv 1) (by decide))) e_int)) (by decide) off0) (ss_cons (sSet 3 sc__law_spread.nd rfl (.inl rfl) (e_op op_mod l_mod (cT call_int1 l_int (by rfl) T.n_int (by decide +kernel) (a_cons (e_op op_pow l_pow (e_op (oAdd rfl) l_add (e_op (oAdd rfl) l_add (e_var 3 (pv 3) (by decide)) (e_op o_mul l_mul (e_var 1 (pv 1) (by decide)) e_int)) e_int) e_int) a_nil)) (e_ix (oIx rfl hw) l_ix (e_var 2 (pv 2) (by decide)) (e_op op_mod l_mod (cT call_int1 l_int (by rfl) T.n_int (by decide +kernel) (a_cons (e_var 1 (pv 1) (by decide)) a_nil)) e_int) (fun _ _ => rfl))) (by decide) off0) (ss_cons (sSet 4 sc__law_spread.nd rfl (.inl rfl) (e_op op_mod l_mod (cT call_int1 l_int (by rfl) T.n_int (by decide +kernel) (a_cons (e_op op_pow l_pow (e_op (oAdd rfl) l_add (e_op (oAdd rfl) l_add (e_op o_mul l_mul (e_var 3 (pv 3) (by decide)) (e_op (oAdd rfl) l_add (e_var 1 (pv 1) (by decide)) e_int)) (e_op op_mod l_mod (cT call_int1 l_int (by rfl) T.n_int (by decide +kernel) (a_cons (e_var 0 (pv 0) (by decide)) a_nil)) e_int)) e_int) e_int) a_nil)) (e_ix (oIx rfl hw) l_ix (e_var 2 (pv 2) (by decide)) (e_op op_mod l_mod (cT call_int1 l_int (by rfl) T.n_int (by decide +kernel) (a_cons (e_op (oAdd rfl) l_add (e_var 1 (pv 1) (by decide)) e_int) a_nil)) e_int) (fun _ _ => rfl))) (by decide) off0) (ss_cons (sSet 5 sc__law_spread.nd rfl (.inl rfl) (e_op op_mod l_mod (cT call_int1 l_int (by rfl) T.n_int (by decide +kernel) (a_cons (e_op op_pow l_pow (e_op (oAdd rfl) l_add (e_op (oAdd rfl) l_add (e_var 4 (pv 4) (by decide)) (e_op op_mod l_mod (cT call_int1 l_int (by rfl) T.n_int (by decide +kernel) (a_cons (e_var 3 (pv 3) (by decide)) a_nil)) e_int)) (e_var 1 (pv 1) (by decide))) e_int) a_nil)) (e_ix (oIx rfl hw) l_ix (e_var 2 (pv 2) (by decide)) (e_op op_mod l_mod (cT call_int1 l_int (by rfl) T.n_int (by decide +kernel) (a_cons (e_op (oAdd rfl) l_add (e_var 1 (pv 1) (by decide)) e_int) a_nil)) e_int) (fun _ _ => rfl))) (by decide) off0) (ss_one (s_ret (e_op (oAdd rfl) l_add (e_op o_mul l_mul (e_op (oAdd rfl) l_add (e_op o_mul l_mul (e_var 3 (pv 3) (by decide)) e_int) (e_var 4 (pv 4) (by decide))) e_int) (e_var 5 (pv 5) (by decide))))))))))))⟩
abbrev s__law_take : Stmt := topS 31
theorem sc__law_take : FnScope ["pen", "many", "k", "cell", "found"] ["pen", "many"] (defScope s__law_take) := ⟨rfl, rfl, rfl, by decide +kernel, rfl, by decide +kernel, by decide +kernel⟩
theorem ok__law_take (T : Txt P w K mg base) : FI P w K mg base 2 "_law_take" ["pen", "many"] (spP K m__law_take_v3) := by
  obtain ⟨f, fd, F, g, b⟩ := T.d__law_take.ex
  obtain ⟨fS, fdS, GS, gS, kS, bS, _⟩ := (ok__law_spread T).ex
  refine ⟨f, fd, FnG.mk' F sc__law_take (fun vs H Q E h => ?_) (fun cdv A outer s H vs Q E hr hg h => ?_), g, F.kp, b, Fun.lk F⟩
  · obtain ⟨a, dr, ws, Fz, ds, n, R, rfl, sm, fa, pa, r, ⟨m, rfl, _⟩, _⟩ := h
    rw [List.length_cons, r.len]; rfl
  · obtain ⟨a, dr, ws, Fz, ds, n, R, rfl, sm, fa, ⟨w0, l0, xs, ha, hd, hw0, hwn, hl0⟩, r, ⟨m, rfl, hm, hm2, hn, q⟩, fin⟩ := h
    obtain ⟨v, ws', rfl, r1, r2⟩ := r.uncons
    cases r2.unnil
    cases r1.int_inv
    have hdH : H dr = some (.lst (xs.map V.int)) := sm _ _ hd
    have hne : dr ≠ a := fun z => by rw [z, fa] at hd; cases hd
    -- the end: found, what is left
    have last : ∀ (H1 : Hp) (w1 l1 : Int) (y2 y3 : Option V), (∀ b o, H b = some o → b ≠ a → H1 b = some o) → H1 a = some (.lst [.ref dr, .int w1, .int l1]) → 0 ≤ w1 → w1 ≤ (n + 1 : Nat) → 0 ≤ l1 →
        (tSeq (tAsg (tOp (rI (fun _ j => 0 < j) fun i j => .int (i % j)) (tCB (fun xs H Q => (∃ i, xs = [.int i] ∧ Q (.int i) H) ∨ ∃ k, xs = [.bl k] ∧ Q (.int (if k then 1 else 0)) H) (tCons (tOp (rIxL K) (tVar 0) (tC (.int 2))) tNil)) (tVar 1)) (gName 4))
          (tSeq (tAsg (tOp (rI CDiv fun i j => .int (i / j)) (tOp (rIxL K) (tVar 0) (tC (.int 2))) (tVar 1)) (gSub (tVar 0) (tC (.int 2)) rSetL)) (tRet (tVar 4)))) { nx := fun _ H' => Q .non H', rt := Q } [some (.ref a), some (.int m), y2, y3, none] H1 := by
      intro H1 w1 l1 y2 y3 kp h1 hw1 hw1n hl1
      refine ⟨.ref a, rfl, a, _, 2, .int l1, rfl, rfl, .of h1, rfl, .inl ⟨l1, rfl, .int m, rfl, l1, m, rfl, rfl, by omega, ?_⟩⟩
      refine ⟨.ref a, rfl, a, _, 2, .int l1, rfl, rfl, .of h1, rfl, .int m, rfl, l1, m, rfl, rfl, ⟨by omega, hm2⟩, ?_⟩
      refine ⟨.ref a, rfl, a, _, 2, 2, rfl, rfl, h1, rfl, ?_⟩
      refine ⟨_, rfl, ?_⟩
      have hx0 : 0 ≤ l1 % m := Int.emod_nonneg _ (by omega)
      have hx1 : l1 % m < m := Int.emod_lt_of_pos _ (by omega)
      refine fin (.int (l1 % m)) (n + 1) _ Fz _ (.refl _) (fun b o e => ?_) (fun b o e hb => ?_) (fun b o e => .inl e) fa ⟨w1, l1 / m, xs, upd_same, hd, hw1, hw1n, Int.ediv_nonneg hl1 (by omega)⟩ (.int _) (q _ hx0 hx1)
      · have hb : b ≠ a := fun z => by rw [z, fa] at e; cases e
        rw [upd_ne hb]
        exact kp _ _ (sm _ _ e) hb
      · rw [upd_ne hb]
        exact kp _ _ e hb
    refine ⟨_, pss_cons (ps_if (pt_cmpR op_lt (pe_ix ix_list (pv 0) pe_int (fun _ _ => rfl)) (pv 1) (nomark _))
        (pss_cons (ps_set (i := 2) sc__law_take.nd rfl (.inl rfl) (pe_ix ix_list (pv 0) pe_int (fun _ _ => rfl)))
        (pss_cons (ps_set (i := 3) sc__law_take.nd rfl (.inl rfl) pe_int)
        (pss_cons (ps_if (pt_cmpR op_lt (pv 2) (pe_callB call_len_seq (by rfl) T.n_len (by decide +kernel) (pa_cons (pe_ix ix_list (pv 0) pe_int (fun _ _ => rfl)) pa_nil)) (nomark _))
            (pss_one (ps_set (i := 3) sc__law_take.nd rfl (.inl rfl) (pe_ix ix_list (pe_ix ix_list (pv 0) pe_int (fun _ _ => rfl)) (pv 2) (fun _ _ => rfl))))
            (pss_one (ps_if (pt_cmpR op_gt (pe_callB call_len_seq (by rfl) T.n_len (by decide +kernel) (pa_cons (pe_ix ix_list (pv 0) pe_int (fun _ _ => rfl)) pa_nil)) pe_int (nomark _))
              (pss_one (ps_set (i := 3) sc__law_take.nd rfl (.inl rfl) (pe_op op_mod (pe_callTy call_int1 (by rfl) T.n_int (by decide +kernel) (pa_cons (pe_ix ix_list (pe_ix ix_list (pv 0) pe_int (fun _ _ => rfl))
                (pe_op op_mod (pe_callTy call_int1 (by rfl) T.n_int (by decide +kernel) (pa_cons (pe_op op_add (pe_op op_mul (pv 2) pe_int) pe_int) pa_nil)) (pe_callB call_len_seq (by rfl) T.n_len (by decide +kernel) (pa_cons (pe_ix ix_list (pv 0) pe_int (fun _ _ => rfl)) pa_nil))) (fun _ _ => rfl)) pa_nil))
                (pe_op op_add (pe_op op_pow pe_int pe_int) (pv 2))))) pss_nil)))
        (pss_cons (ps_asg (pe_op op_add (pv 2) pe_int) (pg_sub (pv 0) pe_int set_list))
        (pss_one (ps_asg (pe_callG GS (hr.mono (by decide)) (hg.le (by decide)) (by rfl) gS kS bS (pa_cons (pv 3) (pa_cons (pv 2) pa_nil))) (pg_sub (pv 0) pe_int set_list)))))))
        pss_nil)
      (pss_cons (ps_set (i := 4) sc__law_take.nd rfl (.inl rfl) (pe_op op_mod (pe_callTy call_int1 (by rfl) T.n_int (by decide +kernel) (pa_cons (pe_ix ix_list (pv 0) pe_int (fun _ _ => rfl)) pa_nil)) (pv 1)))
      (pss_cons (ps_asg (pe_op op_fdiv (pe_ix ix_list (pv 0) pe_int (fun _ _ => rfl)) (pv 1)) (pg_sub (pv 0) pe_int set_list))
      (pss_one (ps_ret (pv 4))))), ?_⟩
    refine ⟨.ref a, rfl, a, _, 2, .int l0, rfl, rfl, .of ha, rfl, .int m, rfl, l0, m, rfl, rfl, _, rfl, ite2 (fun _ => ?_) (fun _ => ?_)⟩
    · -- where, cell
      refine ⟨.ref a, rfl, a, _, 1, .int w0, rfl, rfl, .of ha, rfl, ?_⟩
      have hlen : ((xs.map V.int).length : Int) = xs.length := by rw [List.length_map]
      have hS : SqL K H dr (xs.map V.int) := .of hdH
      -- behind the cell is found
      have put : ∀ c : Int, (tSeq (tAsg (tOp (rI0 fun i j => .int (i + j)) (tVar 2) (tC (.int 1))) (gSub (tVar 0) (tC (.int 1)) rSetL)) (tAsg (tCall (spF K m__law_spread_v3) [] E0 (tCons (tVar 3) (tCons (tVar 2) tNil))) (gSub (tVar 0) (tC (.int 2)) rSetL)))
          { nx := fun σ H1 => (tSeq (tAsg (tOp (rI (fun _ j => 0 < j) fun i j => .int (i % j)) (tCB (fun xs H Q => (∃ i, xs = [.int i] ∧ Q (.int i) H) ∨ ∃ k, xs = [.bl k] ∧ Q (.int (if k then 1 else 0)) H) (tCons (tOp (rIxL K) (tVar 0) (tC (.int 2))) tNil)) (tVar 1)) (gName 4))
          (tSeq (tAsg (tOp (rI CDiv fun i j => .int (i / j)) (tOp (rIxL K) (tVar 0) (tC (.int 2))) (tVar 1)) (gSub (tVar 0) (tC (.int 2)) rSetL)) (tRet (tVar 4)))) { nx := fun _ H' => Q .non H', rt := Q } σ H1, rt := Q } [some (.ref a), some (.int m), some (.int w0), some (.int c), none] H := by
        intro c
        refine ⟨.int w0, rfl, w0, 1, rfl, rfl, .ref a, rfl, a, _, 1, 1, rfl, rfl, ha, rfl, ?_⟩
        refine ⟨.int c, rfl, .int w0, rfl, fun _ => none, [.int c, .int w0], fun d => ∃ z : Int, d = .int z ∧ 0 ≤ z, (fun _ _ e => nomatch e), .cons (.int _) (.cons (.int _) .nil), spread_ok_law_spread_v3 c w0 _ hw0 (by omega) (fun z hz => ⟨z, rfl, hz⟩), fun d v F' H' gr rr ⟨z, ez, hz⟩ => ?_⟩
        subst ez
        cases rr.int_inv
        have h1 : H' a = some (.lst [.ref dr, .int (w0 + 1), .int l0]) := gr.h _ _ upd_same
        refine ⟨.ref a, rfl, a, _, 2, 2, rfl, rfl, h1, rfl, ?_⟩
        refine last _ (w0 + 1) z _ _ (fun b o e hb => ?_) upd_same (by omega) (by omega) hz
        rw [upd_ne hb]
        exact gr.h _ _ (by rw [upd_ne hb]; exact e)
      refine ⟨.int w0, rfl, .ref a, rfl, a, _, 0, .ref dr, rfl, rfl, .of ha, rfl, dr, _, rfl, .inl hS, w0, _, rfl, rfl, _, rfl, ite2 (fun hlt => ?_) (fun hlt => ?_)⟩
      · have hlt' : w0 < ((xs.map V.int).length : Int) := of_decide_eq_true hlt
        obtain ⟨k, hk⟩ := Int.eq_ofNat_of_zero_le hw0
        subst hk
        have hk2 : k < xs.length := by rw [List.length_map] at hlt'; omega
        refine ⟨.ref a, rfl, a, _, 0, .ref dr, rfl, rfl, .of ha, rfl, .int k, rfl, dr, _, k, .int xs[k], rfl, rfl, hS, atI_nat (by rw [List.getElem?_map, List.getElem?_eq_getElem hk2]; rfl), ?_⟩
        exact put _
      · refine ⟨.ref a, rfl, a, _, 0, .ref dr, rfl, rfl, .of ha, rfl, dr, _, rfl, .inl hS, _, 0, rfl, rfl, _, rfl, ite2 (fun hgt => ?_) (fun hgt => ?_)⟩
        · have hpos : 0 < xs.length := by
            have := of_decide_eq_true hgt
            rw [List.length_map] at this
            omega
          have hmod0 : 0 ≤ (w0 * 5 + 3) % ((xs.map V.int).length : Int) := Int.emod_nonneg _ (by rw [List.length_map]; omega)
          have hmod1 : (w0 * 5 + 3) % ((xs.map V.int).length : Int) < (xs.map V.int).length := Int.emod_lt_of_pos _ (by rw [List.length_map]; omega)
          obtain ⟨k, hk⟩ := Int.eq_ofNat_of_zero_le hmod0
          have hk2 : k < xs.length := by rw [List.length_map] at hmod1 hk; omega
          refine ⟨.ref a, rfl, a, _, 0, .ref dr, rfl, rfl, .of ha, rfl, .int w0, rfl, w0, 5, rfl, rfl, .inr ⟨by decide, by decide⟩, w0 * 5, 3, rfl, rfl, .inl ⟨_, rfl, ?_⟩⟩
          refine ⟨.ref a, rfl, a, _, 0, .ref dr, rfl, rfl, .of ha, rfl, dr, _, rfl, .inl hS, w0 * 5 + 3, _, rfl, rfl, by rw [List.length_map]; omega, ?_⟩
          refine ⟨dr, _, (w0 * 5 + 3) % ((xs.map V.int).length : Int), .int xs[k], rfl, rfl, hS, ?_, .inl ⟨_, rfl, ?_⟩⟩
          · rw [hk]
            exact atI_nat (by rw [List.getElem?_map, List.getElem?_eq_getElem hk2]; rfl)
          · refine ⟨10, 17, rfl, rfl, ⟨by decide, by decide, by decide⟩, .int w0, rfl, _, w0, rfl, rfl, xs[k], _, rfl, rfl, ?_, ?_⟩
            · have : (0 : Int) < 10 ^ (17 : Int).toNat := by decide
              omega
            · exact put _
        · exact put 0
    · exact last H w0 l0 _ _ (fun b o e _ => e) ha hw0 (by omega) hl0
abbrev s__law_one_of : Stmt := topS 32
theorem sc__law_one_of : FnScope ["pen", "some"] ["pen", "some"] (defScope s__law_one_of) := ⟨rfl, rfl, rfl, by decide +kernel, rfl, by decide +kernel, by decide +kernel⟩
theorem ok__law_one_of (T : Txt P w K mg base) : FI P w K mg base 3 "_law_one_of" ["pen", "some"] (spP K m__law_one_of_v2) := by
  obtain ⟨f, fd, F, g, b⟩ := T.d__law_one_of.ex
  refine ⟨f, fd, FnG.pen F sc__law_one_of fun a dr cdv A outer s H E hr hg => ?_, g, F.kp, b, Fun.lk F⟩
  have hu := hr.units
  have hv := hv_of hr
  have hx := hx_of hr
  have hw := hu_of hr
  unfold b__law_one_of_v2
  exact ⟨_, [], (ss_one (s_ret (e_ix (oIx rfl hw) l_ix (e_var 1 (pv 1) (by decide)) (eP (ok__law_take T) (hr.mono (by decide)) hg rfl rfl (by rfl) (pv 0) (a_cons (cB (fnLen rfl) l_len (by rfl) T.n_len (by decide +kernel) (a_cons (e_var 1 (pv 1) (by decide)) a_nil)) a_nil)) (fun _ _ => rfl))))⟩
abbrev s__law_any_words : Stmt := topS 34
theorem sc__law_any_words : FnScope ["pen", "bends", "many", "found", "k", "goes", "some", "one", "many_jumps"] ["pen", "bends", "many"] (defScope s__law_any_words) := ⟨rfl, rfl, rfl, by decide +kernel, rfl, by decide +kernel, by decide +kernel⟩
theorem ok__law_any_words (T : Txt P w K mg base) : FI P w K mg base 4 "_law_any_words" ["pen", "bends", "many"] (spP K m__law_any_words) := by
  obtain ⟨f, fd, F, g, b⟩ := T.d__law_any_words.ex
  refine ⟨f, fd, FnG.pen F sc__law_any_words fun a dr cdv A outer s H E hr hg => ?_, g, F.kp, b, Fun.lk F⟩
  have hu := hr.units
  have hv := hv_of hr
  have hx := hx_of hr
  have hw := hu_of hr
  unfold b__law_any_words
  exact ⟨_, [], (ss_cons (sOwn 3 sc__law_any_words.nd rfl (.inl rfl) (f_lst a_nil) (by decide) (off1 (by decide))) (ss_cons (sFor PassesOwn.never rfl (iR1 (by rfl) T.n_range (a_cons (e_var 2 (pv 2) (by decide)) a_nil)) (gN 4 sc__law_any_words.nd rfl (.inl rfl) (by decide) (off1 (by decide))) (ss_cons (sSet 5 sc__law_any_words.nd rfl (.inl rfl) (eLook 3 (e_or (e_cmp (oEq rfl hu) l_eq (e_var 4 (pv 4) (by decide)) e_int (nomark _)) (e_one (e_cmp (oIn rfl hv) l_in (e_ix (oIx rfl hw) l_ix (e_var 3 (pv 3) (by decide)) (e_un un_neg l_neg e_int) (fun _ _ => rfl)) (e_tup (a_cons e_str (a_cons e_str (a_cons e_str (a_cons e_str a_nil))))) (by rfl)))) rfl) (by decide) (off1 (by decide))) (ss_cons (sSet 6 sc__law_any_words.nd rfl (.inl rfl) (e_op (oAdd rfl) l_add (e_lst (a_cons e_str (a_cons e_str (a_cons e_str (a_cons e_str a_nil))))) (e_if (tTru rfl (e_var 5 (pv 5) (by decide))) (e_lst a_nil) (e_lst (a_cons e_str (a_cons e_str a_nil))))) (by decide) (off1 (by decide))) (ss_cons (sIf (O' := [3]) (t_cmp op_lt l_cmp (e_var 4 (pv 4) (by decide)) (e_op op_sub l_sub (e_var 2 (pv 2) (by decide)) e_int) (nomark _)) (ss_cons (sSet 6 sc__law_any_words.nd rfl (.inl rfl) (e_op (oAdd rfl) l_add (e_var 6 (pv 6) (by decide)) (e_lst (a_cons e_str (a_cons e_str (a_cons e_str (a_cons e_str (a_cons e_str (a_cons e_str a_nil)))))))) (by decide) (off1 (by decide))) (ss_one (sSet 6 sc__law_any_words.nd rfl (.inl rfl) (e_op (oAdd rfl) l_add (e_var 6 (pv 6) (by decide)) (e_if (t_cmp op_gt l_cmp (e_var 1 (pv 1) (by decide)) e_int (nomark _)) (e_op o_mul l_mul (e_lst (a_cons e_str a_nil)) e_int) (e_lst a_nil))) (by decide) (off1 (by decide))))) ss_nil (by decide) (by decide)) (ss_cons (sSet 7 sc__law_any_words.nd rfl (.inl rfl) (eP (ok__law_one_of T) (hr.mono (by decide)) hg rfl rfl (by rfl) (pv 0) (a_cons (e_var 6 (pv 6) (by decide)) a_nil)) (by decide) (off1 (by decide))) (ss_cons (sSet 8 sc__law_any_words.nd rfl (.inl rfl) (eLook 3 (e_op (oAdd rfl) l_add (eCnt rfl hv (e_var 3 (pv 3) (by decide)) e_str) (eCnt rfl hv (e_var 3 (pv 3) (by decide)) e_str)) rfl) (by decide) (off1 (by decide))) (ss_cons (sIf (O' := [3]) (RW.t (w_and (t_cmp (oIn rfl hv) l_in (e_var 7 (pv 7) (by decide)) (e_tup (a_cons e_str (a_cons e_str a_nil))) (by rfl)) (w_and1 (tCh op_ge l_cmp op_gt l_cmp (e_var 8 (pv 8) (by decide)) (e_var 1 (pv 1) (by decide)) e_int)))) (ss_one (sSet 7 sc__law_any_words.nd rfl (.inl rfl) (e_if (t_cmp (oEq rfl hu) l_eq (e_var 7 (pv 7) (by decide)) e_str (nomark _)) e_str e_str) (by decide) (off1 (by decide)))) ss_nil (by decide) (by decide)) (ss_one (sApp 3 rfl (pv 3) (e_var 7 (pv 7) (by decide)) (by decide))))))))) (by decide)) (RSs.pre (O := []) (ss_one (s_ret (e_var 3 (pv 3) (by decide)))) (by decide))))⟩
abbrev s__law_any_part : Stmt := topS 35
theorem sc__law_any_part : FnScope ["pen", "many", "bends", "most", "words", "goals", "rows", "k", "one"] ["pen", "many", "bends", "most"] (defScope s__law_any_part) := ⟨rfl, rfl, rfl, by decide +kernel, rfl, by decide +kernel, by decide +kernel⟩
theorem ok__law_any_part (T : Txt P w K mg base) : FI P w K mg base 5 "_law_any_part" ["pen", "many", "bends", "most"] (spP K m__law_any_part) := by
  obtain ⟨f, fd, F, g, b⟩ := T.d__law_any_part.ex
  refine ⟨f, fd, FnG.pen F sc__law_any_part fun a dr cdv A outer s H E hr hg => ?_, g, F.kp, b, Fun.lk F⟩
  have hu := hr.units
  have hv := hv_of hr
  have hx := hx_of hr
  have hw := hu_of hr
  unfold b__law_any_part
  exact ⟨_, [], (ss_cons (sSet 4 sc__law_any_part.nd rfl (.inl rfl) (eP (ok__law_any_words T) (hr.mono (by decide)) hg rfl rfl (by rfl) (pv 0) (a_cons (e_var 2 (pv 2) (by decide)) (a_cons (e_op (oAdd rfl) l_add e_int (eP (ok__law_take T) (hr.mono (by decide)) hg rfl rfl (by rfl) (pv 0) (a_cons (e_var 3 (pv 3) (by decide)) a_nil))) a_nil))) (by decide) (off1 (by decide))) (ss_cons (sPar2 5 6 rfl sc__law_any_part.nd rfl rfl (by decide) rfl rfl (x_sh (RF.e (fLcIf (own := [("k", 7), ("one", 8)]) rfl sc__law_any_part.nd (iEn rfl (by rfl) T.n_enumerate (a_cons (e_var 4 (pv 4) (by decide)) a_nil)) (blkOk_by (own := [("k", 7), ("one", 8)]) (N := ["pen", "many", "bends", "most", "words", "goals", "rows", "k", "one"]) (sc := defScope s__law_any_part) (by decide +kernel)) (fun _ _ _ _ _ => (gT 2 rfl rfl (gC (gN 7 sc__law_any_part.nd rfl (.inl rfl) (by decide) (off1 (by decide))) (gC (gN 8 sc__law_any_part.nd rfl (.inl rfl) (by decide) (off1 (by decide))) gs_nil)))) (fun _ _ _ _ _ => (t_cmp (oNe rfl hu) l_ne (e_var 8 (pv 8) (by decide)) e_str (nomark _))) (fun _ _ _ _ _ => (e_var 7 (pv 7) (by decide))) (by decide) (offs1 (by decide)))) (x_ow (f_lst a_nil) x_nil)) (offsO1 (by decide)) rfl) (ss_cons (sFor PassesOwn.never rfl (i_seq rfl (e_var 4 (pv 4) (by decide))) (gN 8 sc__law_any_part.nd rfl (.inl rfl) (by decide) (off1 (by decide))) (ss_one (sIf (O' := [6]) (t_cmp (oEq rfl hu) l_eq (e_var 8 (pv 8) (by decide)) e_str (nomark _)) (ss_one (sApp 6 rfl (pv 6) (e_tup (a_cons (e_var 8 (pv 8) (by decide)) (a_cons (e_op (oAdd rfl) l_add e_int (eP (ok__law_take T) (hr.mono (by decide)) hg rfl rfl (by rfl) (pv 0) (a_cons e_int a_nil))) (a_cons (eP (ok__law_take T) (hr.mono (by decide)) hg rfl rfl (by rfl) (pv 0) (a_cons e_int a_nil)) a_nil)))) (by decide))) (ss_one (sIf (O' := [6]) (t_cmp (oIn rfl hv) l_in (e_var 8 (pv 8) (by decide)) (e_tup (a_cons e_str (a_cons e_str a_nil))) (by rfl)) (ss_one (sApp 6 rfl (pv 6) (e_tup (a_cons (e_var 8 (pv 8) (by decide)) (a_cons (eP (ok__law_one_of T) (hr.mono (by decide)) hg rfl rfl (by rfl) (pv 0) (a_cons (e_var 5 (pv 5) (by decide)) a_nil)) a_nil))) (by decide))) (ss_one (sIf (O' := [6]) (t_cmp (oEq rfl hu) l_eq (e_var 8 (pv 8) (by decide)) e_str (nomark _)) (ss_one (sApp 6 rfl (pv 6) (e_tup (a_cons (e_var 8 (pv 8) (by decide)) (a_cons (eP (ok__law_one_of T) (hr.mono (by decide)) hg rfl rfl (by rfl) (pv 0) (a_cons (e_lst (a_cons e_int (a_cons e_int (a_cons e_int (a_cons e_int a_nil))))) a_nil)) a_nil))) (by decide))) (ss_one (sIf (O' := [6]) (t_cmp (oEq rfl hu) l_eq (e_var 8 (pv 8) (by decide)) e_str (nomark _)) (ss_one (sApp 6 rfl (pv 6) (e_tup (a_cons (e_var 8 (pv 8) (by decide)) (a_cons (e_op (oAdd rfl) l_add e_int (eP (ok__law_take T) (hr.mono (by decide)) hg rfl rfl (by rfl) (pv 0) (a_cons e_int a_nil))) a_nil))) (by decide))) (ss_one (sApp 6 rfl (pv 6) (e_tup (a_cons (e_var 8 (pv 8) (by decide)) (a_cons (eP (ok__law_take T) (hr.mono (by decide)) hg rfl rfl (by rfl) (pv 0) (a_cons (e_if (t_cmp (oEq rfl hu) l_eq (e_var 8 (pv 8) (by decide)) e_str (nomark _)) (e_var 1 (pv 1) (by decide)) e_int) a_nil)) a_nil))) (by decide))) (by decide) (by decide))) (by decide) (by decide))) (by decide) (by decide))) (by decide) (by decide))) (by decide)) (RSs.pre (O := []) (ss_one (s_ret (cT (fnTuple rfl) l_tuple (by rfl) T.n_tuple (by decide +kernel) (a_cons (e_var 6 (pv 6) (by decide)) a_nil)))) (by decide)))))⟩
abbrev s__law_open : Stmt := topS 29
theorem sc__law_open : FnScope ["script", "drawn", "k", "cell"] ["script"] (defScope s__law_open) := ⟨rfl, rfl, rfl, by decide +kernel, rfl, by decide +kernel, by decide +kernel⟩
theorem ok__law_open (T : Txt P w K mg base) : FI P w K mg base 1 "_law_open" ["script"] (spOpen K) := by
  obtain ⟨f, fd, F, g, b⟩ := T.d__law_open.ex
  refine ⟨f, fd, FnG.mk' F sc__law_open (fun vs H Q E h => ?_) (fun cdv A outer s H vs Q E hr hg h => ?_), g, F.kp, b, Fun.lk F⟩
  · obtain ⟨a, ns, rfl, _⟩ := h; rfl
  · obtain ⟨a, ns, rfl, hs, hl, fin⟩ := h
    refine ⟨_, pss_cons (ps_set (i := 1) sc__law_open.nd rfl (.inl rfl) (pe_callTy (fnList (K := K) rfl) (by rfl) T.n_list (by decide +kernel) (pa_cons (pe_slice sl_list (pv 0) po_none (po_some pe_int)) pa_nil)))
      (pss_cons (ps_for PassesOwn.never rfl (pi_enumA (by rfl) T.n_enumerate (pa_cons (pe_slice sl_list (pv 0) (po_some pe_int) (po_some pe_int)) pa_nil)) (pg_tup rfl (pgs_cons (pg_name (i := 2) sc__law_open.nd rfl (.inl rfl)) (pgs_cons (pg_name (i := 3) sc__law_open.nd rfl (.inl rfl)) pgs_nil)))
        (pss_one (ps_asg (pe_op op_add (pe_ix ix_list (pv 1) (pe_op op_mod (pe_callTy call_int1 (by rfl) T.n_int (by decide +kernel) (pa_cons (pv 2) pa_nil)) pe_int) (fun _ _ => rfl)) (pv 3)) (pg_sub (pv 1) (pe_op op_mod (pe_callTy call_int1 (by rfl) T.n_int (by decide +kernel) (pa_cons (pv 2) pa_nil)) pe_int) set_list))))
      (pss_one (ps_ret (pe_lst (pa_cons (pv 1) (pa_cons pe_int (pa_cons pe_int pa_nil))))))), ?_⟩
    refine ⟨.ref a, rfl, 12, rfl, a, _, rfl, hs, fun q hq => ?_⟩
    refine ⟨q, _, rfl, .inl (.of upd_same), fun l hl1 => ?_⟩
    have s2 : SqL K (upd (upd H q (.lst (cutV (ns.map V.int) none (some 12)))) l (.lst (cutV (ns.map V.int) none (some 12)))) a (ns.map V.int) := sql_new (sql_new hs hq) hl1
    refine ⟨.ref a, rfl, 12, rfl, 63, rfl, a, _, rfl, s2, fun q2 hq2 => ?_⟩
    refine ⟨q2, _, rfl, .inl ⟨.of upd_same, ?_⟩⟩
    obtain ⟨ds, hds⟩ := cut_int ns none (some 12)
    obtain ⟨ms, hms⟩ := cut_int ns (some 12) (some 63)
    have hld : ds.length = min 12 ns.length := by rw [← cut_low ns, hds, List.length_map]
    have hlm : ms.length ≠ 0 → ds.length = 12 := fun h => by
      have := cut_high ns (by rw [hms, List.length_map]; exact h)
      omega
    rw [hds, hms]
    have hne : q2 ≠ l := fun z => by rw [z, upd_same] at hq2; cases hq2
    refine ⟨fun i m σ H => m = ms.length - i ∧ i ≤ ms.length ∧ (∃ y2 y3, σ = [some (.ref a), some (.ref l), y2, y3]) ∧ H q2 = some (.lst (ms.map V.int)) ∧ ∃ zs : List Int, H l = some (.lst (zs.map V.int)) ∧ zs.length = ds.length,
      ⟨ms.length, by simp, Nat.zero_le _, ⟨none, none, rfl⟩, upd_same, ds, by rw [upd_ne (Ne.symm hne), upd_same], rfl⟩, ?_⟩
    rintro i m σ H3 ⟨rfl, hi, ⟨y2, y3, rfl⟩, h2, zs, hz, hzl⟩
    by_cases hlt : i < ms.length
    · refine .inr ⟨⟨_, .int ms[i], .of h2, by simp [hlt]⟩, fun σ H => i < ms.length ∧ (∃ y2 y3, σ = [some (.ref a), some (.ref l), y2, y3]) ∧ H q2 = some (.lst (ms.map V.int)) ∧ ∃ zs : List Int, H l = some (.lst (zs.map V.int)) ∧ zs.length = ds.length,
        fun σ' H' ⟨_, h1, h3, h4⟩ => ⟨ms.length - (i + 1), by omega, rfl, hlt, h1, h3, h4⟩, ?_⟩
      rintro x H4 ⟨t, c, rfl, ht, rfl, hc⟩
      have hc' := hc _ (.of h2)
      have hci : c = .int ms[i] := by simpa [hlt] using hc'.symm
      subst hci
      have tl : t ≠ l := fun z => by rw [z, hz] at ht; cases ht
      have tq : t ≠ q2 := fun z => by rw [z, h2] at ht; cases ht
      refine ⟨t, _, rfl, .of upd_same, rfl, .int i, _, rfl, .int ms[i], _, rfl, rfl, ?_⟩
      have h12 : ds.length = 12 := hlm (by omega)
      have hr12 : (i : Int) % 12 = ((i % 12 : Nat) : Int) := by omega
      have hzm : i % 12 < zs.length := by omega
      have hH4 : (upd H3 t (.tup [.int i, .int ms[i]])) l = some (.lst (zs.map V.int)) := by rw [upd_ne (Ne.symm tl)]; exact hz
      have hat : atI (zs.map V.int) ((i % 12 : Nat) : Int) = some (.int zs[i % 12]) := atI_nat (by rw [List.getElem?_map, List.getElem?_eq_getElem hzm]; rfl)
      refine ⟨.ref l, rfl, .int i, rfl, .inl ⟨i, rfl, i, 12, rfl, rfl, (show (0 : Int) < 12 by decide), l, _, _, _, rfl, congrArg V.int hr12, .of hH4, hat, .int ms[i], rfl, _, _, rfl, rfl, ?_⟩⟩
      refine ⟨.ref l, rfl, .int i, rfl, .inl ⟨i, rfl, i, 12, rfl, rfl, (show (0 : Int) < 12 by decide), l, _, _, i % 12, rfl, congrArg V.int hr12, hH4, ?_, ?_⟩⟩
      · unfold ixN
        rw [if_pos (Int.natCast_nonneg _), if_pos (by rw [List.length_map]; exact_mod_cast hzm), Int.toNat_natCast]
      · refine ⟨hlt, ⟨_, _, rfl⟩, ?_, zs.set (i % 12) (zs[i % 12] + ms[i]), ?_, by simp [hzl]⟩
        · rw [upd_ne hne, upd_ne (Ne.symm tq)]; exact h2
        · rw [upd_same, List.map_set]
    · have e : i = ms.length := by omega
      subst e
      refine .inl ⟨⟨_, .of h2, by simp⟩, ?_⟩
      refine ⟨.ref l, rfl, lim_line (show 3 ≤ lim by decide), fun p hp => ?_⟩
      have hpl : p ≠ l := fun z => by rw [z, hz] at hp; cases hp
      exact fin _ p l zs upd_same (by rw [upd_ne (Ne.symm hpl)]; exact hz) hpl
abbrev s__law_put_in : Stmt := topS 36
theorem sc__law_put_in : FnScope ["part", "placed", "rows", "table", "k", "values", "spot", "value", "made", "old", "at", "row"] ["part", "placed"] (defScope s__law_put_in) := ⟨rfl, rfl, rfl, by decide +kernel, rfl, by decide +kernel, by decide +kernel⟩
theorem ok__law_put_in (T : Txt P w K mg base) : FI P w K mg base 1 "_law_put_in" ["part", "placed"] (spF K m__law_put_in) := by
  obtain ⟨f, fd, F, g, b⟩ := T.d__law_put_in.ex
  refine ⟨f, fd, FnG.pure F sc__law_put_in fun cdv A outer s H E hr hg => ?_, g, F.kp, b, Fun.lk F⟩
  have hu := hr.units
  have hv := hv_of hr
  have hx := hx_of hr
  have hw := hu_of hr
  unfold b__law_put_in
  exact ⟨_, [], (ss_cons (sPar2 2 3 rfl sc__law_put_in.nd rfl rfl (by decide) rfl rfl (x_ow (f_lst a_nil) (x_ow (f_lst a_nil) x_nil)) (offsO0 (by decide)) rfl) (ss_cons (sFor PassesOwn.never rfl (iR1 (by rfl) T.n_range (a_cons (e_op (oAdd rfl) l_add (cB (fnLen rfl) l_len (by rfl) T.n_len (by decide +kernel) (a_cons (e_var 0 (pv 0) (by decide)) a_nil)) e_int) a_nil)) (gN 4 sc__law_put_in.nd rfl (.inr rfl) (by decide) off0) (ss_cons (sSet 5 sc__law_put_in.nd rfl (.inl rfl) (cB (fnSorted rfl rfl hx) l_sorted (by rfl) T.n_sorted (by decide +kernel) (a_cons (RF.e (fLcIf (own := [("spot", 6), ("value", 7)]) rfl sc__law_put_in.nd (i_seq rfl (e_var 1 (pv 1) (by decide))) (blkOk_by (own := [("spot", 6), ("value", 7)]) (N := ["part", "placed", "rows", "table", "k", "values", "spot", "value", "made", "old", "at", "row"]) (sc := defScope s__law_put_in) (by decide +kernel)) (fun _ _ _ _ _ => (gT 2 rfl rfl (gC (gN 6 sc__law_put_in.nd rfl (.inl rfl) (by decide) off0) (gC (gN 7 sc__law_put_in.nd rfl (.inl rfl) (by decide) off0) gs_nil)))) (fun _ _ _ _ _ => (t_cmp (oEq rfl hu) l_eq (e_var 6 (pv 6) (by decide)) (e_var 4 (pv 4) (by decide)) (nomark _))) (fun _ _ _ _ _ => (e_var 7 (pv 7) (by decide))) (by decide) offs0)) a_nil)) (by decide) off0) (ss_cons (sIf (O' := [3, 2]) (RW.t (w_and (t_cmp (oNe rfl hu) l_ne (e_var 5 (pv 5) (by decide)) (e_lst a_nil) (nomark _)) (w_and1 (t_cmp (oIn rfl hv) l_in (e_ix (oIx rfl hw) l_ix (e_ix (oIx rfl hw) l_ix (e_var 0 (pv 0) (by decide)) (e_op op_sub l_sub (e_var 4 (pv 4) (by decide)) e_int) (fun _ _ => rfl)) e_int (fun _ _ => rfl)) (e_tup (a_cons e_str (a_cons e_str (a_cons e_str (a_cons e_str a_nil))))) (by rfl))))) (ss_one (sApp 2 rfl (pv 2) (e_tup (a_cons e_str (a_cons (e_var 4 (pv 4) (by decide)) a_nil))) (by decide))) ss_nil (by decide) (by decide)) (RSs.pre (O := [3]) (ss_cons (sOwn 2 sc__law_put_in.nd rfl (.inl rfl) (f_cat (e_var 2 (pv 2) (by decide)) (RF.e (fLc (own := [("value", 7)]) rfl sc__law_put_in.nd (i_seq rfl (e_var 5 (pv 5) (by decide))) (blkOk_by (own := [("value", 7)]) (N := ["part", "placed", "rows", "table", "k", "values", "spot", "value", "made", "old", "at", "row"]) (sc := defScope s__law_put_in) (by decide +kernel)) (fun _ _ _ _ _ => (gN 7 sc__law_put_in.nd rfl (.inl rfl) (by decide) off0)) (fun _ _ _ _ _ => (e_tup (a_cons e_str (a_cons (e_var 7 (pv 7) (by decide)) a_nil)))) (by decide) offs0))) (by decide) off0) (ss_one (sIf (O' := [2, 3]) (t_cmp op_lt l_cmp (e_var 4 (pv 4) (by decide)) (cB (fnLen rfl) l_len (by rfl) T.n_len (by decide +kernel) (a_cons (e_var 0 (pv 0) (by decide)) a_nil)) (nomark _)) (ss_cons (sApp 3 rfl (pv 3) (eLook 2 (cB (fnLen rfl) l_len (by rfl) T.n_len (by decide +kernel) (a_cons (e_var 2 (pv 2) (by decide)) a_nil)) rfl) (by decide)) (ss_one (sApp 2 rfl (pv 2) (e_ix (oIx rfl hw) l_ix (e_var 0 (pv 0) (by decide)) (e_var 4 (pv 4) (by decide)) (fun _ _ => rfl)) (by decide)))) ss_nil (by decide) (by decide)))) (by decide)))) (by decide)) (RSs.pre (O := [2]) (ss_cons (sPar2 8 9 rfl sc__law_put_in.nd rfl rfl (by decide) rfl rfl (x_ow (f_lst a_nil) (x_sh (RF.e (fDictP rfl rfl (by rfl) T.n_dict (RF.e (fLc (own := [("k", 4), ("at", 10)]) rfl sc__law_put_in.nd (iEn rfl (by rfl) T.n_enumerate (a_cons (e_var 3 (pv 3) (by decide)) a_nil)) (blkOk_by (own := [("k", 4), ("at", 10)]) (N := ["part", "placed", "rows", "table", "k", "values", "spot", "value", "made", "old", "at", "row"]) (sc := defScope s__law_put_in) (by decide +kernel)) (fun _ _ _ _ _ => (gT 2 rfl rfl (gC (gN 4 sc__law_put_in.nd rfl (.inl rfl) (by decide) off0) (gC (gN 10 sc__law_put_in.nd rfl (.inl rfl) (by decide) off0) gs_nil)))) (fun _ _ _ _ _ => (e_tup (a_cons (e_var 10 (pv 10) (by decide)) (a_cons (e_var 4 (pv 4) (by decide)) a_nil)))) (by decide) offs0)))) x_nil)) (offsO0 (by decide)) rfl) (RSs.pre (O := [8]) (ss_cons (sFor PassesOwn.never rfl (iEn rfl (by rfl) T.n_enumerate (a_cons (e_var 2 (pv 2) (by decide)) a_nil)) (gT 2 rfl rfl (gC (gN 10 sc__law_put_in.nd rfl (.inl rfl) (by decide) off0) (gC (gN 11 sc__law_put_in.nd rfl (.inl rfl) (by decide) off0) gs_nil))) (ss_one (sIf (O' := [8]) (t_cmp (oEq rfl hu) l_eq (e_ix (oIx rfl hw) l_ix (e_var 11 (pv 11) (by decide)) e_int (fun _ _ => rfl)) e_str (nomark _)) (ss_one (sApp 8 rfl (pv 8) (e_tup (a_cons e_str (a_cons (e_ix (oIx rfl hw) l_ix (e_var 3 (pv 3) (by decide)) (e_ix (oIx rfl hw) l_ix (e_var 11 (pv 11) (by decide)) e_int (fun _ _ => rfl)) (fun _ _ => rfl)) a_nil))) (by decide))) (ss_one (sIf (O' := [8]) (RW.t (w_and (t_cmp (oIn rfl hv) l_in (e_var 10 (pv 10) (by decide)) (e_var 9 (pv 9) (by decide)) (by rfl)) (w_and1 (t_cmp (oIn rfl hv) l_in (e_ix (oIx rfl hw) l_ix (e_var 11 (pv 11) (by decide)) e_int (fun _ _ => rfl)) (e_tup (a_cons e_str (a_cons e_str a_nil))) (by rfl))))) (ss_one (sApp 8 rfl (pv 8) (e_tup (a_cons (e_ix (oIx rfl hw) l_ix (e_var 11 (pv 11) (by decide)) e_int (fun _ _ => rfl)) (a_cons (e_ix (oIx rfl hw) l_ix (e_var 3 (pv 3) (by decide)) (e_ix (oIx rfl hw) l_ix (e_var 11 (pv 11) (by decide)) e_int (fun _ _ => rfl)) (fun _ _ => rfl)) a_nil))) (by decide))) (ss_one (sApp 8 rfl (pv 8) (e_var 11 (pv 11) (by decide)) (by decide))) (by decide) (by decide))) (by decide) (by decide))) (by decide)) (RSs.pre (O := []) (ss_one (s_ret (e_tup (a_cons (cT (fnTuple rfl) l_tuple (by rfl) T.n_tuple (by decide +kernel) (a_cons (e_var 8 (pv 8) (by decide)) a_nil)) (a_cons (e_var 3 (pv 3) (by decide)) a_nil))))) (by decide))) (by decide))) (by decide))))⟩
abbrev s_jump_rows : Stmt := topS 15
theorem sc_jump_rows : FnScope ["part", "number", "row"] ["part"] (defScope s_jump_rows) := ⟨rfl, rfl, rfl, by decide +kernel, rfl, by decide +kernel, by decide +kernel⟩
theorem okr_jump_rows (T : Txt P w K mg base) : FI P w K mg base 1 "jump_rows" ["part"] (spFr K m_jump_rows) := by
  obtain ⟨f, fd, F, g, b⟩ := T.d_jump_rows.ex
  refine ⟨f, fd, FnG.fresh F sc_jump_rows fun cdv A outer s H E hr hg => ?_, g, F.kp, b, Fun.lk F⟩
  have hu := hr.units
  have hv := hv_of hr
  have hx := hx_of hr
  have hw := hu_of hr
  unfold b_jump_rows
  exact ⟨_, (rsf_ret (fLcIf (own := [("number", 1), ("row", 2)]) rfl sc_jump_rows.nd (iEn rfl (by rfl) T.n_enumerate (a_cons (e_var 0 (pv 0) (by decide)) a_nil)) (blkOk_by (own := [("number", 1), ("row", 2)]) (N := ["part", "number", "row"]) (sc := defScope s_jump_rows) (by decide +kernel)) (fun _ _ _ _ _ => (gT 2 rfl rfl (gC (gN 1 sc_jump_rows.nd rfl (.inl rfl) (by decide) off0) (gC (gN 2 sc_jump_rows.nd rfl (.inl rfl) (by decide) off0) gs_nil)))) (fun _ _ _ _ _ => (t_cmp (oIn rfl hv) l_in (e_ix (oIx rfl hw) l_ix (e_var 2 (pv 2) (by decide)) e_int (fun _ _ => rfl)) (T.c_JUMPS.choose_spec.e (by rfl) rfl) (by rfl))) (fun _ _ _ _ _ => (e_var 1 (pv 1) (by decide))) (by decide) offs0))⟩
theorem ok_jump_rows (T : Txt P w K mg base) : FI P w K mg base 1 "jump_rows" ["part"] (spF K m_jump_rows) := (okr_jump_rows T).plain
abbrev s_goals_stand : Stmt := topS 19
theorem sc_goals_stand : FnScope ["rows", "goals", "number", "goal"] ["rows"] (defScope s_goals_stand) := ⟨rfl, rfl, rfl, by decide +kernel, rfl, by decide +kernel, by decide +kernel⟩
theorem ok_goals_stand (T : Txt P w K mg base) : FI P w K mg base 2 "goals_stand" ["rows"] (spF K m_goals_stand) := by
  obtain ⟨f, fd, F, g, b⟩ := T.d_goals_stand.ex
  refine ⟨f, fd, FnG.pure F sc_goals_stand fun cdv A outer s H E hr hg => ?_, g, F.kp, b, Fun.lk F⟩
  have hu := hr.units
  have hv := hv_of hr
  have hx := hx_of hr
  have hw := hu_of hr
  unfold b_goals_stand
  exact ⟨_, [], (ss_cons (sLc (own := [("number", 2)]) 1 rfl sc_goals_stand.nd rfl rfl (sw_true rfl rfl rfl (by decide +kernel)) (i_seq rfl (eF (ok_jump_rows T) (hr.mono (by decide)) hg rfl (by rfl) (a_cons (e_var 0 (pv 0) (by decide)) a_nil))) (blkOk_by (own := [("number", 2)]) (N := ["rows", "goals", "number", "goal"]) (sc := defScope s_goals_stand) (by decide +kernel)) (fun _ _ _ _ _ => (gN 2 sc_goals_stand.nd rfl (.inl rfl) (by decide) off0)) (fun _ _ _ _ _ => (e_ix (oIx rfl hw) l_ix (e_ix (oIx rfl hw) l_ix (e_var 0 (pv 0) (by decide)) (e_var 2 (pv 2) (by decide)) (fun _ _ => rfl)) e_int (fun _ _ => rfl))) (by decide) offs0 (by decide) off0) (RSs.pre (O := []) (ss_one (s_ret (cB (fnAll rfl rfl) l_all (by rfl) T.n_all (by decide +kernel) (a_cons (RF.e (fLc (own := [("goal", 3)]) rfl sc_goals_stand.nd (i_seq rfl (e_var 1 (pv 1) (by decide))) (blkOk_by (own := [("goal", 3)]) (N := ["rows", "goals", "number", "goal"]) (sc := defScope s_goals_stand) (by decide +kernel)) (fun _ _ _ _ _ => (gN 3 sc_goals_stand.nd rfl (.inl rfl) (by decide) off0)) (fun _ _ _ _ _ => (e_and (e_cmp op_lt l_cmp (e_var 3 (pv 3) (by decide)) (cB (fnLen rfl) l_len (by rfl) T.n_len (by decide +kernel) (a_cons (e_var 0 (pv 0) (by decide)) a_nil)) (nomark _)) (e_one (e_cmp (oNe rfl hu) l_ne (e_ix (oIx rfl hw) l_ix (e_ix (oIx rfl hw) l_ix (e_var 0 (pv 0) (by decide)) (e_var 3 (pv 3) (by decide)) (fun _ _ => rfl)) e_int (fun _ _ => rfl)) e_str (nomark _))))) (by decide) offs0)) a_nil)))) (by decide)))⟩
abbrev s_is_even : Stmt := topS 18
theorem sc_is_even : FnScope ["part", "row"] ["part"] (defScope s_is_even) := ⟨rfl, rfl, rfl, by decide +kernel, rfl, by decide +kernel, by decide +kernel⟩
theorem ok_is_even (T : Txt P w K mg base) : FI P w K mg base 1 "is_even" ["part"] (spF K m_is_even) := by
  obtain ⟨f, fd, F, g, b⟩ := T.d_is_even.ex
  refine ⟨f, fd, FnG.pure F sc_is_even fun cdv A outer s H E hr hg => ?_, g, F.kp, b, Fun.lk F⟩
  have hu := hr.units
  have hv := hv_of hr
  have hx := hx_of hr
  have hw := hu_of hr
  unfold b_is_even
  exact ⟨_, [], (ss_one (s_ret (cB (fnAll rfl rfl) l_all (by rfl) T.n_all (by decide +kernel) (a_cons (RF.e (fLc (own := [("row", 1)]) rfl sc_is_even.nd (i_seq rfl (e_var 0 (pv 0) (by decide))) (blkOk_by (own := [("row", 1)]) (N := ["part", "row"]) (sc := defScope s_is_even) (by decide +kernel)) (fun _ _ _ _ _ => (gN 1 sc_is_even.nd rfl (.inl rfl) (by decide) off0)) (fun _ _ _ _ _ => (e_cmp (oNe rfl hu) l_ne (e_ix (oIx rfl hw) l_ix (e_var 1 (pv 1) (by decide)) e_int (fun _ _ => rfl)) e_str (nomark _))) (by decide) offs0)) a_nil))))⟩
abbrev s_is_within : Stmt := topS 12
theorem sc_is_within : FnScope ["thing", "low", "high"] ["thing", "low", "high"] (defScope s_is_within) := ⟨rfl, rfl, rfl, by decide +kernel, rfl, by decide +kernel, by decide +kernel⟩
theorem ok_is_within (T : Txt P w K mg base) : FI P w K mg base 1 "is_within" ["thing", "low", "high"] (spF K m_is_within) := by
  obtain ⟨f, fd, F, g, b⟩ := T.d_is_within.ex
  refine ⟨f, fd, FnG.pure F sc_is_within fun cdv A outer s H E hr hg => ?_, g, F.kp, b, Fun.lk F⟩
  have hu := hr.units
  have hv := hv_of hr
  have hx := hx_of hr
  have hw := hu_of hr
  unfold b_is_within
  exact ⟨_, [], (ss_one (s_ret (e_and (eIsi (T := "int") (by decide) rfl (e_var 0 (pv 0) (by decide)) (by rfl) T.n_isinstance (by rfl) T.n_int (by decide +kernel)) (e_and (e_not (eIsi (T := "bool") (by decide) rfl (e_var 0 (pv 0) (by decide)) (by rfl) T.n_isinstance (by rfl) T.n_bool (by decide +kernel))) (e_one (eCh op_le l_cmp op_le l_cmp (e_var 1 (pv 1) (by decide)) (e_var 0 (pv 0) (by decide)) (e_var 2 (pv 2) (by decide))))))))⟩
abbrev s_are_within : Stmt := topS 13
theorem sc_are_within : FnScope ["things", "bounds", "thing", "low", "high"] ["things", "bounds"] (defScope s_are_within) := ⟨rfl, rfl, rfl, by decide +kernel, rfl, by decide +kernel, by decide +kernel⟩
theorem ok_are_within (T : Txt P w K mg base) : FI P w K mg base 2 "are_within" ["things", "bounds"] (spF K m_are_within) := by
  obtain ⟨f, fd, F, g, b⟩ := T.d_are_within.ex
  refine ⟨f, fd, FnG.pure F sc_are_within fun cdv A outer s H E hr hg => ?_, g, F.kp, b, Fun.lk F⟩
  have hu := hr.units
  have hv := hv_of hr
  have hx := hx_of hr
  have hw := hu_of hr
  unfold b_are_within
  exact ⟨_, [], (ss_cons (sIf (O' := []) (t_cmp (oNe rfl hu) l_ne (cB (fnLen rfl) l_len (by rfl) T.n_len (by decide +kernel) (a_cons (e_var 0 (pv 0) (by decide)) a_nil)) (cB (fnLen rfl) l_len (by rfl) T.n_len (by decide +kernel) (a_cons (e_var 1 (pv 1) (by decide)) a_nil)) (nomark _)) (ss_one (s_ret e_bl)) ss_nil (fun _ h => h) (by decide)) (ss_one (s_ret (cB (fnAll rfl rfl) l_all (by rfl) T.n_all (by decide +kernel) (a_cons (RF.e (fLc (own := [("thing", 2), ("low", 3), ("high", 4)]) rfl sc_are_within.nd (iZi rfl (by rfl) T.n_zip (a_cons (e_var 0 (pv 0) (by decide)) (a_cons (e_var 1 (pv 1) (by decide)) a_nil))) (blkOk_by (own := [("thing", 2), ("low", 3), ("high", 4)]) (N := ["things", "bounds", "thing", "low", "high"]) (sc := defScope s_are_within) (by decide +kernel)) (fun _ _ _ _ _ => (gT 2 rfl rfl (gC (gN 2 sc_are_within.nd rfl (.inl rfl) (by decide) off0) (gC (gT 2 rfl rfl (gC (gN 3 sc_are_within.nd rfl (.inl rfl) (by decide) off0) (gC (gN 4 sc_are_within.nd rfl (.inl rfl) (by decide) off0) gs_nil))) gs_nil)))) (fun _ _ _ _ _ => (eF (ok_is_within T) (hr.mono (by decide)) hg rfl (by rfl) (a_cons (e_var 2 (pv 2) (by decide)) (a_cons (e_var 3 (pv 3) (by decide)) (a_cons (e_var 4 (pv 4) (by decide)) a_nil))))) (by decide) offs0)) a_nil)))))⟩
abbrev s_is_row : Stmt := topS 14
theorem sc_is_row : FnScope ["thing"] ["thing"] (defScope s_is_row) := ⟨rfl, rfl, rfl, by decide +kernel, rfl, by decide +kernel, by decide +kernel⟩
theorem ok_is_row (T : Txt P w K mg base) : FI P w K mg base 3 "is_row" ["thing"] (spF K m_is_row) := by
  obtain ⟨f, fd, F, g, b⟩ := T.d_is_row.ex
  refine ⟨f, fd, FnG.pure F sc_is_row fun cdv A outer s H E hr hg => ?_, g, F.kp, b, Fun.lk F⟩
  have hu := hr.units
  have hv := hv_of hr
  have hx := hx_of hr
  have hw := hu_of hr
  unfold b_is_row
  exact ⟨_, [], (ss_cons (sIf (O' := []) (RW.t (w_or (t_not (t_val (eIsi (T := "tuple") (by decide) rfl (e_var 0 (pv 0) (by decide)) (by rfl) T.n_isinstance (by rfl) T.n_tuple (by decide +kernel)))) (w_or1 (t_cmp (oEq rfl hu) l_eq (cB (fnLen rfl) l_len (by rfl) T.n_len (by decide +kernel) (a_cons (e_var 0 (pv 0) (by decide)) a_nil)) e_int (nomark _))))) (ss_one (s_ret e_bl)) ss_nil (fun _ h => h) (by decide)) (ss_cons (sIf (O' := []) (RW.t (w_or (t_not (t_val (eIsi (T := "str") (by decide) rfl (e_ix (oIx rfl hw) l_ix (e_var 0 (pv 0) (by decide)) e_int (fun _ _ => rfl)) (by rfl) T.n_isinstance (by rfl) T.n_str (by decide +kernel)))) (w_or1 (t_ninK T.k_ROW_BOUNDS.choose_spec rfl (by rfl) (e_ix (oIx rfl hw) l_ix (e_var 0 (pv 0) (by decide)) e_int (fun _ _ => rfl)))))) (ss_one (s_ret e_bl)) ss_nil (fun _ h => h) (by decide)) (ss_cons (sIf (O' := []) (t_not (t_val (eF (ok_are_within T) (hr.mono (by decide)) hg rfl (by rfl) (a_cons (e_sl (e_var 0 (pv 0) (by decide)) (p_some e_int) p_none rfl) (a_cons (e_ixK T.k_ROW_BOUNDS.choose_spec rfl (by rfl) (e_ix (oIx rfl hw) l_ix (e_var 0 (pv 0) (by decide)) e_int (fun _ _ => rfl)) (fun _ _ => rfl)) a_nil))))) (ss_one (s_ret e_bl)) ss_nil (fun _ h => h) (by decide)) (ss_one (s_ret (e_or (e_cmp (oNe rfl hu) l_ne (e_ix (oIx rfl hw) l_ix (e_var 0 (pv 0) (by decide)) e_int (fun _ _ => rfl)) e_str (nomark _)) (e_one (e_cmp (oIn rfl hv) l_in (e_ix (oIx rfl hw) l_ix (e_var 0 (pv 0) (by decide)) e_int (fun _ _ => rfl)) (T.c_MULTIPLES.choose_spec.e (by rfl) rfl) (by rfl)))))))))⟩
abbrev s_words_are_shunned : Stmt := topS 20
theorem sc_words_are_shunned : FnScope ["rows", "row", "behind"] ["rows"] (defScope s_words_are_shunned) := ⟨rfl, rfl, rfl, by decide +kernel, rfl, by decide +kernel, by decide +kernel⟩
theorem ok_words_are_shunned (T : Txt P w K mg base) : FI P w K mg base 1 "words_are_shunned" ["rows"] (spF K m_words_are_shunned) := by
  obtain ⟨f, fd, F, g, b⟩ := T.d_words_are_shunned.ex
  refine ⟨f, fd, FnG.pure F sc_words_are_shunned fun cdv A outer s H E hr hg => ?_, g, F.kp, b, Fun.lk F⟩
  have hu := hr.units
  have hv := hv_of hr
  have hx := hx_of hr
  have hw := hu_of hr
  unfold b_words_are_shunned
  exact ⟨_, [], (ss_cons (sIf (O' := []) (RW.t (w_or (t_cmp (oEq rfl hu) l_eq (e_ix (oIx rfl hw) l_ix (e_ix (oIx rfl hw) l_ix (e_var 0 (pv 0) (by decide)) e_int (fun _ _ => rfl)) e_int (fun _ _ => rfl)) e_str (nomark _)) (w_or1 (t_cmp (oIn rfl hv) l_in (e_ix (oIx rfl hw) l_ix (e_ix (oIx rfl hw) l_ix (e_var 0 (pv 0) (by decide)) (e_un un_neg l_neg e_int) (fun _ _ => rfl)) e_int (fun _ _ => rfl)) (T.c_GOING_ON.choose_spec.e (by rfl) rfl) (by rfl))))) (ss_one (s_ret e_bl)) ss_nil (fun _ h => h) (by decide)) (ss_one (s_ret (cB (fnAll rfl rfl) l_all (by rfl) T.n_all (by decide +kernel) (a_cons (RF.e (fLc (own := [("row", 1), ("behind", 2)]) rfl sc_words_are_shunned.nd (iZi rfl (by rfl) T.n_zip (a_cons (e_var 0 (pv 0) (by decide)) (a_cons (e_sl (e_var 0 (pv 0) (by decide)) (p_some e_int) p_none rfl) a_nil))) (blkOk_by (own := [("row", 1), ("behind", 2)]) (N := ["rows", "row", "behind"]) (sc := defScope s_words_are_shunned) (by decide +kernel)) (fun _ _ _ _ _ => (gT 2 rfl rfl (gC (gN 1 sc_words_are_shunned.nd rfl (.inl rfl) (by decide) off0) (gC (gN 2 sc_words_are_shunned.nd rfl (.inl rfl) (by decide) off0) gs_nil)))) (fun _ _ _ _ _ => (e_or (e_cmp (oNotIn rfl hv) l_notIn (e_ix (oIx rfl hw) l_ix (e_var 1 (pv 1) (by decide)) e_int (fun _ _ => rfl)) (T.c_GOING_ON.choose_spec.e (by rfl) rfl) (by rfl)) (e_one (e_cmp (oNe rfl hu) l_ne (e_ix (oIx rfl hw) l_ix (e_var 2 (pv 2) (by decide)) e_int (fun _ _ => rfl)) e_str (nomark _))))) (by decide) offs0)) a_nil)))))⟩
abbrev s_is_part : Stmt := topS 21
theorem sc_is_part : FnScope ["thing", "row"] ["thing"] (defScope s_is_part) := ⟨rfl, rfl, rfl, by decide +kernel, rfl, by decide +kernel, by decide +kernel⟩
theorem ok_is_part (T : Txt P w K mg base) : FI P w K mg base 4 "is_part" ["thing"] (spF K m_is_part) := by
  obtain ⟨f, fd, F, g, b⟩ := T.d_is_part.ex
  refine ⟨f, fd, FnG.pure F sc_is_part fun cdv A outer s H E hr hg => ?_, g, F.kp, b, Fun.lk F⟩
  have hu := hr.units
  have hv := hv_of hr
  have hx := hx_of hr
  have hw := hu_of hr
  unfold b_is_part
  exact ⟨_, [], (ss_cons (sIf (O' := []) (RW.t (w_or (t_not (t_val (eIsi (T := "tuple") (by decide) rfl (e_var 0 (pv 0) (by decide)) (by rfl) T.n_isinstance (by rfl) T.n_tuple (by decide +kernel)))) (w_or1 (t_not (tCh op_le l_cmp op_le l_cmp e_int (cB (fnLen rfl) l_len (by rfl) T.n_len (by decide +kernel) (a_cons (e_var 0 (pv 0) (by decide)) a_nil)) (T.c_MOST_ROWS.e (by rfl) rfl)))))) (ss_one (s_ret e_bl)) ss_nil (fun _ h => h) (by decide)) (ss_cons (sIf (O' := []) (t_not (t_val (cB (fnAll rfl rfl) l_all (by rfl) T.n_all (by decide +kernel) (a_cons (RF.e (fLc (own := [("row", 1)]) rfl sc_is_part.nd (i_seq rfl (e_var 0 (pv 0) (by decide))) (blkOk_by (own := [("row", 1)]) (N := ["thing", "row"]) (sc := defScope s_is_part) (by decide +kernel)) (fun _ _ _ _ _ => (gN 1 sc_is_part.nd rfl (.inl rfl) (by decide) off0)) (fun _ _ _ _ _ => (eF (ok_is_row T) (hr.mono (by decide)) hg rfl (by rfl) (a_cons (e_var 1 (pv 1) (by decide)) a_nil))) (by decide) offs0)) a_nil)))) (ss_one (s_ret e_bl)) ss_nil (fun _ h => h) (by decide)) (ss_cons (sIf (O' := []) (RW.t (w_and (t_not (t_val (eF (ok_is_even T) (hr.mono (by decide)) hg rfl (by rfl) (a_cons (e_var 0 (pv 0) (by decide)) a_nil)))) (w_and1 (t_cmp op_gt l_cmp (cB (fnLen rfl) l_len (by rfl) T.n_len (by decide +kernel) (a_cons (eF (ok_jump_rows T) (hr.mono (by decide)) hg rfl (by rfl) (a_cons (e_var 0 (pv 0) (by decide)) a_nil)) a_nil)) (T.c_MOST_JUMPS_BESIDE_ALIGN.e (by rfl) rfl) (nomark _))))) (ss_one (s_ret e_bl)) ss_nil (fun _ h => h) (by decide)) (ss_one (s_ret (e_and (eF (ok_goals_stand T) (hr.mono (by decide)) hg rfl (by rfl) (a_cons (e_var 0 (pv 0) (by decide)) a_nil)) (e_one (eF (ok_words_are_shunned T) (hr.mono (by decide)) hg rfl (by rfl) (a_cons (e_var 0 (pv 0) (by decide)) a_nil)))))))))⟩
abbrev s_check_part : Stmt := topS 22
theorem sc_check_part : FnScope ["part"] ["part"] (defScope s_check_part) := ⟨rfl, rfl, rfl, by decide +kernel, rfl, by decide +kernel, by decide +kernel⟩
theorem ok_check_part (T : Txt P w K mg base) : FI P w K mg base 5 "check_part" ["part"] (spF K m_check_part) := by
  obtain ⟨f, fd, F, g, b⟩ := T.d_check_part.ex
  refine ⟨f, fd, FnG.pure F sc_check_part fun cdv A outer s H E hr hg => ?_, g, F.kp, b, Fun.lk F⟩
  have hu := hr.units
  have hv := hv_of hr
  have hx := hx_of hr
  have hw := hu_of hr
  unfold b_check_part
  exact ⟨_, _, (ss_one (sIf (O' := []) (t_not (t_val (eF (ok_is_part T) (hr.mono (by decide)) hg rfl (by rfl) (a_cons (e_var 0 (pv 0) (by decide)) a_nil)))) (ss_one s_never) ss_nil (fun _ h => h) (by decide)))⟩
abbrev s_is_ascending : Stmt := topS 16
theorem sc_is_ascending : FnScope ["members", "member", "behind"] ["members"] (defScope s_is_ascending) := ⟨rfl, rfl, rfl, by decide +kernel, rfl, by decide +kernel, by decide +kernel⟩
theorem ok_is_ascending (T : Txt P w K mg base) : FI P w K mg base 1 "is_ascending" ["members"] (spF K m_is_ascending_v2) := by
  obtain ⟨f, fd, F, g, b⟩ := T.d_is_ascending.ex
  refine ⟨f, fd, FnG.pure F sc_is_ascending fun cdv A outer s H E hr hg => ?_, g, F.kp, b, Fun.lk F⟩
  have hu := hr.units
  have hv := hv_of hr
  have hx := hx_of hr
  have hw := hu_of hr
  unfold b_is_ascending_v2
  exact ⟨_, [], (ss_one (s_ret (cB (fnAll rfl rfl) l_all (by rfl) T.n_all (by decide +kernel) (a_cons (RF.e (fLc (own := [("member", 1), ("behind", 2)]) rfl sc_is_ascending.nd (iZi rfl (by rfl) T.n_zip (a_cons (e_var 0 (pv 0) (by decide)) (a_cons (e_sl (e_var 0 (pv 0) (by decide)) (p_some e_int) p_none rfl) a_nil))) (blkOk_by (own := [("member", 1), ("behind", 2)]) (N := ["members", "member", "behind"]) (sc := defScope s_is_ascending) (by decide +kernel)) (fun _ _ _ _ _ => (gT 2 rfl rfl (gC (gN 1 sc_is_ascending.nd rfl (.inl rfl) (by decide) off0) (gC (gN 2 sc_is_ascending.nd rfl (.inl rfl) (by decide) off0) gs_nil)))) (fun _ _ _ _ _ => (e_cmp (oLtD rfl hu) l_ltD (e_var 1 (pv 1) (by decide)) (e_var 2 (pv 2) (by decide)) (nomark _))) (by decide) offs0)) a_nil))))⟩
abbrev s_are_pairs : Stmt := topS 17
theorem sc_are_pairs : FnScope ["thing", "bounds", "pair"] ["thing", "bounds"] (defScope s_are_pairs) := ⟨rfl, rfl, rfl, by decide +kernel, rfl, by decide +kernel, by decide +kernel⟩
theorem ok_are_pairs (T : Txt P w K mg base) : FI P w K mg base 3 "are_pairs" ["thing", "bounds"] (spF K m_are_pairs) := by
  obtain ⟨f, fd, F, g, b⟩ := T.d_are_pairs.ex
  refine ⟨f, fd, FnG.pure F sc_are_pairs fun cdv A outer s H E hr hg => ?_, g, F.kp, b, Fun.lk F⟩
  have hu := hr.units
  have hv := hv_of hr
  have hx := hx_of hr
  have hw := hu_of hr
  unfold b_are_pairs
  exact ⟨_, [], (ss_cons (sIf (O' := []) (t_not (t_val (eIsi (T := "list") (by decide) rfl (e_var 0 (pv 0) (by decide)) (by rfl) T.n_isinstance (by rfl) T.n_list (by decide +kernel)))) (ss_one (s_ret e_bl)) ss_nil (fun _ h => h) (by decide)) (ss_cons (sIf (O' := []) (t_not (t_val (cB (fnAll rfl rfl) l_all (by rfl) T.n_all (by decide +kernel) (a_cons (RF.e (fLc (own := [("pair", 2)]) rfl sc_are_pairs.nd (i_seq rfl (e_var 0 (pv 0) (by decide))) (blkOk_by (own := [("pair", 2)]) (N := ["thing", "bounds", "pair"]) (sc := defScope s_are_pairs) (by decide +kernel)) (fun _ _ _ _ _ => (gN 2 sc_are_pairs.nd rfl (.inl rfl) (by decide) off0)) (fun _ _ _ _ _ => (e_and (eIsi (T := "tuple") (by decide) rfl (e_var 2 (pv 2) (by decide)) (by rfl) T.n_isinstance (by rfl) T.n_tuple (by decide +kernel)) (e_one (eF (ok_are_within T) (hr.mono (by decide)) hg rfl (by rfl) (a_cons (e_var 2 (pv 2) (by decide)) (a_cons (e_var 1 (pv 1) (by decide)) a_nil)))))) (by decide) offs0)) a_nil)))) (ss_one (s_ret e_bl)) ss_nil (fun _ h => h) (by decide)) (ss_one (s_ret (eF (ok_is_ascending T) (hr.mono (by decide)) hg rfl (by rfl) (a_cons (e_var 0 (pv 0) (by decide)) a_nil))))))⟩
abbrev s_renumbered : Stmt := topS 24
theorem sc_renumbered : FnScope ["row", "table"] ["row", "table"] (defScope s_renumbered) := ⟨rfl, rfl, rfl, by decide +kernel, rfl, by decide +kernel, by decide +kernel⟩
theorem ok_renumbered (T : Txt P w K mg base) : FI P w K mg base 1 "renumbered" ["row", "table"] (spF K m_renumbered) := by
  obtain ⟨f, fd, F, g, b⟩ := T.d_renumbered.ex
  refine ⟨f, fd, FnG.pure F sc_renumbered fun cdv A outer s H E hr hg => ?_, g, F.kp, b, Fun.lk F⟩
  have hu := hr.units
  have hv := hv_of hr
  have hx := hx_of hr
  have hw := hu_of hr
  unfold b_renumbered
  exact ⟨_, [], (ss_cons (sIf (O' := []) (t_cmp (oIn rfl hv) l_in (e_ix (oIx rfl hw) l_ix (e_var 0 (pv 0) (by decide)) e_int (fun _ _ => rfl)) (T.c_JUMPS.choose_spec.e (by rfl) rfl) (by rfl)) (ss_one (s_ret (e_tup (a_cons (e_ix (oIx rfl hw) l_ix (e_var 0 (pv 0) (by decide)) e_int (fun _ _ => rfl)) (a_cons (e_ix (oIx rfl hw) l_ix (e_var 1 (pv 1) (by decide)) (e_ix (oIx rfl hw) l_ix (e_var 0 (pv 0) (by decide)) e_int (fun _ _ => rfl)) (fun _ _ => rfl)) a_nil))))) ss_nil (fun _ h => h) (by decide)) (ss_one (s_ret (e_var 0 (pv 0) (by decide)))))⟩
abbrev s_put_words : Stmt := topS 25
theorem sc_put_words : FnScope ["part", "placed", "rows", "table", "number", "row", "values", "spot", "value"] ["part", "placed"] (defScope s_put_words) := ⟨rfl, rfl, rfl, by decide +kernel, rfl, by decide +kernel, by decide +kernel⟩
theorem okd_put_words (T : Txt P w K mg base) : FI P w K mg base 2 "put_words" ["part", "placed"] (spFd K m_put_words_v2) := by
  obtain ⟨f, fd, F, g, b⟩ := T.d_put_words.ex
  refine ⟨f, fd, FnG.two F sc_put_words fun cdv A outer s H E hr hg => ?_, g, F.kp, b, Fun.lk F⟩
  have hu := hr.units
  have hv := hv_of hr
  have hx := hx_of hr
  have hw := hu_of hr
  unfold b_put_words_v2
  exact ⟨_, (rsd_cons (sOwn 2 sc_put_words.nd rfl (.inl rfl) (f_lst a_nil) (by decide) off0) nr_set (rsd_cons (sOwn 3 sc_put_words.nd rfl (.inr rfl) (f_lst a_nil) (by decide) off0) nr_set (rsd_cons (sFor PassesOwn.never rfl (iEn rfl (by rfl) T.n_enumerate (a_cons (e_var 0 (pv 0) (by decide)) a_nil)) (gT 2 rfl rfl (gC (gN 4 sc_put_words.nd rfl (.inr rfl) (by decide) off0) (gC (gN 5 sc_put_words.nd rfl (.inl rfl) (by decide) off0) gs_nil))) (ss_cons (sApp 3 rfl (pv 3) (eLook 2 (cB (fnLen rfl) l_len (by rfl) T.n_len (by decide +kernel) (a_cons (e_var 2 (pv 2) (by decide)) a_nil)) rfl) (by decide)) (ss_cons (sApp 2 rfl (pv 2) (e_var 5 (pv 5) (by decide)) (by decide)) (ss_cons (sLcIf (own := [("spot", 7), ("value", 8)]) 6 rfl sc_put_words.nd rfl rfl (sw_true rfl rfl rfl (by decide +kernel)) (i_seq rfl (e_var 1 (pv 1) (by decide))) (blkOk_by (own := [("spot", 7), ("value", 8)]) (N := ["part", "placed", "rows", "table", "number", "row", "values", "spot", "value"]) (sc := defScope s_put_words) (by decide +kernel)) (fun _ _ _ _ _ => (gT 2 rfl rfl (gC (gN 7 sc_put_words.nd rfl (.inl rfl) (by decide) off0) (gC (gN 8 sc_put_words.nd rfl (.inl rfl) (by decide) off0) gs_nil)))) (fun _ _ _ _ _ => (t_cmp (oEq rfl hu) l_eq (e_var 7 (pv 7) (by decide)) (e_op (oAdd rfl) l_add (e_var 4 (pv 4) (by decide)) e_int) (nomark _))) (fun _ _ _ _ _ => (e_var 8 (pv 8) (by decide))) (by decide) offs0 (by decide) off0) (RSs.pre (O := [3, 2]) (ss_cons (sIf (O' := [3, 2]) (RW.t (w_and (tTru rfl (e_var 6 (pv 6) (by decide))) (w_and1 (t_cmp (oIn rfl hv) l_in (e_ix (oIx rfl hw) l_ix (e_var 5 (pv 5) (by decide)) e_int (fun _ _ => rfl)) (T.c_GOING_ON.choose_spec.e (by rfl) rfl) (by rfl))))) (ss_one (sApp 2 rfl (pv 2) (e_tup (a_cons e_str (a_cons (e_op (oAdd rfl) l_add (e_var 4 (pv 4) (by decide)) e_int) a_nil))) (by decide))) ss_nil (by decide) (by decide)) (ss_one (sExt 2 rfl (pv 2) (RF.e (fLc (own := [("value", 8)]) rfl sc_put_words.nd (i_seq rfl (e_var 6 (pv 6) (by decide))) (blkOk_by (own := [("value", 8)]) (N := ["part", "placed", "rows", "table", "number", "row", "values", "spot", "value"]) (sc := defScope s_put_words) (by decide +kernel)) (fun _ _ _ _ _ => (gN 8 sc_put_words.nd rfl (.inl rfl) (by decide) off0)) (fun _ _ _ _ _ => (e_tup (a_cons e_str (a_cons (e_var 8 (pv 8) (by decide)) a_nil)))) (by decide) offs0)) (by decide) off0))) (by decide))))) (by decide)) (nr_for (nr_seq nr_append (nr_seq nr_append (nr_seq nr_set (nr_seq (nr_if nr_append nr_next) nr_extend))))) (rsd_pre (O2 := [3]) 2 (rsd_pairE 3 (by decide) (pv 3) (eLookA 3 (cT (fnTuple rfl) l_tuple (by rfl) T.n_tuple (by decide +kernel) (a_cons (RF.e (fLc (own := [("row", 5)]) rfl sc_put_words.nd (i_seq rfl (e_var 2 (pv 2) (by decide))) (blkOk_by (own := [("row", 5)]) (N := ["part", "placed", "rows", "table", "number", "row", "values", "spot", "value"]) (sc := defScope s_put_words) (by decide +kernel)) (fun _ _ _ _ _ => (gN 5 sc_put_words.nd rfl (.inl rfl) (by decide) off0)) (fun _ _ _ _ _ => (eF (ok_renumbered T) (hr.mono (by decide)) hg rfl (by rfl) (a_cons (e_var 5 (pv 5) (by decide)) (a_cons (e_var 3 (pv 3) (by decide)) a_nil)))) (by decide) offs0)) a_nil)) rfl)) (by decide)))))⟩
theorem ok_put_words (T : Txt P w K mg base) : FI P w K mg base 2 "put_words" ["part", "placed"] (spF K m_put_words_v2) := (okd_put_words T).plainD
abbrev s_check_placed : Stmt := topS 26
theorem sc_check_placed : FnScope ["part", "placed"] ["part", "placed"] (defScope s_check_placed) := ⟨rfl, rfl, rfl, by decide +kernel, rfl, by decide +kernel, by decide +kernel⟩
theorem ok_check_placed (T : Txt P w K mg base) : FI P w K mg base 5 "check_placed" ["part", "placed"] (spF K m_check_placed_v2) := by
  obtain ⟨f, fd, F, g, b⟩ := T.d_check_placed.ex
  refine ⟨f, fd, FnG.pure F sc_check_placed fun cdv A outer s H E hr hg => ?_, g, F.kp, b, Fun.lk F⟩
  have hu := hr.units
  have hv := hv_of hr
  have hx := hx_of hr
  have hw := hu_of hr
  unfold b_check_placed_v2
  exact ⟨_, _, (ss_cons (sIf (O' := []) (t_not (t_val (eF (ok_are_pairs T) (hr.mono (by decide)) hg rfl (by rfl) (a_cons (e_var 1 (pv 1) (by decide)) (a_cons (e_tup (a_cons (e_tup (a_cons e_int (a_cons (cB (fnLen rfl) l_len (by rfl) T.n_len (by decide +kernel) (a_cons (e_var 0 (pv 0) (by decide)) a_nil)) a_nil))) (a_cons (e_tup (a_cons e_int (a_cons (T.c_HIGHEST.e (by rfl) rfl) a_nil))) a_nil))) a_nil))))) (ss_one s_never) ss_nil (fun _ h => h) (by decide)) (ss_one (sIf (O' := []) (t_not (t_val (eF (ok_is_part T) (hr.mono (by decide)) hg rfl (by rfl) (a_cons (e_ix (oIx rfl hw) l_ix (eF (ok_put_words T) (hr.mono (by decide)) hg rfl (by rfl) (a_cons (e_var 0 (pv 0) (by decide)) (a_cons (e_var 1 (pv 1) (by decide)) a_nil))) e_int (fun _ _ => rfl)) a_nil)))) (ss_one s_never) ss_nil (fun _ h => h) (by decide))))⟩
abbrev s_with_words : Stmt := topS 27
theorem sc_with_words : FnScope ["part", "placed"] ["part", "placed"] (defScope s_with_words) := ⟨rfl, rfl, rfl, by decide +kernel, rfl, by decide +kernel, by decide +kernel⟩
theorem okd_with_words (T : Txt P w K mg base) : FI P w K mg base 6 "with_words" ["part", "placed"] (spFd K m_with_words_v2) := by
  obtain ⟨f, fd, F, g, b⟩ := T.d_with_words.ex
  refine ⟨f, fd, FnG.two F sc_with_words fun cdv A outer s H E hr hg => ?_, g, F.kp, b, Fun.lk F⟩
  have hu := hr.units
  have hv := hv_of hr
  have hx := hx_of hr
  have hw := hu_of hr
  unfold b_with_words_v2
  exact ⟨_, (rsd_cons (sExpr (eF (ok_check_part T) (hr.mono (by decide)) hg rfl (by rfl) (a_cons (e_var 0 (pv 0) (by decide)) a_nil))) nr_drop (rsd_cons (sExpr (eF (ok_check_placed T) (hr.mono (by decide)) hg rfl (by rfl) (a_cons (e_var 0 (pv 0) (by decide)) (a_cons (e_var 1 (pv 1) (by decide)) a_nil)))) nr_drop (rsd_call (okd_put_words T) (hr.mono (by decide)) hg rfl (by rfl) (a_cons (e_var 0 (pv 0) (by decide)) (a_cons (e_var 1 (pv 1) (by decide)) a_nil)))))⟩
theorem ok_with_words (T : Txt P w K mg base) : FI P w K mg base 6 "with_words" ["part", "placed"] (spF K m_with_words_v2) := (okd_with_words T).plainD
abbrev s_law : Stmt := topS 37
theorem sc_law : FnScope ["script", "pen", "turn", "part", "placed", "again", "kept", "due", "told", "table", "one", "rows"] ["script"] (defScope s_law) := ⟨rfl, rfl, rfl, by decide +kernel, rfl, by decide +kernel, by decide +kernel⟩
theorem fn_law (T : Txt P w K mg base) (h : b_c41_law mTrue (List.replicate 12 none) 0) {f : Addr} {fd : FuncData} (F : Fun K "law" "law" (topS 37) f fd) : FnG P w K mg base 100 f fd ["script"] (spLaw K) := by
  obtain ⟨fS, fdS, GS, gS, kS, bS, _⟩ := (ok__law_open T).ex
  refine FnG.law 1 F sc_law (by decide) _ _ rfl (fun cdv A outer s H E hr hg => ⟨?_, fun a dr => ?_⟩) h
  · exact ps_set (i := 1) sc_law.nd rfl (.inl rfl) (pe_callG GS (hr.mono (by decide)) (hg.le (by decide)) (by rfl) gS kS bS (pa_cons (pv 0) pa_nil))
  · have hu := hr.units
    have hv := hv_of hr
    have hx := hx_of hr
    have hw := hu_of hr
    unfold b_c41_law
    exact ⟨_, [], (ss_cons (sFor PassesOwn.never rfl (iR1 (by rfl) T.n_range (a_cons e_int a_nil)) (gN 2 sc_law.nd rfl (.inl rfl) (by decide) (offp (by decide))) (ss_cons (sSet 3 sc_law.nd rfl (.inl rfl) (eP (ok__law_any_part T) (hr.mono (by decide)) hg rfl rfl (by rfl) (pv 1) (a_cons e_int (a_cons (e_op o_mul l_mul e_int (eP (ok__law_take T) (hr.mono (by decide)) hg rfl rfl (by rfl) (pv 1) (a_cons e_int a_nil))) (a_cons (eP (ok__law_one_of T) (hr.mono (by decide)) hg rfl rfl (by rfl) (pv 1) (a_cons (e_lst (a_cons e_int (a_cons e_int (a_cons e_int a_nil)))) a_nil)) a_nil)))) (by decide) (offp (by decide))) (ss_cons (sOwn 4 sc_law.nd rfl (.inl rfl) (f_lst a_nil) (by decide) (offp (by decide))) (ss_one (sFor PassesOwn.never rfl (iR1 (by rfl) T.n_range (a_cons e_int a_nil)) (gN 5 sc_law.nd rfl (.inl rfl) (by decide) (offp (by decide))) (ss_cons (sPar2 6 7 rfl sc_law.nd rfl rfl (by decide) rfl rfl (x_sh (eLook 4 (eLook 4 (cB (fnReprX T.sys rfl (hg (by decide)) hx) l_reprX (by rfl) T.n_repr (by decide +kernel) (a_cons (e_tup (a_cons (e_var 3 (pv 3) (by decide)) (a_cons (e_var 4 (pv 4) (by decide)) a_nil))) a_nil)) rfl) rfl) (x_sh (eLookA 4 (eF (ok__law_put_in T) (hr.mono (by decide)) hg rfl (by rfl) (a_cons (e_var 3 (pv 3) (by decide)) (a_cons (e_var 4 (pv 4) (by decide)) a_nil))) rfl) x_nil)) (offsOp (by decide)) rfl) (ss_cons (sIf (O' := [4]) (RW.t (w_or (t_cmp op_gt l_cmp (cB (fnLen rfl) l_len (by rfl) T.n_len (by decide +kernel) (a_cons (e_ix (oIx rfl hw) l_ix (e_var 7 (pv 7) (by decide)) e_int (fun _ _ => rfl)) a_nil)) e_int (nomark _)) (w_or1 (t_not (t_val (eF (ok_is_part T) (hr.mono (by decide)) hg rfl (by rfl) (a_cons (e_ix (oIx rfl hw) l_ix (e_var 7 (pv 7) (by decide)) e_int (fun _ _ => rfl)) a_nil))))))) (ss_one (s_break (by decide))) ss_nil (fun _ h => h) (by decide)) (ssKillRr (iD := 8) (iR := 9) (j := 4) (c := .none) (cV := .non) (a_cons (e_var 3 (pv 3) (by decide)) (a_cons (e_var 4 (pv 4) (by decide)) a_nil)) rfl (tLook 4 (RW.t (w_or (t_cmp (oNe rfl hu) l_ne (cB (fnReprX T.sys rfl (hg (by decide)) hx) l_reprX (by rfl) T.n_repr (by decide +kernel) (a_cons (e_var 8 (pv 8) (by decide)) a_nil)) (cB (fnReprX T.sys rfl (hg (by decide)) hx) l_reprX (by rfl) T.n_repr (by decide +kernel) (a_cons (e_var 7 (pv 7) (by decide)) a_nil)) (nomark _)) (w_or (t_cmp (oNe rfl hu) l_ne (cB (fnReprX T.sys rfl (hg (by decide)) hx) l_reprX (by rfl) T.n_repr (by decide +kernel) (a_cons (e_tup (a_cons (e_var 3 (pv 3) (by decide)) (a_cons (e_var 4 (pv 4) (by decide)) a_nil))) a_nil)) (e_var 6 (pv 6) (by decide)) (nomark _)) (w_or1 (t_cmp op_notBl l_notB (eF (ok_is_part T) (hr.mono (by decide)) hg rfl (by rfl) (a_cons (e_ix (oIx rfl hw) l_ix (e_var 8 (pv 8) (by decide)) e_int (fun _ _ => rfl)) a_nil)) e_bl (nomark _)))))) rfl) (ss_cons (sIf (O' := [4]) (tLook 4 (t_cmp (oIn rfl hv) l_in e_non (e_ix (oIx rfl hw) l_ix (eF (ok_with_words T) (hr.mono (by decide)) hg rfl (by rfl) (a_cons (e_var 3 (pv 3) (by decide)) (a_cons (e_var 4 (pv 4) (by decide)) a_nil))) e_int (fun _ _ => rfl)) (by rfl)) rfl) (ss_one (s_ret e_bl)) ss_nil (fun _ h => h) (by decide)) (ss_cons (sSet 10 sc_law.nd rfl (.inl rfl) (e_tup (a_cons (e_op (oAdd rfl) l_add e_int (eP (ok__law_take T) (hr.mono (by decide)) hg rfl rfl (by rfl) (pv 1) (a_cons (cB (fnLen rfl) l_len (by rfl) T.n_len (by decide +kernel) (a_cons (e_var 3 (pv 3) (by decide)) a_nil)) a_nil))) (a_cons (eP (ok__law_one_of T) (hr.mono (by decide)) hg rfl rfl (by rfl) (pv 1) (a_cons (e_lst (a_cons e_int (a_cons e_int (a_cons e_int (a_cons e_int (a_cons e_int (a_cons e_int a_nil))))))) a_nil)) a_nil))) (by decide) (offp (by decide))) (ss_one (sIf (O' := [4]) (tLook 4 (t_cmp (oNotIn rfl hv) l_notIn (e_var 10 (pv 10) (by decide)) (e_var 4 (pv 4) (by decide)) (by rfl)) rfl) (ss_cons (sSet 11 sc_law.nd rfl (.inl rfl) (eLookA 4 (cB (fnSorted rfl rfl hx) l_sorted (by rfl) T.n_sorted (by decide +kernel) (a_cons (e_op (oAdd rfl) l_add (e_var 4 (pv 4) (by decide)) (e_lst (a_cons (e_var 10 (pv 10) (by decide)) a_nil))) a_nil)) rfl) (by decide) (offp (by decide))) (ss_cons (sClear 4 rfl (pv 4) (by decide) (offp (by decide))) (ss_one (sExt 4 rfl (pv 4) (e_var 11 (pv 11) (by decide)) (by decide) (offp (by decide)))))) ss_nil (by decide) (by decide))))) (fun za zT zr => pss_cons (ps_set (i := 8) sc_law.nd rfl (.inl rfl) (pFd (okd_with_words T) (hr.mono (by decide)) hg rfl (by rfl) za)) (pss_cons (ps_if zT (pss_one (ps_ret pe_bl)) pss_nil) (pss_cons (ps_set (i := 9) sc_law.nd rfl (.inl rfl) (pe_ix (oIx rfl hw) (pv 8) pe_int (fun _ _ => rfl))) (pss_cons (ps_expr (pe_bm PySem.F.plainAttrs_list PySem.F.slot_list_append PySem.F.type_list_append mt_append (pv 9) (pa_cons pe_non pa_nil))) zr)))) (by decide) (by decide) (offp (by decide)) (offp (by decide)) (by decide)))) (by decide))))) (by decide)) (ss_one (s_ret e_bl)))⟩
end K41
end
section
namespace RC
open PySem PySem.Spec L2 RR
open PyProof.Rows hiding St
/-- over what is made of a list of anything -/
theorem vcomp_mapOf {α : Type} {g : VG} {t : VT} {e : VE} {Γ : DEnv} {xs : List α} (f : α → D) (h : α → D) (k : ∀ x ∈ xs, ∃ Γ2, g (f x) Γ = some Γ2 ∧ t Γ2 = some true ∧ e Γ2 = some (h x)) : vcomp g t e Γ (xs.map f) = some (xs.map h) := by
  induction xs with
  | nil => rfl
  | cons d ds ih =>
    obtain ⟨Γ2, h1, h2, h3⟩ := k d (List.mem_cons_self ..)
    rw [List.map_cons]
    unfold vcomp
    rw [h1, Option.bind_some, h2, Option.bind_some, if_pos rfl, h3, Option.bind_some, ih fun d hd => k d (List.mem_cons_of_mem _ hd)]
    rfl
theorem vcomp_filterOf {α : Type} {g : VG} {t : VT} {e : VE} {Γ : DEnv} {xs : List α} (f : α → D) (q : α → Bool) (h : α → D) (k : ∀ x ∈ xs, ∃ Γ2, g (f x) Γ = some Γ2 ∧ t Γ2 = some (q x) ∧ (q x = true → e Γ2 = some (h x))) : vcomp g t e Γ (xs.map f) = some ((xs.filter q).map h) := by
  induction xs with
  | nil => rfl
  | cons d ds ih =>
    obtain ⟨Γ2, h1, h2, h3⟩ := k d (List.mem_cons_self ..)
    rw [List.map_cons]
    unfold vcomp
    rw [h1, Option.bind_some, h2, Option.bind_some, ih fun d hd => k d (List.mem_cons_of_mem _ hd)]
    cases hq : q d with
    | true => rw [if_pos rfl, h3 hq, List.filter_cons, if_pos hq]; rfl
    | false => rw [if_neg (by decide), List.filter_cons, if_neg (by rw [hq]; decide)]
theorem cAll_of (bs : List Bool) : cAll [.list (bs.map .bool)] = some (.bool (bs.all id)) := by
  show (boolsD (bs.map .bool)).map _ = _
  rw [boolsD_map]; rfl
theorem cAll_map {α : Type} (q : α → Bool) (xs : List α) : cAll [.list (xs.map fun x => .bool (q x))] = some (.bool (xs.all q)) := by
  have h := cAll_of (xs.map q)
  rw [List.map_map] at h
  refine h.trans ?_
  rw [List.all_map]; rfl
/-- a list of the values of a pure comprehension -/
theorem vLc_of {i : VI} {g : VG} {t : VT} {e : VE} {vs : List Nat} {Γ : DEnv} {ds r : List D} (h1 : i Γ = some ds) (h2 : ds.length ≤ lim) (h3 : vcomp g t e (wipeD Γ vs) ds = some r) : vLc i g t e vs Γ = some (.list r) := by
  unfold vLc
  rw [h1, Option.bind_some, if_pos h2, h3]; rfl
theorem vFun_of {N : List Str} {np : Nat} {b : VS} {ds : List D} {d : D} (h : ds.length = np) (k : b (startD N (ds.map some)) = some (.rt d)) : vFun N np b ds = some d := by
  unfold vFun
  rw [if_pos h, k]; rfl
theorem vFun_nx {N : List Str} {np : Nat} {b : VS} {ds : List D} {Γ : DEnv} (h : ds.length = np) (k : b (startD N (ds.map some)) = some (.nx Γ)) : vFun N np b ds = some .none := by
  unfold vFun
  rw [if_pos h, k]; rfl
theorem vSeq_nx {t u : VS} {Γ Γ1 : DEnv} {r : Option Rs} (h : t Γ = some (.nx Γ1)) (k : u Γ1 = r) : vSeqS t u Γ = r := by
  unfold vSeqS
  rw [h]; exact k
theorem vSeq_rt {t u : VS} {Γ : DEnv} {d : D} (h : t Γ = some (.rt d)) : vSeqS t u Γ = some (.rt d) := by
  unfold vSeqS
  rw [h]; rfl
theorem vIfS_t {t : VT} {x y : VS} {Γ : DEnv} {r : Option Rs} (h : t Γ = some true) (k : x Γ = r) : vIfS t x y Γ = r := by
  unfold vIfS
  rw [h]; exact k
theorem vIfS_f {t : VT} {x y : VS} {Γ : DEnv} {r : Option Rs} (h : t Γ = some false) (k : y Γ = r) : vIfS t x y Γ = r := by
  unfold vIfS
  rw [h]; exact k
theorem vRet_of {a : VE} {Γ : DEnv} {d : D} (h : a Γ = some d) : vRet a Γ = some (.rt d) := by
  unfold vRet
  rw [h]; rfl
theorem vSet_of {i : Nat} {a : VE} {Γ : DEnv} {d : D} (h : a Γ = some d) : vSet i a Γ = some (.nx (Γ.set i (some d))) := by
  unfold vSet
  rw [h]; rfl
theorem vDrop_of {a : VE} {Γ : DEnv} {d : D} (h : a Γ = some d) : vDrop a Γ = some (.nx Γ) := by
  unfold vDrop
  rw [h]; rfl
theorem vOp_of {f : D → D → Option D} {a b : VE} {Γ : DEnv} {x y : D} (h : a Γ = some x) (k : b Γ = some y) : vOp f a b Γ = f x y := by
  unfold vOp
  rw [h, Option.bind_some, k]; rfl
theorem vCl_of {f : List D → Option D} {a : VA} {Γ : DEnv} {x : List D} (h : a Γ = some x) : vCl f a Γ = f x := by
  unfold vCl
  rw [h]; rfl
theorem vCall_of {f : VP} {a : VA} {Γ : DEnv} {x : List D} (h : a Γ = some x) : vCall f a Γ = f x := by
  unfold vCall
  rw [h]; rfl
theorem vCons_of {a : VE} {r : VA} {Γ : DEnv} {x : D} {xs : List D} (h : a Γ = some x) (k : r Γ = some xs) : vCons a r Γ = some (x :: xs) := by
  unfold vCons
  rw [h, Option.bind_some, k]; rfl
theorem vTest_of {a : VE} {Γ : DEnv} {b : Bool} (h : a Γ = some (.bool b)) : vTest a Γ = some b := by
  unfold vTest
  rw [h]; rfl
theorem vAndV_of {a b : VE} {Γ : DEnv} {x y : Bool} (h : a Γ = some (.bool x)) (k : x = true → b Γ = some (.bool y)) : vAndV a b Γ = some (.bool (x && y)) := by
  unfold vAndV
  rw [h]
  cases x with
  | true => exact k rfl
  | false => rfl
theorem vOrV_of {a b : VE} {Γ : DEnv} {x y : Bool} (h : a Γ = some (.bool x)) (k : x = false → b Γ = some (.bool y)) : vOrV a b Γ = some (.bool (x || y)) := by
  unfold vOrV
  rw [h]
  cases x with
  | true => rfl
  | false => exact k rfl
theorem vAnd_of {a b : VT} {Γ : DEnv} {x y : Bool} (h : a Γ = some x) (k : x = true → b Γ = some y) : vAnd a b Γ = some (x && y) := by
  unfold vAnd
  rw [h]
  cases x with
  | true => exact k rfl
  | false => rfl
theorem vOr_of {a b : VT} {Γ : DEnv} {x y : Bool} (h : a Γ = some x) (k : x = false → b Γ = some y) : vOr a b Γ = some (x || y) := by
  unfold vOr
  rw [h]
  cases x with
  | true => rfl
  | false => exact k rfl
theorem vNot_t {a : VT} {Γ : DEnv} (h : a Γ = some false) : vNot a Γ = some true := by
  unfold vNot
  rw [h]; rfl
theorem vNot_f {a : VT} {Γ : DEnv} (h : a Γ = some true) : vNot a Γ = some false := by
  unfold vNot
  rw [h]; rfl
theorem vIsi_of {T : String} {a : VE} {Γ : DEnv} {x : D} (h : a Γ = some x) : vIsi T a Γ = some (.bool (isiB x T)) := by
  unfold vIsi
  rw [h]; rfl
theorem vUn_of {f : D → Option D} {a : VE} {Γ : DEnv} {x : D} (h : a Γ = some x) : vUn f a Γ = f x := by
  unfold vUn
  rw [h]; rfl
theorem vNotV_of {a : VE} {Γ : DEnv} {x : Bool} (h : a Γ = some (.bool x)) : vNotV a Γ = some (.bool (!x)) := by
  unfold vNotV
  rw [h]; rfl
theorem ix0 (x : D) (xs : List D) : dIx (.tuple (x :: xs)) (.int 0) = some x := atI_nat (j := 0) rfl
theorem ix1 (x y : D) (xs : List D) : dIx (.tuple (x :: y :: xs)) (.int 1) = some y := atI_nat (j := 1) rfl
theorem vNot_of {a : VT} {Γ : DEnv} {x : Bool} (h : a Γ = some x) : vNot a Γ = some (!x) := by
  unfold vNot
  rw [h]; rfl
theorem okR_nat {n : Nat} (h : n ≤ 1000000) : okR (n : Int) := ⟨Int.le_trans (show (-(2 ^ 62) : Int) ≤ 0 by decide) (Int.natCast_nonneg _), Int.lt_of_lt_of_le (show (n : Int) < 1000001 by omega) (show (1000001 : Int) ≤ 2 ^ 62 by decide)⟩
theorem rangeD_eq : ∀ (n k : Nat), rangeD (k : Int) n = (List.range' k n).map fun i : Nat => PyData.int (i : Int)
  | 0, k => rfl
  | n + 1, k => by
    rw [List.range'_succ, List.map_cons, ← rangeD_eq n (k + 1)]
    rfl
theorem range1_nat {n : Nat} (h : n ≤ 1000000) : range1 [.int (n : Int)] = some ((List.range n).map fun i : Nat => PyData.int (i : Int)) := by
  unfold range1
  dsimp only
  have e : rangeD 0 n = (List.range' 0 n).map fun i : Nat => PyData.int (i : Int) := rangeD_eq n 0
  rw [if_pos (okR_nat h), Int.toNat_natCast, List.range_eq_range', e]
theorem vIR1_nat {a : VA} {Γ : DEnv} {n : Nat} (h : n ≤ 1000000) (e : a Γ = some [.int (n : Int)]) : vIR1 a Γ = some ((List.range n).map fun i : Nat => PyData.int (i : Int)) := by
  unfold vIR1
  rw [e, Option.bind_some, range1_nat h]
theorem zipD_map {α β : Type} (f : α → D) (g : β → D) : ∀ (xs : List α) (ys : List β), zipD (xs.map f) (ys.map g) = (xs.zip ys).map fun q => .tuple [f q.1, g q.2]
  | [], ys => by cases ys <;> rfl
  | x :: xs, [] => rfl
  | x :: xs, y :: ys => by
    show PyData.tuple [f x, g y] :: zipD (xs.map f) (ys.map g) = _
    rw [zipD_map f g xs ys]; rfl
theorem enumD_map {α : Type} (f : α → D) : ∀ (xs : List α) (k : Nat), enumD (k : Int) (xs.map f) = (xs.zipIdx k).map fun q => .tuple [.int (q.2 : Int), f q.1]
  | [], k => rfl
  | x :: xs, k => by
    show PyData.tuple [.int (k : Int), f x] :: enumD ((k : Int) + 1) (xs.map f) = _
    have := enumD_map f xs (k + 1)
    rw [List.zipIdx_cons, List.map_cons]
    rw [Int.natCast_add, Int.natCast_one] at this
    rw [this]
end RC
end
section
namespace RC
open PySem PySem.Spec L2 RR
open PyProof.Rows hiding St
inductive Row
  | plain (s a : Int)
  | stop (s : Int)
  | jump (k : Int)
  | branch (k : Int)
  | far (p : Int)
  | load (v : Int)
  | word (v : Int)
  | align (n : Int)
def Row.d : Row → D
  | .plain s a => .tuple [.str "plain", .int s, .int a]
  | .stop s => .tuple [.str "stop", .int s]
  | .jump k => .tuple [.str "jump", .int k]
  | .branch k => .tuple [.str "branch", .int k]
  | .far p => .tuple [.str "far", .int p]
  | .load v => .tuple [.str "load", .int v]
  | .word v => .tuple [.str "word", .int v]
  | .align n => .tuple [.str "align", .int n]
abbrev Part := List Row
abbrev Book := List Part
def pd (p : Part) : D := .tuple (p.map Row.d)
def within (x lo hi : Int) : Bool := decide (lo ≤ x) && decide (x ≤ hi)
def Row.ok : Row → Bool
  | .plain s a => within s 1 99 && within a 0 999
  | .stop s => within s 1 99
  | .jump k => within k 0 19
  | .branch k => within k 0 19
  | .far p => within p 0 4
  | .load v => within v 0 65535
  | .word v => within v 0 65535
  | .align n => n == 2 || n == 4 || n == 8 || n == 16
def Row.isJump : Row → Bool
  | .jump _ => true
  | .branch _ => true
  | _ => false
def Row.isAlign : Row → Bool
  | .align _ => true
  | _ => false
def Row.isWord : Row → Bool
  | .word _ => true
  | _ => false
def Row.goesOn : Row → Bool
  | .plain _ _ => true
  | .branch _ => true
  | .load _ => true
  | .align _ => true
  | _ => false
def Row.isFar : Row → Bool
  | .far _ => true
  | _ => false
/-- the first number of a row -/
def Row.num : Row → Int
  | .plain s _ => s
  | .stop s => s
  | .jump k => k
  | .branch k => k
  | .far p => p
  | .load v => v
  | .word v => v
  | .align n => n
def withinD (d : D) (lo hi : Int) : Bool := match d with | .int x => within x lo hi | _ => false
theorem v_is_within_eq (d : D) (lo hi : Int) : v_is_within [d, .int lo, .int hi] = some (.bool (withinD d lo hi)) := by
  cases d with
  | int x =>
    unfold withinD within
    show Option.bind (Option.bind (if decide (lo ≤ x) = true then some (PyData.bool (decide (x ≤ hi))) else some (.bool false)) _) _ = _
    by_cases h : lo ≤ x <;> simp [h, outD]
  | _ => rfl
/-- bounds, as they stand in the table -/
def bndD (q : Int × Int) : D := .tuple [.int q.1, .int q.2]
def withinAll : List D → List (Int × Int) → Bool
  | [], [] => true
  | d :: ds, q :: qs => withinD d q.1 q.2 && withinAll ds qs
  | _, _ => false
theorem withinAll_zip : ∀ (ds : List D) (qs : List (Int × Int)), ds.length = qs.length → withinAll ds qs = (ds.zip qs).all fun z => withinD z.1 z.2.1 z.2.2
  | [], [], _ => rfl
  | d :: ds, q :: qs, h => by
    rw [withinAll, List.zip_cons_cons, List.all_cons, withinAll_zip ds qs (by simpa using h)]
  | [], _ :: _, h => by simp at h
  | _ :: _, [], h => by simp at h
theorem withinAll_len : ∀ (ds : List D) (qs : List (Int × Int)), ds.length ≠ qs.length → withinAll ds qs = false
  | [], [], h => absurd rfl h
  | d :: ds, q :: qs, h => by
    rw [withinAll, withinAll_len ds qs (by simpa using h), Bool.and_false]
  | [], _ :: _, h => rfl
  | _ :: _, [], h => rfl
theorem dNe_int (i j : Int) : dNe (.int i) (.int j) = some (.bool (!decide (i = j))) := by
  show some (PyData.bool (!PyData.eqv (.int i) (.int j))) = _
  rw [PyData.eqv]; rfl
theorem dEq_int (i j : Int) : dEq (.int i) (.int j) = some (.bool (decide (i = j))) := by
  show some (PyData.bool (PyData.eqv (.int i) (.int j))) = _
  rw [PyData.eqv]; rfl
theorem v_are_within_eq (ds : List D) (qs : List (Int × Int)) (h : qs.length ≤ lim) : v_are_within [.tuple ds, .tuple (qs.map bndD)] = some (.bool (withinAll ds qs)) := by
  refine vFun_of rfl ?_
  have e : vTest (vOp dNe (vCl cLen (vCons (vVar 0) vNil)) (vCl cLen (vCons (vVar 1) vNil))) (startD ["things", "bounds", "thing", "low", "high"] ([PyData.tuple ds, PyData.tuple (qs.map bndD)].map some)) = some (!decide (ds.length = qs.length)) := by
    refine vTest_of ?_
    refine (vOp_of (x := .int ds.length) (y := .int (qs.map bndD).length) rfl rfl).trans ?_
    rw [dNe_int, List.length_map]
    congr 3
    exact decide_eq_decide.mpr Int.ofNat_inj
  unfold vb_are_within
  by_cases hl : ds.length = qs.length
  · refine vSeq_nx (vIfS_f (e.trans (by rw [decide_eq_true hl]; rfl)) rfl) ?_
    refine vRet_of ?_
    have z : zipD ds (qs.map bndD) = (ds.zip qs).map fun q => .tuple [q.1, bndD q.2] := by
      have := zipD_map (fun d : D => d) bndD ds qs
      rwa [List.map_id'] at this
    have c : vLc (vIZ (vCons (vVar 0) (vCons (vVar 1) vNil))) (vgTup 2 (vgCons (vgName 2) (vgCons (vgTup 2 (vgCons (vgName 3) (vgCons (vgName 4) vgNil))) vgNil))) vYes (vCall v_is_within (vCons (vVar 2) (vCons (vVar 3) (vCons (vVar 4) vNil)))) [2, 3, 4] (startD ["things", "bounds", "thing", "low", "high"] ([PyData.tuple ds, PyData.tuple (qs.map bndD)].map some)) = some (.list ((ds.zip qs).map fun z => .bool (withinD z.1 z.2.1 z.2.2))) := by
      refine vLc_of (ds := (ds.zip qs).map fun q => .tuple [q.1, bndD q.2]) (congrArg some z) (by rw [List.length_map, List.length_zip]; omega) ?_
      refine vcomp_mapOf _ _ fun q hq => ⟨_, rfl, rfl, ?_⟩
      exact (vCall_of rfl).trans (v_is_within_eq q.1 q.2.1 q.2.2)
    refine (vCl_of (vCons_of c rfl)).trans ?_
    rw [cAll_map, withinAll_zip ds qs hl]
  · refine vSeq_rt (vIfS_t (e.trans (by rw [decide_eq_false hl]; rfl)) ?_)
    rw [withinAll_len ds qs hl]
    rfl
def bnds (w : Str) : Option (List (Int × Int)) :=
  if "plain" = w then some [(1, 99), (0, 999)] else if "stop" = w then some [(1, 99)] else if "jump" = w then some [(0, 19)] else if "branch" = w then some [(0, 19)] else
  if "far" = w then some [(0, 4)] else if "load" = w then some [(0, 65535)] else if "word" = w then some [(0, 65535)] else if "align" = w then some [(2, 16)] else none
theorem eqv_str (a b : Str) : PyData.eqv (.str a) (.str b) = decide (a = b) := by rw [PyData.eqv]; rfl
theorem eqv_int (a b : Int) : PyData.eqv (.int a) (.int b) = decide (a = b) := by rw [PyData.eqv]; rfl
structure NoWord (w : Str) : Prop where
  h1 : ("plain" : Str) ≠ w
  h2 : ("stop" : Str) ≠ w
  h3 : ("jump" : Str) ≠ w
  h4 : ("branch" : Str) ≠ w
  h5 : ("far" : Str) ≠ w
  h6 : ("load" : Str) ≠ w
  h7 : ("word" : Str) ≠ w
  h8 : ("align" : Str) ≠ w
theorem words (w : Str) : ("plain" = w ∨ "stop" = w ∨ "jump" = w ∨ "branch" = w ∨ "far" = w ∨ "load" = w ∨ "word" = w ∨ "align" = w) ∨ NoWord w := by
  by_cases h1 : ("plain" : Str) = w; · exact .inl (.inl h1)
  by_cases h2 : ("stop" : Str) = w; · exact .inl (.inr (.inl h2))
  by_cases h3 : ("jump" : Str) = w; · exact .inl (.inr (.inr (.inl h3)))
  by_cases h4 : ("branch" : Str) = w; · exact .inl (.inr (.inr (.inr (.inl h4))))
  by_cases h5 : ("far" : Str) = w; · exact .inl (.inr (.inr (.inr (.inr (.inl h5)))))
  by_cases h6 : ("load" : Str) = w; · exact .inl (.inr (.inr (.inr (.inr (.inr (.inl h6))))))
  by_cases h7 : ("word" : Str) = w; · exact .inl (.inr (.inr (.inr (.inr (.inr (.inr (.inl h7)))))))
  by_cases h8 : ("align" : Str) = w; · exact .inl (.inr (.inr (.inr (.inr (.inr (.inr (.inr h8)))))))
  exact .inr ⟨h1, h2, h3, h4, h5, h6, h7, h8⟩
theorem NoWord.bnds {w : Str} (h : NoWord w) : bnds w = none := by
  unfold RC.bnds
  rw [if_neg h.h1, if_neg h.h2, if_neg h.h3, if_neg h.h4, if_neg h.h5, if_neg h.h6, if_neg h.h7, if_neg h.h8]
theorem look_bnds (w : Str) : dLook c_ROW_BOUNDS (.str w) = (bnds w).map fun qs => .tuple (qs.map bndD) := by
  rcases words w with (rfl | rfl | rfl | rfl | rfl | rfl | rfl | rfl) | h
  iterate 8 rfl
  rw [h.bnds]
  unfold dLook c_ROW_BOUNDS
  simp only [List.find?_cons, List.find?_nil, eqv_str, decide_eq_false h.h1, decide_eq_false h.h2, decide_eq_false h.h3, decide_eq_false h.h4, decide_eq_false h.h5, decide_eq_false h.h6, decide_eq_false h.h7, decide_eq_false h.h8]
  rfl
def keep (r : Row) : Option Row := if r.ok = true then some r else none
def rowOf : D → Option Row
  | .tuple [.str w, .int x] => if "stop" = w then keep (.stop x) else if "jump" = w then keep (.jump x) else if "branch" = w then keep (.branch x) else if "far" = w then keep (.far x) else
      if "load" = w then keep (.load x) else if "word" = w then keep (.word x) else if "align" = w then keep (.align x) else none
  | .tuple [.str w, .int x, .int y] => if "plain" = w then keep (.plain x y) else none
  | _ => none
theorem keep_some {r q : Row} (h : keep r = some q) : q = r ∧ r.ok = true := by
  unfold keep at h
  obtain ⟨h1, h2⟩ := ifs h
  exact ⟨h2.symm, h1⟩
theorem rowOf_some {d : D} {r : Row} (h : rowOf d = some r) : d = r.d ∧ r.ok = true := by
  unfold rowOf at h
  split at h
  · rename_i w x
    rcases words w with (rfl | rfl | rfl | rfl | rfl | rfl | rfl | rfl) | n
    · cases h
    iterate 7 (obtain ⟨rfl, h2⟩ := keep_some h; exact ⟨rfl, h2⟩)
    · rw [if_neg n.h2, if_neg n.h3, if_neg n.h4, if_neg n.h5, if_neg n.h6, if_neg n.h7, if_neg n.h8] at h
      cases h
  · rename_i w x y
    split at h
    · subst_vars; obtain ⟨rfl, h2⟩ := keep_some h; exact ⟨rfl, h2⟩
    · cases h
  · cases h
theorem rowOf_d {r : Row} (h : r.ok = true) : rowOf r.d = some r := by
  have k : keep r = some r := if_pos h
  cases r <;> exact k
/-- the rest of a row behind its word -/
theorem NoWord.row {w : Str} {xs : List D} (h : NoWord w) : rowOf (.tuple (.str w :: xs)) = none := by
  unfold rowOf
  split
  · rename_i e
    cases e
    rw [if_neg h.h2, if_neg h.h3, if_neg h.h4, if_neg h.h5, if_neg h.h6, if_neg h.h7, if_neg h.h8]
  · rename_i e
    cases e
    rw [if_neg h.h1]
  · rfl
theorem mult_in (x : Int) : dIn (.int x) c_MULTIPLES = some (.bool (x == 2 || x == 4 || x == 8 || x == 16)) := by
  show some (PyData.bool (anyEq _ _)) = _
  unfold anyEq
  simp only [List.any_cons, List.any_nil, eqv_int, Bool.or_false]
  congr 2
  by_cases h1 : x = 2
  · subst h1; rfl
  by_cases h2 : x = 4
  · subst h2; rfl
  by_cases h3 : x = 8
  · subst h3; rfl
  by_cases h4 : x = 16
  · subst h4; rfl
  simp [h1, h2, h3, h4, Ne.symm h1, Ne.symm h2, Ne.symm h3, Ne.symm h4]
theorem cut1 (x : D) (xs : List D) : dSl (some 1) none (.tuple (x :: xs)) = some (.tuple xs) := by
  show some (PyData.tuple (RR.cutD (x :: xs) (some 1) none)) = _
  unfold RR.cutD
  have e1 : HT.sIx (x :: xs).length 0 (some 1) = 1 := by
    refine (HT.sIx_nat _ _ 1).trans ?_
    simp
  have e2 : HT.sIx (x :: xs).length (x :: xs).length none = (x :: xs).length := rfl
  rw [e1, e2]
  simp
theorem isSome_keep (r : Row) : (keep r).isSome = r.ok := by
  unfold keep
  cases r.ok <;> rfl
theorem row_shape (w : Str) (xs : List D) : rowOf (.tuple (.str w :: xs)) = none ∨ (∃ x, xs = [.int x]) ∨ ∃ x y, xs = [.int x, .int y] := by
  unfold rowOf
  split
  · rename_i e; cases e; exact .inr (.inl ⟨_, rfl⟩)
  · rename_i e; cases e; exact .inr (.inr ⟨_, _, rfl⟩)
  · exact .inl rfl
theorem withinD_int {d : D} {lo hi : Int} (h : withinD d lo hi = true) : ∃ x, d = .int x ∧ within x lo hi = true := by
  cases d with
  | int x => exact ⟨x, rfl, h⟩
  | _ => cases h
theorem within1 {xs : List D} {q : Int × Int} (h : withinAll xs [q] = true) : ∃ x, xs = [.int x] ∧ within x q.1 q.2 = true := by
  match xs, h with
  | d :: xs, h =>
    rw [withinAll, Bool.and_eq_true] at h
    obtain ⟨x, rfl, hx⟩ := withinD_int h.1
    cases xs with
    | nil => exact ⟨x, rfl, hx⟩
    | cons _ _ => cases h.2
theorem within2 {xs : List D} {q r : Int × Int} (h : withinAll xs [q, r] = true) : ∃ x y, xs = [.int x, .int y] ∧ within x q.1 q.2 = true ∧ within y r.1 r.2 = true := by
  match xs, h with
  | d :: xs, h =>
    rw [withinAll, Bool.and_eq_true] at h
    obtain ⟨x, rfl, hx⟩ := withinD_int h.1
    obtain ⟨y, rfl, hy⟩ := within1 h.2
    exact ⟨x, y, rfl, hx, hy⟩
theorem one_word {w : Str} {lo hi : Int} {f : Int → Row} (hf : ∀ x, rowOf (.tuple [.str w, .int x]) = keep (f x)) (h2 : ∀ x y, rowOf (.tuple [.str w, .int x, .int y]) = none) (hok : ∀ x, (f x).ok = within x lo hi) (xs : List D) : (rowOf (.tuple (.str w :: xs))).isSome = withinAll xs [(lo, hi)] := by
  cases hw : withinAll xs [(lo, hi)] with
  | true =>
    obtain ⟨x, rfl, h⟩ := within1 hw
    rw [hf, isSome_keep, hok, h]
  | false =>
    rcases row_shape w xs with h | ⟨x, rfl⟩ | ⟨x, y, rfl⟩
    · rw [h]; rfl
    · rw [hf, isSome_keep, hok]
      simpa [withinAll, withinD] using hw
    · rw [h2]; rfl
theorem plain_word (xs : List D) : (rowOf (.tuple (.str "plain" :: xs))).isSome = withinAll xs [(1, 99), (0, 999)] := by
  cases hw : withinAll xs [(1, 99), (0, 999)] with
  | true =>
    obtain ⟨x, y, rfl, h1, h2⟩ := within2 hw
    exact (isSome_keep (.plain x y)).trans (by rw [Row.ok, h1, h2]; rfl)
  | false =>
    rcases row_shape "plain" xs with h | ⟨x, rfl⟩ | ⟨x, y, rfl⟩
    · rw [h]; rfl
    · rfl
    · refine (isSome_keep (.plain x y)).trans ?_
      unfold withinAll withinAll withinAll withinD at hw
      rw [Bool.and_true] at hw
      exact hw
theorem v_is_row_eq (d : D) : v_is_row [d] = some (.bool (rowOf d).isSome) := by
  cases d with
  | tuple xs =>
    match xs with
    | [] => rfl
    | x :: xs =>
      have e0 : ∀ Γ : DEnv, vOp dIx (vVar 0) (vC (.int 0)) (some (.tuple (x :: xs)) :: Γ) = some x := fun Γ => (vOp_of rfl rfl).trans (ix0 _ _)
      -- the tests ahead of the table
      have step : ∀ R : Option Rs, (vSeqS (vIfS (vOr (vNot (vTest (vIsi "str" (vOp dIx (vVar 0) (vC (.int 0)))))) (vTest (vUn (kNin c_ROW_BOUNDS) (vOp dIx (vVar 0) (vC (.int 0)))))) (vRet (vC (.bool false))) vNext) (vSeqS (vIfS (vNot (vTest (vCall v_are_within (vCons (vSl (vVar 0) (vPart (vC (.int 1))) vNoPart) (vCons (vUn (kIx c_ROW_BOUNDS) (vOp dIx (vVar 0) (vC (.int 0)))) vNil))))) (vRet (vC (.bool false))) vNext) (vRet (vOrV (vOp dNe (vOp dIx (vVar 0) (vC (.int 0))) (vC (.str "align"))) (vOp dIn (vOp dIx (vVar 0) (vC (.int 1))) (vC c_MULTIPLES)))))) [some (.tuple (x :: xs))] = R →
          vb_is_row (startD ["thing"] ([PyData.tuple (x :: xs)].map some)) = R := fun R h => by
        unfold vb_is_row
        refine vSeq_nx (vIfS_f ?_ rfl) h
        refine (vOr_of (x := false) (y := false) rfl fun _ => ?_)
        refine vTest_of ?_
        refine (vOp_of (x := .int ((xs.length + 1 : Nat) : Int)) (y := .int 0) rfl rfl).trans ?_
        rw [dEq_int]
        exact congrArg (fun b => some (PyData.bool b)) (decide_eq_false (by omega))
      have es : vTest (vIsi "str" (vOp dIx (vVar 0) (vC (.int 0)))) [some (.tuple (x :: xs))] = some (isiB x "str") := vTest_of (vIsi_of (e0 []))
      cases hs : isiB x "str" with
      | false =>
        refine vFun_of rfl (step _ ?_)
        refine vSeq_rt (vIfS_t (vOr_of (x := true) (y := true) (vNot_t (es.trans (by rw [hs]))) fun h => nomatch h) ?_)
        have : rowOf (.tuple (x :: xs)) = none := by
          unfold rowOf
          split
          · rename_i e; cases e; cases hs
          · rename_i e; cases e; cases hs
          · rfl
        rw [this]; rfl
      | true =>
        obtain ⟨w, rfl⟩ : ∃ w, x = .str w := by cases x <;> first | exact ⟨_, rfl⟩ | cases hs
        have en : vTest (vUn (kNin c_ROW_BOUNDS) (vOp dIx (vVar 0) (vC (.int 0)))) [some (.tuple (.str w :: xs))] = some (!(dLook c_ROW_BOUNDS (.str w)).isSome) := vTest_of ((vUn_of (e0 [])).trans rfl)
        rcases words w with hw | n
        · have hb : ∃ qs, bnds w = some qs ∧ qs.length ≤ lim := by
            rcases hw with rfl | rfl | rfl | rfl | rfl | rfl | rfl | rfl <;> exact ⟨_, rfl, by decide⟩
          obtain ⟨qs, hq, hl⟩ := hb
          have hk : dLook c_ROW_BOUNDS (.str w) = some (.tuple (qs.map bndD)) := by rw [look_bnds, hq]; rfl
          have ew : v_are_within [.tuple xs, .tuple (qs.map bndD)] = some (.bool (withinAll xs qs)) := v_are_within_eq xs qs hl
          have ec : vTest (vCall v_are_within (vCons (vSl (vVar 0) (vPart (vC (.int 1))) vNoPart) (vCons (vUn (kIx c_ROW_BOUNDS) (vOp dIx (vVar 0) (vC (.int 0)))) vNil))) [some (.tuple (.str w :: xs))] = some (withinAll xs qs) := by
            refine vTest_of ((vCall_of (vCons_of ?_ (vCons_of ?_ rfl))).trans ew)
            · exact cut1 _ _
            · exact (vUn_of (e0 [])).trans hk
          refine vFun_of rfl (step _ ?_)
          refine vSeq_nx (vIfS_f (vOr_of (x := false) (y := false) (vNot_f (es.trans rfl)) fun _ => en.trans (by rw [hk]; rfl)) rfl) ?_
          cases hin : withinAll xs qs with
          | false =>
            refine vSeq_rt (vIfS_t (vNot_t (ec.trans (by rw [hin]))) ?_)
            have : (rowOf (.tuple (.str w :: xs))).isSome = false := by
              rcases hw with rfl | rfl | rfl | rfl | rfl | rfl | rfl | rfl <;> cases hq
              · rw [plain_word, hin]
              · rw [one_word (lo := 1) (hi := 99) (f := .stop) (fun _ => rfl) (fun _ _ => rfl) (fun _ => rfl), hin]
              · rw [one_word (lo := 0) (hi := 19) (f := .jump) (fun _ => rfl) (fun _ _ => rfl) (fun _ => rfl), hin]
              · rw [one_word (lo := 0) (hi := 19) (f := .branch) (fun _ => rfl) (fun _ _ => rfl) (fun _ => rfl), hin]
              · rw [one_word (lo := 0) (hi := 4) (f := .far) (fun _ => rfl) (fun _ _ => rfl) (fun _ => rfl), hin]
              · rw [one_word (lo := 0) (hi := 65535) (f := .load) (fun _ => rfl) (fun _ _ => rfl) (fun _ => rfl), hin]
              · rw [one_word (lo := 0) (hi := 65535) (f := .word) (fun _ => rfl) (fun _ _ => rfl) (fun _ => rfl), hin]
              · rcases row_shape "align" xs with h | ⟨x, rfl⟩ | ⟨x, y, rfl⟩
                · rw [h]; rfl
                · refine (isSome_keep (.align x)).trans ?_
                  have h3 : within x 2 16 = false := by simpa [withinAll, withinD] using hin
                  unfold Row.ok
                  unfold within at h3
                  simp only [Bool.or_eq_false_iff, beq_eq_false_iff_ne]
                  simp only [Bool.and_eq_false_iff, decide_eq_false_iff_not] at h3
                  omega
                · rfl
            rw [this]; rfl
          | true =>
            refine vSeq_nx (vIfS_f (vNot_f (ec.trans (by rw [hin]))) rfl) (vRet_of ?_)
            have ea : vOp dNe (vOp dIx (vVar 0) (vC (.int 0))) (vC (.str "align")) [some (.tuple (.str w :: xs))] = dNe (.str w) (.str "align") := vOp_of (e0 []) rfl
            rcases hw with rfl | rfl | rfl | rfl | rfl | rfl | rfl | rfl <;> cases hq
            · rw [plain_word, hin]; exact vOrV_of (x := true) (y := true) ea fun h => nomatch h
            · rw [one_word (lo := 1) (hi := 99) (f := .stop) (fun _ => rfl) (fun _ _ => rfl) (fun _ => rfl), hin]; exact vOrV_of (x := true) (y := true) ea fun h => nomatch h
            · rw [one_word (lo := 0) (hi := 19) (f := .jump) (fun _ => rfl) (fun _ _ => rfl) (fun _ => rfl), hin]; exact vOrV_of (x := true) (y := true) ea fun h => nomatch h
            · rw [one_word (lo := 0) (hi := 19) (f := .branch) (fun _ => rfl) (fun _ _ => rfl) (fun _ => rfl), hin]; exact vOrV_of (x := true) (y := true) ea fun h => nomatch h
            · rw [one_word (lo := 0) (hi := 4) (f := .far) (fun _ => rfl) (fun _ _ => rfl) (fun _ => rfl), hin]; exact vOrV_of (x := true) (y := true) ea fun h => nomatch h
            · rw [one_word (lo := 0) (hi := 65535) (f := .load) (fun _ => rfl) (fun _ _ => rfl) (fun _ => rfl), hin]; exact vOrV_of (x := true) (y := true) ea fun h => nomatch h
            · rw [one_word (lo := 0) (hi := 65535) (f := .word) (fun _ => rfl) (fun _ _ => rfl) (fun _ => rfl), hin]; exact vOrV_of (x := true) (y := true) ea fun h => nomatch h
            · obtain ⟨x, rfl, hx⟩ := within1 hin
              have := isSome_keep (.align x)
              refine (vOrV_of (x := false) (y := (Row.align x).ok) ea fun _ => ?_).trans ?_
              · exact (vOp_of ((vOp_of rfl rfl).trans (ix1 _ _ _)) rfl).trans (mult_in x)
              · exact congrArg (fun b => some (PyData.bool b)) this.symm
        · refine vFun_of rfl (step _ ?_)
          refine vSeq_rt (vIfS_t (vOr_of (x := false) (y := true) (vNot_f (es.trans rfl)) fun _ => en.trans ?_) ?_)
          · rw [look_bnds, n.bnds]; rfl
          · rw [n.row]; rfl
  | _ => rfl
end RC
end
section
namespace RC
open PySem PySem.Spec L2 RR
open PyProof.Rows hiding St
def Row.w : Row → Str
  | .plain _ _ => "plain"
  | .stop _ => "stop"
  | .jump _ => "jump"
  | .branch _ => "branch"
  | .far _ => "far"
  | .load _ => "load"
  | .word _ => "word"
  | .align _ => "align"
theorem row0 (r : Row) : dIx r.d (.int 0) = some (.str r.w) := by cases r <;> exact ix0 _ _
theorem row1 (r : Row) : dIx r.d (.int 1) = some (.int r.num) := by cases r <;> exact ix1 _ _ _
theorem w_jumps (r : Row) : dIn (.str r.w) c_JUMPS = some (.bool r.isJump) := by cases r <;> rfl
theorem w_neAlign (r : Row) : dNe (.str r.w) (.str "align") = some (.bool !r.isAlign) := by cases r <;> rfl
theorem w_neWord (r : Row) : dNe (.str r.w) (.str "word") = some (.bool !r.isWord) := by cases r <;> rfl
theorem w_eqWord (r : Row) : dEq (.str r.w) (.str "word") = some (.bool r.isWord) := by cases r <;> rfl
theorem w_goes (r : Row) : dIn (.str r.w) c_GOING_ON = some (.bool r.goesOn) := by cases r <;> rfl
theorem w_goesNot (r : Row) : dNotIn (.str r.w) c_GOING_ON = some (.bool !r.goesOn) := by cases r <;> rfl
/-- row[0], row[1] where a slot holds a row -/
theorem at0 {Γ : DEnv} {i : Nat} {r : Row} (h : vVar i Γ = some r.d) : vOp dIx (vVar i) (vC (.int 0)) Γ = some (.str r.w) := (vOp_of h rfl).trans (row0 r)
theorem at1 {Γ : DEnv} {i : Nat} {r : Row} (h : vVar i Γ = some r.d) : vOp dIx (vVar i) (vC (.int 1)) Γ = some (.int r.num) := (vOp_of h rfl).trans (row1 r)
/-- the numbers of the jumps and branches -/
def jumpIdx (p : Part) : List Nat := (p.zipIdx.filter fun q => q.1.isJump).map (·.2)
def natD (i : Nat) : D := .int (i : Int)
theorem v_jump_rows_eq (p : Part) (h : p.length ≤ lim) : v_jump_rows [pd p] = some (.list ((jumpIdx p).map natD)) := by
  refine vFun_of rfl (vRet_of ?_)
  have e : vIEn (vCons (vVar 0) vNil) (startD ["part", "number", "row"] ([pd p].map some)) = some ((p.zipIdx).map fun q => .tuple [.int (q.2 : Int), q.1.d]) := by
    refine Eq.trans ?_ (congrArg some (enumD_map Row.d p 0))
    rfl
  refine (vLc_of e (by rw [List.length_map, List.length_zipIdx]; exact h) (vcomp_filterOf _ (fun q => q.1.isJump) (fun q => natD q.2) fun q _ => ⟨_, rfl, ?_, fun _ => rfl⟩)).trans ?_
  · exact vTest_of ((vOp_of (at0 (r := q.1) rfl) rfl).trans (w_jumps q.1))
  · unfold jumpIdx
    rw [List.map_map]; rfl
def evenP (p : Part) : Bool := p.all fun r => !r.isAlign
theorem v_is_even_eq (p : Part) (h : p.length ≤ lim) : v_is_even [pd p] = some (.bool (evenP p)) := by
  refine vFun_of rfl (vRet_of ((vCl_of (vCons_of (vLc_of (ds := p.map Row.d) rfl (by rw [List.length_map]; exact h) (vcomp_mapOf _ (fun r => .bool !r.isAlign) fun r _ => ⟨_, rfl, rfl, ?_⟩)) rfl)).trans (cAll_map _ _)))
  exact (vOp_of (at0 (r := r) rfl) rfl).trans (w_neAlign r)
theorem ixP {p : Part} {i : Nat} {r : Row} (h : p[i]? = some r) : dIx (pd p) (.int (i : Int)) = some r.d := atI_nat (by rw [List.getElem?_map, h]; rfl)
def goalsOf (p : Part) : List Int := (p.filter Row.isJump).map Row.num
theorem filter_idx {α β : Type} (q : α → Bool) (f : α → β) (xs : List α) (k : Nat) : ((xs.zipIdx k).filter fun z => q z.1).map (fun z => f z.1) = (xs.filter q).map f := by
  induction xs generalizing k with
  | nil => rfl
  | cons x xs ih =>
    rw [List.zipIdx_cons, List.filter_cons, List.filter_cons]
    cases hq : q x with
    | true => rw [if_pos rfl, if_pos rfl, List.map_cons, List.map_cons, ih]
    | false => rw [if_neg (by decide), if_neg (by decide), ih]
def goalOk (p : Part) (g : Int) : Bool := match p[g.toNat]? with | some r => !r.isWord | none => false
def goalsOk (p : Part) : Bool := (goalsOf p).all (goalOk p)
theorem ok_jump {r : Row} (h : r.ok = true) (j : r.isJump = true) : 0 ≤ r.num := by
  cases r <;> first | (unfold Row.ok within at h; rw [Bool.and_eq_true] at h; exact of_decide_eq_true h.1) | cases j
theorem v_goals_stand_eq (p : Part) (h : p.length ≤ lim) (ok : p.all Row.ok = true) : v_goals_stand [pd p] = some (.bool (goalsOk p)) := by
  refine vFun_of rfl ?_
  have e1 : vLc (vISeq (vCall v_jump_rows (vCons (vVar 0) vNil))) (vgName 2) vYes (vOp dIx (vOp dIx (vVar 0) (vVar 2)) (vC (.int 1))) [2] (startD ["rows", "goals", "number", "goal"] ([pd p].map some)) = some (.list ((goalsOf p).map .int)) := by
    have hj : vISeq (vCall v_jump_rows (vCons (vVar 0) vNil)) (startD ["rows", "goals", "number", "goal"] ([pd p].map some)) = some ((p.zipIdx.filter fun q => q.1.isJump).map fun q => natD q.2) := by
      show (Option.bind (v_jump_rows [pd p]) seqD) = _
      rw [v_jump_rows_eq p h]
      unfold jumpIdx
      rw [List.map_map]; rfl
    refine (vLc_of hj ?_ (vcomp_mapOf _ (fun q => .int q.1.num) fun q hq => ⟨_, rfl, rfl, ?_⟩)).trans ?_
    · rw [List.length_map]
      exact Nat.le_trans (List.length_filter_le _ _) (by rw [List.length_zipIdx]; exact h)
    · have hm := List.mem_zipIdx_iff_getElem?.mp (List.mem_filter.mp hq).1
      exact (vOp_of ((vOp_of rfl rfl).trans (ixP hm)) rfl).trans (row1 q.1)
    · unfold goalsOf
      rw [List.map_map, ← filter_idx Row.isJump _ p 0]; rfl
  refine vSeq_nx (vSet_of e1) (vRet_of ?_)
  refine (vCl_of (vCons_of (vLc_of (ds := (goalsOf p).map .int) rfl ?_ (vcomp_mapOf _ (fun g => .bool (goalOk p g)) fun g hg => ⟨_, rfl, rfl, ?_⟩)) rfl)).trans (cAll_map _ _)
  · unfold goalsOf
    rw [List.length_map, List.length_map]
    exact Nat.le_trans (List.length_filter_le _ _) h
  · obtain ⟨r, hr, rfl⟩ := List.mem_map.mp hg
    have hr' := List.mem_filter.mp hr
    have h0 : 0 ≤ r.num := ok_jump (List.all_eq_true.mp ok r hr'.1) hr'.2
    obtain ⟨k, hk⟩ := Int.eq_ofNat_of_zero_le h0
    rw [hk]
    by_cases hlt : k < p.length
    · have hp : p[k]? = some p[k] := List.getElem?_eq_getElem hlt
      have : goalOk p (k : Int) = (true && !p[k].isWord) := by
        unfold goalOk
        rw [Int.toNat_natCast, hp]; rfl
      rw [this]
      refine vAndV_of ?_ fun _ => ?_
      · refine (vOp_of (x := .int (k : Int)) (y := .int ((p.map Row.d).length : Int)) rfl rfl).trans ?_
        rw [List.length_map]
        show some (PyData.bool (decide _)) = _
        rw [decide_eq_true (by omega)]
      · exact (vOp_of ((vOp_of ((vOp_of rfl rfl).trans (ixP hp)) rfl).trans (row0 _)) rfl).trans (w_neWord _)
    · have : goalOk p (k : Int) = false := by
        unfold goalOk
        rw [Int.toNat_natCast, List.getElem?_eq_none (by omega)]
      rw [this]
      refine vAndV_of (x := false) (y := false) ?_ fun h => nomatch h
      refine (vOp_of (x := .int (k : Int)) (y := .int ((p.map Row.d).length : Int)) rfl rfl).trans ?_
      rw [List.length_map]
      show some (PyData.bool (decide _)) = _
      rw [decide_eq_false (by omega)]
def shunned (p : Part) : Bool := match p with
  | [] => false
  | r :: rs => !r.isWord && !((r :: rs).getLast (by simp)).goesOn && ((r :: rs).zip rs).all fun z => !z.1.goesOn || !z.2.isWord
theorem ixLast {α : Type} (f : α → D) (x : α) (xs : List α) : dIx (.tuple ((x :: xs).map f)) (.int (-1)) = some (f ((x :: xs).getLast (by simp))) := by
  show atI ((x :: xs).map f) (-1) = _
  unfold atI ixN
  rw [if_neg (by decide), List.length_map, if_pos (by simp only [List.length_cons]; omega), Option.bind_some]
  have e : (((x :: xs).length : Int) + -1).toNat = xs.length := by simp only [List.length_cons]; omega
  have e2 : (-1 + ((x :: xs).length : Int)).toNat = xs.length := by simp only [List.length_cons]; omega
  first | rw [e] | rw [e2]
  rw [List.getElem?_map, List.getLast_eq_getElem]
  simp
theorem v_words_are_shunned_eq (p : Part) (h : p.length ≤ lim) (hn : p ≠ []) : v_words_are_shunned [pd p] = some (.bool (shunned p)) := by
  obtain ⟨r, rs, rfl⟩ := List.exists_cons_of_ne_nil hn
  refine vFun_of rfl ?_
  have e1 : vOp dEq (vOp dIx (vOp dIx (vVar 0) (vC (.int 0))) (vC (.int 0))) (vC (.str "word")) (startD ["rows", "row", "behind"] ([pd (r :: rs)].map some)) = some (.bool r.isWord) :=
    (vOp_of ((vOp_of ((vOp_of rfl rfl).trans (ix0 _ _)) rfl).trans (row0 r)) rfl).trans (w_eqWord r)
  have e2 : vOp dIn (vOp dIx (vOp dIx (vVar 0) (vUn dNeg (vC (.int 1)))) (vC (.int 0))) (vC c_GOING_ON) (startD ["rows", "row", "behind"] ([pd (r :: rs)].map some)) = some (.bool ((r :: rs).getLast (by simp)).goesOn) :=
    (vOp_of ((vOp_of ((vOp_of rfl rfl).trans (ixLast Row.d r rs)) rfl).trans (row0 _)) rfl).trans (w_goes _)
  have e := vOr_of (vTest_of e1) fun _ => vTest_of e2
  unfold shunned
  dsimp only
  cases hc : (r.isWord || ((r :: rs).getLast (by simp)).goesOn) with
  | true =>
    refine vSeq_rt (vIfS_t (e.trans (by rw [hc])) ?_)
    rw [← Bool.not_or, hc]; rfl
  | false =>
    refine vSeq_nx (vIfS_f (e.trans (by rw [hc])) rfl) (vRet_of ?_)
    rw [← Bool.not_or, hc]
    have z : vIZ (vCons (vVar 0) (vCons (vSl (vVar 0) (vPart (vC (.int 1))) vNoPart) vNil)) (startD ["rows", "row", "behind"] ([pd (r :: rs)].map some)) = some (((r :: rs).zip rs).map fun q => .tuple [q.1.d, q.2.d]) := by
      have c := cut1 r.d (rs.map Row.d)
      have : vCons (vVar 0) (vCons (vSl (vVar 0) (vPart (vC (.int 1))) vNoPart) vNil) (startD ["rows", "row", "behind"] ([pd (r :: rs)].map some)) = some [pd (r :: rs), .tuple (rs.map Row.d)] := vCons_of rfl (vCons_of c rfl)
      unfold vIZ
      rw [this, ← zipD_map]; rfl
    refine (vCl_of (vCons_of (vLc_of z (by rw [List.length_map, List.length_zip]; omega) (vcomp_mapOf _ (fun q => .bool (!q.1.goesOn || !q.2.isWord)) fun q _ => ⟨_, rfl, rfl, ?_⟩)) rfl)).trans (cAll_map _ _)
    exact vOrV_of ((vOp_of (at0 (r := q.1) rfl) rfl).trans (w_goesNot _)) fun _ => (vOp_of (at0 (r := q.2) rfl) rfl).trans (w_neWord _)
def rowsOf : List D → Option Part
  | [] => some []
  | d :: ds => (rowOf d).bind fun r => (rowsOf ds).bind fun rs => some (r :: rs)
theorem rowsOf_all : ∀ ds : List D, (ds.all fun d => (rowOf d).isSome) = (rowsOf ds).isSome
  | [] => rfl
  | d :: ds => by
    rw [List.all_cons, rowsOf_all ds, show rowsOf (d :: ds) = (rowOf d).bind fun r => (rowsOf ds).bind fun rs => some (r :: rs) from rfl]
    cases rowOf d with
    | none => rfl
    | some r => cases rowsOf ds <;> rfl
theorem rowsOf_some : ∀ {ds : List D} {p : Part}, rowsOf ds = some p → ds = p.map Row.d ∧ p.all Row.ok = true
  | [], p, h => by cases h; exact ⟨rfl, rfl⟩
  | d :: ds, p, h => by
    obtain ⟨r, h1, h⟩ := bnd h
    obtain ⟨rs, h2, h⟩ := bnd h
    cases h
    obtain ⟨rfl, h3⟩ := rowOf_some h1
    obtain ⟨rfl, h4⟩ := rowsOf_some h2
    exact ⟨rfl, by rw [List.all_cons, h3, h4]; rfl⟩
theorem rowsOf_d : ∀ {p : Part}, p.all Row.ok = true → rowsOf (p.map Row.d) = some p
  | [], _ => rfl
  | r :: rs, h => by
    rw [List.all_cons, Bool.and_eq_true] at h
    rw [List.map_cons]
    unfold rowsOf
    rw [rowOf_d h.1, Option.bind_some, rowsOf_d h.2]; rfl
def restOk (p : Part) : Bool := (evenP p || decide ((p.filter Row.isJump).length ≤ 6)) && (goalsOk p && shunned p)
def lenOk (n m : Nat) : Bool := decide (1 ≤ n) && decide (n ≤ m)
def partOf : D → Option Part
  | .tuple ds => if lenOk ds.length 20 = true then (rowsOf ds).bind fun p => if restOk p = true then some p else none else none
  | _ => none
def partOk (p : Part) : Bool := lenOk p.length 20 && p.all Row.ok && restOk p
theorem partOf_some {d : D} {p : Part} (h : partOf d = some p) : d = pd p ∧ partOk p = true := by
  unfold partOf at h
  split at h
  · split at h
    · obtain ⟨q, h1, h⟩ := bnd h
      obtain ⟨h2, rfl⟩ := ifs h
      obtain ⟨rfl, h3⟩ := rowsOf_some h1
      refine ⟨rfl, ?_⟩
      rename_i hl
      rw [List.length_map] at hl
      unfold partOk
      rw [hl, h2, h3]; rfl
    · cases h
  · cases h
theorem partOf_d {p : Part} (h : partOk p = true) : partOf (pd p) = some p := by
  unfold partOk at h
  rw [Bool.and_eq_true, Bool.and_eq_true] at h
  unfold partOf pd
  dsimp only
  rw [List.length_map, if_pos h.1.1, rowsOf_d h.1.2, Option.bind_some, if_pos h.2]
theorem jumpIdx_len (p : Part) : (jumpIdx p).length = (p.filter Row.isJump).length := by
  unfold jumpIdx
  rw [List.length_map]
  have := congrArg List.length (filter_idx Row.isJump (fun r => r) p 0)
  rwa [List.length_map, List.length_map] at this
theorem chain_len {Γ : DEnv} {a : VE} {n m : Nat} {c : D} (h : a Γ = some (.int (n : Int))) (hc : c = .int (m : Int)) : vTest (vChain dLe dLe (vC (.int 1)) a (vC c)) Γ = some (lenOk n m) := by
  refine vTest_of ?_
  unfold vChain
  rw [show vC (.int 1) Γ = some (.int 1) from rfl, Option.bind_some, h, Option.bind_some]
  subst hc
  show Option.bind (some (PyData.bool (decide ((1 : Int) ≤ n)))) _ = _
  rw [Option.bind_some]
  show (if decide ((1 : Int) ≤ n) = true then some (PyData.bool (decide ((n : Int) ≤ m))) else some (.bool false)) = _
  unfold lenOk
  have e1 : decide ((1 : Int) ≤ n) = decide (1 ≤ n) := decide_eq_decide.mpr (by omega)
  have e2 : decide ((n : Int) ≤ m) = decide (n ≤ m) := decide_eq_decide.mpr (by omega)
  rw [e1, e2]
  cases decide (1 ≤ n) <;> rfl
theorem v_is_part_eq (d : D) : v_is_part [d] = some (.bool (partOf d).isSome) := by
  cases d with
  | tuple ds =>
    refine vFun_of rfl ?_
    have ec : vTest (vChain dLe dLe (vC (.int 1)) (vCl cLen (vCons (vVar 0) vNil)) (vC c_MOST_ROWS)) (startD ["thing", "row"] ([PyData.tuple ds].map some)) = some (lenOk ds.length 20) := chain_len rfl rfl
    unfold partOf
    dsimp only
    cases hl : lenOk ds.length 20 with
    | false => exact vSeq_rt (vIfS_t (vOr_of (x := false) (y := true) rfl fun _ => vNot_t (ec.trans (by rw [hl]))) rfl)
    | true =>
      have hlen : ds.length ≤ lim := by
        unfold lenOk at hl
        rw [Bool.and_eq_true, decide_eq_true_eq, decide_eq_true_eq] at hl
        exact Nat.le_trans hl.2 (by decide)
      refine vSeq_nx (vIfS_f (vOr_of (x := false) (y := false) rfl fun _ => vNot_f (ec.trans (by rw [hl]))) rfl) ?_
      have er : vTest (vCl cAll (vCons (vLc (vISeq (vVar 0)) (vgName 1) vYes (vCall v_is_row (vCons (vVar 1) vNil)) [1]) vNil)) (startD ["thing", "row"] ([PyData.tuple ds].map some)) = some (rowsOf ds).isSome := by
        rw [← rowsOf_all]
        refine vTest_of ((vCl_of (vCons_of (vLc_of (ds := ds) rfl hlen ?_) rfl)).trans (cAll_map _ _))
        have := vcomp_mapOf (g := vgName 1) (t := vYes) (e := vCall v_is_row (vCons (vVar 1) vNil)) (Γ := wipeD (startD ["thing", "row"] ([PyData.tuple ds].map some)) [1]) (xs := ds) (fun d => d) (fun d => .bool (rowOf d).isSome) fun d _ => ⟨_, rfl, rfl, (vCall_of rfl).trans (v_is_row_eq d)⟩
        rwa [List.map_id'] at this
      cases hr : rowsOf ds with
      | none => exact vSeq_rt (vIfS_t (vNot_t (er.trans (by rw [hr]; rfl))) rfl)
      | some p =>
        refine vSeq_nx (vIfS_f (vNot_f (er.trans (by rw [hr]; rfl))) rfl) ?_
        obtain ⟨rfl, hok⟩ := rowsOf_some hr
        rw [if_pos rfl, Option.bind_some]
        rw [List.length_map] at hlen hl
        have hne : p ≠ [] := fun z => by subst z; cases hl
        have ee : vNot (vTest (vCall v_is_even (vCons (vVar 0) vNil))) (startD ["thing", "row"] ([pd p].map some)) = some !(evenP p) := vNot_of (vTest_of ((vCall_of rfl).trans (v_is_even_eq p hlen)))
        have ej : vTest (vOp dGt (vCl cLen (vCons (vCall v_jump_rows (vCons (vVar 0) vNil)) vNil)) (vC c_MOST_JUMPS_BESIDE_ALIGN)) (startD ["thing", "row"] ([pd p].map some)) = some (!decide ((p.filter Row.isJump).length ≤ 6)) := by
          refine vTest_of ((vOp_of ((vCl_of (vCons_of ((vCall_of rfl).trans (v_jump_rows_eq p hlen)) rfl)).trans rfl) rfl).trans ?_)
          rw [List.length_map, jumpIdx_len]
          show some (PyData.bool (decide ((6 : Int) < _))) = _
          congr 2
          rw [← decide_not]
          exact decide_eq_decide.mpr (by omega)
        have eb := vAnd_of ee fun _ => ej
        unfold restOk
        cases hb : (evenP p || decide ((p.filter Row.isJump).length ≤ 6)) with
        | false =>
          rw [← Bool.not_or, hb] at eb
          exact vSeq_rt (vIfS_t eb rfl)
        | true =>
          rw [← Bool.not_or, hb] at eb
          refine vSeq_nx (vIfS_f eb rfl) (vRet_of ?_)
          refine (vAndV_of ((vCall_of rfl).trans (v_goals_stand_eq p hlen hok)) fun _ => (vCall_of rfl).trans (v_words_are_shunned_eq p hlen hne)).trans ?_
          rw [Bool.true_and]
          cases goalsOk p && shunned p <;> rfl
  | _ => rfl
theorem lenOk_le {n m : Nat} (h : lenOk n m = true) : 1 ≤ n ∧ n ≤ m := by
  unfold lenOk at h
  rw [Bool.and_eq_true, decide_eq_true_eq, decide_eq_true_eq] at h
  exact h
theorem partOk_len {p : Part} (h : partOk p = true) : 1 ≤ p.length ∧ p.length ≤ 20 := by
  unfold partOk at h
  rw [Bool.and_eq_true, Bool.and_eq_true] at h
  exact lenOk_le h.1.1
theorem partOk_rows {p : Part} (h : partOk p = true) : p.all Row.ok = true := by
  unfold partOk at h
  rw [Bool.and_eq_true, Bool.and_eq_true] at h
  exact h.1.2
end RC
end
section
namespace RC
open PySem PySem.Spec L2 RR
open PyProof.Rows hiding St
theorem v_check_part_ok {p : Part} (h : partOk p = true) : v_check_part [pd p] = some .none := by
  refine vFun_nx (Γ := startD ["part"] ([pd p].map some)) rfl ?_
  have e : v_is_part [pd p] = some (.bool true) := (v_is_part_eq _).trans (by rw [partOf_d h]; rfl)
  exact vIfS_f (vNot_f (vTest_of ((vCall_of rfl).trans e))) rfl
theorem ixEnd {α : Type} (f : α → D) (xs : List α) (a : α) : dIx (.list ((xs ++ [a]).map f)) (.int (-1)) = some (f a) := by
  show atI ((xs ++ [a]).map f) (-1) = _
  unfold atI ixN
  rw [if_neg (by decide), List.length_map, List.length_append, List.length_singleton, if_pos (by omega), Option.bind_some]
  have e : ((xs.length + 1 : Nat) + -1 : Int).toNat = xs.length := by omega
  have e2 : (-1 + ((xs.length + 1 : Nat) : Int)).toNat = xs.length := by omega
  first | rw [e] | rw [e2]
  rw [List.getElem?_map]
  simp
end RC
end
section
namespace RC
open PySem PySem.Spec L2 RR
open PyProof.Rows hiding St
def At (b : Book) (i k : Nat) (r : Row) : Prop := ∃ p, b[i]? = some p ∧ p[k]? = some r
def rowAt (b : Book) (i k : Nat) : Option Row := (b[i]?).bind fun p => p[k]?
theorem At.row {b : Book} {i k : Nat} {r : Row} (h : At b i k r) : rowAt b i k = some r := by
  obtain ⟨p, h1, h2⟩ := h
  unfold rowAt
  rw [h1, Option.bind_some, h2]
structure PartFacts (p : Part) : Prop where
  rows : ∀ (k : Nat) (r : Row), p[k]? = some r → r.ok = true
  goals : ∀ (k : Nat) (r : Row), p[k]? = some r → r.isJump = true → ∃ q, p[r.num.toNat]? = some q ∧ q.isWord = false
  next : ∀ (k : Nat) (r : Row), p[k]? = some r → r.goesOn = true → ∃ q, p[k + 1]? = some q ∧ q.isWord = false
  first : ∃ r, p[0]? = some r ∧ r.isWord = false
theorem part_facts {p : Part} (h : partOk p = true) : PartFacts p := by
  unfold partOk at h
  rw [Bool.and_eq_true, Bool.and_eq_true] at h
  obtain ⟨⟨h1, h2⟩, h3⟩ := h
  unfold restOk at h3
  rw [Bool.and_eq_true, Bool.and_eq_true] at h3
  obtain ⟨_, h4, h5⟩ := h3
  cases p with
  | nil => cases h1
  | cons r rs =>
    unfold shunned at h5
    dsimp only at h5
    rw [Bool.and_eq_true, Bool.and_eq_true, Bool.not_eq_true', Bool.not_eq_true'] at h5
    obtain ⟨⟨h6, h7⟩, h8⟩ := h5
    refine ⟨fun k q hq => List.all_eq_true.mp h2 q (List.mem_of_getElem? hq), fun k q hq hj => ?_, fun k q hq hg => ?_, ⟨r, rfl, h6⟩⟩
    · have := List.all_eq_true.mp h4 q.num (List.mem_map.mpr ⟨q, List.mem_filter.mpr ⟨List.mem_of_getElem? hq, hj⟩, rfl⟩)
      unfold goalOk at this
      split at this
      · rename_i z hz
        exact ⟨z, hz, by simpa using this⟩
      · cases this
    · by_cases hk : k < rs.length
      · refine ⟨rs[k], by rw [List.getElem?_cons_succ, List.getElem?_eq_getElem hk], ?_⟩
        have hm : (q, rs[k]) ∈ (r :: rs).zip rs := by
          refine List.mem_of_getElem? (i := k) ?_
          rw [List.getElem?_zip_eq_some]
          exact ⟨hq, List.getElem?_eq_getElem hk⟩
        have := List.all_eq_true.mp h8 _ hm
        dsimp only at this
        rw [hg] at this
        simpa using this
      · have hkl : k = rs.length := by
          have := (List.getElem?_eq_some_iff.mp hq).1
          rw [List.length_cons] at this
          omega
        subst hkl
        have : (r :: rs).getLast (by simp) = q := by
          rw [List.getLast_eq_getElem]
          have h9 := (List.getElem?_eq_some_iff.mp hq).2
          simpa using h9
        rw [this, hg] at h7
        cases h7
end RC
end
section
namespace RC
open PySem PySem.Spec L2 RR
open PyProof.Rows hiding St
def absI (x : Int) : Int := if x < 0 then -x else x
def atN (as : List Int) (i : Nat) : Int := as.getD i 0
def dist (as : List Int) (i j : Nat) : Int := absI (atN as i - atN as j)
/-- the goal of a row -/
def goalN (p : Part) (i : Nat) : Nat := match p[i]? with | some r => r.num.toNat | none => 0
/-- rows that are jumps or branches of the part, their goals among its rows -/
def JumpAt (p : Part) (i : Nat) : Prop := ∃ r, p[i]? = some r ∧ r.isJump = true ∧ r.ok = true ∧ r.num.toNat < p.length
theorem JumpAt.goal {p : Part} {i : Nat} (h : JumpAt p i) : goalN p i < p.length := by
  obtain ⟨r, h1, _, _, h2⟩ := h
  unfold goalN
  rw [h1]; exact h2
def asc : List Nat → Bool
  | [] => true
  | x :: xs => (xs.head?.all fun y => decide (x < y)) && asc xs
end RC
end
section
namespace RC
open PySem PySem.Spec L2 RR
open PyProof.Rows hiding St
end RC
end
section
namespace RC
open PySem PySem.Spec L2 RR
open PyProof.Rows hiding St
theorem w_if {mt : MT} {t : VT} {x y : MS} {E : EndsD} {Γ : DEnv} {n : Nat} (b : Bool) (h : FT mt t) (e : t Γ = some b) (k1 : b = true → x E Γ n) (k2 : b = false → y E Γ n) : mIfS mt x y E Γ n := by
  refine h Γ n b _ e ?_
  cases b with
  | true => rw [if_pos rfl]; exact k1 rfl
  | false => rw [if_neg (by decide)]; exact k2 rfl
theorem w_set {me : ME} {v : VE} {E : EndsD} {Γ : DEnv} {n i : Nat} {d : D} (h : FE me v) (e : v Γ = some d) (k : E.nx (Γ.set i (some d)) n) : mSet i me E Γ n := h Γ n d _ e k
theorem w_ret {me : ME} {v : VE} {E : EndsD} {Γ : DEnv} {n : Nat} {d : D} (h : FE me v) (e : v Γ = some d) (k : E.rt d n) : mRet me E Γ n := h Γ n d _ e k
theorem w_exp {me : ME} {v : VE} {Γ : DEnv} {n : Nat} {d : D} {Q : D → Nat → Prop} (h : FE me v) (e : v Γ = some d) (k : Q d n) : me Γ n Q := h Γ n d _ e k
theorem w_callP {mf : MF} {ma : MA} {va : VA} {Γ : DEnv} {n : Nat} {ds : List D} {Q : D → Nat → Prop} (h : FA ma va) (e : va Γ = some ds) (k : mf ds n Q) : mCallP mf ma Γ n Q := h Γ n ds _ e k
theorem w_seq {m u : MS} {E : EndsD} {Γ : DEnv} {n : Nat} (h : m { E with nx := u E } Γ n) : mSeq m u E Γ n := h
theorem s_set {m : ME} {i : Nat} {E : EndsD} {Γ : DEnv} {n : Nat} (h : m Γ n fun d n1 => E.nx (Γ.set i (some d)) n1) : mSet i m E Γ n := h
theorem s_cons {a : ME} {u : MA} {Γ : DEnv} {n : Nat} {Q : List D → Nat → Prop} (h : a Γ n fun d n1 => u Γ n1 fun ds n2 => Q (d :: ds) n2) : mCons a u Γ n Q := h
theorem s_nil {Γ : DEnv} {n : Nat} {Q : List D → Nat → Prop} (h : Q [] n) : mNil Γ n Q := h
theorem s_callP {mf : MF} {ma : MA} {Γ : DEnv} {n : Nat} {Q : D → Nat → Prop} (h : ma Γ n fun ds n1 => mf ds n1 Q) : mCallP mf ma Γ n Q := h
theorem s_C {d : D} {Γ : DEnv} {n : Nat} {Q : D → Nat → Prop} (h : Q d n) : mC d Γ n Q := h
theorem s_var {i : Nat} {Γ : DEnv} {n : Nat} {d : D} {Q : D → Nat → Prop} (e : Γ[i]? = some (some d)) (h : Q d n) : mVar i Γ n Q := ⟨d, e, h⟩
theorem q_set {me : ME} {v : VE} {u : MS} {E : EndsD} {Γ : DEnv} {n i : Nat} {d : D} (h : FE me v) (e : v Γ = some d) (k : u E (Γ.set i (some d)) n) : mSeq (mSet i me) u E Γ n := h Γ n d _ e k
theorem q_par {m : MA} {is : List Nat} {u : MS} {E : EndsD} {Γ : DEnv} {n : Nat} (h : m Γ n fun ds n1 => ds.length = is.length ∧ u E (setsD Γ is ds) n1) : mSeq (mPar is m) u E Γ n := h
theorem q_setM {m : ME} {i : Nat} {u : MS} {E : EndsD} {Γ : DEnv} {n : Nat} (h : m Γ n fun d n1 => u E (Γ.set i (some d)) n1) : mSeq (mSet i m) u E Γ n := h
theorem q_no {mt : MT} {t : VT} {x u : MS} {E : EndsD} {Γ : DEnv} {n : Nat} (h : FT mt t) (e : t Γ = some false) (k : u E Γ n) : mSeq (mIfS mt x mNext) u E Γ n := by
  refine h Γ n false _ e ?_
  rw [if_neg (by decide)]; exact k
theorem w_for {g : MG} {tb : MS} {E : EndsD} (I : List D → DEnv → Nat → Prop) (step : ∀ d ds Γ n, I (d :: ds) Γ n → ∀ K : DEnv → Nat → Prop, (∀ Γ' n', I ds Γ' n' → K Γ' n') → g d Γ fun Γ1 => tb { E with nx := K, ct := K, bk := E.nx } Γ1 n) (fin : ∀ Γ n, I [] Γ n → E.nx Γ n) : ∀ ds Γ n, I ds Γ n → forW g tb E ds Γ n
  | [], Γ, n, h => fin Γ n h
  | d :: ds, Γ, n, h => step d ds Γ n h _ fun Γ' n' h' => w_for I step fin ds Γ' n' h'
end RC
end
section
namespace RC
open PySem PySem.Spec L2 RR
open PyProof.Rows hiding St
local macro_rules | `(tactic| walk_at "st") => `(tactic| first
  | refine ⟨_, rfl, ?_⟩
  | refine ⟨rfl, ?_⟩
  | refine ⟨by decide, ?_⟩
  | refine ⟨by simp only [List.length_cons, List.length_nil]; decide, ?_⟩)
theorem take_ok {k : Int} {n : Nat} {R : D → Nat → Prop} (h1 : 1 ≤ k) (h2 : k < 1073741824) (hn : n < 1048576) (q : ∀ x : Int, 0 ≤ x → x < k → R (.int x) (n + 1)) : m_take [.int k] n R := ⟨k, rfl, h1, h2, hn, q⟩
theorem within_t {x lo hi : Int} (h1 : lo ≤ x) (h2 : x ≤ hi) : within x lo hi = true := by
  unfold within
  rw [decide_eq_true h1, decide_eq_true h2]; rfl
structure Drawn (fr la : Bool) (al many : Int) (r : Row) : Prop where
  ok : r.ok = true
  far : r.isFar = true → r.num < many
  word : r.isWord = true → fr = true
  last : la = true → r.goesOn = false
  align : r.isAlign = true → 0 < al
  jump : r.isJump = true → r.num = 0
end RC
end
section
namespace RC
open PySem PySem.Spec L2 RR
open PyProof.Rows hiding St
structure Tame (k w : Nat) (d : D) : Prop where
  lay : d.canLay0 = true
  dep : d.depth ≤ k
  wt : d.weight ≤ w
  sh : d.intsShort 13 = true
  sw : d.showable = true
theorem Tame.mono {k w k' w' : Nat} {d : D} (h : Tame k w d) (hk : k ≤ k') (hw : w ≤ w') : Tame k' w' d := ⟨h.lay, Nat.le_trans h.dep hk, Nat.le_trans h.wt hw, h.sh, h.sw⟩
theorem Tame.int {x : Int} (h : x.natAbs < 10 ^ 12) : Tame 0 41 (.int x) := by
  have hl : x.natAbs.log2 < 40 ∨ x.natAbs = 0 := by
    by_cases h0 : x.natAbs = 0
    · exact .inr h0
    · exact .inl ((Nat.log2_lt h0).mpr (Nat.lt_trans h (by decide)))
  refine ⟨by simp only [PyData.canLay0], by simp [PyData.depth], ?_, ?_, ?_⟩
  · unfold PyData.weight
    split
    · omega
    · rcases hl with hl | hl
      · omega
      · rw [hl]; decide
  · unfold PyData.intsShort
    exact decide_eq_true (PyData.shown_int_le h)
  · unfold PyData.showable
    refine decide_eq_true ?_
    rcases hl with hl | hl
    · omega
    · rw [hl]; decide
theorem Tame.none : Tame 0 0 .none := ⟨by simp only [PyData.canLay0], by simp [PyData.depth], by simp [PyData.weight], by simp [PyData.intsShort], by simp [PyData.showable]⟩
theorem Tame.bool (b : Bool) : Tame 0 0 (.bool b) := ⟨by simp only [PyData.canLay0], by simp [PyData.depth], by simp [PyData.weight], by simp [PyData.intsShort], by simp [PyData.showable]⟩
theorem Tame.str {x : Str} {w : Nat} (h : PyData.strOk x = true) (hw : x.cps.size ≤ w) : Tame 0 w (.str x) := ⟨by simpa only [PyData.canLay0] using h, by simp [PyData.depth], by simpa [PyData.weight] using hw, by simp [PyData.intsShort], by simp [PyData.showable]⟩
structure TameAll (k w : Nat) (xs : List D) : Prop where
  lay : PyData.canLayAll0 xs = true
  dep : PyData.depthAll xs ≤ k
  wt : PyData.weightAll xs ≤ (w + 1) * xs.length
  sh : PyData.intsShortAll 13 xs = true
  sw : PyData.showableAll xs = true
theorem TameAll.of {k w : Nat} : ∀ {xs : List D}, (∀ x ∈ xs, Tame k w x) → TameAll k w xs
  | [], _ => ⟨by simp only [PyData.canLayAll0], by simp [PyData.depthAll], by simp [PyData.weightAll], by simp [PyData.intsShortAll], by simp [PyData.showableAll]⟩
  | x :: xs, h => by
    have h1 := h x (List.mem_cons_self ..)
    have h2 := TameAll.of fun y hy => h y (List.mem_cons_of_mem _ hy)
    have := h1.wt
    have := h2.wt
    have := h1.dep
    have := h2.dep
    refine ⟨by rw [PyData.canLayAll0, h1.lay, h2.lay]; rfl, by rw [PyData.depthAll]; omega, ?_, by rw [PyData.intsShortAll, h1.sh, h2.sh]; rfl, by rw [PyData.showableAll, h1.sw, h2.sw]; rfl⟩
    rw [PyData.weightAll, List.length_cons, Nat.mul_add, Nat.mul_one]
    omega
theorem Tame.tup {k w : Nat} {xs : List D} (h : ∀ x ∈ xs, Tame k w x) : Tame (k + 1) ((w + 1) * xs.length) (.tuple xs) := by
  have a := TameAll.of h
  exact ⟨by rw [PyData.canLay0]; exact a.lay, by rw [PyData.depth]; exact Nat.succ_le_succ a.dep, by rw [PyData.weight]; exact a.wt, by rw [PyData.intsShort]; exact a.sh, by rw [PyData.showable]; exact a.sw⟩
theorem Tame.lst {k w : Nat} {xs : List D} (h : ∀ x ∈ xs, Tame k w x) : Tame (k + 1) ((w + 1) * xs.length) (.list xs) := by
  have a := TameAll.of h
  exact ⟨by rw [PyData.canLay0]; exact a.lay, by rw [PyData.depth]; exact Nat.succ_le_succ a.dep, by rw [PyData.weight]; exact a.wt, by rw [PyData.intsShort]; exact a.sh, by rw [PyData.showable]; exact a.sw⟩
theorem Tame.shaped {k w : Nat} {d : D} (h : Tame k w d) (hk : k ≤ 64) : SeqAt.shaped d = true := by
  unfold SeqAt.shaped
  rw [h.lay, decide_eq_true (Nat.le_trans h.dep hk)]; rfl
theorem Tame.rep {k w : Nat} {d : D} (h : Tame k w d) (hk : k ≤ 64) (hw : w ≤ 2 ^ 20) : repOkD d = true := by
  have hd := decide_eq_true (Nat.le_trans h.dep hk)
  have hl : d.layable0 = true := by
    unfold PyData.layable0
    rw [h.lay, hd, decide_eq_true (Nat.le_trans h.wt hw)]; rfl
  unfold repOkD
  rw [h.sw, hd, decide_eq_true (PyData.shown_fits_of_layable0 (by decide) (by decide) hl h.sh)]; rfl
theorem Tame.eqv {k w : Nat} {d : D} (h : Tame k w d) : PyData.eqv d d = true := SeqAt.eqv_refl d h.lay
theorem dNe_str (a b : Str) : dNe (.str a) (.str b) = some (.bool (!decide (a = b))) := by
  show some (PyData.bool (!PyData.eqv (.str a) (.str b))) = _
  rw [PyData.eqv]; rfl
end RC
end
section
namespace RC
open PySem PySem.Spec L2 RR
open PyProof.Rows hiding St
structure RowsOk (al many : Int) (size : Nat) (rs : Part) : Prop where
  one : ∀ (i : Nat) r, rs[i]? = some r → r.ok = true ∧ (r.isFar = true → r.num < many) ∧ (r.isAlign = true → 0 < al) ∧ (r.isJump = true → r.num = 0) ∧ (i + 1 = size → r.goesOn = false)
  word : ∀ (i : Nat) r, rs[i]? = some r → r.isWord = true → ∃ j, i = j + 1 ∧ ∃ q, rs[j]? = some q ∧ q.goesOn = false
theorem RowsOk.snoc {al many : Int} {size : Nat} {rs : Part} {r : Row} (h : RowsOk al many size rs) (fr : Bool) (d : Drawn fr (decide (rs.length + 1 = size)) al many r) (hf : fr = true → ∃ q, rs.getLast? = some q ∧ q.goesOn = false) : RowsOk al many size (rs ++ [r]) := by
  have new : ∀ (i : Nat) q, (rs ++ [r])[i]? = some q → rs[i]? = some q ∨ (i = rs.length ∧ q = r) := fun i q e => by
    by_cases hi : i < rs.length
    · rw [List.getElem?_append_left hi] at e; exact .inl e
    · rw [List.getElem?_append_right (by omega)] at e
      have : i - rs.length = 0 := by
        have := (List.getElem?_eq_some_iff.mp e).1
        rw [List.length_singleton] at this
        omega
      rw [this] at e
      cases e
      exact .inr ⟨by omega, rfl⟩
  refine ⟨fun i q e => ?_, fun i q e hw => ?_⟩
  · rcases new i q e with e | ⟨rfl, rfl⟩
    · exact h.one i q e
    · exact ⟨d.ok, d.far, d.align, d.jump, fun hl => d.last (decide_eq_true hl)⟩
  · rcases new i q e with e | ⟨rfl, rfl⟩
    · obtain ⟨j, rfl, z, hz, hg⟩ := h.word i q e hw
      exact ⟨j, rfl, z, by rw [List.getElem?_append_left (List.getElem?_eq_some_iff.mp hz).1]; exact hz, hg⟩
    · obtain ⟨z, hz, hg⟩ := hf (d.word hw)
      have hne : rs ≠ [] := fun h => by subst h; cases hz
      have hl : 0 < rs.length := List.length_pos_iff.mpr hne
      refine ⟨rs.length - 1, by omega, z, ?_, hg⟩
      rw [List.getElem?_append_left (by omega)]
      rw [List.getLast?_eq_getElem?] at hz
      exact hz
def goodAt (rs : Part) (i : Nat) : Bool := match rs[i]? with | some r => !r.isWord | none => false
def gidx (rs : Part) : List Nat := (List.range rs.length).filter (goodAt rs)
structure Fin1 (rs : Part) (r q : Row) : Prop where
  ok : q.ok = true
  word : q.isWord = r.isWord
  goes : q.goesOn = r.goesOn
  far : q.isFar = true → r.isFar = true ∧ q.num = r.num
  align : q.isAlign = r.isAlign
  jump : q.isJump = true → ∃ g ∈ gidx rs, q.num = (g : Int)
structure Found (al : Int) (rs fs : Part) (jumps : Nat) : Prop where
  one : ∀ (i : Nat) q, fs[i]? = some q → ∃ r, rs[i]? = some r ∧ Fin1 rs r q
  cnt : (fs.filter Row.isJump).length ≤ jumps
  cnt2 : al ≠ 0 → ((fs.filter Row.isJump).length : Int) ≤ al
theorem Found.snoc {al : Int} {rs fs : Part} {j j' : Nat} {r q : Row} (h : Found al rs fs j) (hr : rs[fs.length]? = some r) (f : Fin1 rs r q) (hj : j ≤ j') (hq : q.isJump = true → j + 1 ≤ j' ∧ (al ≠ 0 → (j' : Int) ≤ al)) : Found al rs (fs ++ [q]) j' := by
  have e : ((fs ++ [q]).filter Row.isJump).length = (fs.filter Row.isJump).length + (if q.isJump = true then 1 else 0) := by
    rw [List.filter_append, List.length_append, List.filter_cons]
    split <;> rfl
  refine ⟨fun i z e => ?_, ?_, ?_⟩
  · by_cases hi : i < fs.length
    · rw [List.getElem?_append_left hi] at e; exact h.one i z e
    · rw [List.getElem?_append_right (by omega)] at e
      have h0 : i - fs.length = 0 := by
        have := (List.getElem?_eq_some_iff.mp e).1
        rw [List.length_singleton] at this
        omega
      rw [h0] at e
      cases e
      have : i = fs.length := by omega
      subst this
      exact ⟨r, hr, f⟩
  · have := h.cnt
    rw [e]
    split
    · have := (hq (by assumption)).1; omega
    · omega
  · intro ha
    have h1 := h.cnt
    have h2 := h.cnt2 ha
    rw [e]
    split
    · have h3 := hq (by assumption)
      have := h3.2 ha
      omega
    · omega
end RC
end
section
namespace RC
open PySem PySem.Spec L2 RR
open PyProof.Rows hiding St
open PySem.W (alike dataLt minD maxD)
theorem vTup_of {r : VA} {Γ : DEnv} {xs : List D} (h : r Γ = some xs) (l : xs.length ≤ lim) : vTup r Γ = some (.tuple xs) := by
  unfold vTup
  rw [h, Option.bind_some, if_pos l]
end RC
end
section
namespace RC
open PySem PySem.Spec L2 RR
open PyProof.Rows hiding St
theorem putD_new {acc : List (D × D)} {k : Key} {d : D} (h : ∀ q ∈ acc, keyOf q.1 ≠ some k) : putD acc k d = acc ++ [(keyD k, d)] := by
  unfold putD
  rw [if_neg]
  intro h2
  obtain ⟨q, hq, e⟩ := List.any_eq_true.mp h2
  exact h q hq (of_decide_eq_true e)
end RC
end
section
namespace RC
open PySem PySem.Spec L2 RR
open PyProof.Rows hiding St
end RC
end
section
namespace RC
open PySem PySem.Spec L2 RR
open PyProof.Rows hiding St
structure Lay (k : Nat) (d : D) : Prop where
  lay : d.canLay0 = true
  dep : d.depth ≤ k
theorem Lay.int (x : Int) : Lay 0 (.int x) := ⟨by simp only [PyData.canLay0], by simp [PyData.depth]⟩
theorem Lay.bool (x : Bool) : Lay 0 (.bool x) := ⟨by simp only [PyData.canLay0], by simp [PyData.depth]⟩
theorem Lay.none : Lay 0 .none := ⟨by simp only [PyData.canLay0], by simp [PyData.depth]⟩
theorem Lay.str {x : Str} (h : PyData.strOk x = true) : Lay 0 (.str x) := ⟨by simpa only [PyData.canLay0] using h, by simp [PyData.depth]⟩
theorem Lay.all {k : Nat} : ∀ {xs : List D}, (∀ x ∈ xs, Lay k x) → PyData.canLayAll0 xs = true ∧ PyData.depthAll xs ≤ k
  | [], _ => ⟨by simp only [PyData.canLayAll0], by simp [PyData.depthAll]⟩
  | x :: xs, h => by
    have h1 := h x (List.mem_cons_self ..)
    obtain ⟨h2, h3⟩ := Lay.all fun y hy => h y (List.mem_cons_of_mem _ hy)
    have := h1.dep
    exact ⟨by rw [PyData.canLayAll0, h1.lay, h2]; rfl, by rw [PyData.depthAll]; omega⟩
theorem Lay.tup {k : Nat} {xs : List D} (h : ∀ x ∈ xs, Lay k x) : Lay (k + 1) (.tuple xs) := by
  obtain ⟨h1, h2⟩ := Lay.all h
  exact ⟨by rw [PyData.canLay0]; exact h1, by rw [PyData.depth]; omega⟩
theorem Lay.lst {k : Nat} {xs : List D} (h : ∀ x ∈ xs, Lay k x) : Lay (k + 1) (.list xs) := by
  obtain ⟨h1, h2⟩ := Lay.all h
  exact ⟨by rw [PyData.canLay0]; exact h1, by rw [PyData.depth]; omega⟩
theorem Lay.nats (ns : List Nat) : Lay 1 (.list (ns.map natD)) := .lst fun x hx => by
  obtain ⟨n, _, rfl⟩ := List.mem_map.mp hx
  exact .int n
theorem Lay.mono {j k : Nat} {d : D} (h : Lay j d) (hk : j ≤ k) : Lay k d := ⟨h.lay, Nat.le_trans h.dep hk⟩
theorem Lay.shaped {k : Nat} {d : D} (h : Lay k d) (hk : k ≤ 64) : SeqAt.shaped d = true := by
  unfold SeqAt.shaped
  rw [h.lay, decide_eq_true (Nat.le_trans h.dep hk)]; rfl
theorem Lay.ne {k : Nat} {d : D} (h : Lay k d) (hk : k ≤ 64) : dNe d d = some (.bool false) := by
  unfold dNe
  rw [if_pos (.inr ⟨h.shaped hk, h.shaped hk⟩), SeqAt.eqv_refl d h.lay]; rfl
end RC
end
section
namespace RC
open PySem PySem.Spec L2 RR
open PyProof.Rows hiding St cutD
theorem alike_int (a b : Int) : PySem.W.alike (.int a) (.int b) = true := by simp [PySem.W.alike]
theorem okSort_nats (xs : List Nat) : okSort (xs.map natD) = true := by
  unfold okSort
  rw [Bool.and_eq_true, Bool.and_eq_true, Bool.and_eq_true, decide_eq_true_eq]
  have h := Lay.all (k := 0) (xs := xs.map natD) fun x hx => by
    obtain ⟨n, _, rfl⟩ := List.mem_map.mp hx
    exact .int _
  refine ⟨⟨⟨List.all_eq_true.mpr fun x hx => List.all_eq_true.mpr fun y hy => ?_, Bool.or_eq_true _ _ ▸ .inr (List.all_eq_true.mpr fun x hx => ?_)⟩, h.1⟩, by omega⟩
  · obtain ⟨a, _, rfl⟩ := List.mem_map.mp hx
    obtain ⟨b, _, rfl⟩ := List.mem_map.mp hy
    exact alike_int _ _
  · obtain ⟨a, _, rfl⟩ := List.mem_map.mp hx
    rfl
theorem le_int (a b : Int) : PySem.W.dataLe false id (PyData.int a) (.int b) = decide (a ≤ b) := congrFun (congrFun (PySem.W.dataLe_int (fun x : Int => x)) a) b
theorem le_nat (a b : Nat) : PySem.W.dataLe false id (natD a) (natD b) = decide (a ≤ b) := by
  unfold natD
  rw [le_int]
  exact decide_eq_decide.mpr (by omega)
theorem sort_nats {xs ys : List Nat} (p : xs.Perm ys) (s : ys.Pairwise (· < ·)) : cSorted [.list (xs.map natD)] = some (.list (ys.map natD)) := by
  unfold cSorted
  dsimp only
  rw [if_pos (okSort_nats xs)]
  unfold sortD
  have e : (xs.map natD).mergeSort (PySem.W.dataLe false id) = (xs.mergeSort fun a b => decide (a ≤ b)).map natD := (List.map_mergeSort fun a _ b _ => (le_nat a b).symm).symm
  rw [e]
  congr 3
  refine List.Perm.eq_of_pairwise (le := fun a b : Nat => a ≤ b) (fun a b _ _ h1 h2 => Nat.le_antisymm h1 h2) ?_ (s.imp fun h => Nat.le_of_lt h) ((List.mergeSort_perm _ _).trans p)
  have := List.pairwise_mergeSort (le := fun a b : Nat => decide (a ≤ b)) (fun a b c h1 h2 => by rw [decide_eq_true_eq] at *; omega) (fun a b => by rw [Bool.or_eq_true, decide_eq_true_eq, decide_eq_true_eq]; omega) xs
  exact this.imp fun h => of_decide_eq_true h
end RC
end
section
namespace RC
open PySem PySem.Spec L2 RR
open PyProof.Rows hiding St
end RC
end
section
namespace RC
open PySem PySem.Spec L2 RR
open PyProof.Rows hiding St
end RC
end
section
namespace RC
open PySem PySem.Spec L2 RR
open PyProof.Rows hiding St
structure Seen (k w : Nat) (d : D) : Prop where
  dep : d.depth ≤ k
  wt : d.weight ≤ w
  sh : d.leavesShort 40 = true
  sw : d.showable = true
theorem Seen.mono {k w k' w' : Nat} {d : D} (h : Seen k w d) (hk : k ≤ k') (hw : w ≤ w') : Seen k' w' d := ⟨Nat.le_trans h.dep hk, Nat.le_trans h.wt hw, h.sh, h.sw⟩
theorem Seen.int {x : Int} (h : x.natAbs < 10 ^ 24) : Seen 0 80 (.int x) := by
  have hl : x.natAbs.log2 < 80 := by
    by_cases h0 : x.natAbs = 0
    · rw [h0]; decide
    · exact (Nat.log2_lt h0).mpr (Nat.lt_trans h (by decide))
  refine ⟨by simp [PyData.depth], ?_, ?_, ?_⟩
  · unfold PyData.weight
    split <;> omega
  · unfold PyData.leavesShort
    refine decide_eq_true ?_
    have e := int_text_length_le10 (k := 24) (by decide) h
    show (Str.ofString (toString x)).length ≤ 40
    rw [PySem.ofString_length]
    omega
  · unfold PyData.showable
    exact decide_eq_true (by omega)
theorem Seen.none : Seen 0 0 .none := ⟨by simp [PyData.depth], by simp [PyData.weight], by simp [PyData.leavesShort], by simp [PyData.showable]⟩
theorem Seen.bool (b : Bool) : Seen 0 0 (.bool b) := ⟨by simp [PyData.depth], by simp [PyData.weight], by simp [PyData.leavesShort], by simp [PyData.showable]⟩
theorem Seen.str {x : Str} {w : Nat} (h : x.cps.toList.all (fun c => decide (c < 16 ^ 8)) = true) (hw : x.cps.size ≤ w) : Seen 0 w (.str x) := ⟨by simp [PyData.depth], by simpa [PyData.weight] using hw, by unfold PyData.leavesShort; exact h, by simp [PyData.showable]⟩
theorem SeenAll.of {k w : Nat} : ∀ {xs : List D}, (∀ x ∈ xs, Seen k w x) → PyData.depthAll xs ≤ k ∧ PyData.weightAll xs ≤ (w + 1) * xs.length ∧ PyData.leavesShortAll 40 xs = true ∧ PyData.showableAll xs = true
  | [], _ => ⟨by simp [PyData.depthAll], by simp [PyData.weightAll], by simp [PyData.leavesShortAll], by simp [PyData.showableAll]⟩
  | x :: xs, h => by
    have h1 := h x (List.mem_cons_self ..)
    obtain ⟨a, b, c, e⟩ := SeenAll.of fun y hy => h y (List.mem_cons_of_mem _ hy)
    have := h1.wt
    have := h1.dep
    refine ⟨by rw [PyData.depthAll]; omega, ?_, by rw [PyData.leavesShortAll, h1.sh, c]; rfl, by rw [PyData.showableAll, h1.sw, e]; rfl⟩
    rw [PyData.weightAll, List.length_cons, Nat.mul_add, Nat.mul_one]
    omega
theorem Seen.tup {k w : Nat} {xs : List D} (h : ∀ x ∈ xs, Seen k w x) : Seen (k + 1) ((w + 1) * xs.length) (.tuple xs) := by
  obtain ⟨a, b, c, e⟩ := SeenAll.of h
  exact ⟨by rw [PyData.depth]; exact Nat.succ_le_succ a, by rw [PyData.weight]; exact b, by rw [PyData.leavesShort]; exact c, by rw [PyData.showable]; exact e⟩
theorem Seen.lst {k w : Nat} {xs : List D} (h : ∀ x ∈ xs, Seen k w x) : Seen (k + 1) ((w + 1) * xs.length) (.list xs) := by
  obtain ⟨a, b, c, e⟩ := SeenAll.of h
  exact ⟨by rw [PyData.depth]; exact Nat.succ_le_succ a, by rw [PyData.weight]; exact b, by rw [PyData.leavesShort]; exact c, by rw [PyData.showable]; exact e⟩
theorem Seen.tupN {k w n W : Nat} {xs : List D} (h : ∀ x ∈ xs, Seen k w x) (hn : xs.length ≤ n) (hW : (w + 1) * n ≤ W) : Seen (k + 1) W (.tuple xs) :=
  (Seen.tup h).mono (Nat.le_refl _) (Nat.le_trans (Nat.mul_le_mul_left _ hn) hW)
theorem Seen.lstN {k w n W : Nat} {xs : List D} (h : ∀ x ∈ xs, Seen k w x) (hn : xs.length ≤ n) (hW : (w + 1) * n ≤ W) : Seen (k + 1) W (.list xs) :=
  (Seen.lst h).mono (Nat.le_refl _) (Nat.le_trans (Nat.mul_le_mul_left _ hn) hW)
theorem Seen.rep {k w : Nat} {d : D} (h : Seen k w d) (hk : k ≤ 64) (hw : w ≤ 2 ^ 18) : repOkD d = true := by
  have hs := PyData.shown_le 40 (by decide) d h.sh
  have hw2 := h.wt
  have e : (2 : Nat) ^ 18 = 262144 := by decide
  unfold repOkD
  rw [h.sw, decide_eq_true (Nat.le_trans h.dep hk), decide_eq_true (show d.shown.length ≤ sizeLine by rw [sizeLine_eq]; omega)]; rfl
end RC
end
section
namespace RC
open PySem PySem.Spec L2 RR
open PyProof.Rows hiding St
end RC
end
section
namespace RC
open PySem PySem.Spec L2 RR
open PyProof.Rows hiding St
open PySem.W (alike dataLt dataLe)
end RC
end
section
namespace RC
open PySem PySem.Spec L2 RR
open PyProof.Rows hiding St
end RC
end
section
namespace RC
open PySem PySem.Spec L2 RR
open PyProof.Rows hiding St cutD
/-- where the runs are -/
inductive Match (p L : Nat) : Nat × Nat → Nat × Nat → Prop
  | door : Match p L (p, 0) (p, 0)
  | inn (k : Nat) : Match p L (p, k + 1) (L, k)
  | out (q k : Nat) : q ≠ p → q < L → Match p L (q, k) (q, k)
theorem Match.start {p L q : Nat} (h : q < L) : Match p L (q, 0) (q, 0) := by
  by_cases e : q = p
  · subst e; exact .door
  · exact .out q 0 e h
end RC
end
section
namespace RC
open PySem PySem.Spec L2 RR
open PyProof.Rows hiding St cutD
def shunR : Bool → Part → Bool
  | g, [] => !g
  | g, r :: rs => !(g && r.isWord) && shunR r.goesOn rs
theorem shun_tail : ∀ (rs : Part) (r : Row), (!((r :: rs).getLast (by simp)).goesOn && ((r :: rs).zip rs).all fun z => !z.1.goesOn || !z.2.isWord) = shunR r.goesOn rs
  | [], r => by simp [shunR]
  | q :: qs, r => by
    have ih := shun_tail qs q
    rw [shunR, ← ih, List.zip_cons_cons, List.all_cons, List.getLast_cons (by simp)]
    cases r.goesOn <;> cases q.isWord <;> simp [Bool.and_comm, Bool.and_assoc, Bool.and_left_comm]
theorem shunned_eq (p : Part) : shunned p = (!p.isEmpty && shunR true p) := by
  cases p with
  | nil => rfl
  | cons r rs =>
    unfold shunned
    dsimp only
    rw [Bool.and_assoc, shun_tail, shunR]
    simp
structure PartParts (p : Part) : Prop where
  l1 : 1 ≤ p.length
  l20 : p.length ≤ 20
  rows : ∀ r ∈ p, r.ok = true
  even : evenP p = true ∨ (p.filter Row.isJump).length ≤ 6
  goals : ∀ r ∈ p, r.isJump = true → ∃ q, p[r.num.toNat]? = some q ∧ q.isWord = false
  shun : shunR true p = true
theorem parts_of {p : Part} (h : partOk p = true) : PartParts p := by
  have f := part_facts h
  have l := partOk_len h
  have hh := h
  unfold partOk restOk at h
  simp only [Bool.and_eq_true, Bool.or_eq_true, decide_eq_true_eq] at h
  have sh := h.2.2.2
  rw [shunned_eq, Bool.and_eq_true] at sh
  refine ⟨l.1, l.2, fun r hr => List.all_eq_true.mp h.1.2 r hr, h.2.1, fun r hr hj => ?_, sh.2⟩
  obtain ⟨i, hi, rfl⟩ := List.getElem_of_mem hr
  exact f.goals i _ (List.getElem?_eq_getElem hi) hj
theorem of_parts {p : Part} (h : PartParts p) : partOk p = true := by
  unfold partOk restOk lenOk
  simp only [Bool.and_eq_true, Bool.or_eq_true, decide_eq_true_eq]
  have hne : p ≠ [] := fun z => by have := h.l1; rw [z] at this; simp at this
  refine ⟨⟨⟨h.l1, h.l20⟩, List.all_eq_true.mpr h.rows⟩, h.even, ?_, ?_⟩
  · refine List.all_eq_true.mpr fun g hg => ?_
    obtain ⟨r, hr, rfl⟩ := List.mem_map.mp hg
    obtain ⟨h1, h2⟩ := List.mem_filter.mp hr
    obtain ⟨q, e1, e2⟩ := h.goals r h1 h2
    unfold goalOk
    rw [e1]
    dsimp only
    rw [e2]; rfl
  · rw [shunned_eq, Bool.and_eq_true]
    exact ⟨by cases p <;> simp_all, h.shun⟩
/-- what the drawn parts of these laws are -/
structure Fine (p : Part) : Prop where
  parts : PartParts p
  len : p.length ≤ 12
  few : evenP p = true ∨ (p.filter Row.isJump).length ≤ 3
theorem Fine.ok {p : Part} (h : Fine p) : partOk p = true := of_parts h.parts
def goW (w : Str) : Bool := w == "plain" || w == "branch" || w == "load" || w == "align"
def shunW : Bool → List Str → Bool
  | g, [] => !g
  | g, w :: ws => !(g && w == "word") && shunW (goW w) ws
theorem row_goW (r : Row) : goW r.w = r.goesOn := by cases r <;> rfl
theorem row_word (r : Row) : (r.w == "word") = r.isWord := by cases r <;> rfl
theorem row_align (r : Row) : (r.w == "align") = r.isAlign := by cases r <;> rfl
theorem row_jump (r : Row) : (r.w == "jump" || r.w == "branch") = r.isJump := by cases r <;> rfl
theorem shun_words : ∀ (rs : Part) (g : Bool), shunW g (rs.map Row.w) = shunR g rs
  | [], _ => rfl
  | r :: rs, g => by rw [List.map_cons, shunW, shunR, row_goW, row_word, shun_words rs]
end RC
end
section
namespace RC
open PySem PySem.Spec L2 RR
open PyProof.Rows hiding St cutD
theorem o2 {f : D → D → Option D} {a b : VE} {Γ : DEnv} {x y d : D} (h : a Γ = some x) (k : b Γ = some y) (e : f x y = some d) : vOp f a b Γ = some d := (vOp_of h k).trans e
theorem o1 {f : D → Option D} {a : VE} {Γ : DEnv} {x d : D} (h : a Γ = some x) (e : f x = some d) : vUn f a Γ = some d := (vUn_of h).trans e
theorem o_cl {f : List D → Option D} {a : VA} {Γ : DEnv} {x : List D} {d : D} (h : a Γ = some x) (e : f x = some d) : vCl f a Γ = some d := (vCl_of h).trans e
theorem o_call {f : VP} {a : VA} {Γ : DEnv} {x : List D} {d : D} (h : a Γ = some x) (e : f x = some d) : vCall f a Γ = some d := (vCall_of h).trans e
theorem o_tup {r : VA} {Γ : DEnv} {xs : List D} (h : r Γ = some xs) (l : xs.length ≤ lim) : vTup r Γ = some (.tuple xs) := vTup_of h l
theorem o_lst {r : VA} {Γ : DEnv} {xs : List D} (h : r Γ = some xs) (l : xs.length ≤ lim) : vLst r Γ = some (.list xs) := by
  unfold vLst
  rw [h, Option.bind_some, if_pos l]
theorem o_look {a : VE} {Γ : DEnv} {x : D} (h : a Γ = some x) (f : flatD x = true) : vLook a Γ = some x := by
  unfold vLook
  rw [h, Option.bind_some, if_pos f]
theorem o_sl {a : VE} {lo hi : VO} {Γ : DEnv} {x d : D} {l h : Option Int} (e : a Γ = some x) (e1 : lo Γ = some l) (e2 : hi Γ = some h) (k : dSl l h x = some d) : vSl a lo hi Γ = some d := by
  unfold vSl
  rw [e, Option.bind_some, e1, Option.bind_some, e2, Option.bind_some]; exact k
theorem o_part {a : VE} {Γ : DEnv} {i : Int} (h : a Γ = some (.int i)) : vPart a Γ = some (some i) := by
  unfold vPart
  rw [h]; rfl
theorem o_chain {f g : D → D → Option D} {a b c : VE} {Γ : DEnv} {x y z : D} {k l : Bool} (h1 : a Γ = some x) (h2 : b Γ = some y) (e1 : f x y = some (.bool k)) (h3 : k = true → c Γ = some z) (e2 : k = true → g y z = some (.bool l)) : vChain f g a b c Γ = some (.bool (k && l)) := by
  unfold vChain
  rw [h1, Option.bind_some, h2, Option.bind_some, e1, Option.bind_some]
  show (if k = true then _ else _) = _
  cases k with
  | true => rw [if_pos rfl, h3 rfl, Option.bind_some]; exact e2 rfl
  | false => rfl
theorem s_ret {me : ME} {E : EndsD} {Γ : DEnv} {n : Nat} (h : me Γ n fun d n1 => E.rt d n1) : mRet me E Γ n := h
theorem s_lst {m : MA} {Γ : DEnv} {n : Nat} {Q : D → Nat → Prop} (h : m Γ n fun ds n1 => ds.length ≤ lim ∧ Q (.list ds) n1) : mLst m Γ n Q := h
theorem s_tup {m : MA} {Γ : DEnv} {n : Nat} {Q : D → Nat → Prop} (h : m Γ n fun ds n1 => ds.length ≤ lim ∧ Q (.tuple ds) n1) : mTup m Γ n Q := h
theorem s_op {f : D → D → Option D} {ma mb : ME} {Γ : DEnv} {n : Nat} {Q : D → Nat → Prop} (h : ma Γ n fun x n1 => mb Γ n1 fun y n2 => ∃ d, f x y = some d ∧ Q d n2) : mOp f ma mb Γ n Q := h
theorem s_iseq {me : ME} {Γ : DEnv} {n : Nat} {Q : List D → Nat → Prop} (h : me Γ n fun d n1 => ∃ xs, seqD d = some xs ∧ Q xs n1) : mISeq me Γ n Q := h
theorem s_ir1 {ma : MA} {Γ : DEnv} {n : Nat} {Q : List D → Nat → Prop} (h : ma Γ n fun ds n1 => ∃ j, ds = [.int j] ∧ okR j ∧ Q (rangeD 0 j.toNat) n1) : mIR1 ma Γ n Q := h
theorem s_if {mt : MT} {x y : MS} {E : EndsD} {Γ : DEnv} {n : Nat} (h : mt Γ n fun c n1 => if c = true then x E Γ n1 else y E Γ n1) : mIfS mt x y E Γ n := h
theorem w_tst {mt : MT} {v : VT} {Γ : DEnv} {n : Nat} {Q : Bool → Nat → Prop} {b : Bool} (h : FT mt v) (e : v Γ = some b) (k : Q b n) : mt Γ n Q := h Γ n b _ e k
theorem w_args {m : MA} {v : VA} {Γ : DEnv} {n : Nat} {ds : List D} {Q : List D → Nat → Prop} (h : FA m v) (e : v Γ = some ds) (k : Q ds n) : m Γ n Q := h Γ n ds _ e k
theorem w_it {m : MI} {v : VI} {Γ : DEnv} {n : Nat} {ds : List D} {Q : List D → Nat → Prop} (h : FI' m v) (e : v Γ = some ds) (k : Q ds n) : m Γ n Q := h Γ n ds _ e k
theorem s_gName {i : Nat} {d : D} {Γ : DEnv} {Q : DEnv → Prop} (h : Q (Γ.set i (some d))) : mgName i d Γ Q := h
theorem s_for {mi : MI} {g : MG} {tb : MS} {E : EndsD} {Γ : DEnv} {n : Nat} (h : mi Γ n fun ds n1 => forW g tb E ds Γ n1) : mFor mi g tb E Γ n := h
theorem q_for {mi : MI} {g : MG} {tb u : MS} {E : EndsD} {Γ : DEnv} {n : Nat} (h : mi Γ n fun ds n1 => forW g tb { E with nx := u E } ds Γ n1) : mSeq (mFor mi g tb) u E Γ n := h
end RC
end
section
namespace RC
open PySem PySem.Spec L2 RR
open PyProof.Rows hiding St cutD
local macro_rules | `(tactic| walk_at "fp") => `(tactic| with_reducible first | exact fp__law_jumps)
local macro_rules | `(tactic| walk_at "fe") => `(tactic| with_reducible first
  | exact f_Var | exact f_C | exact f_Nil | exact f_Dict0 | exact f_NoPart | exact f_Yes | exact f_gName | exact f_gNil | exact f_pNil
  | (apply f_Cl <;> walk_at "fe") | (apply f_Op <;> walk_at "fe") | (apply f_Un <;> walk_at "fe") | (apply f_Cons <;> walk_at "fe")
  | (apply f_Test <;> walk_at "fe") | (apply f_Tru <;> walk_at "fe")
  | (apply f_Call (by walk_at "fp") <;> walk_at "fe") | (apply f_CallK (by walk_at "fp") <;> walk_at "fe")
  | (apply f_Tup <;> walk_at "fe") | (apply f_Lst <;> walk_at "fe") | (apply f_Isi <;> walk_at "fe") | (apply f_Isi2 <;> walk_at "fe")
  | (apply f_Sl <;> walk_at "fe") | (apply f_Part <;> walk_at "fe")
  | (apply f_And <;> walk_at "fe") | (apply f_Or <;> walk_at "fe") | (apply f_Not <;> walk_at "fe")
  | (apply f_AndV <;> walk_at "fe") | (apply f_OrV <;> walk_at "fe") | (apply f_NotV <;> walk_at "fe")
  | (apply f_If <;> walk_at "fe") | (apply f_Chain <;> walk_at "fe") | (apply f_Look <;> walk_at "fe") | (apply f_LookL <;> walk_at "fe") | (apply f_Rev <;> walk_at "fe")
  | (apply f_ISeq <;> walk_at "fe") | (apply f_IEn <;> walk_at "fe") | (apply f_IZ <;> walk_at "fe") | (apply f_IR1 <;> walk_at "fe") | (apply f_IR2 <;> walk_at "fe") | exact f_IKeys | exact f_IVals | exact f_IItems
  | (apply f_gTup <;> walk_at "fe") | (apply f_gCons <;> walk_at "fe") | (apply f_Lc <;> walk_at "fe")
  | (apply f_Disp <;> walk_at "fe") | (apply f_pCons <;> walk_at "fe")
  | (apply f_Seq <;> walk_at "fe") | (apply f_IfS <;> walk_at "fe") | (apply f_Ret <;> walk_at "fe") | exact f_Next | (apply f_Set <;> walk_at "fe") | (apply f_Par <;> walk_at "fe") | (apply f_Asg <;> walk_at "fe") | (apply f_Drop <;> walk_at "fe") | (apply f_Append <;> walk_at "fe") | (apply f_For <;> walk_at "fe"))
local macro_rules | `(tactic| walk_at "len") => `(tactic| first | (simp only [List.length_cons, List.length_nil]; decide) | assumption)
local macro_rules | `(tactic| walk_at "ev") => `(tactic| first
  | with_reducible assumption
  | ((with_reducible apply o2) <;> walk_at "ev") | ((with_reducible apply o1) <;> walk_at "ev") | ((with_reducible apply vCons_of) <;> walk_at "ev") | ((with_reducible apply o_cl) <;> walk_at "ev") | ((with_reducible apply o_call) <;> walk_at "ev")
  | ((with_reducible apply vTest_of) <;> walk_at "ev") | ((with_reducible apply o_tup) <;> first | walk_at "len" | walk_at "ev") | ((with_reducible apply o_lst) <;> first | walk_at "len" | walk_at "ev")
  | ((with_reducible apply vNot_t) <;> walk_at "ev") | ((with_reducible apply vNot_f) <;> walk_at "ev") | ((with_reducible apply vNot_of) <;> walk_at "ev") | ((with_reducible apply vIsi_of) <;> walk_at "ev") | ((with_reducible apply vNotV_of) <;> walk_at "ev") | ((with_reducible apply o_sl) <;> walk_at "ev") | ((with_reducible apply o_part) <;> walk_at "ev")
  | rfl)
local macro_rules | `(tactic| walk_at "we") => `(tactic| (apply w_exp; (case h => walk_at "fe"); (case e => walk_at "ev")))
local macro_rules | `(tactic| walk_at "wa") => `(tactic| (apply w_args; (case h => walk_at "fe"); (case e => walk_at "ev")))
local macro_rules | `(tactic| walk_at "wt") => `(tactic| (apply w_tst; (case h => walk_at "fe"); (case e => walk_at "ev")))
local macro_rules | `(tactic| walk_at "wi") => `(tactic| (apply w_it; (case h => walk_at "fe"); (case e => walk_at "ev")))
local macro_rules | `(tactic| walk_at "qs") => `(tactic| (apply q_set; (case h => walk_at "fe"); (case e => walk_at "ev")))
local macro_rules | `(tactic| walk_at "qn") => `(tactic| (apply q_no; (case h => walk_at "fe"); (case e => walk_at "ev")))
local macro_rules | `(tactic| walk_at "wr") => `(tactic| (apply w_ret; (case h => walk_at "fe"); (case e => walk_at "ev")))
local macro_rules | `(tactic| walk_at "sp") => `(tactic| (apply s_callP; (apply w_args; (case h => walk_at "fe"); (case e => walk_at "ev"))))
local macro_rules | `(tactic| walk_at "st") => `(tactic| first
  | refine ⟨_, rfl, ?_⟩
  | refine ⟨rfl, ?_⟩
  | refine ⟨by decide, ?_⟩
  | refine ⟨by simp only [List.length_cons, List.length_nil]; decide, ?_⟩)
theorem a_one_ok {xs : List D} {n : Nat} {R : D → Nat → Prop} (h : 1 ≤ xs.length) (h2 : xs.length < 1073741824) (hn : n < 1048576) (q : ∀ d ∈ xs, R d (n + 1)) : m__law_one_of_v2 [.list xs] n R := by
  unfold m__law_one_of_v2 b__law_one_of_v2
  repeat walk_at "st"
  refine ⟨by omega, by omega, hn, fun x h0 h1 => ?_⟩
  have hx : x.toNat < xs.length := by omega
  have ex : x = (x.toNat : Int) := by omega
  refine ⟨xs[x.toNat], ?_, q _ (List.getElem_mem hx)⟩
  have e := atI_nat (xs := xs) (j := x.toNat) (List.getElem?_eq_getElem hx)
  rw [← ex] at e
  exact e
theorem a_one_of {α : Type} (f : α → D) {xs : List α} {n : Nat} {R : D → Nat → Prop} (h : 1 ≤ xs.length) (h2 : xs.length < 1073741824) (hn : n < 1048576) (q : ∀ x ∈ xs, R (f x) (n + 1)) : m__law_one_of_v2 [.list (xs.map f)] n R :=
  a_one_ok (by rw [List.length_map]; exact h) (by rw [List.length_map]; exact h2) hn fun d hd => by
    obtain ⟨x, hx, rfl⟩ := List.mem_map.mp hd
    exact q x hx
theorem sa_one {α : Type} (f : α → D) {ma : MA} {Γ : DEnv} {n n1 : Nat} {Q : D → Nat → Prop} {xs : List α} (a : ∀ Q', Q' [.list (xs.map f)] n1 → ma Γ n Q') (h : 1 ≤ xs.length) (h2 : xs.length < 1073741824) (hn : n1 < 1048576) (q : ∀ x ∈ xs, Q (f x) (n1 + 1)) : mCallP m__law_one_of_v2 ma Γ n Q :=
  a _ (a_one_of f h h2 hn q)
def okPre : Bool → List Str → Bool
  | _, [] => true
  | g, w :: ws => !(g && w == "word") && okPre (goW w) ws
def lastGo : Bool → List Str → Bool
  | g, [] => g
  | _, w :: ws => lastGo (goW w) ws
theorem shun_pre : ∀ (ws : List Str) (g : Bool), shunW g ws = (okPre g ws && !lastGo g ws)
  | [], g => rfl
  | w :: ws, g => by rw [shunW, okPre, lastGo, shun_pre ws, Bool.and_assoc]
theorem pre_snoc : ∀ (ws : List Str) (g : Bool) (w : Str), okPre g (ws ++ [w]) = (okPre g ws && !(lastGo g ws && w == "word"))
  | [], g, w => by
    show (!(g && w == "word") && true) = (true && !(g && w == "word"))
    rw [Bool.and_true, Bool.true_and]
  | x :: ws, g, w => by rw [List.cons_append, okPre, okPre, lastGo, pre_snoc ws, Bool.and_assoc]
theorem go_snoc : ∀ (ws : List Str) (g : Bool) (w : Str), lastGo g (ws ++ [w]) = goW w
  | [], g, w => rfl
  | x :: ws, g, w => by rw [List.cons_append, lastGo, go_snoc ws]
end RC
end
section
namespace RC
open PySem PySem.Spec L2 RR
open PyProof.Rows hiding St cutD
local macro_rules | `(tactic| walk_at "fp") => `(tactic| with_reducible first | exact fp__law_w_shifted)
local macro_rules | `(tactic| walk_at "fe") => `(tactic| with_reducible first
  | exact f_Var | exact f_C | exact f_Nil | exact f_Dict0 | exact f_NoPart | exact f_Yes | exact f_gName | exact f_gNil | exact f_pNil
  | (apply f_Cl <;> walk_at "fe") | (apply f_Op <;> walk_at "fe") | (apply f_Un <;> walk_at "fe") | (apply f_Cons <;> walk_at "fe")
  | (apply f_Test <;> walk_at "fe") | (apply f_Tru <;> walk_at "fe")
  | (apply f_Call (by walk_at "fp") <;> walk_at "fe") | (apply f_CallK (by walk_at "fp") <;> walk_at "fe")
  | (apply f_Tup <;> walk_at "fe") | (apply f_Lst <;> walk_at "fe") | (apply f_Isi <;> walk_at "fe") | (apply f_Isi2 <;> walk_at "fe")
  | (apply f_Sl <;> walk_at "fe") | (apply f_Part <;> walk_at "fe")
  | (apply f_And <;> walk_at "fe") | (apply f_Or <;> walk_at "fe") | (apply f_Not <;> walk_at "fe")
  | (apply f_AndV <;> walk_at "fe") | (apply f_OrV <;> walk_at "fe") | (apply f_NotV <;> walk_at "fe")
  | (apply f_If <;> walk_at "fe") | (apply f_Chain <;> walk_at "fe") | (apply f_Look <;> walk_at "fe") | (apply f_LookL <;> walk_at "fe") | (apply f_Rev <;> walk_at "fe")
  | (apply f_ISeq <;> walk_at "fe") | (apply f_IEn <;> walk_at "fe") | (apply f_IZ <;> walk_at "fe") | (apply f_IR1 <;> walk_at "fe") | (apply f_IR2 <;> walk_at "fe") | exact f_IKeys | exact f_IVals | exact f_IItems
  | (apply f_gTup <;> walk_at "fe") | (apply f_gCons <;> walk_at "fe") | (apply f_Lc <;> walk_at "fe")
  | (apply f_Disp <;> walk_at "fe") | (apply f_pCons <;> walk_at "fe")
  | (apply f_Seq <;> walk_at "fe") | (apply f_IfS <;> walk_at "fe") | (apply f_Ret <;> walk_at "fe") | exact f_Next | (apply f_Set <;> walk_at "fe") | (apply f_Par <;> walk_at "fe") | (apply f_Asg <;> walk_at "fe") | (apply f_Drop <;> walk_at "fe") | (apply f_Append <;> walk_at "fe") | (apply f_For <;> walk_at "fe"))
local macro_rules | `(tactic| walk_at "len") => `(tactic| first | (simp only [List.length_cons, List.length_nil]; decide) | assumption)
local macro_rules | `(tactic| walk_at "ev") => `(tactic| first
  | with_reducible assumption
  | ((with_reducible apply o2) <;> walk_at "ev") | ((with_reducible apply o1) <;> walk_at "ev") | ((with_reducible apply vCons_of) <;> walk_at "ev") | ((with_reducible apply o_cl) <;> walk_at "ev") | ((with_reducible apply o_call) <;> walk_at "ev")
  | ((with_reducible apply vTest_of) <;> walk_at "ev") | ((with_reducible apply o_tup) <;> first | walk_at "len" | walk_at "ev") | ((with_reducible apply o_lst) <;> first | walk_at "len" | walk_at "ev")
  | ((with_reducible apply vNot_of) <;> walk_at "ev") | ((with_reducible apply vIsi_of) <;> walk_at "ev") | ((with_reducible apply vNotV_of) <;> walk_at "ev") | ((with_reducible apply o_sl) <;> walk_at "ev") | ((with_reducible apply o_part) <;> walk_at "ev")
  | rfl)
local macro_rules | `(tactic| walk_at "we") => `(tactic| (apply w_exp; (case h => walk_at "fe"); (case e => walk_at "ev")))
local macro_rules | `(tactic| walk_at "wa") => `(tactic| (apply w_args; (case h => walk_at "fe"); (case e => walk_at "ev")))
local macro_rules | `(tactic| walk_at "wt") => `(tactic| (apply w_tst; (case h => walk_at "fe"); (case e => walk_at "ev")))
local macro_rules | `(tactic| walk_at "wi") => `(tactic| (apply w_it; (case h => walk_at "fe"); (case e => walk_at "ev")))
local macro_rules | `(tactic| walk_at "qs") => `(tactic| (apply q_set; (case h => walk_at "fe"); (case e => walk_at "ev")))
local macro_rules | `(tactic| walk_at "qn") => `(tactic| (apply q_no; (case h => walk_at "fe"); (case e => walk_at "ev")))
local macro_rules | `(tactic| walk_at "wr") => `(tactic| (apply w_ret; (case h => walk_at "fe"); (case e => walk_at "ev")))
local macro_rules | `(tactic| walk_at "sp") => `(tactic| (apply s_callP; (apply w_args; (case h => walk_at "fe"); (case e => walk_at "ev"))))
local macro_rules | `(tactic| walk_at "st") => `(tactic| first
  | refine ⟨_, rfl, ?_⟩
  | refine ⟨rfl, ?_⟩
  | refine ⟨by decide, ?_⟩
  | refine ⟨by simp only [List.length_cons, List.length_nil]; decide, ?_⟩)
end RC
end
section
namespace RC
open PySem PySem.Spec L2 RR
open PyProof.Rows hiding St cutD
structure WRow (parts : Nat) (goals : List Nat) (w : Str) (r : Row) : Prop where
  w : r.w = w
  ok : r.ok = true
  far : r.isFar = true → r.num < (parts : Int)
  jump : r.isJump = true → ∃ g ∈ goals, r.num = (g : Int)
end RC
end
section
namespace RC
open PySem PySem.Spec L2 RR
open PyProof.Rows hiding St cutD
def Word8 (w : Str) : Prop := w = "plain" ∨ w = "branch" ∨ w = "load" ∨ w = "align" ∨ w = "stop" ∨ w = "jump" ∨ w = "far" ∨ w = "word"
theorem word8_ok {w : Str} (h : Word8 w) : PyData.strOk w = true := by
  rcases h with rfl | rfl | rfl | rfl | rfl | rfl | rfl | rfl <;> decide +kernel
theorem lay_words : ∀ {ws : List Str}, (∀ w ∈ ws, Word8 w) → PyData.plainAll (ws.map .str) = true ∧ PyData.canLayAll0 (ws.map .str) = true
  | [], _ => ⟨by simp only [List.map_nil, PyData.plainAll], by simp only [List.map_nil, PyData.canLayAll0]⟩
  | w :: ws, h => by
    obtain ⟨a, b⟩ := lay_words fun x hx => h x (List.mem_cons_of_mem _ hx)
    have := word8_ok (h w (List.mem_cons_self ..))
    exact ⟨by rw [List.map_cons, PyData.plainAll, a]; simp [PyData.plain], by rw [List.map_cons, PyData.canLayAll0, b]; simp [PyData.canLay0, this]⟩
theorem cnt_words {ws : List Str} (h : ∀ w ∈ ws, Word8 w) {x : Str} (hx : Word8 x) : dCnt (.list (ws.map .str)) (.str x) = some (.int ((ws.countP fun w => decide (w = x) : Nat) : Int)) := by
  obtain ⟨a, b⟩ := lay_words h
  have ls : Lay 0 (.str x) := Lay.str (word8_ok hx)
  show (if _ then _ else _) = _
  rw [if_pos ⟨a, b, by simp [PyData.plain], ls.shaped (by decide), by have := ls.dep; omega⟩]
  rw [List.countP_map]
  congr 3
def goalsW (ws : List Str) : List Nat := (ws.zipIdx.filter fun q : Str × Nat => !decide (q.1 = ("word" : Str))).map (·.2)
theorem goalsW_mem {ws : List Str} {g : Nat} (h : g ∈ goalsW ws) : ∃ w, ws[g]? = some w ∧ w ≠ ("word" : Str) := by
  obtain ⟨⟨w, i⟩, h1, rfl⟩ := List.mem_map.mp h
  obtain ⟨h2, h3⟩ := List.mem_filter.mp h1
  exact ⟨w, List.mem_zipIdx_iff_getElem?.mp h2, by simpa using h3⟩
theorem goalsW_len (ws : List Str) : (goalsW ws).length ≤ ws.length := by
  unfold goalsW
  rw [List.length_map]
  refine Nat.le_trans (List.length_filter_le _ _) ?_
  rw [List.length_zipIdx]; exact Nat.le_refl _
theorem goalsW_pos {ws : List Str} (h1 : ws ≠ []) (h : shunW true ws = true) : 1 ≤ (goalsW ws).length := by
  cases ws with
  | nil => exact absurd rfl h1
  | cons w ws =>
    rw [shunW, Bool.true_and, Bool.and_eq_true] at h
    have hw : ¬ w = ("word" : Str) := by
      rintro rfl
      exact absurd h.1 (by decide +kernel)
    have : 0 ∈ goalsW (w :: ws) := List.mem_map.mpr ⟨(w, 0), List.mem_filter.mpr ⟨List.mem_zipIdx_iff_getElem?.mpr rfl, by simpa using hw⟩, rfl⟩
    exact List.length_pos_of_mem this
structure WOk (ws : List Str) : Prop where
  ne : ws ≠ []
  len : ws.length ≤ 10
  shun : shunW true ws = true
  mem : ∀ w ∈ ws, Word8 w
  few : (∀ w ∈ ws, ¬ w = ("align" : Str)) ∨ (ws.countP fun w : Str => w == ("jump" : Str) || w == ("branch" : Str)) ≤ 3
theorem count_or {ws : List Str} (p q : Str → Bool) : (ws.countP fun w => p w || q w) ≤ ws.countP p + ws.countP q := by
  induction ws with
  | nil => exact Nat.le_refl _
  | cons w ws ih =>
    rw [List.countP_cons, List.countP_cons, List.countP_cons]
    cases p w <;> cases q w <;> simp <;> omega
end RC
end
section
namespace RC
open PySem PySem.Spec L2 RR
open PyProof.Rows hiding St cutD
def sm1 (g : Bool) : List Str := if g = true then ["stop", "jump", "jump", "far"] else ["stop", "jump", "jump", "far", "word", "word"]
def sm2 (g : Bool) (more : Bool) : List Str := if more = true then sm1 g ++ (["plain", "plain", "branch", "branch", "load", "load"] : List Str) else sm1 g
theorem sm2_word {g more : Bool} {w : Str} (h : w ∈ sm2 g more) : Word8 w ∧ ¬ w = ("align" : Str) ∧ (g = true → (w == ("word" : Str)) = false) ∧ (more = false → goW w = false) := by
  cases g <;> cases more <;> (unfold sm2 sm1 at h; simp at h) <;> (unfold Word8; rcases h with rfl | h) <;> (try rcases h with rfl | h) <;> (try rcases h with rfl | h) <;> (try rcases h with rfl | h) <;> (try rcases h with rfl | h) <;> (try rcases h with rfl | h) <;> (try subst h) <;> exact ⟨by simp, by decide +kernel, by decide +kernel, by decide +kernel⟩
end RC
end
section
namespace RC
open PySem PySem.Spec L2 RR
open PyProof.Rows hiding St cutD
structure AwI (many : Nat) (ws : List Str) : Prop where
  mem : ∀ w ∈ ws, Word8 w
  even : ∀ w ∈ ws, ¬ w = ("align" : Str)
  pre : okPre true ws = true
  last : ws.length = many → lastGo true ws = false
theorem AwI.snoc {many : Nat} {ws : List Str} (I : AwI many ws) (hl : ws.length < many) {w : Str} (hw : w ∈ sm2 (lastGo true ws) (decide ((ws.length : Int) < (many : Int) - 1))) : AwI many (ws ++ [w]) := by
  obtain ⟨w1, w2, w3, w4⟩ := sm2_word hw
  refine ⟨fun x hx => ?_, fun x hx => ?_, ?_, fun e => ?_⟩
  · rcases List.mem_append.mp hx with hx | hx
    · exact I.mem x hx
    · rw [List.mem_singleton.mp hx]; exact w1
  · rcases List.mem_append.mp hx with hx | hx
    · exact I.even x hx
    · rw [List.mem_singleton.mp hx]; exact w2
  · rw [pre_snoc, I.pre, Bool.true_and]
    cases hg : lastGo true ws with
    | false => rfl
    | true => rw [w3 hg]; rfl
  · rw [go_snoc]
    rw [List.length_append, List.length_singleton] at e
    exact w4 (decide_eq_false (by omega))
theorem AwI.ok {many : Nat} {ws : List Str} (I : AwI many ws) (h1 : 1 ≤ many) (h2 : many ≤ 10) (e : ws.length = many) : WOk ws :=
  ⟨fun z => by rw [z, List.length_nil] at e; omega, by omega, by rw [shun_pre, I.pre, I.last e]; rfl, I.mem, .inl I.even⟩
end RC
end
section
namespace RC
open PySem PySem.Spec L2 RR
open PyProof.Rows hiding St cutD
abbrev apB : MS := (mIfS (mTest (mOp dEq (mVar 8) (mC (.str "plain")))) (mAppend 6 (mTup (mCons (mVar 8) (mCons (mOp dAdd (mC (.int 1)) (mCallP m__law_take_v3 (mCons (mC (.int 9)) mNil))) (mCons (mCallP m__law_take_v3 (mCons (mC (.int 4)) mNil)) mNil))))) (mIfS (mTest (mOp dIn (mVar 8) (mTup (mCons (mC (.str "jump")) (mCons (mC (.str "branch")) mNil))))) (mAppend 6 (mTup (mCons (mVar 8) (mCons (mCallP m__law_one_of_v2 (mCons (mVar 5) mNil)) mNil)))) (mIfS (mTest (mOp dEq (mVar 8) (mC (.str "align")))) (mAppend 6 (mTup (mCons (mVar 8) (mCons (mCallP m__law_one_of_v2 (mCons (mLst (mCons (mC (.int 2)) (mCons (mC (.int 4)) (mCons (mC (.int 8)) (mCons (mC (.int 16)) mNil))))) mNil)) mNil)))) (mIfS (mTest (mOp dEq (mVar 8) (mC (.str "stop")))) (mAppend 6 (mTup (mCons (mVar 8) (mCons (mOp dAdd (mC (.int 1)) (mCallP m__law_take_v3 (mCons (mC (.int 6)) mNil))) mNil)))) (mAppend 6 (mTup (mCons (mVar 8) (mCons (mCallP m__law_take_v3 (mCons (mIf (mTest (mOp dEq (mVar 8) (mC (.str "far")))) (mVar 1) (mC (.int 3))) mNil)) mNil))))))))
theorem fa_Pl : FT (mTest (mOp dEq (mVar 8) (mC (.str "plain")))) (vTest (vOp dEq (vVar 8) (vC (.str "plain")))) := f_Test (f_Op f_Var f_C)
theorem fa_Ju : FT (mTest (mOp dIn (mVar 8) (mTup (mCons (mC (.str "jump")) (mCons (mC (.str "branch")) mNil))))) (vTest (vOp dIn (vVar 8) (vTup (vCons (vC (.str "jump")) (vCons (vC (.str "branch")) vNil))))) := f_Test (f_Op f_Var (f_Tup (f_Cons f_C (f_Cons f_C f_Nil))))
theorem fa_Al : FT (mTest (mOp dEq (mVar 8) (mC (.str "align")))) (vTest (vOp dEq (vVar 8) (vC (.str "align")))) := f_Test (f_Op f_Var f_C)
theorem fa_St : FT (mTest (mOp dEq (mVar 8) (mC (.str "stop")))) (vTest (vOp dEq (vVar 8) (vC (.str "stop")))) := f_Test (f_Op f_Var f_C)
theorem fa_Fa : FT (mTest (mOp dEq (mVar 8) (mC (.str "far")))) (vTest (vOp dEq (vVar 8) (vC (.str "far")))) := f_Test (f_Op f_Var f_C)
end RC
end
section
namespace RC
open PySem PySem.Spec L2 RR
open PyProof.Rows hiding St cutD
abbrev Pl := List (Nat × Nat)
def plD (q : Nat × Nat) : D := .tuple [natD q.1, natD q.2]
def plVals (pl : Pl) (k : Nat) : List Nat := (pl.filter fun q => decide (q.1 = k + 1)).map (·.2)
def behindR (pl : Pl) (k : Nat) (r : Row) : Part := (if (!(plVals pl k).isEmpty && r.goesOn) = true then [Row.jump ((k + 1 : Nat) : Int)] else []) ++ (plVals pl k).map fun v : Nat => Row.word (v : Int)
def putR (pl : Pl) : Nat → Part → Part
  | _, [] => []
  | k, r :: rs => r :: behindR pl k r ++ putR pl (k + 1) rs
def putT (pl : Pl) : Nat → Nat → Part → List Nat
  | _, _, [] => []
  | k, a, r :: rs => a :: putT pl (k + 1) (a + (1 + (behindR pl k r).length)) rs
theorem apnd_of {i : Nat} {a : VE} {Γ : DEnv} {ds : List D} {d : D} (h : vVar i Γ = some (.list ds)) (k : a Γ = some d) (l : ds.length < lim) : vAppend i a Γ = some (.nx (Γ.set i (some (.list (ds ++ [d]))))) := by
  unfold vAppend
  rw [h, Option.bind_some]
  show Option.bind (some ds) _ = _
  rw [Option.bind_some, k, Option.bind_some, if_pos l]
theorem extd_of {i : Nat} {a : VE} {Γ : DEnv} {ds ys : List D} (h : listAt i Γ = some ds) (k : a Γ = some (.list ys)) (l : ds.length + ys.length ≤ lim) : vExtend i a Γ = some (.nx (Γ.set i (some (.list (ds ++ ys))))) := by
  unfold vExtend
  rw [h, Option.bind_some, k, Option.bind_some]
  show Option.bind (some ys) _ = _
  rw [Option.bind_some, if_pos l]
def pwE (p : Part) (pl : Pl) (acc : Part) (tab : List Nat) (x4 x5 x6 : Option D) : DEnv := [some (pd p), some (.list (pl.map plD)), some (.list (acc.map Row.d)), some (.list (tab.map natD)), x4, x5, x6, none, none]
abbrev pwB : VS := (vSeqS (vAppend 3 (vLook (vCl cLen (vCons (vVar 2) vNil)))) (vSeqS (vAppend 2 (vVar 5)) (vSeqS (vSet 6 (vLc (vISeq (vVar 1)) (vgTup 2 (vgCons (vgName 7) (vgCons (vgName 8) vgNil))) (vTest (vOp dEq (vVar 7) (vOp dAdd (vVar 4) (vC (.int 1))))) (vVar 8) [7, 8])) (vSeqS (vIfS (vAnd (vTru (vVar 6)) (vTest (vOp dIn (vOp dIx (vVar 5) (vC (.int 0))) (vC c_GOING_ON)))) (vAppend 2 (vTup (vCons (vC (.str "jump")) (vCons (vOp dAdd (vVar 4) (vC (.int 1))) vNil)))) vNext) (vExtend 2 (vLc (vISeq (vVar 6)) (vgName 8) vYes (vTup (vCons (vC (.str "word")) (vCons (vVar 8) vNil))) [8]))))))
theorem pw_set2 {p : Part} {pl : Pl} {acc more : Part} {tab : List Nat} {x4 x5 x6 : Option D} {ys : List D} (h : ys = more.map Row.d) : (pwE p pl acc tab x4 x5 x6).set 2 (some (.list (acc.map Row.d ++ ys))) = pwE p pl (acc ++ more) tab x4 x5 x6 := by
  subst h
  unfold pwE
  rw [List.map_append]; rfl
theorem pw_turn {p : Part} {pl : Pl} {acc : Part} {tab : List Nat} {k : Nat} {r : Row} {x6 : Option D} (hp : pl.length ≤ 100) (ha : acc.length ≤ 800) (ht : tab.length ≤ 800) :
    pwB (pwE p pl acc tab (some (natD k)) (some r.d) x6) = some (.nx (pwE p pl (acc ++ r :: behindR pl k r) (tab ++ [acc.length]) (some (natD k)) (some r.d) (some (.list ((plVals pl k).map natD))))) := by
  have vl : (plVals pl k).length ≤ 100 := by
    unfold plVals
    rw [List.length_map]
    exact Nat.le_trans (List.length_filter_le _ _) hp
  have s1 : vAppend 3 (vLook (vCl cLen (vCons (vVar 2) vNil))) (pwE p pl acc tab (some (natD k)) (some r.d) x6) = some (.nx (pwE p pl acc (tab ++ [acc.length]) (some (natD k)) (some r.d) x6)) := by
    refine (apnd_of (d := natD acc.length) rfl (o_look ?_ rfl) (by rw [List.length_map]; exact Nat.lt_of_le_of_lt ht (by decide))).trans ?_
    · show some (PyData.int (((acc.map Row.d).length : Nat) : Int)) = _
      rw [List.length_map]; rfl
    · unfold pwE
      rw [List.map_append]; rfl
  have s2 : vAppend 2 (vVar 5) (pwE p pl acc (tab ++ [acc.length]) (some (natD k)) (some r.d) x6) = some (.nx (pwE p pl (acc ++ [r]) (tab ++ [acc.length]) (some (natD k)) (some r.d) x6)) := by
    refine (apnd_of (d := r.d) rfl rfl (by rw [List.length_map]; exact Nat.lt_of_le_of_lt ha (by decide))).trans ?_
    exact congrArg (fun Γ => some (Rs.nx Γ)) (pw_set2 (more := [r]) (ys := [r.d]) rfl)
  have s3 : vSet 6 (vLc (vISeq (vVar 1)) (vgTup 2 (vgCons (vgName 7) (vgCons (vgName 8) vgNil))) (vTest (vOp dEq (vVar 7) (vOp dAdd (vVar 4) (vC (.int 1))))) (vVar 8) [7, 8]) (pwE p pl (acc ++ [r]) (tab ++ [acc.length]) (some (natD k)) (some r.d) x6) = some (.nx (pwE p pl (acc ++ [r]) (tab ++ [acc.length]) (some (natD k)) (some r.d) (some (.list ((plVals pl k).map natD))))) := by
    refine (vSet_of (d := .list ((plVals pl k).map natD)) ?_).trans rfl
    refine (vLc_of (ds := pl.map plD) rfl (by rw [List.length_map]; exact Nat.le_trans hp (by decide)) (vcomp_filterOf plD (fun q : Nat × Nat => decide (q.1 = k + 1)) (fun q => natD q.2) fun q _ => ⟨_, rfl, vTest_of ?_, fun _ => rfl⟩)).trans ?_
    · refine (vOp_of (x := natD q.1) (y := .int ((k : Int) + 1)) rfl rfl).trans ((dEq_int _ _).trans ?_)
      congr 2
      exact decide_eq_decide.mpr (by omega)
    · unfold plVals
      rw [List.map_map]; rfl
  have c4 : vAnd (vTru (vVar 6)) (vTest (vOp dIn (vOp dIx (vVar 5) (vC (.int 0))) (vC c_GOING_ON))) (pwE p pl (acc ++ [r]) (tab ++ [acc.length]) (some (natD k)) (some r.d) (some (.list ((plVals pl k).map natD)))) = some (!(plVals pl k).isEmpty && r.goesOn) := by
    refine vAnd_of ?_ fun _ => vTest_of ((vOp_of (at0 (r := r) rfl) rfl).trans (w_goes r))
    show some (!((plVals pl k).map natD).isEmpty) = _
    rw [List.isEmpty_map]
  have s5 : ∀ acc' : Part, acc'.length ≤ 810 → vExtend 2 (vLc (vISeq (vVar 6)) (vgName 8) vYes (vTup (vCons (vC (.str "word")) (vCons (vVar 8) vNil))) [8]) (pwE p pl acc' (tab ++ [acc.length]) (some (natD k)) (some r.d) (some (.list ((plVals pl k).map natD)))) = some (.nx (pwE p pl (acc' ++ (plVals pl k).map fun v : Nat => Row.word (v : Int)) (tab ++ [acc.length]) (some (natD k)) (some r.d) (some (.list ((plVals pl k).map natD))))) := fun acc' hl => by
    refine (extd_of (ds := acc'.map Row.d) (ys := ((plVals pl k).map fun v : Nat => Row.word (v : Int)).map Row.d) rfl ?_ (by rw [List.length_map, List.length_map, List.length_map]; exact Nat.le_trans (show _ ≤ 1000 by omega) (by decide))).trans ?_
    · refine (vLc_of (ds := (plVals pl k).map natD) rfl (by rw [List.length_map]; exact Nat.le_trans vl (by decide)) (vcomp_mapOf natD (fun v : Nat => (Row.word (v : Int)).d) fun v _ => ⟨_, rfl, rfl, rfl⟩)).trans ?_
      rw [List.map_map]; rfl
    · rw [pw_set2 rfl]
  refine vSeq_nx s1 (vSeq_nx s2 (vSeq_nx s3 ?_))
  unfold behindR
  by_cases hc : (!(plVals pl k).isEmpty && r.goesOn) = true
  · rw [if_pos hc]
    refine vSeq_nx (Γ1 := pwE p pl (acc ++ [r] ++ [Row.jump ((k + 1 : Nat) : Int)]) (tab ++ [acc.length]) (some (natD k)) (some r.d) (some (.list ((plVals pl k).map natD)))) (vIfS_t (c4.trans (by rw [hc])) ?_) ?_
    · refine (apnd_of (ds := (acc ++ [r]).map Row.d) (d := (Row.jump ((k + 1 : Nat) : Int)).d) rfl ?_ (by rw [List.length_map, List.length_append, List.length_singleton]; exact Nat.lt_of_le_of_lt (show _ ≤ 801 by omega) (by decide))).trans ?_
      · exact (vTup_of (vCons_of rfl (vCons_of rfl rfl)) (by show 2 ≤ lim; decide)).trans rfl
      · exact congrArg (fun Γ => some (Rs.nx Γ)) (pw_set2 (more := [Row.jump ((k + 1 : Nat) : Int)]) (ys := [(Row.jump ((k + 1 : Nat) : Int)).d]) rfl)
    · refine (s5 _ (by rw [List.length_append, List.length_append, List.length_singleton, List.length_singleton]; omega)).trans ?_
      rw [List.append_assoc, List.append_assoc]; rfl
  · rw [if_neg hc]
    refine vSeq_nx (Γ1 := pwE p pl (acc ++ [r]) (tab ++ [acc.length]) (some (natD k)) (some r.d) (some (.list ((plVals pl k).map natD)))) (vIfS_f (c4.trans (by rw [Bool.eq_false_iff.mpr hc])) rfl) ?_
    refine (s5 _ (by rw [List.length_append, List.length_singleton]; omega)).trans ?_
    rw [List.append_assoc]; rfl
theorem pw_loop (p : Part) (pl : Pl) (hp : pl.length ≤ 100) : ∀ (rs : Part) (k : Nat) (acc : Part) (tab : List Nat) (x4 x5 x6 : Option D), acc.length + (putR pl k rs).length ≤ 800 → tab.length + rs.length ≤ 800 →
    ∃ y4 y5 y6, vfor (vgTup 2 (vgCons (vgName 4) (vgCons (vgName 5) vgNil))) pwB ((rs.zipIdx k).map fun q => .tuple [.int (q.2 : Int), q.1.d]) (pwE p pl acc tab x4 x5 x6) = some (.nx (pwE p pl (acc ++ putR pl k rs) (tab ++ putT pl k acc.length rs) y4 y5 y6))
  | [], k, acc, tab, x4, x5, x6, _, _ => ⟨x4, x5, x6, by rw [putR, putT, List.append_nil, List.append_nil]; rfl⟩
  | r :: rs, k, acc, tab, x4, x5, x6, ha, ht => by
    rw [putR, List.length_append, List.length_cons] at ha
    rw [List.length_cons] at ht
    obtain ⟨y4, y5, y6, ih⟩ := pw_loop p pl hp rs (k + 1) (acc ++ r :: behindR pl k r) (tab ++ [acc.length]) (some (natD k)) (some r.d) (some (.list ((plVals pl k).map natD))) (by rw [List.length_append, List.length_cons]; omega) (by rw [List.length_append, List.length_singleton]; omega)
    refine ⟨y4, y5, y6, ?_⟩
    rw [List.zipIdx_cons, List.map_cons]
    unfold vfor
    have e1 : vgTup 2 (vgCons (vgName 4) (vgCons (vgName 5) vgNil)) (.tuple [.int ((r, k).2 : Int), (r, k).1.d]) (pwE p pl acc tab x4 x5 x6) = some (pwE p pl acc tab (some (natD k)) (some r.d) x6) := rfl
    rw [e1, Option.bind_some, pw_turn hp (by omega) (by omega), Option.bind_some]
    refine ih.trans ?_
    rw [putR, putT, List.append_assoc, List.append_assoc, List.length_append, List.length_cons, Nat.add_comm (behindR pl k r).length 1]; rfl
def renR (tab : List Nat) : Row → Row
  | .jump g => .jump ((tab.getD g.toNat 0 : Nat) : Int)
  | .branch g => .branch ((tab.getD g.toNat 0 : Nat) : Int)
  | r => r
theorem ix_tab {tab : List Nat} {g : Nat} (h : g < tab.length) : dIx (.list (tab.map natD)) (.int (g : Int)) = some (natD (tab.getD g 0)) := by
  refine atI_nat ?_
  rw [List.getElem?_map, List.getElem?_eq_getElem h, List.getD_eq_getElem?_getD, List.getElem?_eq_getElem h]; rfl
theorem v_renumbered_eq (tab : List Nat) (r : Row) (h : r.isJump = true → ∃ g : Nat, r.num = (g : Int) ∧ g < tab.length) : v_renumbered [r.d, .list (tab.map natD)] = some (renR tab r).d := by
  refine vFun_of rfl ?_
  have c : vTest (vOp dIn (vOp dIx (vVar 0) (vC (.int 0))) (vC c_JUMPS)) [some r.d, some (.list (tab.map natD))] = some r.isJump := vTest_of ((vOp_of (at0 (r := r) rfl) rfl).trans (w_jumps r))
  cases hr : r.isJump with
  | false =>
    refine vSeq_nx (Γ1 := [some r.d, some (.list (tab.map natD))]) (vIfS_f (c.trans (by rw [hr])) rfl) (vRet_of ?_)
    cases r <;> first | rfl | cases hr
  | true =>
    obtain ⟨g, hg, hl⟩ := h hr
    refine vSeq_rt (vIfS_t (c.trans (by rw [hr])) (vRet_of ?_))
    refine (vTup_of (vCons_of (at0 (r := r) rfl) (vCons_of ((vOp_of (x := .list (tab.map natD)) rfl ((at1 (r := r) rfl).trans (by rw [hg]))).trans (ix_tab hl)) rfl)) (by show 2 ≤ lim; decide)).trans ?_
    cases r with
    | jump x => cases hg; rfl
    | branch x => cases hg; rfl
    | _ => cases hr
def putTab (p : Part) (pl : Pl) : List Nat := putT pl 0 0 p
def putW (p : Part) (pl : Pl) : Part := (putR pl 0 p).map (renR (putTab p pl))
end RC
end
section
namespace RC
open PySem PySem.Spec L2 RR
open PyProof.Rows hiding St cutD
theorem putT_len (pl : Pl) : ∀ (rs : Part) (k a : Nat), (putT pl k a rs).length = rs.length
  | [], k, a => rfl
  | r :: rs, k, a => by rw [putT, List.length_cons, List.length_cons, putT_len pl rs]
theorem put_mem (pl : Pl) : ∀ (rs : Part) (k : Nat) (r : Row), r ∈ putR pl k rs → r ∈ rs ∨ (∃ q ∈ pl, r = Row.word ((q.2 : Nat) : Int)) ∨ ∃ i q, rs[i]? = some q ∧ q.goesOn = true ∧ r = Row.jump ((k + i + 1 : Nat) : Int)
  | [], k, r, h => nomatch h
  | x :: rs, k, r, h => by
    rw [putR] at h
    rcases List.mem_append.mp h with h | h
    · rcases List.mem_cons.mp h with rfl | h
      · exact .inl (List.mem_cons_self ..)
      · unfold behindR at h
        rcases List.mem_append.mp h with h | h
        · by_cases c : (!(plVals pl k).isEmpty && x.goesOn) = true
          · rw [if_pos c] at h
            rw [List.mem_singleton] at h
            rw [Bool.and_eq_true] at c
            exact .inr (.inr ⟨0, x, rfl, c.2, h⟩)
          · rw [if_neg c] at h
            exact nomatch h
        · obtain ⟨v, hv, rfl⟩ := List.mem_map.mp h
          obtain ⟨q, hq, rfl⟩ := List.mem_map.mp hv
          exact .inr (.inl ⟨q, (List.mem_filter.mp hq).1, rfl⟩)
    · rcases put_mem pl rs (k + 1) r h with h | h | ⟨i, q, h1, h2, h3⟩
      · exact .inl (List.mem_cons_of_mem _ h)
      · exact .inr (.inl h)
      · refine .inr (.inr ⟨i + 1, q, by rw [List.getElem?_cons_succ]; exact h1, h2, ?_⟩)
        rw [h3, show k + 1 + i + 1 = k + (i + 1) + 1 by omega]
theorem shun_next : ∀ (rs : Part) (g : Bool) (i : Nat) (q : Row), shunR g rs = true → rs[i]? = some q → q.goesOn = true → ∃ z, rs[i + 1]? = some z ∧ z.isWord = false
  | [], g, i, q, _, h, _ => by simp at h
  | r :: rs, g, 0, q, s, h, hg => by
    rw [List.getElem?_cons_zero] at h
    cases h
    rw [shunR, Bool.and_eq_true, hg] at s
    cases rs with
    | nil => exact absurd s.2 (by decide)
    | cons z zs =>
      have s2 := s.2
      rw [shunR, Bool.and_eq_true, Bool.true_and, Bool.not_eq_true'] at s2
      exact ⟨z, rfl, s2.1⟩
  | r :: rs, g, i + 1, q, s, h, hg => by
    rw [List.getElem?_cons_succ] at h
    rw [shunR, Bool.and_eq_true] at s
    obtain ⟨z, h1, h2⟩ := shun_next rs _ i q s.2 h hg
    exact ⟨z, by rw [List.getElem?_cons_succ]; exact h1, h2⟩
end RC
end
section
namespace RC
open PySem PySem.Spec L2 RR
open PyProof.Rows hiding St cutD
theorem behind_len (pl : Pl) (k : Nat) (r : Row) : (behindR pl k r).length ≤ 2 * (plVals pl k).length := by
  unfold behindR
  rw [List.length_append, List.length_map]
  cases hv : plVals pl k with
  | nil => exact Nat.le_refl _
  | cons v vs =>
    rw [List.length_cons]
    split <;> simp only [List.length_cons, List.length_nil] <;> omega
theorem vals_len (pl : Pl) (k : Nat) : (plVals pl k).length + (pl.filter fun q => decide (k + 2 ≤ q.1)).length = (pl.filter fun q => decide (k + 1 ≤ q.1)).length := by
  unfold plVals
  rw [List.length_map]
  induction pl with
  | nil => rfl
  | cons q qs ih =>
    rw [List.filter_cons, List.filter_cons, List.filter_cons]
    by_cases c : q.1 = k + 1
    · rw [if_pos (decide_eq_true c), if_neg (by rw [decide_eq_true_eq]; omega), if_pos (by rw [decide_eq_true_eq]; omega), List.length_cons, List.length_cons]
      omega
    · by_cases c2 : k + 2 ≤ q.1
      · rw [if_neg (by rw [decide_eq_true_eq]; exact c), if_pos (decide_eq_true c2), if_pos (by rw [decide_eq_true_eq]; omega), List.length_cons, List.length_cons]
        omega
      · rw [if_neg (by rw [decide_eq_true_eq]; exact c), if_neg (by rw [decide_eq_true_eq]; exact c2), if_neg (by rw [decide_eq_true_eq]; omega)]
        exact ih
theorem put_len (pl : Pl) : ∀ (rs : Part) (k : Nat), (putR pl k rs).length ≤ rs.length + 2 * (pl.filter fun q => decide (k + 1 ≤ q.1)).length
  | [], k => Nat.zero_le _
  | r :: rs, k => by
    have h1 := behind_len pl k r
    have h2 := put_len pl rs (k + 1)
    have h3 := vals_len pl k
    rw [putR, List.length_append, List.length_cons, List.length_cons]
    rw [show k + 1 + 1 = k + 2 from rfl] at h2
    omega
end RC
end
section
namespace RC
open PySem PySem.Spec L2 RR
open PyProof.Rows hiding St cutD
def ltPl (a b : Nat × Nat) : Bool := decide (a.1 < b.1 ∨ (a.1 = b.1 ∧ a.2 < b.2))
theorem dLtA_pl (a b : Nat × Nat) : dLtA (plD a) (plD b) = some (.bool (ltPl a b)) := by
  have e : PySem.W.dataLt (plD a) (plD b) = ltPl a b := by
    refine (PySem.W.dataLt_ii (a.1 : Int) a.2 b.1 b.2).trans ?_
    unfold ltPl
    exact decide_eq_decide.mpr (by omega)
  unfold dLtA
  rw [if_pos ⟨by simp [plD, natD, PySem.W.alike, PySem.W.alikeAll], rfl, by simp [plD, natD, PyData.canLay0, PyData.canLayAll0], by simp [plD, natD, PyData.canLay0, PyData.canLayAll0], by simp [plD, natD, PyData.depth, PyData.depthAll]⟩, e]
def ascPl (pl : Pl) : Bool := (pl.zip pl.tail).all fun z => ltPl z.1 z.2
theorem v_is_ascending_pl (xs : Pl) (hl : xs.length ≤ 1000) : v_is_ascending_v2 [.list (xs.map plD)] = some (.bool (ascPl xs)) := by
  refine vFun_of rfl (vRet_of ?_)
  have z : vIZ (vCons (vVar 0) (vCons (vSl (vVar 0) (vPart (vC (.int 1))) vNoPart) vNil)) (startD ["members", "member", "behind"] ([PyData.list (xs.map plD)].map some)) = some ((xs.zip xs.tail).map fun q => .tuple [plD q.1, plD q.2]) := by
    have c : dSl (some 1) none (.list (xs.map plD)) = some (.list (xs.tail.map plD)) := by
      show some (PyData.list (RR.cutD _ (some 1) none)) = _
      unfold RR.cutD
      have e1 : HT.sIx (xs.map plD).length 0 (some 1) = min 1 (xs.map plD).length := HT.sIx_nat _ _ 1
      have e2 : HT.sIx (xs.map plD).length (xs.map plD).length none = (xs.map plD).length := rfl
      rw [e1, e2]
      cases xs with
      | nil => rfl
      | cons x xs =>
        simp only [List.map_cons, List.length_cons, List.tail_cons, List.length_map]
        rw [show min 1 (xs.length + 1) = 1 by omega]
        simp [List.take_of_length_le]
    have : vCons (vVar 0) (vCons (vSl (vVar 0) (vPart (vC (.int 1))) vNoPart) vNil) (startD ["members", "member", "behind"] ([PyData.list (xs.map plD)].map some)) = some [.list (xs.map plD), .list (xs.tail.map plD)] := vCons_of rfl (vCons_of c rfl)
    unfold vIZ
    rw [this, ← zipD_map]; rfl
  refine (vCl_of (vCons_of (vLc_of z (by rw [List.length_map, List.length_zip]; exact Nat.le_trans (Nat.min_le_left _ _) (Nat.le_trans hl (by decide))) (vcomp_mapOf _ (fun q => .bool (ltPl q.1 q.2)) fun q _ => ⟨_, rfl, rfl, ?_⟩)) rfl)).trans (cAll_map _ _)
  exact (vOp_of (x := plD q.1) (y := plD q.2) rfl rfl).trans (dLtA_pl q.1 q.2)
theorem v_are_pairs_pl {n : Nat} (pl : Pl) (hl : pl.length ≤ 100) (hi : ∀ q ∈ pl, 1 ≤ q.1 ∧ q.1 ≤ n ∧ q.2 ≤ 65535) : v_are_pairs [.list (pl.map plD), .tuple [.tuple [.int 1, .int (n : Int)], .tuple [.int 0, .int 65535]]] = some (.bool (ascPl pl)) := by
  refine vFun_of rfl ?_
  have ea : vTest (vCl cAll (vCons (vLc (vISeq (vVar 0)) (vgName 2) vYes (vAndV (vIsi "tuple" (vVar 2)) (vCall v_are_within (vCons (vVar 2) (vCons (vVar 1) vNil)))) [2]) vNil)) (startD ["thing", "bounds", "pair"] ([PyData.list (pl.map plD), .tuple [.tuple [.int 1, .int (n : Int)], .tuple [.int 0, .int 65535]]].map some)) = some true := by
    refine vTest_of ?_
    refine (vCl_of (vCons_of (vLc_of (ds := pl.map plD) rfl (by rw [List.length_map]; exact Nat.le_trans hl (by decide)) (vcomp_mapOf plD (fun _ => .bool true) fun q hq => ⟨_, rfl, rfl, ?_⟩)) rfl)).trans ((cAll_map _ _).trans ?_)
    · refine (vAndV_of (x := true) rfl fun _ => (vCall_of (vCons_of rfl (vCons_of rfl rfl))).trans (v_are_within_eq [natD q.1, natD q.2] [(1, (n : Int)), (0, 65535)] (by show 2 ≤ lim; decide))).trans ?_
      obtain ⟨h1, h2, h3⟩ := hi q hq
      have e1 : withinD (natD q.1) 1 (n : Int) = true := within_t (show (1 : Int) ≤ (q.1 : Int) by omega) (by omega)
      have e2 : withinD (natD q.2) 0 65535 = true := within_t (show (0 : Int) ≤ (q.2 : Int) by omega) (by omega)
      show some (PyData.bool (withinD (natD q.1) 1 (n : Int) && (withinD (natD q.2) 0 65535 && true))) = _
      rw [e1, e2]; rfl
    · congr 2
      exact List.all_eq_true.mpr fun _ _ => rfl
  refine vSeq_nx (vIfS_f rfl rfl) (vSeq_nx (vIfS_f ((vNot_of ea).trans rfl) rfl) (vRet_of ((vCall_of (vCons_of rfl rfl)).trans (v_is_ascending_pl pl (by omega)))))
theorem vt2 {a b : VE} {Γ : DEnv} {x y : D} (h : a Γ = some x) (k : b Γ = some y) : vTup (vCons a (vCons b vNil)) Γ = some (.tuple [x, y]) := vTup_of (vCons_of h (vCons_of k rfl)) (by show 2 ≤ lim; decide)
end RC
end
section
namespace RC
open PySem PySem.Spec L2 RR
open PyProof.Rows hiding St cutD
end RC
end
section
namespace RC
open PySem PySem.Spec L2 RR
open PyProof.Rows hiding St
open PySem.W (alike dataLt dataLe)
end RC
end
section
namespace RC
open PySem PySem.Spec L2 RR
open PyProof.Rows hiding St
end RC
end
section
namespace RC
open PySem PySem.Spec L2 RR
open PyProof.Rows hiding St
end RC
end
section
namespace RC
open PySem PySem.Spec L2 RR
open PyProof.Rows hiding St cutD
end RC
namespace RC
open PySem PySem.Spec L2 RR
open PyProof.Rows hiding St cutD
end RC
end
section
namespace RC
open PySem PySem.Spec L2 RR
open PyProof.Rows hiding St cutD
end RC
end
section
namespace RC
open PySem PySem.Spec L2 RR
open PyProof.Rows hiding St cutD
open PySem.W (alike dataLt dataLe minD)
end RC
end
section
namespace RC
open PySem PySem.Spec L2 RR
open PyProof.Rows hiding St cutD
end RC
end
section
namespace RC
open PySem PySem.Spec L2 RR
open PyProof.Rows hiding St cutD
theorem vFor_of31 {i : VI} {g : VG} {b : VS} {Γ : DEnv} {ds : List D} (h : i Γ = some ds) : vFor i g b Γ = vfor g b ds Γ := by
  unfold vFor
  rw [h, Option.bind_some]
end RC
end
section
namespace RC
open PySem PySem.Spec L2 RR
open PyProof.Rows hiding St cutD
end RC
end
section
namespace RC
open PySem PySem.Spec L2 RR
open PyProof.Rows hiding St cutD
local macro_rules | `(tactic| walk_at "fp") => `(tactic| with_reducible first | exact fp__law_greatest | exact fp__law_chain | exact fp__law_jumps)
local macro_rules | `(tactic| walk_at "fe") => `(tactic| with_reducible first
  | exact f_Var | exact f_C | exact f_Nil | exact f_Dict0 | exact f_NoPart | exact f_Yes | exact f_gName | exact f_gNil | exact f_pNil
  | (apply f_Cl <;> walk_at "fe") | (apply f_Op <;> walk_at "fe") | (apply f_Un <;> walk_at "fe") | (apply f_Cons <;> walk_at "fe")
  | (apply f_Test <;> walk_at "fe") | (apply f_Tru <;> walk_at "fe")
  | (apply f_Call (by walk_at "fp") <;> walk_at "fe") | (apply f_CallK (by walk_at "fp") <;> walk_at "fe")
  | (apply f_Tup <;> walk_at "fe") | (apply f_Lst <;> walk_at "fe") | (apply f_Isi <;> walk_at "fe") | (apply f_Isi2 <;> walk_at "fe")
  | (apply f_Sl <;> walk_at "fe") | (apply f_Part <;> walk_at "fe")
  | (apply f_And <;> walk_at "fe") | (apply f_Or <;> walk_at "fe") | (apply f_Not <;> walk_at "fe")
  | (apply f_AndV <;> walk_at "fe") | (apply f_OrV <;> walk_at "fe") | (apply f_NotV <;> walk_at "fe")
  | (apply f_If <;> walk_at "fe") | (apply f_Chain <;> walk_at "fe") | (apply f_Look <;> walk_at "fe") | (apply f_LookL <;> walk_at "fe") | (apply f_Rev <;> walk_at "fe")
  | (apply f_ISeq <;> walk_at "fe") | (apply f_IEn <;> walk_at "fe") | (apply f_IZ <;> walk_at "fe") | (apply f_IR1 <;> walk_at "fe") | (apply f_IR2 <;> walk_at "fe") | exact f_IKeys | exact f_IVals | exact f_IItems
  | (apply f_gTup <;> walk_at "fe") | (apply f_gCons <;> walk_at "fe") | (apply f_Lc <;> walk_at "fe")
  | (apply f_Disp <;> walk_at "fe") | (apply f_pCons <;> walk_at "fe")
  | (apply f_Seq <;> walk_at "fe") | (apply f_IfS <;> walk_at "fe") | (apply f_Ret <;> walk_at "fe") | exact f_Next | (apply f_Set <;> walk_at "fe") | (apply f_Par <;> walk_at "fe") | (apply f_Asg <;> walk_at "fe") | (apply f_Drop <;> walk_at "fe") | (apply f_Append <;> walk_at "fe") | (apply f_For <;> walk_at "fe"))
local macro_rules | `(tactic| walk_at "len") => `(tactic| first | (simp only [List.length_cons, List.length_nil]; decide) | assumption)
local macro_rules | `(tactic| walk_at "ev") => `(tactic| first
  | with_reducible assumption
  | ((with_reducible apply o2) <;> walk_at "ev") | ((with_reducible apply o1) <;> walk_at "ev") | ((with_reducible apply vCons_of) <;> walk_at "ev") | ((with_reducible apply o_cl) <;> walk_at "ev") | ((with_reducible apply o_call) <;> walk_at "ev")
  | ((with_reducible apply vTest_of) <;> walk_at "ev") | ((with_reducible apply o_tup) <;> first | walk_at "len" | walk_at "ev") | ((with_reducible apply o_lst) <;> first | walk_at "len" | walk_at "ev")
  | ((with_reducible apply vNot_t) <;> walk_at "ev") | ((with_reducible apply vNot_f) <;> walk_at "ev") | ((with_reducible apply vNot_of) <;> walk_at "ev") | ((with_reducible apply vIsi_of) <;> walk_at "ev") | ((with_reducible apply vNotV_of) <;> walk_at "ev") | ((with_reducible apply o_sl) <;> walk_at "ev") | ((with_reducible apply o_part) <;> walk_at "ev")
  | rfl)
local macro_rules | `(tactic| walk_at "we") => `(tactic| (apply w_exp; (case h => walk_at "fe"); (case e => walk_at "ev")))
local macro_rules | `(tactic| walk_at "wa") => `(tactic| (apply w_args; (case h => walk_at "fe"); (case e => walk_at "ev")))
local macro_rules | `(tactic| walk_at "wt") => `(tactic| (apply w_tst; (case h => walk_at "fe"); (case e => walk_at "ev")))
local macro_rules | `(tactic| walk_at "wi") => `(tactic| (apply w_it; (case h => walk_at "fe"); (case e => walk_at "ev")))
local macro_rules | `(tactic| walk_at "qs") => `(tactic| (apply q_set; (case h => walk_at "fe"); (case e => walk_at "ev")))
local macro_rules | `(tactic| walk_at "qn") => `(tactic| (apply q_no; (case h => walk_at "fe"); (case e => walk_at "ev")))
local macro_rules | `(tactic| walk_at "wr") => `(tactic| (apply w_ret; (case h => walk_at "fe"); (case e => walk_at "ev")))
local macro_rules | `(tactic| walk_at "sp") => `(tactic| (apply s_callP; (apply w_args; (case h => walk_at "fe"); (case e => walk_at "ev"))))
theorem tup_row (r : Row) : tupD r.d = true := by cases r <;> rfl
theorem tup_rows : ∀ rs : Part, tupD.tupAll (rs.map Row.d) = true
  | [] => rfl
  | r :: rs => by rw [List.map_cons, tupD.tupAll, tup_row, tup_rows rs]; rfl
theorem tup_part (p : Part) : tupD (pd p) = true := by
  unfold pd
  rw [tupD, tup_rows]
end RC
end
section
namespace RC
open PySem PySem.Spec L2 RR
open PyProof.Rows hiding St cutD
theorem seen_reprX {k w : Nat} {d : D} (h : Seen k w d) (hk : k ≤ 64) (hw : w ≤ 2 ^ 18) : cReprX [d] = some (.str d.shown) := by
  unfold cReprX
  dsimp only
  rw [if_pos (h.rep hk hw)]
end RC
end
section
namespace RC
open PySem PySem.Spec L2 RR
open PyProof.Rows hiding St
end RC
end
section
namespace RC
open PySem PySem.Spec L2 RR
open PyProof.Rows hiding St
end RC
end
section
namespace RC
open PySem PySem.Spec L2 RR
open PyProof.Rows hiding St cutD
structure WOk31 (ws : List Str) : Prop where
  ne : ws ≠ []
  len : ws.length ≤ 14
  shun : shunW true ws = true
  mem : ∀ w ∈ ws, Word8 w
  few : (∀ w ∈ ws, ¬ w = ("align" : Str)) ∨ (ws.countP fun w : Str => w == ("jump" : Str) || w == ("branch" : Str)) ≤ 6
theorem fine31 {ws : List Str} {rs : Part} {parts : Nat} (h : WOk31 ws) (hr : rs.map Row.w = ws) (hw : ∀ r ∈ rs, ∃ w, WRow parts (goalsW ws) w r) : partOk rs = true := by
  have hl : rs.length = ws.length := by rw [← hr, List.length_map]
  have hl10 := h.len
  have hne : 1 ≤ ws.length := List.length_pos_iff.mpr h.ne
  have few : evenP rs = true ∨ (rs.filter Row.isJump).length ≤ 6 := by
    rcases h.few with e | e
    · left
      refine List.all_eq_true.mpr fun r hrm => ?_
      rw [← row_align, Bool.not_eq_true']
      have := e r.w (by rw [← hr]; exact List.mem_map_of_mem hrm)
      simpa using this
    · right
      rw [← hr, List.countP_map] at e
      rw [← List.countP_eq_length_filter]
      refine Nat.le_trans (Nat.le_of_eq (List.countP_congr fun r _ => ?_)) e
      show _ ↔ (r.w == "jump" || r.w == "branch") = true
      rw [row_jump]
  refine of_parts ⟨by omega, by omega, fun r hrm => (hw r hrm).elim fun w x => x.ok, few, fun r hrm hj => ?_, ?_⟩
  · obtain ⟨w, x⟩ := hw r hrm
    obtain ⟨g, hg, e⟩ := x.jump hj
    obtain ⟨z, hz, hzw⟩ := goalsW_mem hg
    rw [e, Int.toNat_natCast]
    rw [← hr, List.getElem?_map] at hz
    cases hq : rs[g]? with
    | none => rw [hq] at hz; cases hz
    | some q =>
      rw [hq] at hz
      cases hz
      refine ⟨q, rfl, ?_⟩
      rw [← row_word]
      simpa using hzw
  · rw [← shun_words, hr]; exact h.shun
def awG (bends : Int) (many : Nat) (ws : List Str) (x4 x5 x6 x7 x8 : Option D) : DEnv := [none, some (.int bends), some (.int (many : Int)), some (.list (ws.map .str)), x4, x5, x6, x7, x8]
def sm3 (g more al : Bool) : List Str := sm2 g more ++ (if (more && al) = true then (["align", "align", "align"] : List Str) else [])
theorem sm3_word {g more al : Bool} {w : Str} (h : w ∈ sm3 g more al) : Word8 w ∧ (al = false → ¬ w = ("align" : Str)) ∧ (g = true → (w == ("word" : Str)) = false) ∧ (more = false → goW w = false) := by
  unfold sm3 at h
  rcases List.mem_append.mp h with h | h
  · obtain ⟨a, b, c, d⟩ := sm2_word h
    exact ⟨a, fun _ => b, c, d⟩
  · cases more with
    | false => exact absurd h (by simp)
    | true =>
      cases al with
      | false => exact absurd h (by simp)
      | true =>
        have : w = ("align" : Str) := by simpa using h
        subst this
        exact ⟨by unfold Word8; simp, (fun z => nomatch z), fun _ => by decide +kernel, (fun z => nomatch z)⟩
def jc31 (ws : List Str) : Int := ((ws.countP fun w : Str => decide (w = ("jump" : Str)) : Nat) : Int) + ((ws.countP fun w : Str => decide (w = ("branch" : Str)) : Nat) : Int)
structure Nxt31 (bends : Int) (many : Nat) (ws : List Str) (w : Str) : Prop where
  w8 : Word8 w
  even : bends = 0 → ¬ w = ("align" : Str)
  word : lastGo true ws = true → (w == ("word" : Str)) = false
  last : decide ((ws.length : Int) < (many : Int) - 1) = false → goW w = false
  few : (w = ("jump" : Str) ∨ w = ("branch" : Str)) → 0 < bends → jc31 ws < bends
abbrev awB31 : MS := (mSeq (mSet 5 (mLook (mOrV (mOp dEq (mVar 4) (mC (.int 0))) (mOp dIn (mOp dIx (mVar 3) (mUn dNeg (mC (.int 1)))) (mTup (mCons (mC (.str "plain")) (mCons (mC (.str "branch")) (mCons (mC (.str "load")) (mCons (mC (.str "align")) mNil))))))))) (mSeq (mSet 6 (mOp dAdd (mLst (mCons (mC (.str "stop")) (mCons (mC (.str "jump")) (mCons (mC (.str "jump")) (mCons (mC (.str "far")) mNil))))) (mIf (mTru (mVar 5)) (mLst mNil) (mLst (mCons (mC (.str "word")) (mCons (mC (.str "word")) mNil)))))) (mSeq (mIfS (mTest (mOp dLt (mVar 4) (mOp dSub (mVar 2) (mC (.int 1))))) (mSeq (mSet 6 (mOp dAdd (mVar 6) (mLst (mCons (mC (.str "plain")) (mCons (mC (.str "plain")) (mCons (mC (.str "branch")) (mCons (mC (.str "branch")) (mCons (mC (.str "load")) (mCons (mC (.str "load")) mNil))))))))) (mSet 6 (mOp dAdd (mVar 6) (mIf (mTest (mOp dGt (mVar 1) (mC (.int 0)))) (mOp dMul (mLst (mCons (mC (.str "align")) mNil)) (mC (.int 3))) (mLst mNil))))) mNext) (mSeq (mSet 7 (mCallP m__law_one_of_v2 (mCons (mVar 6) mNil))) (mSeq (mSet 8 (mLook (mOp dAdd (mCnt (mVar 3) (mC (.str "jump"))) (mCnt (mVar 3) (mC (.str "branch")))))) (mSeq (mIfS (mAnd (mTest (mOp dIn (mVar 7) (mTup (mCons (mC (.str "jump")) (mCons (mC (.str "branch")) mNil))))) (mTest (mChain dGe dGt (mVar 8) (mVar 1) (mC (.int 0))))) (mSet 7 (mIf (mTest (mOp dEq (mVar 7) (mC (.str "jump")))) (mC (.str "stop")) (mC (.str "plain")))) mNext) (mAppend 3 (mVar 7))))))))
theorem aw_turn31 {bends : Int} (hb : bends = 0 ∨ bends = 3 ∨ bends = 6 ∨ bends = 4) {many : Nat} {ws : List Str} {x5 x6 x7 x8 : Option D} {n : Nat} {E : EndsD} (hw : ∀ w ∈ ws, Word8 w) (hl : ws.length ≤ 20) (hm : 1 ≤ many) (hn : n < 990000)
    (k : ∀ w y5 y6 y7 y8, Nxt31 bends many ws w → E.nx (awG bends many (ws ++ [w]) (some (.int (ws.length : Int))) y5 y6 y7 y8) (n + 1)) : awB31 E (awG bends many ws (some (.int (ws.length : Int))) x5 x6 x7 x8) n := by
  have e5 : vOrV (vOp dEq (vVar 4) (vC (.int 0))) (vOp dIn (vOp dIx (vVar 3) (vUn dNeg (vC (.int 1)))) (vTup (vCons (vC (.str "plain")) (vCons (vC (.str "branch")) (vCons (vC (.str "load")) (vCons (vC (.str "align")) vNil)))))) (awG bends many ws (some (.int (ws.length : Int))) x5 x6 x7 x8) = some (.bool (lastGo true ws)) := by
    rcases List.eq_nil_or_concat ws with rfl | ⟨xs, a, rfl⟩
    · exact (vOrV_of (x := true) (y := true) rfl (fun z => nomatch z)).trans rfl
    · rw [List.concat_eq_append] at hw ⊢
      have h0 : dEq (.int ((xs ++ [a]).length : Int)) (.int 0) = some (.bool false) := by
        rw [dEq_int, decide_eq_false]
        rw [List.length_append, List.length_singleton]; omega
      have hg : dIn (.str a) (.tuple [.str "plain", .str "branch", .str "load", .str "align"]) = some (.bool (goW a)) := by
        rcases hw a (by simp) with rfl | rfl | rfl | rfl | rfl | rfl | rfl | rfl <;> rfl
      refine (vOrV_of (x := false) (y := goW a) (o2 rfl rfl h0) fun _ => o2 (o2 rfl rfl (ixEnd PyData.str xs a)) (vTup_of (vCons_of rfl (vCons_of rfl (vCons_of rfl (vCons_of rfl rfl)))) (by show 4 ≤ lim; decide)) hg).trans ?_
      rw [go_snoc, Bool.false_or]
  refine q_set (f_Look (f_OrV (f_Op f_Var f_C) (f_Op (f_Op f_Var (f_Un f_C)) (f_Tup (f_Cons f_C (f_Cons f_C (f_Cons f_C (f_Cons f_C f_Nil)))))))) (o_look e5 rfl) ?_
  generalize hg : lastGo true ws = g at k
  refine q_set (d := .list ((sm1 g).map .str)) (f_Op (f_Lst (f_Cons f_C (f_Cons f_C (f_Cons f_C (f_Cons f_C f_Nil))))) (f_If (f_Tru f_Var) (f_Lst f_Nil) (f_Lst (f_Cons f_C (f_Cons f_C f_Nil))))) (by cases g <;> rfl) ?_
  have al0 : bends = 0 ↔ decide (bends > 0) = false := by rw [decide_eq_false_iff_not]; omega
  have rest : ∀ (more : Bool), more = decide ((ws.length : Int) < (many : Int) - 1) → mSeq (mSet 7 (mCallP m__law_one_of_v2 (mCons (mVar 6) mNil))) (mSeq (mSet 8 (mLook (mOp dAdd (mCnt (mVar 3) (mC (.str "jump"))) (mCnt (mVar 3) (mC (.str "branch")))))) (mSeq (mIfS (mAnd (mTest (mOp dIn (mVar 7) (mTup (mCons (mC (.str "jump")) (mCons (mC (.str "branch")) mNil))))) (mTest (mChain dGe dGt (mVar 8) (mVar 1) (mC (.int 0))))) (mSet 7 (mIf (mTest (mOp dEq (mVar 7) (mC (.str "jump")))) (mC (.str "stop")) (mC (.str "plain")))) mNext) (mAppend 3 (mVar 7)))) E (awG bends many ws (some (.int (ws.length : Int))) (some (.bool g)) (some (.list ((sm3 g more (decide (bends > 0))).map .str))) x7 x8) n := by
    intro more hmore
    have s1 : ∀ al, 1 ≤ (sm3 g more al).length ∧ (sm3 g more al).length ≤ 15 := by intro al; cases g <;> cases more <;> cases al <;> decide
    refine q_setM ?_
    refine sa_one PyData.str (xs := sm3 g more (decide (bends > 0))) (fun Q' q => s_cons (s_var rfl (s_nil q))) (s1 _).1 (by have := (s1 (decide (bends > 0))).2; omega) (by omega) fun w hwm => ?_
    obtain ⟨w8, wa, ww, wl⟩ := sm3_word hwm
    have ec : vOp dAdd (vCnt (vVar 3) (vC (.str "jump"))) (vCnt (vVar 3) (vC (.str "branch"))) (awG bends many ws (some (.int (ws.length : Int))) (some (.bool g)) (some (.list ((sm3 g more (decide (bends > 0))).map .str))) (some (.str w)) x8) = some (.int (jc31 ws)) :=
      o2 (x := .int _) (y := .int _) (Eq.trans rfl (cnt_words hw (x := "jump") (by unfold Word8; simp))) (Eq.trans rfl (cnt_words hw (x := "branch") (by unfold Word8; simp))) rfl
    refine q_set (f_Look (f_Op (f_Cnt f_Var f_C) (f_Cnt f_Var f_C))) (o_look ec rfl) ?_
    have hin : ∃ b, dIn (.str w) (.tuple [.str "jump", .str "branch"]) = some (.bool b) ∧ (b = true ↔ (w = ("jump" : Str) ∨ w = ("branch" : Str))) := by
      rcases w8 with rfl | rfl | rfl | rfl | rfl | rfl | rfl | rfl <;> exact ⟨_, rfl, by decide +kernel⟩
    obtain ⟨b, hin, hb2⟩ := hin
    have app : ∀ w2, Nxt31 bends many ws w2 → mAppend 3 (mVar 7) E (awG bends many ws (some (.int (ws.length : Int))) (some (.bool g)) (some (.list ((sm3 g more (decide (bends > 0))).map .str))) (some (.str w2)) (some (.int (jc31 ws)))) (n + 1) := fun w2 hn2 => by
      refine ⟨ws.map .str, rfl, .str w2, rfl, by rw [List.length_map]; exact Nat.lt_of_le_of_lt hl (by decide), ?_⟩
      have hk := k w2 (some (.bool g)) (some (.list ((sm3 g more (decide (bends > 0))).map .str))) (some (.str w2)) (some (.int (jc31 ws))) hn2
      have ee : (awG bends many ws (some (.int (ws.length : Int))) (some (.bool g)) (some (.list ((sm3 g more (decide (bends > 0))).map .str))) (some (.str w2)) (some (.int (jc31 ws)))).set 3 (some (.list (ws.map .str ++ [.str w2]))) = awG bends many (ws ++ [w2]) (some (.int (ws.length : Int))) (some (.bool g)) (some (.list ((sm3 g more (decide (bends > 0))).map .str))) (some (.str w2)) (some (.int (jc31 ws))) := by
        unfold awG
        rw [List.map_append]; rfl
      have hk2 := ee ▸ hk
      exact hk2
    refine w_seq (w_if (b && (decide (jc31 ws ≥ bends) && decide (bends > 0))) (f_And (f_Test (f_Op f_Var (f_Tup (f_Cons f_C (f_Cons f_C f_Nil))))) (f_Test (f_Chain f_Var f_Var f_C))) ?_ (fun hbc => ?_) fun hbc => ?_)
    · refine vAnd_of (x := b) (y := decide (jc31 ws ≥ bends) && decide (bends > 0)) (vTest_of (o2 rfl (vTup_of (vCons_of rfl (vCons_of rfl rfl)) (by show 2 ≤ lim; decide)) hin)) fun _ => vTest_of ?_
      exact o_chain (x := .int (jc31 ws)) (y := .int bends) (z := .int 0) (k := decide (jc31 ws ≥ bends)) (l := decide (bends > 0)) rfl rfl rfl (fun _ => rfl) fun _ => rfl
    · rw [Bool.and_eq_true] at hbc
      rcases hb2.mp hbc.1 with rfl | rfl
      · refine w_set (d := .str "stop") (f_If (f_Test (f_Op f_Var f_C)) f_C f_C) rfl ?_
        exact app _ ⟨by unfold Word8; simp, fun _ => by decide +kernel, fun _ => by decide +kernel, fun _ => by decide +kernel, fun z => absurd z (by decide +kernel)⟩
      · refine w_set (d := .str "plain") (f_If (f_Test (f_Op f_Var f_C)) f_C f_C) rfl ?_
        exact app _ ⟨by unfold Word8; simp, fun _ => by decide +kernel, fun _ => by decide +kernel, fun z => by
          have := wl (hmore.trans z)
          exact absurd this (by decide +kernel), fun z => absurd z (by decide +kernel)⟩
    · refine app w ⟨w8, fun z => wa (al0.mp z), fun z => ww (hg.symm.trans z), fun z => wl (hmore.trans z), fun z z2 => ?_⟩
      rw [hb2.mpr z, Bool.true_and] at hbc
      simp only [Bool.and_eq_false_iff, decide_eq_false_iff_not] at hbc
      omega
  refine w_seq (w_if (decide ((ws.length : Int) < (many : Int) - 1)) (f_Test (f_Op f_Var (f_Op f_Var f_C))) rfl (fun hmo => ?_) fun hmo => ?_)
  · refine q_set (d := .list ((sm2 g true).map .str)) (f_Op f_Var (f_Lst (f_Cons f_C (f_Cons f_C (f_Cons f_C (f_Cons f_C (f_Cons f_C (f_Cons f_C f_Nil)))))))) (by cases g <;> rfl) ?_
    refine w_set (d := .list ((sm3 g true (decide (bends > 0))).map .str)) (f_Op f_Var (f_If (f_Test (f_Op f_Var f_C)) (f_Op (f_Lst (f_Cons f_C f_Nil)) f_C) (f_Lst f_Nil))) (by rcases hb with rfl | rfl | rfl | rfl <;> cases g <;> rfl) ?_
    exact rest true hmo.symm
  · have := rest false hmo.symm
    rw [show sm3 g false (decide (bends > 0)) = sm1 g from by unfold sm3 sm2; simp] at this
    exact this
structure AwI31 (bends : Int) (many : Nat) (ws : List Str) : Prop where
  mem : ∀ w ∈ ws, Word8 w
  even : bends = 0 → ∀ w ∈ ws, ¬ w = ("align" : Str)
  pre : okPre true ws = true
  last : ws.length = many → lastGo true ws = false
  few : 0 < bends → jc31 ws ≤ bends
theorem jc_snoc (ws : List Str) (w : Str) : jc31 (ws ++ [w]) = jc31 ws + (if w = ("jump" : Str) then 1 else 0) + (if w = ("branch" : Str) then 1 else 0) := by
  unfold jc31
  rw [List.countP_append, List.countP_append, List.countP_singleton, List.countP_singleton]
  simp only [decide_eq_true_eq]
  split <;> split <;> omega
theorem AwI31.snoc {bends : Int} {many : Nat} {ws : List Str} (I : AwI31 bends many ws) (hl : ws.length < many) {w : Str} (hw : Nxt31 bends many ws w) : AwI31 bends many (ws ++ [w]) := by
  refine ⟨fun x hx => ?_, fun z x hx => ?_, ?_, fun e => ?_, fun z => ?_⟩
  · rcases List.mem_append.mp hx with hx | hx
    · exact I.mem x hx
    · rw [List.mem_singleton.mp hx]; exact hw.w8
  · rcases List.mem_append.mp hx with hx | hx
    · exact I.even z x hx
    · rw [List.mem_singleton.mp hx]; exact hw.even z
  · rw [pre_snoc, I.pre, Bool.true_and]
    cases hg : lastGo true ws with
    | false => rfl
    | true => rw [hw.word hg]; rfl
  · rw [go_snoc]
    rw [List.length_append, List.length_singleton] at e
    exact hw.last (decide_eq_false (by omega))
  · rw [jc_snoc]
    have h1 := I.few z
    by_cases a : w = ("jump" : Str)
    · have h2 := hw.few (.inl a) z
      have b : ¬ w = ("branch" : Str) := by rw [a]; decide +kernel
      rw [if_pos a, if_neg b]; omega
    · by_cases b : w = ("branch" : Str)
      · have h2 := hw.few (.inr b) z
        rw [if_neg a, if_pos b]; omega
      · rw [if_neg a, if_neg b]; omega
theorem AwI31.ok {bends : Int} (hb : bends = 0 ∨ bends = 3 ∨ bends = 6 ∨ bends = 4) {many : Nat} {ws : List Str} (I : AwI31 bends many ws) (h1 : 1 ≤ many) (h2 : many ≤ 14) (e : ws.length = many) : WOk31 ws := by
  refine ⟨fun z => by rw [z, List.length_nil] at e; omega, by omega, by rw [shun_pre, I.pre, I.last e]; rfl, I.mem, ?_⟩
  by_cases z : bends = 0
  · exact .inl (I.even z)
  · right
    have h := I.few (by omega)
    have hc := count_or (ws := ws) (fun w => w == ("jump" : Str)) (fun w => w == ("branch" : Str))
    have ej : ∀ x : Str, (fun w : Str => w == x) = fun w : Str => decide (w = x) := fun x => by
      funext w
      rw [Bool.eq_iff_iff]
      simp
    unfold jc31 at h
    rw [ej, ej] at hc
    refine Nat.le_trans (Nat.le_of_eq ?_) (Nat.le_trans hc (by omega))
    refine List.countP_congr fun w _ => ?_
    simp
theorem aw_loop31 {bends : Int} (hb : bends = 0 ∨ bends = 3 ∨ bends = 6 ∨ bends = 4) {many N : Nat} {E : EndsD} (h1 : 1 ≤ many) (h2 : many ≤ 14) (hN : N < 900000)
    (fin : ∀ ws x4 x5 x6 x7 x8 n, AwI31 bends many ws → ws.length = many → n ≤ N + many → E.nx (awG bends many ws x4 x5 x6 x7 x8) n) :
    ∀ (k : Nat) (ws : List Str) x4 x5 x6 x7 x8 n, ws.length + k = many → AwI31 bends many ws → n ≤ N + ws.length → forW (mgName 4) awB31 E (rangeD (ws.length : Int) k) (awG bends many ws x4 x5 x6 x7 x8) n
  | 0, ws, x4, x5, x6, x7, x8, n, hl, I, hn => fin ws x4 x5 x6 x7 x8 n I hl (by omega)
  | k + 1, ws, x4, x5, x6, x7, x8, n, hl, I, hn => by
    refine aw_turn31 hb (x5 := x5) (x6 := x6) (x7 := x7) (x8 := x8) I.mem (by omega) h1 (by omega) fun w y5 y6 y7 y8 hw => ?_
    have := aw_loop31 hb h1 h2 hN fin k (ws ++ [w]) (some (.int (ws.length : Int))) y5 y6 y7 y8 (n + 1) (by rw [List.length_append, List.length_singleton]; omega) (I.snoc (by omega) hw) (by rw [List.length_append, List.length_singleton]; omega)
    rw [List.length_append, List.length_singleton, Int.natCast_add] at this
    exact this
theorem any_words31 {bends : Int} (hb : bends = 0 ∨ bends = 3 ∨ bends = 6 ∨ bends = 4) {many : Nat} {n : Nat} {R : D → Nat → Prop} (h1 : 1 ≤ many) (h2 : many ≤ 14) (hn : n < 900000) (q : ∀ ws n', WOk31 ws → ws.length = many → n' ≤ n + many → R (.list (ws.map .str)) n') : m__law_any_words [.int bends, .int (many : Int)] n R := by
  unfold m__law_any_words b__law_any_words
  refine ⟨rfl, ?_⟩
  refine q_set (f_Lst f_Nil) rfl ?_
  refine q_for (s_ir1 (s_cons (s_var (d := .int (many : Int)) rfl (s_nil ⟨_, rfl, okR_nat (by omega), ?_⟩))))
  rw [Int.toNat_natCast]
  exact aw_loop31 hb (N := n) h1 h2 hn (fun ws x4 x5 x6 x7 x8 n' I e h => w_ret f_Var rfl (q ws n' (I.ok hb h1 h2 e) e h)) many [] none none none none none n (by rw [List.length_nil]; omega) ⟨(fun w h => nomatch h), (fun _ w h => nomatch h), rfl, fun e => by rw [List.length_nil] at e; omega, fun z => by show (0 : Int) + 0 ≤ bends; omega⟩ (by omega)
def apG (parts : Nat) (bends : Int) (most : Nat) (ws : List Str) (goals : List Nat) (rs : Part) (x7 x8 : Option D) : DEnv := [none, some (.int (parts : Int)), some (.int bends), some (.int (most : Int)), some (.list (ws.map .str)), some (.list (goals.map natD)), some (.list (rs.map Row.d)), x7, x8]
section
variable {parts most : Nat} {bends : Int} {ws : List Str} {goals : List Nat} {rs : Part} {x7 : Option D} {n : Nat} {E : EndsD}
theorem ag_go {w : Str} {d : D} {r : Row} (hd : d = r.d) (k : E.nx (apG parts bends most ws goals (rs ++ [r]) x7 (some (.str w))) n) : E.nx ((apG parts bends most ws goals rs x7 (some (.str w))).set 6 (some (.list (rs.map Row.d ++ [d])))) n := by
  subst hd
  have e : (apG parts bends most ws goals rs x7 (some (.str w))).set 6 (some (.list (rs.map Row.d ++ [r.d]))) = apG parts bends most ws goals (rs ++ [r]) x7 (some (.str w)) := by
    unfold apG
    rw [List.map_append]; rfl
  rw [e]
  exact k
theorem ag_jump {w : Str} {f : Int → Row} (hf : ∀ g, (f g).d = .tuple [.str w, .int g]) (hrs : rs.length ≤ 30) (hg1 : 1 ≤ goals.length) (hg2 : goals.length ≤ 30) (hn : n < 990000) (k : ∀ g ∈ goals, E.nx (apG parts bends most ws goals (rs ++ [f (g : Int)]) x7 (some (.str w))) (n + 1)) :
    mAppend 6 (mTup (mCons (mVar 8) (mCons (mCallP m__law_one_of_v2 (mCons (mVar 5) mNil)) mNil))) E (apG parts bends most ws goals rs x7 (some (.str w))) n := by
  refine ⟨rs.map Row.d, rfl, ?_⟩
  refine s_tup (s_cons (s_var (d := .str w) rfl (s_cons ?_)))
  refine sa_one natD (xs := goals) (fun Q' q => s_cons (s_var rfl (s_nil q))) hg1 (by omega) (by omega) fun g hg => ?_
  refine s_nil ⟨by show 2 ≤ lim; decide, by rw [List.length_map]; exact Nat.lt_of_le_of_lt hrs (by decide), ?_⟩
  refine ag_go (r := f (g : Int)) (hf (g : Int)).symm ?_
  exact k g hg
theorem ag_else {w : Str} {f : Int → Row} {b : Nat} (hf : ∀ g, (f g).d = .tuple [.str w, .int g]) (hrs : rs.length ≤ 30) (hm : 1 ≤ b) (hm2 : b ≤ 100) (hn : n < 990000)
    (e1 : mIf (mTest (mOp dEq (mVar 8) (mC (.str "far")))) (mVar 1) (mC (.int 3)) = mIf (mTest (mOp dEq (mVar 8) (mC (.str "far")))) (mVar 1) (mC (.int 3)))
    (e2 : vIf (vTest (vOp dEq (vVar 8) (vC (.str "far")))) (vVar 1) (vC (.int 3)) (apG parts bends most ws goals rs x7 (some (.str w))) = some (.int (b : Int)))
    (k : ∀ g : Nat, g < b → E.nx (apG parts bends most ws goals (rs ++ [f (g : Int)]) x7 (some (.str w))) (n + 1)) :
    mAppend 6 (mTup (mCons (mVar 8) (mCons (mCallP m__law_take_v3 (mCons (mIf (mTest (mOp dEq (mVar 8) (mC (.str "far")))) (mVar 1) (mC (.int 3))) mNil)) mNil))) E (apG parts bends most ws goals rs x7 (some (.str w))) n := by
  refine ⟨rs.map Row.d, rfl, ?_⟩
  refine s_tup (s_cons (s_var (d := .str w) rfl (s_cons (s_callP ((f_Cons (f_If fa_Fa f_Var f_C) f_Nil) _ _ [.int (b : Int)] _ (vCons_of e2 rfl) ?_)))))
  with_reducible refine take_ok (by omega) (by omega) (by omega) fun x x0 x1 => ?_
  obtain ⟨z, rfl⟩ := Int.eq_ofNat_of_zero_le x0
  refine s_nil ⟨by show 2 ≤ lim; decide, by rw [List.length_map]; exact Nat.lt_of_le_of_lt hrs (by decide), ?_⟩
  refine ag_go (r := f (z : Int)) (hf (z : Int)).symm ?_
  exact k z (by omega)
theorem ag_turn {w : Str} (hw : Word8 w) (hp1 : 1 ≤ parts) (hp5 : parts ≤ 5) (hg1 : 1 ≤ goals.length) (hg2 : goals.length ≤ 20) (hg : ∀ g ∈ goals, g < 20) (hrs : rs.length ≤ 30) (hn : n < 980000)
    (k : ∀ r n', WRow parts goals w r → n' ≤ n + 3 → E.nx (apG parts bends most ws goals (rs ++ [r]) x7 (some (.str w))) n') : apB E (apG parts bends most ws goals rs x7 (some (.str w))) n := by
  have nat_in : ∀ {g hi : Nat} {lo : Nat}, lo ≤ g → g ≤ hi → within ((g : Nat) : Int) (lo : Int) (hi : Int) = true := fun h1 h2 => within_t (by omega) (by omega)
  rcases hw with rfl | rfl | rfl | rfl | rfl | rfl | rfl | rfl
  · refine w_if true fa_Pl rfl (fun _ => ?_) fun h => nomatch h
    refine ⟨rs.map Row.d, rfl, ?_⟩
    refine s_tup (s_cons (s_var (d := .str "plain") rfl (s_cons (s_op (s_C (s_callP (s_cons (s_C (s_nil ?_)))))))))
    with_reducible refine take_ok (by decide) (by decide) (by omega) fun x x0 x1 => ?_
    refine ⟨.int (1 + x), rfl, s_cons (s_callP (s_cons (s_C (s_nil ?_))))⟩
    with_reducible refine take_ok (by decide) (by decide) (by omega) fun a a0 a1 => ?_
    refine s_nil ⟨by show 3 ≤ lim; decide, by rw [List.length_map]; exact Nat.lt_of_le_of_lt hrs (by decide), ?_⟩
    refine ag_go (r := .plain (1 + x) a) rfl ?_
    exact k _ _ ⟨rfl, by unfold Row.ok; dsimp only; rw [within_t (by omega) (by omega), within_t a0 (by omega)]; rfl, (fun h => nomatch h), (fun h => nomatch h)⟩ (by omega)
  · refine w_if false fa_Pl rfl (fun h => nomatch h) fun _ => ?_
    refine w_if true fa_Ju rfl (fun _ => ?_) fun h => nomatch h
    exact ag_jump (f := Row.branch) (fun _ => rfl) hrs hg1 (by omega) (by omega) fun g h => k _ _ ⟨rfl, nat_in (lo := 0) (hi := 19) (Nat.zero_le _) (by have := hg g h; omega), (fun h => nomatch h), fun _ => ⟨g, h, rfl⟩⟩ (by omega)
  · refine w_if false fa_Pl rfl (fun h => nomatch h) fun _ => ?_
    refine w_if false fa_Ju rfl (fun h => nomatch h) fun _ => ?_
    refine w_if false fa_Al rfl (fun h => nomatch h) fun _ => ?_
    refine w_if false fa_St rfl (fun h => nomatch h) fun _ => ?_
    exact ag_else (f := Row.load) (b := 3) (fun _ => rfl) hrs (by decide) (by decide) (by omega) rfl rfl fun g h => k _ _ ⟨rfl, nat_in (lo := 0) (hi := 65535) (Nat.zero_le _) (by omega), (fun h => nomatch h), (fun h => nomatch h)⟩ (by omega)
  · refine w_if false fa_Pl rfl (fun h => nomatch h) fun _ => ?_
    refine w_if false fa_Ju rfl (fun h => nomatch h) fun _ => ?_
    refine w_if true fa_Al rfl (fun _ => ?_) fun h => nomatch h
    refine ⟨rs.map Row.d, rfl, ?_⟩
    refine s_tup (s_cons (s_var (d := .str "align") rfl (s_cons ?_)))
    refine sa_one PyData.int (xs := [2, 4, 8, 16]) (fun Q' q => s_cons (s_lst (s_cons (s_C (s_cons (s_C (s_cons (s_C (s_cons (s_C (s_nil ⟨by decide, s_nil q⟩)))))))))) ) (by decide) (by decide) (by omega) fun a ha => ?_
    refine s_nil ⟨by show 2 ≤ lim; decide, by rw [List.length_map]; exact Nat.lt_of_le_of_lt hrs (by decide), ?_⟩
    refine ag_go (r := .align a) rfl ?_
    have hk : (Row.align a).ok = true := (by decide : ∀ a ∈ ([2, 4, 8, 16] : List Int), (Row.align a).ok = true) a ha
    exact k _ _ ⟨rfl, hk, (fun h => nomatch h), (fun h => nomatch h)⟩ (by omega)
  · refine w_if false fa_Pl rfl (fun h => nomatch h) fun _ => ?_
    refine w_if false fa_Ju rfl (fun h => nomatch h) fun _ => ?_
    refine w_if false fa_Al rfl (fun h => nomatch h) fun _ => ?_
    refine w_if true fa_St rfl (fun _ => ?_) fun h => nomatch h
    refine ⟨rs.map Row.d, rfl, ?_⟩
    refine s_tup (s_cons (s_var (d := .str "stop") rfl (s_cons (s_op (s_C (s_callP (s_cons (s_C (s_nil ?_)))))))))
    with_reducible refine take_ok (by decide) (by decide) (by omega) fun x x0 x1 => ?_
    refine ⟨.int (1 + x), rfl, s_nil ⟨by show 2 ≤ lim; decide, by rw [List.length_map]; exact Nat.lt_of_le_of_lt hrs (by decide), ?_⟩⟩
    refine ag_go (r := .stop (1 + x)) rfl ?_
    exact k _ _ ⟨rfl, within_t (by omega) (by omega), (fun h => nomatch h), (fun h => nomatch h)⟩ (by omega)
  · refine w_if false fa_Pl rfl (fun h => nomatch h) fun _ => ?_
    refine w_if true fa_Ju rfl (fun _ => ?_) fun h => nomatch h
    exact ag_jump (f := Row.jump) (fun _ => rfl) hrs hg1 (by omega) (by omega) fun g h => k _ _ ⟨rfl, nat_in (lo := 0) (hi := 19) (Nat.zero_le _) (by have := hg g h; omega), (fun h => nomatch h), fun _ => ⟨g, h, rfl⟩⟩ (by omega)
  · refine w_if false fa_Pl rfl (fun h => nomatch h) fun _ => ?_
    refine w_if false fa_Ju rfl (fun h => nomatch h) fun _ => ?_
    refine w_if false fa_Al rfl (fun h => nomatch h) fun _ => ?_
    refine w_if false fa_St rfl (fun h => nomatch h) fun _ => ?_
    exact ag_else (f := Row.far) (b := parts) (fun _ => rfl) hrs hp1 (by omega) (by omega) rfl rfl fun g h => k _ _ ⟨rfl, nat_in (lo := 0) (hi := 4) (Nat.zero_le _) (by omega), (fun _ => by show (g : Int) < _; omega), (fun h => nomatch h)⟩ (by omega)
  · refine w_if false fa_Pl rfl (fun h => nomatch h) fun _ => ?_
    refine w_if false fa_Ju rfl (fun h => nomatch h) fun _ => ?_
    refine w_if false fa_Al rfl (fun h => nomatch h) fun _ => ?_
    refine w_if false fa_St rfl (fun h => nomatch h) fun _ => ?_
    exact ag_else (f := Row.word) (b := 3) (fun _ => rfl) hrs (by decide) (by decide) (by omega) rfl rfl fun g h => k _ _ ⟨rfl, nat_in (lo := 0) (hi := 65535) (Nat.zero_le _) (by omega), (fun h => nomatch h), (fun h => nomatch h)⟩ (by omega)
end
theorem any_part31 {bends : Int} (hb : bends = 0 ∨ bends = 3 ∨ bends = 6 ∨ bends = 4) {parts most : Nat} {n : Nat} {R : D → Nat → Prop} (hp1 : 1 ≤ parts) (hp5 : parts ≤ 5) (hm1 : 1 ≤ most) (hm2 : most ≤ 14) (hn : n < 800000) (q : ∀ p n', partOk p = true → p.length ≤ most → n' ≤ n + 57 → R (pd p) n') : m__law_any_part [.int (parts : Int), .int bends, .int (most : Int)] n R := by
  unfold m__law_any_part b__law_any_part
  refine ⟨rfl, ?_⟩
  refine q_setM (s_callP (s_cons (s_var (d := .int bends) rfl (s_cons (s_op (s_C (s_callP (s_cons (s_var (d := .int (most : Int)) rfl (s_nil ?_))))))))))
  with_reducible refine take_ok (by omega) (by omega) (by omega) fun x x0 x1 => ?_
  obtain ⟨z, rfl⟩ := Int.eq_ofNat_of_zero_le x0
  refine ⟨.int (1 + (z : Int)), rfl, s_nil ?_⟩
  rw [show (1 + (z : Int)) = ((z + 1 : Nat) : Int) by omega]
  with_reducible refine any_words31 hb (by omega) (by omega) (by omega) fun ws n1 W wl hn1 => ?_
  have len := W.len
  have gl := goalsW_len ws
  have eg : vLc (vIEn (vCons (vVar 4) vNil)) (vgTup 2 (vgCons (vgName 7) (vgCons (vgName 8) vgNil))) (vTest (vOp dNe (vVar 8) (vC (.str "word")))) (vVar 7) [7, 8] [none, some (.int (parts : Int)), some (.int bends), some (.int (most : Int)), some (.list (ws.map .str)), none, none, none, none] = some (.list ((goalsW ws).map natD)) := by
    have e : vIEn (vCons (vVar 4) vNil) [none, some (.int (parts : Int)), some (.int bends), some (.int (most : Int)), some (.list (ws.map .str)), none, none, none, none] = some ((ws.zipIdx).map fun q => .tuple [.int (q.2 : Int), .str q.1]) := by
      refine Eq.trans ?_ (congrArg some (enumD_map PyData.str ws 0))
      rfl
    refine (vLc_of e (by rw [List.length_map, List.length_zipIdx]; exact Nat.le_trans len (by decide)) (vcomp_filterOf _ (fun q : Str × Nat => !decide (q.1 = ("word" : Str))) (fun q => natD q.2) fun q _ => ⟨_, rfl, ?_, fun _ => rfl⟩)).trans ?_
    · exact vTest_of ((vOp_of rfl rfl).trans (dNe_str q.1 "word"))
    · unfold goalsW
      rw [List.map_map]; rfl
  refine q_par ((f_Cons (f_Lc (f_IEn (f_Cons f_Var f_Nil)) (f_gTup (f_gCons f_gName (f_gCons f_gName f_gNil))) (f_Test (f_Op f_Var f_C)) f_Var) (f_Cons (f_Lst f_Nil) f_Nil)) _ _ [.list ((goalsW ws).map natD), .list []] _ (vCons_of eg rfl) ⟨rfl, ?_⟩)
  refine q_for (s_iseq (s_var (d := .list (ws.map .str)) rfl ⟨_, rfl, ?_⟩))
  refine w_for (fun ds Γ n' => ∃ rs pre suf x8, Γ = apG parts bends most ws (goalsW ws) rs none x8 ∧ ds = suf.map .str ∧ ws = pre ++ suf ∧ rs.map Row.w = pre ∧ (∀ r ∈ rs, ∃ w, WRow parts (goalsW ws) w r) ∧ n' ≤ n1 + 3 * pre.length) (fun d ds Γ n2 hI K hK => ?_) (fun Γ n2 hI => ?_) _ _ _ ⟨[], [], ws, none, rfl, rfl, rfl, rfl, (fun r h => nomatch h), Nat.le_add_right _ _⟩
  · obtain ⟨rs, pre, suf, x8, rfl, hd, hs, hr, hw, h2⟩ := hI
    cases suf with
    | nil => cases hd
    | cons w suf =>
      rw [List.map_cons] at hd
      obtain ⟨rfl, rfl⟩ := List.cons.inj hd
      have wm : w ∈ ws := by rw [hs]; simp
      have pl : pre.length ≤ 14 := by
        have : ws.length = pre.length + (w :: suf).length := by rw [hs, List.length_append]
        omega
      have rl : rs.length = pre.length := by rw [← hr, List.length_map]
      refine s_gName ?_
      refine ag_turn (x7 := none) (W.mem w wm) hp1 hp5 (goalsW_pos W.ne W.shun) (by omega) (fun g hg => ?_) (by omega) (by omega) fun r n3 hwr hn3 => ?_
      · obtain ⟨z, hz, _⟩ := goalsW_mem hg
        have := (List.getElem?_eq_some_iff.mp hz).1
        omega
      · refine hK _ _ ⟨rs ++ [r], pre ++ [w], suf, some (.str w), rfl, rfl, by rw [hs, List.append_assoc]; rfl, by rw [List.map_append, hr, List.map_singleton, hwr.w], fun z hz => ?_, by rw [List.length_append, List.length_singleton]; omega⟩
        rcases List.mem_append.mp hz with hz | hz
        · exact hw z hz
        · rw [List.mem_singleton.mp hz]; exact ⟨w, hwr⟩
  · obtain ⟨rs, pre, suf, x8, rfl, hd, hs, hr, hw, h2⟩ := hI
    cases suf with
    | cons _ _ => cases hd
    | nil =>
      rw [List.append_nil] at hs
      subst hs
      exact w_ret (f_Cl (f_Cons f_Var f_Nil)) rfl (q rs n2 (fine31 W hr hw) (by have := congrArg List.length hr; rw [List.length_map] at this; omega) (by omega))
end RC
end
section
namespace RC
open PySem PySem.Spec L2 RR
open PyProof.Rows hiding St
end RC
end
section
namespace RC
open PySem PySem.Spec L2 RR
open PyProof.Rows hiding St cutD
/-- the word that a part asks for, and one with a machine -/
def pw (d : D) : Str := match partOf d with
  | none => "part"
  | some p => if evenP p = true then "fine" else "even"
end RC
end
section
namespace RC
open PySem PySem.Spec L2 RR
open PyProof.Rows hiding St cutD
end RC
end
section
namespace RC
open PySem PySem.Spec L2 RR
open PyProof.Rows hiding St
end RC
end
section
namespace RC
open PySem PySem.Spec L2 RR
open PyProof.Rows hiding St
end RC
end
section
namespace RC
open PySem PySem.Spec L2 RR
open PyProof.Rows hiding St cutD
local macro_rules | `(tactic| walk_at "fp") => `(tactic| with_reducible first | exact fp__law_w_shifted)
local macro_rules | `(tactic| walk_at "fe") => `(tactic| with_reducible first
  | exact f_Var | exact f_C | exact f_Nil | exact f_Dict0 | exact f_NoPart | exact f_Yes | exact f_gName | exact f_gNil | exact f_pNil
  | (apply f_Cl <;> walk_at "fe") | (apply f_Op <;> walk_at "fe") | (apply f_Un <;> walk_at "fe") | (apply f_Cons <;> walk_at "fe")
  | (apply f_Test <;> walk_at "fe") | (apply f_Tru <;> walk_at "fe")
  | (apply f_Call (by walk_at "fp") <;> walk_at "fe") | (apply f_CallK (by walk_at "fp") <;> walk_at "fe")
  | (apply f_Tup <;> walk_at "fe") | (apply f_Lst <;> walk_at "fe") | (apply f_Isi <;> walk_at "fe") | (apply f_Isi2 <;> walk_at "fe")
  | (apply f_Sl <;> walk_at "fe") | (apply f_Part <;> walk_at "fe")
  | (apply f_And <;> walk_at "fe") | (apply f_Or <;> walk_at "fe") | (apply f_Not <;> walk_at "fe")
  | (apply f_AndV <;> walk_at "fe") | (apply f_OrV <;> walk_at "fe") | (apply f_NotV <;> walk_at "fe")
  | (apply f_If <;> walk_at "fe") | (apply f_Chain <;> walk_at "fe") | (apply f_Look <;> walk_at "fe") | (apply f_LookL <;> walk_at "fe") | (apply f_Rev <;> walk_at "fe")
  | (apply f_ISeq <;> walk_at "fe") | (apply f_IEn <;> walk_at "fe") | (apply f_IZ <;> walk_at "fe") | (apply f_IR1 <;> walk_at "fe") | (apply f_IR2 <;> walk_at "fe") | exact f_IKeys | exact f_IVals | exact f_IItems
  | (apply f_gTup <;> walk_at "fe") | (apply f_gCons <;> walk_at "fe") | (apply f_Lc <;> walk_at "fe")
  | (apply f_Disp <;> walk_at "fe") | (apply f_pCons <;> walk_at "fe")
  | (apply f_Seq <;> walk_at "fe") | (apply f_IfS <;> walk_at "fe") | (apply f_Ret <;> walk_at "fe") | exact f_Next | (apply f_Set <;> walk_at "fe") | (apply f_Par <;> walk_at "fe") | (apply f_Asg <;> walk_at "fe") | (apply f_Drop <;> walk_at "fe") | (apply f_Append <;> walk_at "fe") | (apply f_For <;> walk_at "fe"))
local macro_rules | `(tactic| walk_at "len") => `(tactic| first | (simp only [List.length_cons, List.length_nil]; decide) | assumption)
local macro_rules | `(tactic| walk_at "ev") => `(tactic| first
  | with_reducible assumption
  | ((with_reducible apply o2) <;> walk_at "ev") | ((with_reducible apply o1) <;> walk_at "ev") | ((with_reducible apply vCons_of) <;> walk_at "ev") | ((with_reducible apply o_cl) <;> walk_at "ev") | ((with_reducible apply o_call) <;> walk_at "ev")
  | ((with_reducible apply vTest_of) <;> walk_at "ev") | ((with_reducible apply o_tup) <;> first | walk_at "len" | walk_at "ev") | ((with_reducible apply o_lst) <;> first | walk_at "len" | walk_at "ev")
  | ((with_reducible apply vNot_of) <;> walk_at "ev") | ((with_reducible apply vIsi_of) <;> walk_at "ev") | ((with_reducible apply vNotV_of) <;> walk_at "ev") | ((with_reducible apply o_sl) <;> walk_at "ev") | ((with_reducible apply o_part) <;> walk_at "ev")
  | rfl)
local macro_rules | `(tactic| walk_at "we") => `(tactic| (apply w_exp; (case h => walk_at "fe"); (case e => walk_at "ev")))
local macro_rules | `(tactic| walk_at "wa") => `(tactic| (apply w_args; (case h => walk_at "fe"); (case e => walk_at "ev")))
local macro_rules | `(tactic| walk_at "wt") => `(tactic| (apply w_tst; (case h => walk_at "fe"); (case e => walk_at "ev")))
local macro_rules | `(tactic| walk_at "wi") => `(tactic| (apply w_it; (case h => walk_at "fe"); (case e => walk_at "ev")))
local macro_rules | `(tactic| walk_at "qs") => `(tactic| (apply q_set; (case h => walk_at "fe"); (case e => walk_at "ev")))
local macro_rules | `(tactic| walk_at "qn") => `(tactic| (apply q_no; (case h => walk_at "fe"); (case e => walk_at "ev")))
local macro_rules | `(tactic| walk_at "wr") => `(tactic| (apply w_ret; (case h => walk_at "fe"); (case e => walk_at "ev")))
local macro_rules | `(tactic| walk_at "sp") => `(tactic| (apply s_callP; (apply w_args; (case h => walk_at "fe"); (case e => walk_at "ev"))))
end RC
end
section
namespace RC
open PySem PySem.Spec L2 RR
open PyProof.Rows hiding St cutD
abbrev cl (s : Str) : List Nat := s.cps.toList
/-- the words that stand in such data -/
abbrev wL : List Str := ["plain", "stop", "jump", "branch", "far", "load", "word", "align", "rest", "part", "0", "1"]
/-- what may stand on the one side -/
inductive G : D → Prop
  | non : G .none
  | bl (b : Bool) : G (.bool b)
  | int (i : Int) : G (.int i)
  | str {w : Str} (h : w ∈ wL) : G (.str w)
  | tup {xs : List D} (h : ∀ x ∈ xs, G x) : G (.tuple xs)
  | lst {xs : List D} (h : ∀ x ∈ xs, G x) : G (.list xs)
def mT : List D → List Nat
  | [] => [41]
  | [x] => cl (PyData.shown x) ++ [41]
  | x :: y :: r => cl (PyData.shown x) ++ ([44, 32] ++ mT (y :: r))
end RC
end
section
namespace RC
open PySem PySem.Spec L2 RR
open PyProof.Rows hiding St cutD
local macro_rules | `(tactic| walk_at "fp") => `(tactic| with_reducible first | exact fp__law_w_shifted | exact fp_is_book | exact fp_run_book | exact fp_opens | exact fp_with_part | exact fp_twin_of | exact fp_check_twin | exact fp_check_book | exact fp_check_machine | exact fp_check_part | exact fp_is_part_number | exact fp_is_within | exact fp_twin | exact fp_has_door)
local macro_rules | `(tactic| walk_at "fe") => `(tactic| with_reducible first
  | exact f_Var | exact f_C | exact f_Nil | exact f_Dict0 | exact f_NoPart | exact f_Yes | exact f_gName | exact f_gNil | exact f_pNil
  | (apply f_Cl <;> walk_at "fe") | (apply f_Op <;> walk_at "fe") | (apply f_Un <;> walk_at "fe") | (apply f_Cons <;> walk_at "fe")
  | (apply f_Test <;> walk_at "fe") | (apply f_Tru <;> walk_at "fe")
  | (apply f_Call (by walk_at "fp") <;> walk_at "fe") | (apply f_CallK (by walk_at "fp") <;> walk_at "fe")
  | (apply f_Tup <;> walk_at "fe") | (apply f_Lst <;> walk_at "fe") | (apply f_Isi <;> walk_at "fe") | (apply f_Isi2 <;> walk_at "fe")
  | (apply f_Sl <;> walk_at "fe") | (apply f_Part <;> walk_at "fe")
  | (apply f_And <;> walk_at "fe") | (apply f_Or <;> walk_at "fe") | (apply f_Not <;> walk_at "fe")
  | (apply f_AndV <;> walk_at "fe") | (apply f_OrV <;> walk_at "fe") | (apply f_NotV <;> walk_at "fe")
  | (apply f_If <;> walk_at "fe") | (apply f_Chain <;> walk_at "fe") | (apply f_Look <;> walk_at "fe") | (apply f_LookL <;> walk_at "fe") | (apply f_Rev <;> walk_at "fe")
  | (apply f_ISeq <;> walk_at "fe") | (apply f_IEn <;> walk_at "fe") | (apply f_IZ <;> walk_at "fe") | (apply f_IR1 <;> walk_at "fe") | (apply f_IR2 <;> walk_at "fe") | exact f_IKeys | exact f_IVals | exact f_IItems
  | (apply f_gTup <;> walk_at "fe") | (apply f_gCons <;> walk_at "fe") | (apply f_Lc <;> walk_at "fe")
  | (apply f_Disp <;> walk_at "fe") | (apply f_pCons <;> walk_at "fe")
  | (apply f_Seq <;> walk_at "fe") | (apply f_IfS <;> walk_at "fe") | (apply f_Ret <;> walk_at "fe") | exact f_Next | (apply f_Set <;> walk_at "fe") | (apply f_Par <;> walk_at "fe") | (apply f_Asg <;> walk_at "fe") | (apply f_Drop <;> walk_at "fe") | (apply f_Append <;> walk_at "fe") | (apply f_For <;> walk_at "fe"))
local macro_rules | `(tactic| walk_at "len") => `(tactic| first | (simp only [List.length_cons, List.length_nil]; decide) | assumption)
local macro_rules | `(tactic| walk_at "ev") => `(tactic| first
  | with_reducible assumption
  | ((with_reducible apply o2) <;> walk_at "ev") | ((with_reducible apply o1) <;> walk_at "ev") | ((with_reducible apply vCons_of) <;> walk_at "ev") | ((with_reducible apply o_cl) <;> walk_at "ev") | ((with_reducible apply o_call) <;> walk_at "ev")
  | ((with_reducible apply vTest_of) <;> walk_at "ev") | ((with_reducible apply o_tup) <;> first | walk_at "len" | walk_at "ev") | ((with_reducible apply o_lst) <;> first | walk_at "len" | walk_at "ev")
  | ((with_reducible apply vNot_of) <;> walk_at "ev") | ((with_reducible apply vIsi_of) <;> walk_at "ev") | ((with_reducible apply vNotV_of) <;> walk_at "ev") | ((with_reducible apply o_sl) <;> walk_at "ev") | ((with_reducible apply o_part) <;> walk_at "ev")
  | rfl)
local macro_rules | `(tactic| walk_at "we") => `(tactic| (apply w_exp; (case h => walk_at "fe"); (case e => walk_at "ev")))
local macro_rules | `(tactic| walk_at "wa") => `(tactic| (apply w_args; (case h => walk_at "fe"); (case e => walk_at "ev")))
local macro_rules | `(tactic| walk_at "wt") => `(tactic| (apply w_tst; (case h => walk_at "fe"); (case e => walk_at "ev")))
local macro_rules | `(tactic| walk_at "wi") => `(tactic| (apply w_it; (case h => walk_at "fe"); (case e => walk_at "ev")))
local macro_rules | `(tactic| walk_at "qs") => `(tactic| (apply q_set; (case h => walk_at "fe"); (case e => walk_at "ev")))
local macro_rules | `(tactic| walk_at "qn") => `(tactic| (apply q_no; (case h => walk_at "fe"); (case e => walk_at "ev")))
local macro_rules | `(tactic| walk_at "wr") => `(tactic| (apply w_ret; (case h => walk_at "fe"); (case e => walk_at "ev")))
local macro_rules | `(tactic| walk_at "sp") => `(tactic| (apply s_callP; (apply w_args; (case h => walk_at "fe"); (case e => walk_at "ev"))))
end RC
end
section
namespace RC
open PySem PySem.Spec L2 RR
open PyProof.Rows hiding St cutD
end RC
end
section
namespace RC
open PySem PySem.Spec L2 RR
open PyProof.Rows hiding St cutD
local macro_rules | `(tactic| walk_at "fp") => `(tactic| with_reducible first | exact fp_growth | exact fp_is_part)
local macro_rules | `(tactic| walk_at "fe") => `(tactic| with_reducible first
  | exact f_Var | exact f_C | exact f_Nil | exact f_Dict0 | exact f_NoPart | exact f_Yes | exact f_gName | exact f_gNil | exact f_pNil
  | (apply f_Cl <;> walk_at "fe") | (apply f_Op <;> walk_at "fe") | (apply f_Un <;> walk_at "fe") | (apply f_Cons <;> walk_at "fe")
  | (apply f_Test <;> walk_at "fe") | (apply f_Tru <;> walk_at "fe")
  | (apply f_Call (by walk_at "fp") <;> walk_at "fe") | (apply f_CallK (by walk_at "fp") <;> walk_at "fe")
  | (apply f_Tup <;> walk_at "fe") | (apply f_Lst <;> walk_at "fe") | (apply f_Isi <;> walk_at "fe") | (apply f_Isi2 <;> walk_at "fe")
  | (apply f_Sl <;> walk_at "fe") | (apply f_Part <;> walk_at "fe")
  | (apply f_And <;> walk_at "fe") | (apply f_Or <;> walk_at "fe") | (apply f_Not <;> walk_at "fe")
  | (apply f_AndV <;> walk_at "fe") | (apply f_OrV <;> walk_at "fe") | (apply f_NotV <;> walk_at "fe")
  | (apply f_If <;> walk_at "fe") | (apply f_Chain <;> walk_at "fe") | (apply f_Look <;> walk_at "fe") | (apply f_LookL <;> walk_at "fe") | (apply f_Rev <;> walk_at "fe")
  | (apply f_ISeq <;> walk_at "fe") | (apply f_IEn <;> walk_at "fe") | (apply f_IZ <;> walk_at "fe") | (apply f_IR1 <;> walk_at "fe") | (apply f_IR2 <;> walk_at "fe") | exact f_IKeys | exact f_IVals | exact f_IItems
  | (apply f_gTup <;> walk_at "fe") | (apply f_gCons <;> walk_at "fe") | (apply f_Lc <;> walk_at "fe")
  | (apply f_Disp <;> walk_at "fe") | (apply f_pCons <;> walk_at "fe")
  | (apply f_Seq <;> walk_at "fe") | (apply f_IfS <;> walk_at "fe") | (apply f_Ret <;> walk_at "fe") | exact f_Next | (apply f_Set <;> walk_at "fe") | (apply f_Par <;> walk_at "fe") | (apply f_Asg <;> walk_at "fe") | (apply f_Drop <;> walk_at "fe") | (apply f_Append <;> walk_at "fe") | (apply f_For <;> walk_at "fe"))
local macro_rules | `(tactic| walk_at "len") => `(tactic| first | (simp only [List.length_cons, List.length_nil]; decide) | assumption)
local macro_rules | `(tactic| walk_at "ev") => `(tactic| first
  | with_reducible assumption
  | ((with_reducible apply o2) <;> walk_at "ev") | ((with_reducible apply o1) <;> walk_at "ev") | ((with_reducible apply vCons_of) <;> walk_at "ev") | ((with_reducible apply o_cl) <;> walk_at "ev") | ((with_reducible apply o_call) <;> walk_at "ev")
  | ((with_reducible apply vTest_of) <;> walk_at "ev") | ((with_reducible apply o_tup) <;> first | walk_at "len" | walk_at "ev") | ((with_reducible apply o_lst) <;> first | walk_at "len" | walk_at "ev")
  | ((with_reducible apply vNot_t) <;> walk_at "ev") | ((with_reducible apply vNot_f) <;> walk_at "ev") | ((with_reducible apply vNot_of) <;> walk_at "ev") | ((with_reducible apply vIsi_of) <;> walk_at "ev") | ((with_reducible apply vNotV_of) <;> walk_at "ev") | ((with_reducible apply o_sl) <;> walk_at "ev") | ((with_reducible apply o_part) <;> walk_at "ev")
  | rfl)
local macro_rules | `(tactic| walk_at "we") => `(tactic| (apply w_exp; (case h => walk_at "fe"); (case e => walk_at "ev")))
local macro_rules | `(tactic| walk_at "wa") => `(tactic| (apply w_args; (case h => walk_at "fe"); (case e => walk_at "ev")))
local macro_rules | `(tactic| walk_at "wt") => `(tactic| (apply w_tst; (case h => walk_at "fe"); (case e => walk_at "ev")))
local macro_rules | `(tactic| walk_at "wi") => `(tactic| (apply w_it; (case h => walk_at "fe"); (case e => walk_at "ev")))
local macro_rules | `(tactic| walk_at "qs") => `(tactic| (apply q_set; (case h => walk_at "fe"); (case e => walk_at "ev")))
local macro_rules | `(tactic| walk_at "qn") => `(tactic| (apply q_no; (case h => walk_at "fe"); (case e => walk_at "ev")))
local macro_rules | `(tactic| walk_at "wr") => `(tactic| (apply w_ret; (case h => walk_at "fe"); (case e => walk_at "ev")))
local macro_rules | `(tactic| walk_at "sp") => `(tactic| (apply s_callP; (apply w_args; (case h => walk_at "fe"); (case e => walk_at "ev"))))
end RC
end
section
namespace RC
open PySem PySem.Spec L2 RR
open PyProof.Rows hiding St cutD
end RC
end
section
namespace RC
open PySem PySem.Spec L2 RR
open PyProof.Rows hiding St cutD
local macro_rules | `(tactic| walk_at "fp") => `(tactic| with_reducible first | exact fp_places | exact fp_misfits | exact fp_served | exact fp_grown | exact fp_shows_chain | exact fp__law_jumps | exact fp__law_size)
local macro_rules | `(tactic| walk_at "fe") => `(tactic| with_reducible first
  | exact f_Var | exact f_C | exact f_Nil | exact f_Dict0 | exact f_NoPart | exact f_Yes | exact f_gName | exact f_gNil | exact f_pNil
  | (apply f_Cl <;> walk_at "fe") | (apply f_Op <;> walk_at "fe") | (apply f_Un <;> walk_at "fe") | (apply f_Cons <;> walk_at "fe")
  | (apply f_Test <;> walk_at "fe") | (apply f_Tru <;> walk_at "fe")
  | (apply f_Call (by walk_at "fp") <;> walk_at "fe") | (apply f_CallK (by walk_at "fp") <;> walk_at "fe")
  | (apply f_Tup <;> walk_at "fe") | (apply f_Lst <;> walk_at "fe") | (apply f_Isi <;> walk_at "fe") | (apply f_Isi2 <;> walk_at "fe")
  | (apply f_Sl <;> walk_at "fe") | (apply f_Part <;> walk_at "fe")
  | (apply f_And <;> walk_at "fe") | (apply f_Or <;> walk_at "fe") | (apply f_Not <;> walk_at "fe")
  | (apply f_AndV <;> walk_at "fe") | (apply f_OrV <;> walk_at "fe") | (apply f_NotV <;> walk_at "fe")
  | (apply f_If <;> walk_at "fe") | (apply f_Chain <;> walk_at "fe") | (apply f_Look <;> walk_at "fe") | (apply f_LookL <;> walk_at "fe") | (apply f_Rev <;> walk_at "fe")
  | (apply f_ISeq <;> walk_at "fe") | (apply f_IEn <;> walk_at "fe") | (apply f_IZ <;> walk_at "fe") | (apply f_IR1 <;> walk_at "fe") | (apply f_IR2 <;> walk_at "fe") | exact f_IKeys | exact f_IVals | exact f_IItems
  | (apply f_gTup <;> walk_at "fe") | (apply f_gCons <;> walk_at "fe") | (apply f_Lc <;> walk_at "fe")
  | (apply f_Disp <;> walk_at "fe") | (apply f_pCons <;> walk_at "fe")
  | (apply f_Seq <;> walk_at "fe") | (apply f_IfS <;> walk_at "fe") | (apply f_Ret <;> walk_at "fe") | exact f_Next | (apply f_Set <;> walk_at "fe") | (apply f_Par <;> walk_at "fe") | (apply f_Asg <;> walk_at "fe") | (apply f_Drop <;> walk_at "fe") | (apply f_Append <;> walk_at "fe") | (apply f_For <;> walk_at "fe"))
local macro_rules | `(tactic| walk_at "len") => `(tactic| first | (simp only [List.length_cons, List.length_nil]; decide) | assumption)
local macro_rules | `(tactic| walk_at "ev") => `(tactic| first
  | with_reducible assumption
  | ((with_reducible apply o2) <;> walk_at "ev") | ((with_reducible apply o1) <;> walk_at "ev") | ((with_reducible apply vCons_of) <;> walk_at "ev") | ((with_reducible apply o_cl) <;> walk_at "ev") | ((with_reducible apply o_call) <;> walk_at "ev")
  | ((with_reducible apply vTest_of) <;> walk_at "ev") | ((with_reducible apply o_tup) <;> first | walk_at "len" | walk_at "ev") | ((with_reducible apply o_lst) <;> first | walk_at "len" | walk_at "ev")
  | ((with_reducible apply vNot_of) <;> walk_at "ev") | ((with_reducible apply vIsi_of) <;> walk_at "ev") | ((with_reducible apply vNotV_of) <;> walk_at "ev") | ((with_reducible apply o_sl) <;> walk_at "ev") | ((with_reducible apply o_part) <;> walk_at "ev")
  | rfl)
local macro_rules | `(tactic| walk_at "we") => `(tactic| (apply w_exp; (case h => walk_at "fe"); (case e => walk_at "ev")))
local macro_rules | `(tactic| walk_at "wa") => `(tactic| (apply w_args; (case h => walk_at "fe"); (case e => walk_at "ev")))
local macro_rules | `(tactic| walk_at "wt") => `(tactic| (apply w_tst; (case h => walk_at "fe"); (case e => walk_at "ev")))
local macro_rules | `(tactic| walk_at "wi") => `(tactic| (apply w_it; (case h => walk_at "fe"); (case e => walk_at "ev")))
local macro_rules | `(tactic| walk_at "qs") => `(tactic| (apply q_set; (case h => walk_at "fe"); (case e => walk_at "ev")))
local macro_rules | `(tactic| walk_at "qn") => `(tactic| (apply q_no; (case h => walk_at "fe"); (case e => walk_at "ev")))
local macro_rules | `(tactic| walk_at "wr") => `(tactic| (apply w_ret; (case h => walk_at "fe"); (case e => walk_at "ev")))
local macro_rules | `(tactic| walk_at "sp") => `(tactic| (apply s_callP; (apply w_args; (case h => walk_at "fe"); (case e => walk_at "ev"))))
theorem dGt_int (i j : Int) : dGt (.int i) (.int j) = some (.bool (decide (j < i))) := rfl
end RC
end
section
namespace RC
open PySem PySem.Spec L2 RR
open PyProof.Rows hiding St cutD
theorem Seen.int16 {x : Int} (h : x.natAbs < 2 ^ 17) : Seen 0 17 (.int x) := by
  have s := Seen.int (x := x) (Nat.lt_trans h (by decide))
  refine ⟨s.dep, ?_, s.sh, s.sw⟩
  unfold PyData.weight
  split
  · exact Nat.zero_le _
  · rename_i h0
    have h0' : x.natAbs ≠ 0 := by
      intro z
      apply h0
      rw [beq_iff_eq]; omega
    have := (Nat.log2_lt h0').mpr h
    omega
theorem seen_row16 {r : Row} (h : r.ok = true) : Seen 1 60 r.d := by
  have i5 : ∀ x lo hi : Int, within x lo hi = true → 0 ≤ lo → hi ≤ 65535 → Seen 0 17 (.int x) := fun x lo hi hx h1 h2 => by
    unfold within at hx
    rw [Bool.and_eq_true, decide_eq_true_eq, decide_eq_true_eq] at hx
    exact .int16 (by omega)
  have two : ∀ (w : Str) (x : Int), w.cps.toList.all (fun c => decide (c < 16 ^ 8)) = true → w.cps.size ≤ 17 → Seen 0 17 (.int x) → Seen 1 60 (.tuple [.str w, .int x]) := fun w x h1 h2 h3 =>
    Seen.tupN (k := 0) (w := 17) (n := 2) (fun d hd => by
      rcases List.mem_cons.mp hd with rfl | hd
      · exact .str h1 h2
      rcases List.mem_cons.mp hd with rfl | hd
      · exact h3
      · cases hd) (by show 2 ≤ 2; decide) (by decide)
  cases r with
  | plain s a =>
    unfold Row.ok at h
    rw [Bool.and_eq_true] at h
    exact Seen.tupN (k := 0) (w := 17) (n := 3) (fun d hd => by
      rcases List.mem_cons.mp hd with rfl | hd
      · exact .str (by decide +kernel) (by decide +kernel)
      rcases List.mem_cons.mp hd with rfl | hd
      · exact i5 _ _ _ h.1 (by decide) (by decide)
      rcases List.mem_cons.mp hd with rfl | hd
      · exact i5 _ _ _ h.2 (by decide) (by decide)
      · cases hd) (by show 3 ≤ 3; decide) (by decide)
  | stop s => exact two _ _ (by decide +kernel) (by decide +kernel) (i5 _ _ _ h (by decide) (by decide))
  | jump s => exact two _ _ (by decide +kernel) (by decide +kernel) (i5 _ _ _ h (by decide) (by decide))
  | branch s => exact two _ _ (by decide +kernel) (by decide +kernel) (i5 _ _ _ h (by decide) (by decide))
  | far s => exact two _ _ (by decide +kernel) (by decide +kernel) (i5 _ _ _ h (by decide) (by decide))
  | load s => exact two _ _ (by decide +kernel) (by decide +kernel) (i5 _ _ _ h (by decide) (by decide))
  | word s => exact two _ _ (by decide +kernel) (by decide +kernel) (i5 _ _ _ h (by decide) (by decide))
  | align s =>
    refine two _ _ (by decide +kernel) (by decide +kernel) (.int16 ?_)
    unfold Row.ok at h
    simp only [Bool.or_eq_true, beq_iff_eq] at h
    omega
theorem seen_rows16 {r : Row} {p : Part} (h : p.all Row.ok = true) : ∀ x ∈ p.map Row.d, Seen 1 60 x := fun x hx => by
  obtain ⟨r, hr, rfl⟩ := List.mem_map.mp hx
  exact seen_row16 (List.all_eq_true.mp h r hr)
theorem seen_part16 {p : Part} (h : partOk p = true) : Seen 2 1300 (pd p) :=
  Seen.tupN (n := 20) (fun d hd => seen_rows16 (r := .stop 0) (partOk_rows h) d hd) (by rw [List.length_map]; exact (partOk_len h).2) (by decide)
end RC
end
section
namespace RC
open PySem PySem.Spec L2 RR
open PyProof.Rows hiding St cutD
end RC
end
section
namespace RC
open PySem PySem.Spec L2 RR
open PyProof.Rows hiding St cutD
end RC
end
section
namespace RC
open PySem PySem.Spec L2 RR
open PyProof.Rows hiding St cutD
local macro_rules | `(tactic| walk_at "fp") => `(tactic| with_reducible first | exact fp__law_laid | exact fp__law_places_v2 | exact fp__law_misfits_v2 | exact fp__law_jumps_v2 | exact fp__law_least | exact fp_laid | exact fp_least | exact fp_bar)
local macro_rules | `(tactic| walk_at "fe") => `(tactic| with_reducible first
  | exact f_Var | exact f_C | exact f_Nil | exact f_Dict0 | exact f_NoPart | exact f_Yes | exact f_gName | exact f_gNil | exact f_pNil
  | (apply f_Cl <;> walk_at "fe") | (apply f_Op <;> walk_at "fe") | (apply f_Un <;> walk_at "fe") | (apply f_Cons <;> walk_at "fe")
  | (apply f_Test <;> walk_at "fe") | (apply f_Tru <;> walk_at "fe")
  | (apply f_Call (by walk_at "fp") <;> walk_at "fe") | (apply f_CallK (by walk_at "fp") <;> walk_at "fe")
  | (apply f_Tup <;> walk_at "fe") | (apply f_Lst <;> walk_at "fe") | (apply f_Isi <;> walk_at "fe") | (apply f_Isi2 <;> walk_at "fe")
  | (apply f_Sl <;> walk_at "fe") | (apply f_Part <;> walk_at "fe")
  | (apply f_And <;> walk_at "fe") | (apply f_Or <;> walk_at "fe") | (apply f_Not <;> walk_at "fe")
  | (apply f_AndV <;> walk_at "fe") | (apply f_OrV <;> walk_at "fe") | (apply f_NotV <;> walk_at "fe")
  | (apply f_If <;> walk_at "fe") | (apply f_Chain <;> walk_at "fe") | (apply f_Look <;> walk_at "fe") | (apply f_LookL <;> walk_at "fe") | (apply f_Rev <;> walk_at "fe")
  | (apply f_ISeq <;> walk_at "fe") | (apply f_IEn <;> walk_at "fe") | (apply f_IZ <;> walk_at "fe") | (apply f_IR1 <;> walk_at "fe") | (apply f_IR2 <;> walk_at "fe") | exact f_IKeys | exact f_IVals | exact f_IItems
  | (apply f_gTup <;> walk_at "fe") | (apply f_gCons <;> walk_at "fe") | (apply f_Lc <;> walk_at "fe")
  | (apply f_Disp <;> walk_at "fe") | (apply f_pCons <;> walk_at "fe")
  | (apply f_Seq <;> walk_at "fe") | (apply f_IfS <;> walk_at "fe") | (apply f_Ret <;> walk_at "fe") | exact f_Next | (apply f_Set <;> walk_at "fe") | (apply f_Par <;> walk_at "fe") | (apply f_Asg <;> walk_at "fe") | (apply f_Drop <;> walk_at "fe") | (apply f_Append <;> walk_at "fe") | (apply f_For <;> walk_at "fe"))
local macro_rules | `(tactic| walk_at "len") => `(tactic| first | (simp only [List.length_cons, List.length_nil]; decide) | assumption)
local macro_rules | `(tactic| walk_at "ev") => `(tactic| first
  | with_reducible assumption
  | ((with_reducible apply o2) <;> walk_at "ev") | ((with_reducible apply o1) <;> walk_at "ev") | ((with_reducible apply vCons_of) <;> walk_at "ev") | ((with_reducible apply o_cl) <;> walk_at "ev") | ((with_reducible apply o_call) <;> walk_at "ev")
  | ((with_reducible apply vTest_of) <;> walk_at "ev") | ((with_reducible apply o_tup) <;> first | walk_at "len" | walk_at "ev") | ((with_reducible apply o_lst) <;> first | walk_at "len" | walk_at "ev")
  | ((with_reducible apply vNot_t) <;> walk_at "ev") | ((with_reducible apply vNot_f) <;> walk_at "ev") | ((with_reducible apply vNot_of) <;> walk_at "ev") | ((with_reducible apply vIsi_of) <;> walk_at "ev") | ((with_reducible apply vNotV_of) <;> walk_at "ev") | ((with_reducible apply o_sl) <;> walk_at "ev") | ((with_reducible apply o_part) <;> walk_at "ev")
  | rfl)
local macro_rules | `(tactic| walk_at "we") => `(tactic| (apply w_exp; (case h => walk_at "fe"); (case e => walk_at "ev")))
local macro_rules | `(tactic| walk_at "wa") => `(tactic| (apply w_args; (case h => walk_at "fe"); (case e => walk_at "ev")))
local macro_rules | `(tactic| walk_at "wt") => `(tactic| (apply w_tst; (case h => walk_at "fe"); (case e => walk_at "ev")))
local macro_rules | `(tactic| walk_at "wi") => `(tactic| (apply w_it; (case h => walk_at "fe"); (case e => walk_at "ev")))
local macro_rules | `(tactic| walk_at "qs") => `(tactic| (apply q_set; (case h => walk_at "fe"); (case e => walk_at "ev")))
local macro_rules | `(tactic| walk_at "qn") => `(tactic| (apply q_no; (case h => walk_at "fe"); (case e => walk_at "ev")))
local macro_rules | `(tactic| walk_at "wr") => `(tactic| (apply w_ret; (case h => walk_at "fe"); (case e => walk_at "ev")))
local macro_rules | `(tactic| walk_at "sp") => `(tactic| (apply s_callP; (apply w_args; (case h => walk_at "fe"); (case e => walk_at "ev"))))
end RC
end
section
namespace RC
open PySem PySem.Spec L2 RR
open PyProof.Rows hiding St cutD
end RC
end
section
namespace RC
open PySem PySem.Spec L2 RR
open PyProof.Rows hiding St cutD
end RC
end
section
namespace RC
open PySem PySem.Spec L2 RR
open PyProof.Rows hiding St cutD
local macro_rules | `(tactic| walk_at "fp") => `(tactic| with_reducible first | exact fp_growth | exact fp_is_part)
local macro_rules | `(tactic| walk_at "fe") => `(tactic| with_reducible first
  | exact f_Var | exact f_C | exact f_Nil | exact f_Dict0 | exact f_NoPart | exact f_Yes | exact f_gName | exact f_gNil | exact f_pNil
  | (apply f_Cl <;> walk_at "fe") | (apply f_Op <;> walk_at "fe") | (apply f_Un <;> walk_at "fe") | (apply f_Cons <;> walk_at "fe")
  | (apply f_Test <;> walk_at "fe") | (apply f_Tru <;> walk_at "fe")
  | (apply f_Call (by walk_at "fp") <;> walk_at "fe") | (apply f_CallK (by walk_at "fp") <;> walk_at "fe")
  | (apply f_Tup <;> walk_at "fe") | (apply f_Lst <;> walk_at "fe") | (apply f_Isi <;> walk_at "fe") | (apply f_Isi2 <;> walk_at "fe")
  | (apply f_Sl <;> walk_at "fe") | (apply f_Part <;> walk_at "fe")
  | (apply f_And <;> walk_at "fe") | (apply f_Or <;> walk_at "fe") | (apply f_Not <;> walk_at "fe")
  | (apply f_AndV <;> walk_at "fe") | (apply f_OrV <;> walk_at "fe") | (apply f_NotV <;> walk_at "fe")
  | (apply f_If <;> walk_at "fe") | (apply f_Chain <;> walk_at "fe") | (apply f_Look <;> walk_at "fe") | (apply f_LookL <;> walk_at "fe") | (apply f_Rev <;> walk_at "fe")
  | (apply f_ISeq <;> walk_at "fe") | (apply f_IEn <;> walk_at "fe") | (apply f_IZ <;> walk_at "fe") | (apply f_IR1 <;> walk_at "fe") | (apply f_IR2 <;> walk_at "fe") | exact f_IKeys | exact f_IVals | exact f_IItems
  | (apply f_gTup <;> walk_at "fe") | (apply f_gCons <;> walk_at "fe") | (apply f_Lc <;> walk_at "fe")
  | (apply f_Disp <;> walk_at "fe") | (apply f_pCons <;> walk_at "fe")
  | (apply f_Seq <;> walk_at "fe") | (apply f_IfS <;> walk_at "fe") | (apply f_Ret <;> walk_at "fe") | exact f_Next | (apply f_Set <;> walk_at "fe") | (apply f_Par <;> walk_at "fe") | (apply f_Asg <;> walk_at "fe") | (apply f_Drop <;> walk_at "fe") | (apply f_Append <;> walk_at "fe") | (apply f_For <;> walk_at "fe"))
local macro_rules | `(tactic| walk_at "len") => `(tactic| first | (simp only [List.length_cons, List.length_nil]; decide) | assumption)
local macro_rules | `(tactic| walk_at "ev") => `(tactic| first
  | with_reducible assumption
  | ((with_reducible apply o2) <;> walk_at "ev") | ((with_reducible apply o1) <;> walk_at "ev") | ((with_reducible apply vCons_of) <;> walk_at "ev") | ((with_reducible apply o_cl) <;> walk_at "ev") | ((with_reducible apply o_call) <;> walk_at "ev")
  | ((with_reducible apply vTest_of) <;> walk_at "ev") | ((with_reducible apply o_tup) <;> first | walk_at "len" | walk_at "ev") | ((with_reducible apply o_lst) <;> first | walk_at "len" | walk_at "ev")
  | ((with_reducible apply vNot_t) <;> walk_at "ev") | ((with_reducible apply vNot_f) <;> walk_at "ev") | ((with_reducible apply vNot_of) <;> walk_at "ev") | ((with_reducible apply vIsi_of) <;> walk_at "ev") | ((with_reducible apply vNotV_of) <;> walk_at "ev") | ((with_reducible apply o_sl) <;> walk_at "ev") | ((with_reducible apply o_part) <;> walk_at "ev")
  | rfl)
local macro_rules | `(tactic| walk_at "we") => `(tactic| (apply w_exp; (case h => walk_at "fe"); (case e => walk_at "ev")))
local macro_rules | `(tactic| walk_at "wa") => `(tactic| (apply w_args; (case h => walk_at "fe"); (case e => walk_at "ev")))
local macro_rules | `(tactic| walk_at "wt") => `(tactic| (apply w_tst; (case h => walk_at "fe"); (case e => walk_at "ev")))
local macro_rules | `(tactic| walk_at "wi") => `(tactic| (apply w_it; (case h => walk_at "fe"); (case e => walk_at "ev")))
local macro_rules | `(tactic| walk_at "qs") => `(tactic| (apply q_set; (case h => walk_at "fe"); (case e => walk_at "ev")))
local macro_rules | `(tactic| walk_at "qn") => `(tactic| (apply q_no; (case h => walk_at "fe"); (case e => walk_at "ev")))
local macro_rules | `(tactic| walk_at "wr") => `(tactic| (apply w_ret; (case h => walk_at "fe"); (case e => walk_at "ev")))
local macro_rules | `(tactic| walk_at "sp") => `(tactic| (apply s_callP; (apply w_args; (case h => walk_at "fe"); (case e => walk_at "ev"))))
end RC
end
section
namespace RC
open PySem PySem.Spec L2 RR
open PyProof.Rows hiding St cutD
local macro_rules | `(tactic| walk_at "fp") => `(tactic| with_reducible first | exact fp_growth | exact fp_is_part)
local macro_rules | `(tactic| walk_at "fe") => `(tactic| with_reducible first
  | exact f_Var | exact f_C | exact f_Nil | exact f_Dict0 | exact f_NoPart | exact f_Yes | exact f_gName | exact f_gNil | exact f_pNil
  | (apply f_Cl <;> walk_at "fe") | (apply f_Op <;> walk_at "fe") | (apply f_Un <;> walk_at "fe") | (apply f_Cons <;> walk_at "fe")
  | (apply f_Test <;> walk_at "fe") | (apply f_Tru <;> walk_at "fe")
  | (apply f_Call (by walk_at "fp") <;> walk_at "fe") | (apply f_CallK (by walk_at "fp") <;> walk_at "fe")
  | (apply f_Tup <;> walk_at "fe") | (apply f_Lst <;> walk_at "fe") | (apply f_Isi <;> walk_at "fe") | (apply f_Isi2 <;> walk_at "fe")
  | (apply f_Sl <;> walk_at "fe") | (apply f_Part <;> walk_at "fe")
  | (apply f_And <;> walk_at "fe") | (apply f_Or <;> walk_at "fe") | (apply f_Not <;> walk_at "fe")
  | (apply f_AndV <;> walk_at "fe") | (apply f_OrV <;> walk_at "fe") | (apply f_NotV <;> walk_at "fe")
  | (apply f_If <;> walk_at "fe") | (apply f_Chain <;> walk_at "fe") | (apply f_Look <;> walk_at "fe") | (apply f_LookL <;> walk_at "fe") | (apply f_Rev <;> walk_at "fe")
  | (apply f_ISeq <;> walk_at "fe") | (apply f_IEn <;> walk_at "fe") | (apply f_IZ <;> walk_at "fe") | (apply f_IR1 <;> walk_at "fe") | (apply f_IR2 <;> walk_at "fe") | exact f_IKeys | exact f_IVals | exact f_IItems
  | (apply f_gTup <;> walk_at "fe") | (apply f_gCons <;> walk_at "fe") | (apply f_Lc <;> walk_at "fe")
  | (apply f_Disp <;> walk_at "fe") | (apply f_pCons <;> walk_at "fe")
  | (apply f_Seq <;> walk_at "fe") | (apply f_IfS <;> walk_at "fe") | (apply f_Ret <;> walk_at "fe") | exact f_Next | (apply f_Set <;> walk_at "fe") | (apply f_Par <;> walk_at "fe") | (apply f_Asg <;> walk_at "fe") | (apply f_Drop <;> walk_at "fe") | (apply f_Append <;> walk_at "fe") | (apply f_For <;> walk_at "fe"))
local macro_rules | `(tactic| walk_at "len") => `(tactic| first | (simp only [List.length_cons, List.length_nil]; decide) | assumption)
local macro_rules | `(tactic| walk_at "ev") => `(tactic| first
  | with_reducible assumption
  | ((with_reducible apply o2) <;> walk_at "ev") | ((with_reducible apply o1) <;> walk_at "ev") | ((with_reducible apply vCons_of) <;> walk_at "ev") | ((with_reducible apply o_cl) <;> walk_at "ev") | ((with_reducible apply o_call) <;> walk_at "ev")
  | ((with_reducible apply vTest_of) <;> walk_at "ev") | ((with_reducible apply o_tup) <;> first | walk_at "len" | walk_at "ev") | ((with_reducible apply o_lst) <;> first | walk_at "len" | walk_at "ev")
  | ((with_reducible apply vNot_t) <;> walk_at "ev") | ((with_reducible apply vNot_f) <;> walk_at "ev") | ((with_reducible apply vNot_of) <;> walk_at "ev") | ((with_reducible apply vIsi_of) <;> walk_at "ev") | ((with_reducible apply vNotV_of) <;> walk_at "ev") | ((with_reducible apply o_sl) <;> walk_at "ev") | ((with_reducible apply o_part) <;> walk_at "ev")
  | rfl)
local macro_rules | `(tactic| walk_at "we") => `(tactic| (apply w_exp; (case h => walk_at "fe"); (case e => walk_at "ev")))
local macro_rules | `(tactic| walk_at "wa") => `(tactic| (apply w_args; (case h => walk_at "fe"); (case e => walk_at "ev")))
local macro_rules | `(tactic| walk_at "wt") => `(tactic| (apply w_tst; (case h => walk_at "fe"); (case e => walk_at "ev")))
local macro_rules | `(tactic| walk_at "wi") => `(tactic| (apply w_it; (case h => walk_at "fe"); (case e => walk_at "ev")))
local macro_rules | `(tactic| walk_at "qs") => `(tactic| (apply q_set; (case h => walk_at "fe"); (case e => walk_at "ev")))
local macro_rules | `(tactic| walk_at "qn") => `(tactic| (apply q_no; (case h => walk_at "fe"); (case e => walk_at "ev")))
local macro_rules | `(tactic| walk_at "wr") => `(tactic| (apply w_ret; (case h => walk_at "fe"); (case e => walk_at "ev")))
local macro_rules | `(tactic| walk_at "sp") => `(tactic| (apply s_callP; (apply w_args; (case h => walk_at "fe"); (case e => walk_at "ev"))))
end RC
end
section
namespace RC
open PySem PySem.Spec L2 RR
open PyProof.Rows hiding St cutD
local macro_rules | `(tactic| walk_at "fp") => `(tactic| with_reducible first | exact fp_growth | exact fp_is_part)
local macro_rules | `(tactic| walk_at "fe") => `(tactic| with_reducible first
  | exact f_Var | exact f_C | exact f_Nil | exact f_Dict0 | exact f_NoPart | exact f_Yes | exact f_gName | exact f_gNil | exact f_pNil
  | (apply f_Cl <;> walk_at "fe") | (apply f_Op <;> walk_at "fe") | (apply f_Un <;> walk_at "fe") | (apply f_Cons <;> walk_at "fe")
  | (apply f_Test <;> walk_at "fe") | (apply f_Tru <;> walk_at "fe")
  | (apply f_Call (by walk_at "fp") <;> walk_at "fe") | (apply f_CallK (by walk_at "fp") <;> walk_at "fe")
  | (apply f_Tup <;> walk_at "fe") | (apply f_Lst <;> walk_at "fe") | (apply f_Isi <;> walk_at "fe") | (apply f_Isi2 <;> walk_at "fe")
  | (apply f_Sl <;> walk_at "fe") | (apply f_Part <;> walk_at "fe")
  | (apply f_And <;> walk_at "fe") | (apply f_Or <;> walk_at "fe") | (apply f_Not <;> walk_at "fe")
  | (apply f_AndV <;> walk_at "fe") | (apply f_OrV <;> walk_at "fe") | (apply f_NotV <;> walk_at "fe")
  | (apply f_If <;> walk_at "fe") | (apply f_Chain <;> walk_at "fe") | (apply f_Look <;> walk_at "fe") | (apply f_LookL <;> walk_at "fe") | (apply f_Rev <;> walk_at "fe")
  | (apply f_ISeq <;> walk_at "fe") | (apply f_IEn <;> walk_at "fe") | (apply f_IZ <;> walk_at "fe") | (apply f_IR1 <;> walk_at "fe") | (apply f_IR2 <;> walk_at "fe") | exact f_IKeys | exact f_IVals | exact f_IItems
  | (apply f_gTup <;> walk_at "fe") | (apply f_gCons <;> walk_at "fe") | (apply f_Lc <;> walk_at "fe")
  | (apply f_Disp <;> walk_at "fe") | (apply f_pCons <;> walk_at "fe")
  | (apply f_Seq <;> walk_at "fe") | (apply f_IfS <;> walk_at "fe") | (apply f_Ret <;> walk_at "fe") | exact f_Next | (apply f_Set <;> walk_at "fe") | (apply f_Par <;> walk_at "fe") | (apply f_Asg <;> walk_at "fe") | (apply f_Drop <;> walk_at "fe") | (apply f_Append <;> walk_at "fe") | (apply f_For <;> walk_at "fe"))
local macro_rules | `(tactic| walk_at "len") => `(tactic| first | (simp only [List.length_cons, List.length_nil]; decide) | assumption)
local macro_rules | `(tactic| walk_at "ev") => `(tactic| first
  | with_reducible assumption
  | ((with_reducible apply o2) <;> walk_at "ev") | ((with_reducible apply o1) <;> walk_at "ev") | ((with_reducible apply vCons_of) <;> walk_at "ev") | ((with_reducible apply o_cl) <;> walk_at "ev") | ((with_reducible apply o_call) <;> walk_at "ev")
  | ((with_reducible apply vTest_of) <;> walk_at "ev") | ((with_reducible apply o_tup) <;> first | walk_at "len" | walk_at "ev") | ((with_reducible apply o_lst) <;> first | walk_at "len" | walk_at "ev")
  | ((with_reducible apply vNot_t) <;> walk_at "ev") | ((with_reducible apply vNot_f) <;> walk_at "ev") | ((with_reducible apply vNot_of) <;> walk_at "ev") | ((with_reducible apply vIsi_of) <;> walk_at "ev") | ((with_reducible apply vNotV_of) <;> walk_at "ev") | ((with_reducible apply o_sl) <;> walk_at "ev") | ((with_reducible apply o_part) <;> walk_at "ev")
  | rfl)
local macro_rules | `(tactic| walk_at "we") => `(tactic| (apply w_exp; (case h => walk_at "fe"); (case e => walk_at "ev")))
local macro_rules | `(tactic| walk_at "wa") => `(tactic| (apply w_args; (case h => walk_at "fe"); (case e => walk_at "ev")))
local macro_rules | `(tactic| walk_at "wt") => `(tactic| (apply w_tst; (case h => walk_at "fe"); (case e => walk_at "ev")))
local macro_rules | `(tactic| walk_at "wi") => `(tactic| (apply w_it; (case h => walk_at "fe"); (case e => walk_at "ev")))
local macro_rules | `(tactic| walk_at "qs") => `(tactic| (apply q_set; (case h => walk_at "fe"); (case e => walk_at "ev")))
local macro_rules | `(tactic| walk_at "qn") => `(tactic| (apply q_no; (case h => walk_at "fe"); (case e => walk_at "ev")))
local macro_rules | `(tactic| walk_at "wr") => `(tactic| (apply w_ret; (case h => walk_at "fe"); (case e => walk_at "ev")))
local macro_rules | `(tactic| walk_at "sp") => `(tactic| (apply s_callP; (apply w_args; (case h => walk_at "fe"); (case e => walk_at "ev"))))
end RC
end
section
namespace RC
open PySem PySem.Spec L2 RR
open PyProof.Rows hiding St cutD
local macro_rules | `(tactic| walk_at "fp") => `(tactic| with_reducible first | exact fp_growth | exact fp_is_part | exact fp_twin_of | exact fp_with_part | exact fp_opens | exact fp_is_book | exact fp_is_part_number | exact fp_is_within)
local macro_rules | `(tactic| walk_at "fe") => `(tactic| with_reducible first
  | exact f_Var | exact f_C | exact f_Nil | exact f_Dict0 | exact f_NoPart | exact f_Yes | exact f_gName | exact f_gNil | exact f_pNil
  | (apply f_Cl <;> walk_at "fe") | (apply f_Op <;> walk_at "fe") | (apply f_Un <;> walk_at "fe") | (apply f_Cons <;> walk_at "fe")
  | (apply f_Test <;> walk_at "fe") | (apply f_Tru <;> walk_at "fe")
  | (apply f_Call (by walk_at "fp") <;> walk_at "fe") | (apply f_CallK (by walk_at "fp") <;> walk_at "fe")
  | (apply f_Tup <;> walk_at "fe") | (apply f_Lst <;> walk_at "fe") | (apply f_Isi <;> walk_at "fe") | (apply f_Isi2 <;> walk_at "fe")
  | (apply f_Sl <;> walk_at "fe") | (apply f_Part <;> walk_at "fe")
  | (apply f_And <;> walk_at "fe") | (apply f_Or <;> walk_at "fe") | (apply f_Not <;> walk_at "fe")
  | (apply f_AndV <;> walk_at "fe") | (apply f_OrV <;> walk_at "fe") | (apply f_NotV <;> walk_at "fe")
  | (apply f_If <;> walk_at "fe") | (apply f_Chain <;> walk_at "fe") | (apply f_Look <;> walk_at "fe") | (apply f_LookL <;> walk_at "fe") | (apply f_Rev <;> walk_at "fe")
  | (apply f_ISeq <;> walk_at "fe") | (apply f_IEn <;> walk_at "fe") | (apply f_IZ <;> walk_at "fe") | (apply f_IR1 <;> walk_at "fe") | (apply f_IR2 <;> walk_at "fe") | exact f_IKeys | exact f_IVals | exact f_IItems
  | (apply f_gTup <;> walk_at "fe") | (apply f_gCons <;> walk_at "fe") | (apply f_Lc <;> walk_at "fe")
  | (apply f_Disp <;> walk_at "fe") | (apply f_pCons <;> walk_at "fe")
  | (apply f_Seq <;> walk_at "fe") | (apply f_IfS <;> walk_at "fe") | (apply f_Ret <;> walk_at "fe") | exact f_Next | (apply f_Set <;> walk_at "fe") | (apply f_Par <;> walk_at "fe") | (apply f_Asg <;> walk_at "fe") | (apply f_Drop <;> walk_at "fe") | (apply f_Append <;> walk_at "fe") | (apply f_For <;> walk_at "fe"))
local macro_rules | `(tactic| walk_at "len") => `(tactic| first | (simp only [List.length_cons, List.length_nil]; decide) | assumption)
local macro_rules | `(tactic| walk_at "ev") => `(tactic| first
  | with_reducible assumption
  | ((with_reducible apply o2) <;> walk_at "ev") | ((with_reducible apply o1) <;> walk_at "ev") | ((with_reducible apply vCons_of) <;> walk_at "ev") | ((with_reducible apply o_cl) <;> walk_at "ev") | ((with_reducible apply o_call) <;> walk_at "ev")
  | ((with_reducible apply vTest_of) <;> walk_at "ev") | ((with_reducible apply o_tup) <;> first | walk_at "len" | walk_at "ev") | ((with_reducible apply o_lst) <;> first | walk_at "len" | walk_at "ev")
  | ((with_reducible apply vNot_t) <;> walk_at "ev") | ((with_reducible apply vNot_f) <;> walk_at "ev") | ((with_reducible apply vNot_of) <;> walk_at "ev") | ((with_reducible apply vIsi_of) <;> walk_at "ev") | ((with_reducible apply vNotV_of) <;> walk_at "ev") | ((with_reducible apply o_sl) <;> walk_at "ev") | ((with_reducible apply o_part) <;> walk_at "ev")
  | rfl)
local macro_rules | `(tactic| walk_at "we") => `(tactic| (apply w_exp; (case h => walk_at "fe"); (case e => walk_at "ev")))
local macro_rules | `(tactic| walk_at "wa") => `(tactic| (apply w_args; (case h => walk_at "fe"); (case e => walk_at "ev")))
local macro_rules | `(tactic| walk_at "wt") => `(tactic| (apply w_tst; (case h => walk_at "fe"); (case e => walk_at "ev")))
local macro_rules | `(tactic| walk_at "wi") => `(tactic| (apply w_it; (case h => walk_at "fe"); (case e => walk_at "ev")))
local macro_rules | `(tactic| walk_at "qs") => `(tactic| (apply q_set; (case h => walk_at "fe"); (case e => walk_at "ev")))
local macro_rules | `(tactic| walk_at "qn") => `(tactic| (apply q_no; (case h => walk_at "fe"); (case e => walk_at "ev")))
local macro_rules | `(tactic| walk_at "wr") => `(tactic| (apply w_ret; (case h => walk_at "fe"); (case e => walk_at "ev")))
local macro_rules | `(tactic| walk_at "sp") => `(tactic| (apply s_callP; (apply w_args; (case h => walk_at "fe"); (case e => walk_at "ev"))))
end RC
end
section
namespace RC
open PySem PySem.Spec L2 RR
open PyProof.Rows hiding St cutD
local macro_rules | `(tactic| walk_at "fp") => `(tactic| with_reducible first | exact fp__law_w_shifted | exact fp_is_book | exact fp_run_book | exact fp_opens | exact fp_twin | exact fp_has_door)
local macro_rules | `(tactic| walk_at "fe") => `(tactic| with_reducible first
  | exact f_Var | exact f_C | exact f_Nil | exact f_Dict0 | exact f_NoPart | exact f_Yes | exact f_gName | exact f_gNil | exact f_pNil
  | (apply f_Cl <;> walk_at "fe") | (apply f_Op <;> walk_at "fe") | (apply f_Un <;> walk_at "fe") | (apply f_Cons <;> walk_at "fe")
  | (apply f_Test <;> walk_at "fe") | (apply f_Tru <;> walk_at "fe")
  | (apply f_Call (by walk_at "fp") <;> walk_at "fe") | (apply f_CallK (by walk_at "fp") <;> walk_at "fe")
  | (apply f_Tup <;> walk_at "fe") | (apply f_Lst <;> walk_at "fe") | (apply f_Isi <;> walk_at "fe") | (apply f_Isi2 <;> walk_at "fe")
  | (apply f_Sl <;> walk_at "fe") | (apply f_Part <;> walk_at "fe")
  | (apply f_And <;> walk_at "fe") | (apply f_Or <;> walk_at "fe") | (apply f_Not <;> walk_at "fe")
  | (apply f_AndV <;> walk_at "fe") | (apply f_OrV <;> walk_at "fe") | (apply f_NotV <;> walk_at "fe")
  | (apply f_If <;> walk_at "fe") | (apply f_Chain <;> walk_at "fe") | (apply f_Look <;> walk_at "fe") | (apply f_LookL <;> walk_at "fe") | (apply f_Rev <;> walk_at "fe")
  | (apply f_ISeq <;> walk_at "fe") | (apply f_IEn <;> walk_at "fe") | (apply f_IZ <;> walk_at "fe") | (apply f_IR1 <;> walk_at "fe") | (apply f_IR2 <;> walk_at "fe") | exact f_IKeys | exact f_IVals | exact f_IItems
  | (apply f_gTup <;> walk_at "fe") | (apply f_gCons <;> walk_at "fe") | (apply f_Lc <;> walk_at "fe")
  | (apply f_Disp <;> walk_at "fe") | (apply f_pCons <;> walk_at "fe")
  | (apply f_Seq <;> walk_at "fe") | (apply f_IfS <;> walk_at "fe") | (apply f_Ret <;> walk_at "fe") | exact f_Next | (apply f_Set <;> walk_at "fe") | (apply f_Par <;> walk_at "fe") | (apply f_Asg <;> walk_at "fe") | (apply f_Drop <;> walk_at "fe") | (apply f_Append <;> walk_at "fe") | (apply f_For <;> walk_at "fe"))
local macro_rules | `(tactic| walk_at "len") => `(tactic| first | (simp only [List.length_cons, List.length_nil]; decide) | assumption)
local macro_rules | `(tactic| walk_at "ev") => `(tactic| first
  | with_reducible assumption
  | ((with_reducible apply o2) <;> walk_at "ev") | ((with_reducible apply o1) <;> walk_at "ev") | ((with_reducible apply vCons_of) <;> walk_at "ev") | ((with_reducible apply o_cl) <;> walk_at "ev") | ((with_reducible apply o_call) <;> walk_at "ev")
  | ((with_reducible apply vTest_of) <;> walk_at "ev") | ((with_reducible apply o_tup) <;> first | walk_at "len" | walk_at "ev") | ((with_reducible apply o_lst) <;> first | walk_at "len" | walk_at "ev")
  | ((with_reducible apply vNot_t) <;> walk_at "ev") | ((with_reducible apply vNot_f) <;> walk_at "ev") | ((with_reducible apply vNot_of) <;> walk_at "ev") | ((with_reducible apply vIsi_of) <;> walk_at "ev") | ((with_reducible apply vNotV_of) <;> walk_at "ev") | ((with_reducible apply o_sl) <;> walk_at "ev") | ((with_reducible apply o_part) <;> walk_at "ev")
  | rfl)
local macro_rules | `(tactic| walk_at "we") => `(tactic| (apply w_exp; (case h => walk_at "fe"); (case e => walk_at "ev")))
local macro_rules | `(tactic| walk_at "wa") => `(tactic| (apply w_args; (case h => walk_at "fe"); (case e => walk_at "ev")))
local macro_rules | `(tactic| walk_at "wt") => `(tactic| (apply w_tst; (case h => walk_at "fe"); (case e => walk_at "ev")))
local macro_rules | `(tactic| walk_at "wi") => `(tactic| (apply w_it; (case h => walk_at "fe"); (case e => walk_at "ev")))
local macro_rules | `(tactic| walk_at "qs") => `(tactic| (apply q_set; (case h => walk_at "fe"); (case e => walk_at "ev")))
local macro_rules | `(tactic| walk_at "qn") => `(tactic| (apply q_no; (case h => walk_at "fe"); (case e => walk_at "ev")))
local macro_rules | `(tactic| walk_at "wr") => `(tactic| (apply w_ret; (case h => walk_at "fe"); (case e => walk_at "ev")))
local macro_rules | `(tactic| walk_at "sp") => `(tactic| (apply s_callP; (apply w_args; (case h => walk_at "fe"); (case e => walk_at "ev"))))
end RC
end
section
namespace RC
open PySem PySem.Spec L2 RR
open PyProof.Rows hiding St cutD
local macro_rules | `(tactic| walk_at "fp") => `(tactic| with_reducible first | exact fp_growth | exact fp_is_part | exact fp_twin_of | exact fp_with_part | exact fp_opens | exact fp_is_book | exact fp_is_part_number | exact fp_is_within)
local macro_rules | `(tactic| walk_at "fe") => `(tactic| with_reducible first
  | exact f_Var | exact f_C | exact f_Nil | exact f_Dict0 | exact f_NoPart | exact f_Yes | exact f_gName | exact f_gNil | exact f_pNil
  | (apply f_Cl <;> walk_at "fe") | (apply f_Op <;> walk_at "fe") | (apply f_Un <;> walk_at "fe") | (apply f_Cons <;> walk_at "fe")
  | (apply f_Test <;> walk_at "fe") | (apply f_Tru <;> walk_at "fe")
  | (apply f_Call (by walk_at "fp") <;> walk_at "fe") | (apply f_CallK (by walk_at "fp") <;> walk_at "fe")
  | (apply f_Tup <;> walk_at "fe") | (apply f_Lst <;> walk_at "fe") | (apply f_Isi <;> walk_at "fe") | (apply f_Isi2 <;> walk_at "fe")
  | (apply f_Sl <;> walk_at "fe") | (apply f_Part <;> walk_at "fe")
  | (apply f_And <;> walk_at "fe") | (apply f_Or <;> walk_at "fe") | (apply f_Not <;> walk_at "fe")
  | (apply f_AndV <;> walk_at "fe") | (apply f_OrV <;> walk_at "fe") | (apply f_NotV <;> walk_at "fe")
  | (apply f_If <;> walk_at "fe") | (apply f_Chain <;> walk_at "fe") | (apply f_Look <;> walk_at "fe") | (apply f_LookL <;> walk_at "fe") | (apply f_Rev <;> walk_at "fe")
  | (apply f_ISeq <;> walk_at "fe") | (apply f_IEn <;> walk_at "fe") | (apply f_IZ <;> walk_at "fe") | (apply f_IR1 <;> walk_at "fe") | (apply f_IR2 <;> walk_at "fe") | exact f_IKeys | exact f_IVals | exact f_IItems
  | (apply f_gTup <;> walk_at "fe") | (apply f_gCons <;> walk_at "fe") | (apply f_Lc <;> walk_at "fe")
  | (apply f_Disp <;> walk_at "fe") | (apply f_pCons <;> walk_at "fe")
  | (apply f_Seq <;> walk_at "fe") | (apply f_IfS <;> walk_at "fe") | (apply f_Ret <;> walk_at "fe") | exact f_Next | (apply f_Set <;> walk_at "fe") | (apply f_Par <;> walk_at "fe") | (apply f_Asg <;> walk_at "fe") | (apply f_Drop <;> walk_at "fe") | (apply f_Append <;> walk_at "fe") | (apply f_For <;> walk_at "fe"))
local macro_rules | `(tactic| walk_at "len") => `(tactic| first | (simp only [List.length_cons, List.length_nil]; decide) | assumption)
local macro_rules | `(tactic| walk_at "ev") => `(tactic| first
  | with_reducible assumption
  | ((with_reducible apply o2) <;> walk_at "ev") | ((with_reducible apply o1) <;> walk_at "ev") | ((with_reducible apply vCons_of) <;> walk_at "ev") | ((with_reducible apply o_cl) <;> walk_at "ev") | ((with_reducible apply o_call) <;> walk_at "ev")
  | ((with_reducible apply vTest_of) <;> walk_at "ev") | ((with_reducible apply o_tup) <;> first | walk_at "len" | walk_at "ev") | ((with_reducible apply o_lst) <;> first | walk_at "len" | walk_at "ev")
  | ((with_reducible apply vNot_t) <;> walk_at "ev") | ((with_reducible apply vNot_f) <;> walk_at "ev") | ((with_reducible apply vNot_of) <;> walk_at "ev") | ((with_reducible apply vIsi_of) <;> walk_at "ev") | ((with_reducible apply vNotV_of) <;> walk_at "ev") | ((with_reducible apply o_sl) <;> walk_at "ev") | ((with_reducible apply o_part) <;> walk_at "ev")
  | rfl)
local macro_rules | `(tactic| walk_at "we") => `(tactic| (apply w_exp; (case h => walk_at "fe"); (case e => walk_at "ev")))
local macro_rules | `(tactic| walk_at "wa") => `(tactic| (apply w_args; (case h => walk_at "fe"); (case e => walk_at "ev")))
local macro_rules | `(tactic| walk_at "wt") => `(tactic| (apply w_tst; (case h => walk_at "fe"); (case e => walk_at "ev")))
local macro_rules | `(tactic| walk_at "wi") => `(tactic| (apply w_it; (case h => walk_at "fe"); (case e => walk_at "ev")))
local macro_rules | `(tactic| walk_at "qs") => `(tactic| (apply q_set; (case h => walk_at "fe"); (case e => walk_at "ev")))
local macro_rules | `(tactic| walk_at "qn") => `(tactic| (apply q_no; (case h => walk_at "fe"); (case e => walk_at "ev")))
local macro_rules | `(tactic| walk_at "wr") => `(tactic| (apply w_ret; (case h => walk_at "fe"); (case e => walk_at "ev")))
local macro_rules | `(tactic| walk_at "sp") => `(tactic| (apply s_callP; (apply w_args; (case h => walk_at "fe"); (case e => walk_at "ev"))))
end RC
end
section
namespace RC
open PySem PySem.Spec L2 RR
open PyProof.Rows hiding St cutD
end RC
end
section
namespace RC
open PySem PySem.Spec L2 RR
open PyProof.Rows hiding St cutD
structure Inv66 (b : Book) (st : List Int × List D) : Prop where
  l1 : st.1.length = b.length
  l2 : st.2.length = b.length
  r1 : ∀ x ∈ st.1, 0 ≤ x ∧ x ≤ 1980
  r2 : ∀ d ∈ st.2, d = .none ∨ ∃ k : Nat, k < 40 ∧ d = natD k
theorem Inv66.start (b : Book) : Inv66 b (List.replicate b.length 0, List.replicate b.length .none) :=
  ⟨by rw [List.length_replicate], by rw [List.length_replicate], fun x hx => by rw [(List.mem_replicate.mp hx).2]; decide, fun d hd => .inl (List.mem_replicate.mp hd).2⟩
end RC
end
section
namespace RC
open PySem PySem.Spec L2 RR
open PyProof.Rows hiding St cutD
theorem same66 (s : Str) : dNe (.str s) (.str s) = some (.bool false) := by
  rw [dNe_str, decide_eq_true rfl]; rfl
end RC
end
section
namespace RC
open PySem PySem.Spec L2 RR
open PyProof.Rows hiding St cutD
end RC
end
section
namespace RC
open PySem PySem.Spec L2 RR
open PyProof.Rows hiding St cutD
theorem vLookA_of41 {i : Nat} {v : VE} {Γ : DEnv} {g d : D} (h1 : Γ[i]? = some (some g)) (h2 : v Γ = some d) (h3 : apD g d = true) : vLookA i v Γ = some d := by
  unfold vLookA
  rw [h1, Option.bind_some]
  show Option.bind (some g) _ = _
  rw [Option.bind_some, h2, Option.bind_some, if_pos h3]
structure PutA (p : Part) (pl : Pl) : Prop where
  parts : PartParts p
  few : pl.length ≤ 100
  len : (putR pl 0 p).length ≤ 800
theorem put_goalA {p : Part} {pl : Pl} (h : PutA p pl) {r : Row} (hr : r ∈ putR pl 0 p) (hj : r.isJump = true) : ∃ g : Nat, r.num = (g : Int) ∧ ∃ z, p[g]? = some z ∧ z.isWord = false := by
  rcases put_mem pl p 0 r hr with hm | ⟨q, _, rfl⟩ | ⟨i, q, h1, h2, rfl⟩
  · obtain ⟨z, hz, hw⟩ := h.parts.goals r hm hj
    have := ok_jump (h.parts.rows r hm) hj
    exact ⟨r.num.toNat, by omega, z, hz, hw⟩
  · cases hj
  · obtain ⟨z, hz, hw⟩ := shun_next p true i q h.parts.shun h1 h2
    exact ⟨0 + i + 1, rfl, z, by rw [Nat.zero_add]; exact hz, hw⟩
theorem put_jumpA {p : Part} {pl : Pl} (h : PutA p pl) : ∀ r ∈ putR pl 0 p, r.isJump = true → ∃ g : Nat, r.num = (g : Int) ∧ g < (putTab p pl).length := fun r hr hj => by
  obtain ⟨g, hg, z, hz, _⟩ := put_goalA h hr hj
  refine ⟨g, hg, ?_⟩
  unfold putTab
  rw [putT_len]
  exact (List.getElem?_eq_some_iff.mp hz).1
theorem v_put_words_v2_eq {p : Part} {pl : Pl} (h : PutA p pl) : v_put_words_v2 [pd p, .list (pl.map plD)] = some (.tuple [pd (putW p pl), .list ((putTab p pl).map natD)]) := by
  have hp := h.few
  have ha := h.len
  have hl : p.length ≤ 800 := Nat.le_trans h.parts.l20 (by decide)
  have hj := put_jumpA h
  refine vFun_of rfl ?_
  obtain ⟨y4, y5, y6, h⟩ := pw_loop p pl hp p 0 [] [] none none none (by rw [List.length_nil]; omega) (by rw [List.length_nil]; omega)
  rw [List.nil_append, List.nil_append] at h
  refine vSeq_nx (Γ1 := [some (pd p), some (.list (pl.map plD)), some (.list []), none, none, none, none, none, none]) rfl (vSeq_nx (Γ1 := pwE p pl [] [] none none none) rfl (vSeq_nx (Γ1 := pwE p pl (putR pl 0 p) (putTab p pl) y4 y5 y6) ?_ (vRet_of ?_)))
  · refine Eq.trans ?_ h
    unfold vFor
    rw [show vIEn (vCons (vVar 0) vNil) (pwE p pl [] [] none none none) = some ((p.zipIdx).map fun q => .tuple [.int (q.2 : Int), q.1.d]) from (congrArg some (enumD_map Row.d p 0))]
    rfl
  · have e : vLc (vISeq (vVar 2)) (vgName 5) vYes (vCall v_renumbered (vCons (vVar 5) (vCons (vVar 3) vNil))) [5] (pwE p pl (putR pl 0 p) (putTab p pl) y4 y5 y6) = some (.list ((putW p pl).map Row.d)) := by
      refine (vLc_of (ds := (putR pl 0 p).map Row.d) rfl (by rw [List.length_map]; exact Nat.le_trans ha (by decide)) (vcomp_mapOf Row.d (fun r => (renR (putTab p pl) r).d) fun r hr => ⟨_, rfl, rfl, (vCall_of (vCons_of rfl (vCons_of rfl rfl))).trans (v_renumbered_eq _ r (hj r hr))⟩)).trans ?_
      unfold putW
      rw [List.map_map]; rfl
    refine vTup_of (vCons_of (vLookA_of41 (g := .list ((putTab p pl).map natD)) (d := pd (putW p pl)) rfl ?_ ?_) (vCons_of rfl rfl)) (by show 2 ≤ lim; decide)
    · unfold vCl
      rw [vCons_of e (r := vNil) (xs := []) rfl]
      rfl
    · exact tup_ap _ (tup_part _)
structure PlA (p : Part) (pl : Pl) : Prop where
  put : PutA p pl
  asc : ascPl pl = true
  ins : ∀ q ∈ pl, 1 ≤ q.1 ∧ q.1 ≤ p.length ∧ q.2 ≤ 65535
theorem v_check_placed_v2_eq {p : Part} {pl : Pl} (h : PlA p pl) (hk : partOk (putW p pl) = true) : v_check_placed_v2 [pd p, .list (pl.map plD)] = some .none := by
  refine vFun_nx (Γ := startD ["part", "placed"] ([pd p, .list (pl.map plD)].map some)) rfl ?_
  have e1 : v_are_pairs [.list (pl.map plD), .tuple [.tuple [.int 1, .int (p.length : Int)], .tuple [.int 0, .int 65535]]] = some (.bool true) := (v_are_pairs_pl pl h.put.few h.ins).trans (by rw [h.asc])
  have e2 : v_is_part [pd (putW p pl)] = some (.bool true) := (v_is_part_eq _).trans (by rw [partOf_d hk]; rfl)
  have el : vCl cLen (vCons (vVar 0) vNil) (startD ["part", "placed"] ([pd p, .list (pl.map plD)].map some)) = some (.int (p.length : Int)) := by
    show some (PyData.int (((p.map Row.d).length : Nat) : Int)) = _
    rw [List.length_map]
  refine vSeq_nx (vIfS_f (vNot_f (vTest_of ((vCall_of (vCons_of rfl (vCons_of (vt2 (vt2 rfl el) (vt2 rfl rfl)) rfl))).trans e1))) rfl) ?_
  refine vIfS_f (vNot_f (vTest_of ((vCall_of (vCons_of ((vOp_of ((vCall_of (vCons_of rfl (vCons_of rfl rfl))).trans (v_put_words_v2_eq h.put)) rfl).trans (show _ = some (pd (putW p pl)) from rfl)) rfl)).trans e2))) rfl
theorem v_with_words_v2_eq {p : Part} {pl : Pl} (h : PlA p pl) (hk : partOk (putW p pl) = true) : v_with_words_v2 [pd p, .list (pl.map plD)] = some (.tuple [pd (putW p pl), .list ((putTab p pl).map natD)]) := by
  refine vFun_of rfl ?_
  refine vSeq_nx (vDrop_of (Eq.trans rfl (v_check_part_ok (of_parts h.put.parts)))) (vSeq_nx (vDrop_of (Eq.trans rfl (v_check_placed_v2_eq h hk))) (vRet_of (Eq.trans rfl (v_put_words_v2_eq h.put))))
theorem ltPl_trans {a b c : Nat × Nat} (h : ltPl a b = true) (k : ltPl b c = true) : ltPl a c = true := by
  unfold ltPl at *
  rw [decide_eq_true_eq] at *
  omega
theorem pairs_asc : ∀ {xs : Pl}, ascPl xs = true → xs.Pairwise (fun a b => ltPl a b = true)
  | [], _ => .nil
  | [a], _ => List.pairwise_singleton ..
  | a :: b :: xs, h => by
    unfold ascPl at h
    rw [List.tail_cons, List.zip_cons_cons, List.all_cons, Bool.and_eq_true] at h
    have ih : (b :: xs).Pairwise (fun a b => ltPl a b = true) := pairs_asc (by unfold ascPl; rw [List.tail_cons]; exact h.2)
    refine List.pairwise_cons.mpr ⟨fun c hc => ?_, ih⟩
    rcases List.mem_cons.mp hc with rfl | hc
    · exact h.1
    · exact ltPl_trans h.1 ((List.pairwise_cons.mp ih).1 c hc)
end RC
end
section
namespace RC
open PySem PySem.Spec L2 RR
open PyProof.Rows hiding St cutD
def valsAt (pl : Pl) (k : Nat) : List Nat := (pl.filter fun q => decide (q.1 = k)).map (·.2)
abbrev XR := Bool × Row
def xD (x : XR) : D := if x.1 = true then .tuple [.str "over", .int x.2.num] else x.2.d
def goesO : Option Row → Bool
  | none => false
  | some r => r.goesOn
def behX (pl : Pl) (k : Nat) (prev : Option Row) : List XR := (if (!(valsAt pl k).isEmpty && goesO prev) = true then [(true, Row.jump (k : Int))] else []) ++ (valsAt pl k).map fun v : Nat => (false, Row.word (v : Int))
def lawX (pl : Pl) : Nat → Option Row → Part → List XR
  | k, prev, [] => behX pl k prev
  | k, prev, r :: rs => behX pl k prev ++ (false, r) :: lawX pl (k + 1) (some r) rs
def lawT (pl : Pl) : Nat → Nat → Option Row → Part → List Nat
  | _, _, _, [] => []
  | k, a, prev, r :: rs => (a + (behX pl k prev).length) :: lawT pl (k + 1) (a + ((behX pl k prev).length + 1)) (some r) rs
theorem beh_snd (pl : Pl) (k : Nat) (r : Row) : (behX pl (k + 1) (some r)).map (·.2) = behindR pl k r := by
  unfold behX behindR
  have e : valsAt pl (k + 1) = plVals pl k := rfl
  rw [e]
  show List.map _ ((if (!(plVals pl k).isEmpty && r.goesOn) = true then _ else _) ++ _) = _
  rw [List.map_append, List.map_map]
  congr 1
  split <;> rfl
theorem beh_len (pl : Pl) (k : Nat) (r : Row) : (behX pl (k + 1) (some r)).length = (behindR pl k r).length := by
  rw [← beh_snd, List.length_map]
theorem law_snd (pl : Pl) : ∀ (rs : Part) (k : Nat) (r : Row), (lawX pl (k + 1) (some r) rs).map (·.2) = behindR pl k r ++ putR pl (k + 1) rs
  | [], k, r => by rw [lawX, putR, List.append_nil, beh_snd]
  | q :: rs, k, r => by
    rw [lawX, List.map_append, beh_snd, List.map_cons, law_snd pl rs (k + 1) q, putR]; rfl
theorem law_tab (pl : Pl) : ∀ (rs : Part) (k a : Nat) (r : Row), lawT pl (k + 1) a (some r) rs = putT pl (k + 1) (a + (behindR pl k r).length) rs
  | [], k, a, r => by rw [lawT, putT]
  | q :: rs, k, a, r => by
    rw [lawT, putT, law_tab pl rs (k + 1), beh_len]
    congr 2
    omega
theorem law_start {pl : Pl} (h0 : valsAt pl 0 = []) : ∀ {p : Part}, p ≠ [] → (lawX pl 0 none p).map (·.2) = putR pl 0 p ∧ lawT pl 0 0 none p = putT pl 0 0 p
  | [], h => absurd rfl h
  | r :: rs, _ => by
    have e : behX pl 0 none = [] := by unfold behX; rw [h0]; rfl
    rw [lawX, lawT, e, putR, putT]
    refine ⟨?_, ?_⟩
    · rw [List.nil_append, List.map_cons, law_snd]; rfl
    · rw [law_tab]
      congr 2
      simp only [List.length_nil]
      omega
theorem beh_word {pl : Pl} {k : Nat} {prev : Option Row} {r : Row} (h : (false, r) ∈ behX pl k prev) : r.isJump = false := by
  unfold behX at h
  rcases List.mem_append.mp h with h | h
  · split at h
    · have := List.mem_singleton.mp h
      cases this
    · cases h
  · obtain ⟨v, _, e⟩ := List.mem_map.mp h
    cases e; rfl
theorem law_mem (pl : Pl) : ∀ (rs : Part) (k : Nat) (prev : Option Row) (a i : Nat) (r : Row), (lawX pl k prev rs)[i]? = some (false, r) → r.isJump = true → a + i ∈ lawT pl k a prev rs
  | [], k, prev, a, i, r, h, hj => by
    rw [lawX] at h
    have := beh_word (List.mem_of_getElem? h)
    rw [hj] at this; cases this
  | q :: rs, k, prev, a, i, r, h, hj => by
    rw [lawX] at h
    rw [lawT]
    by_cases hi : i < (behX pl k prev).length
    · rw [List.getElem?_append_left hi] at h
      have := beh_word (List.mem_of_getElem? h)
      rw [hj] at this; cases this
    · rw [List.getElem?_append_right (by omega)] at h
      by_cases he : i = (behX pl k prev).length
      · rw [he]; exact List.mem_cons_self ..
      · refine List.mem_cons_of_mem _ ?_
        obtain ⟨j, hj2⟩ : ∃ j, i - (behX pl k prev).length = j + 1 := ⟨i - (behX pl k prev).length - 1, by omega⟩
        rw [hj2, List.getElem?_cons_succ] at h
        have := law_mem pl rs (k + 1) (some q) (a + ((behX pl k prev).length + 1)) j r h hj
        rw [show a + i = a + ((behX pl k prev).length + 1) + j by omega]
        exact this
theorem valsAt_asc {pl : Pl} (h : ascPl pl = true) (k : Nat) : (valsAt pl k).Pairwise (· < ·) := by
  unfold valsAt
  rw [List.pairwise_map]
  refine ((pairs_asc h).filter (fun q : Nat × Nat => decide (q.1 = k))).imp_of_mem fun {a b} ha hb hab => ?_
  have h1 := of_decide_eq_true (List.mem_filter.mp ha).2
  have h2 := of_decide_eq_true (List.mem_filter.mp hb).2
  unfold ltPl at hab
  rw [decide_eq_true_eq] at hab
  omega
theorem valsAt_len (pl : Pl) (k : Nat) : (valsAt pl k).length ≤ pl.length := by
  unfold valsAt
  rw [List.length_map]
  exact List.length_filter_le _ _
def E41 (p : Part) (pl : Pl) (xs : List XR) (tab : List Nat) (x4 x5 : Option D) : DEnv := [some (pd p), some (.list (pl.map plD)), some (.list (xs.map xD)), some (.list (tab.map natD)), x4, x5, none, none, none, none, none, none]
abbrev w1B : VS := (vSeqS (vSet 5 (vCl cSortedE (vCons (vLc (vISeq (vVar 1)) (vgTup 2 (vgCons (vgName 6) (vgCons (vgName 7) vgNil))) (vTest (vOp dEq (vVar 6) (vVar 4))) (vVar 7) [6, 7]) vNil))) (vSeqS (vIfS (vAnd (vTest (vOp dNe (vVar 5) (vLst vNil))) (vTest (vOp dIn (vOp dIx (vOp dIx (vVar 0) (vOp dSub (vVar 4) (vC (.int 1)))) (vC (.int 0))) (vTup (vCons (vC (.str "plain")) (vCons (vC (.str "branch")) (vCons (vC (.str "load")) (vCons (vC (.str "align")) vNil)))))))) (vAppend 2 (vTup (vCons (vC (.str "over")) (vCons (vVar 4) vNil)))) vNext) (vSeqS (vSet 2 (vOp dAddL (vVar 2) (vLc (vISeq (vVar 5)) (vgName 7) vYes (vTup (vCons (vC (.str "word")) (vCons (vVar 7) vNil))) [7]))) (vIfS (vTest (vOp dLt (vVar 4) (vCl cLen (vCons (vVar 0) vNil)))) (vSeqS (vAppend 3 (vLook (vCl cLen (vCons (vVar 2) vNil)))) (vAppend 2 (vOp dIx (vVar 0) (vVar 4)))) vNext))))
theorem w1_set {p : Part} {pl : Pl} {xs more : List XR} {tab : List Nat} {x4 x5 : Option D} {ys : List D} (h : ys = more.map xD) : (E41 p pl xs tab x4 x5).set 2 (some (.list (xs.map xD ++ ys))) = E41 p pl (xs ++ more) tab x4 x5 := by
  subst h
  unfold E41
  rw [List.map_append]; rfl
theorem ne_nil41 (us : List Nat) : dNe (.list (us.map natD)) (.list []) = some (.bool (!us.isEmpty)) := by
  have t0 : SeqAt.shaped (PyData.list []) = true := by decide +kernel
  unfold dNe
  rw [if_pos (.inr ⟨(Lay.nats us).shaped (by decide), t0⟩)]
  cases us <;> rfl
structure Prev (p : Part) (pl : Pl) (k : Nat) (prev : Option Row) : Prop where
  h : (valsAt pl k = [] ∧ prev = none) ∨ ∃ j r, k = j + 1 ∧ p[j]? = some r ∧ prev = some r
theorem w1_pre {p : Part} {pl : Pl} {xs : List XR} {tab : List Nat} {k : Nat} {prev : Option Row} {x5 : Option D} {u : VS} {res : Option Rs} (hp : pl.length ≤ 100) (asc : ascPl pl = true) (hx : xs.length ≤ 800) (hv : Prev p pl k prev)
    (hu : u (E41 p pl (xs ++ behX pl k prev) tab (some (natD k)) (some (.list ((valsAt pl k).map natD)))) = res) :
    vSeqS (vSet 5 (vCl cSortedE (vCons (vLc (vISeq (vVar 1)) (vgTup 2 (vgCons (vgName 6) (vgCons (vgName 7) vgNil))) (vTest (vOp dEq (vVar 6) (vVar 4))) (vVar 7) [6, 7]) vNil))) (vSeqS (vIfS (vAnd (vTest (vOp dNe (vVar 5) (vLst vNil))) (vTest (vOp dIn (vOp dIx (vOp dIx (vVar 0) (vOp dSub (vVar 4) (vC (.int 1)))) (vC (.int 0))) (vTup (vCons (vC (.str "plain")) (vCons (vC (.str "branch")) (vCons (vC (.str "load")) (vCons (vC (.str "align")) vNil)))))))) (vAppend 2 (vTup (vCons (vC (.str "over")) (vCons (vVar 4) vNil)))) vNext) (vSeqS (vSet 2 (vOp dAddL (vVar 2) (vLc (vISeq (vVar 5)) (vgName 7) vYes (vTup (vCons (vC (.str "word")) (vCons (vVar 7) vNil))) [7]))) u)) (E41 p pl xs tab (some (natD k)) x5) = res := by
  have vl := Nat.le_trans (valsAt_len pl k) hp
  have s1 : vSet 5 (vCl cSortedE (vCons (vLc (vISeq (vVar 1)) (vgTup 2 (vgCons (vgName 6) (vgCons (vgName 7) vgNil))) (vTest (vOp dEq (vVar 6) (vVar 4))) (vVar 7) [6, 7]) vNil)) (E41 p pl xs tab (some (natD k)) x5) = some (.nx (E41 p pl xs tab (some (natD k)) (some (.list ((valsAt pl k).map natD))))) := by
    refine (vSet_of (d := .list ((valsAt pl k).map natD)) ?_).trans rfl
    refine o_cl (x := [.list ((valsAt pl k).map natD)]) (vCons_of ?_ rfl) ?_
    · refine (vLc_of (ds := pl.map plD) rfl (by rw [List.length_map]; exact Nat.le_trans hp (by decide)) (vcomp_filterOf plD (fun q : Nat × Nat => decide (q.1 = k)) (fun q => natD q.2) fun q _ => ⟨_, rfl, vTest_of ?_, fun _ => rfl⟩)).trans ?_
      · refine (vOp_of (x := natD q.1) (y := natD k) rfl rfl).trans ((dEq_int _ _).trans ?_)
        congr 2
        exact decide_eq_decide.mpr (by omega)
      · unfold valsAt
        rw [List.map_map]; rfl
    · rw [← cSorted_E]
      exact sort_nats (List.Perm.refl _) (valsAt_asc asc k)
  have c2 : vAnd (vTest (vOp dNe (vVar 5) (vLst vNil))) (vTest (vOp dIn (vOp dIx (vOp dIx (vVar 0) (vOp dSub (vVar 4) (vC (.int 1)))) (vC (.int 0))) (vTup (vCons (vC (.str "plain")) (vCons (vC (.str "branch")) (vCons (vC (.str "load")) (vCons (vC (.str "align")) vNil))))))) (E41 p pl xs tab (some (natD k)) (some (.list ((valsAt pl k).map natD)))) = some (!(valsAt pl k).isEmpty && goesO prev) := by
    refine vAnd_of (vTest_of (o2 rfl rfl (ne_nil41 _))) fun hne => vTest_of ?_
    rcases hv.h with ⟨e, _⟩ | ⟨j, r, rfl, hr, rfl⟩
    · rw [e] at hne; cases hne
    · have e1 : vOp dIx (vVar 0) (vOp dSub (vVar 4) (vC (.int 1))) (E41 p pl xs tab (some (natD (j + 1))) (some (.list ((valsAt pl (j + 1)).map natD)))) = some r.d := by
        refine o2 (x := pd p) (y := .int (j : Int)) rfl ?_ (ixP hr)
        refine o2 (x := natD (j + 1)) (y := .int 1) rfl rfl ?_
        show some (PyData.int (((j + 1 : Nat) : Int) - 1)) = _
        congr 2
        omega
      exact o2 (o2 e1 rfl (row0 r)) (vTup_of (vCons_of rfl (vCons_of rfl (vCons_of rfl (vCons_of rfl rfl)))) (by show 4 ≤ lim; decide)) (w_goes r)
  have s3 : ∀ ys : List XR, ys.length ≤ 801 → vSet 2 (vOp dAddL (vVar 2) (vLc (vISeq (vVar 5)) (vgName 7) vYes (vTup (vCons (vC (.str "word")) (vCons (vVar 7) vNil))) [7])) (E41 p pl ys tab (some (natD k)) (some (.list ((valsAt pl k).map natD)))) = some (.nx (E41 p pl (ys ++ (valsAt pl k).map fun v : Nat => (false, Row.word (v : Int))) tab (some (natD k)) (some (.list ((valsAt pl k).map natD))))) := fun ys hy => by
    have e : vLc (vISeq (vVar 5)) (vgName 7) vYes (vTup (vCons (vC (.str "word")) (vCons (vVar 7) vNil))) [7] (E41 p pl ys tab (some (natD k)) (some (.list ((valsAt pl k).map natD)))) = some (.list (((valsAt pl k).map fun v : Nat => ((false, Row.word (v : Int)) : XR)).map xD)) := by
      refine (vLc_of (ds := (valsAt pl k).map natD) rfl (by rw [List.length_map]; exact Nat.le_trans vl (by decide)) (vcomp_mapOf natD (fun v : Nat => (Row.word (v : Int)).d) fun v _ => ⟨_, rfl, rfl, rfl⟩)).trans ?_
      rw [List.map_map]; rfl
    refine (vSet_of (o2 (x := .list (ys.map xD)) rfl e ?_)).trans (congrArg (fun Γ => some (Rs.nx Γ)) (w1_set (more := (valsAt pl k).map fun v : Nat => ((false, Row.word (v : Int)) : XR)) rfl))
    show (if _ then _ else _) = _
    rw [if_pos (by rw [List.length_map, List.length_map, List.length_map]; exact Nat.le_trans (show _ ≤ 1000 by omega) (by decide))]
  refine vSeq_nx s1 ?_
  unfold behX at hu
  by_cases hc : (!(valsAt pl k).isEmpty && goesO prev) = true
  · rw [if_pos hc] at hu
    refine vSeq_nx (Γ1 := E41 p pl (xs ++ [(true, Row.jump (k : Int))]) tab (some (natD k)) (some (.list ((valsAt pl k).map natD)))) (vIfS_t (c2.trans (by rw [hc])) ?_) ?_
    · refine (apnd_of (ds := xs.map xD) (d := xD (true, Row.jump (k : Int))) rfl ?_ (by rw [List.length_map]; exact Nat.lt_of_le_of_lt hx (by decide))).trans ?_
      · exact (vTup_of (vCons_of rfl (vCons_of rfl rfl)) (by show 2 ≤ lim; decide)).trans rfl
      · exact congrArg (fun Γ => some (Rs.nx Γ)) (w1_set (more := [(true, Row.jump (k : Int))]) (ys := [xD (true, Row.jump (k : Int))]) rfl)
    · refine vSeq_nx (s3 _ (by rw [List.length_append, List.length_singleton]; omega)) ?_
      rw [List.append_assoc]
      exact hu
  · rw [if_neg hc] at hu
    refine vSeq_nx (Γ1 := E41 p pl xs tab (some (natD k)) (some (.list ((valsAt pl k).map natD)))) (vIfS_f (c2.trans (by rw [Bool.eq_false_iff.mpr hc])) rfl) ?_
    refine vSeq_nx (s3 _ (by omega)) ?_
    exact hu
theorem w1_loop {p : Part} {pl : Pl} (hp : pl.length ≤ 100) (asc : ascPl pl = true) : ∀ (rs : Part) (k : Nat) (prev : Option Row) (xs : List XR) (tab : List Nat) (x4 x5 : Option D), rs = p.drop k → k + rs.length = p.length → Prev p pl k prev → xs.length + (lawX pl k prev rs).length ≤ 700 → tab.length + rs.length ≤ 700 →
    ∃ y4 y5, vfor (vgName 4) w1B ((List.range' k (rs.length + 1)).map fun i : Nat => PyData.int (i : Int)) (E41 p pl xs tab x4 x5) = some (.nx (E41 p pl (xs ++ lawX pl k prev rs) (tab ++ lawT pl k xs.length prev rs) y4 y5))
  | [], k, prev, xs, tab, x4, x5, hd, hl, hv, hx, ht => by
    rw [lawX] at hx
    refine ⟨some (natD k), some (.list ((valsAt pl k).map natD)), ?_⟩
    rw [List.length_nil, Nat.zero_add, List.range'_one, List.map_singleton, lawX, lawT, List.append_nil]
    unfold vfor
    rw [show vgName 4 (PyData.int (k : Int)) (E41 p pl xs tab x4 x5) = some (E41 p pl xs tab (some (natD k)) x5) from rfl, Option.bind_some]
    rw [show w1B (E41 p pl xs tab (some (natD k)) x5) = some (.nx (E41 p pl (xs ++ behX pl k prev) tab (some (natD k)) (some (.list ((valsAt pl k).map natD))))) from w1_pre hp asc (by omega) hv (vIfS_f (vTest_of (o2 (x := natD k) (y := .int (p.length : Int)) rfl (by
      show some (PyData.int (((p.map Row.d).length : Nat) : Int)) = _
      rw [List.length_map]) (by
      show some (PyData.bool (decide ((k : Int) < (p.length : Int)))) = _
      rw [decide_eq_false (by rw [List.length_nil] at hl; omega)]))) rfl)]
    rfl
  | r :: rs, k, prev, xs, tab, x4, x5, hd, hl, hv, hx, ht => by
    rw [lawX, List.length_append, List.length_cons] at hx
    rw [List.length_cons] at hl ht
    have hk : p[k]? = some r := by
      have := congrArg (fun l : Part => l[0]?) hd
      simpa using this.symm
    have hd2 : rs = p.drop (k + 1) := by
      have := congrArg List.tail hd
      rw [List.tail_cons, List.tail_drop] at this
      exact this
    obtain ⟨y4, y5, ih⟩ := w1_loop hp asc rs (k + 1) (some r) (xs ++ behX pl k prev ++ [(false, r)]) (tab ++ [xs.length + (behX pl k prev).length]) (some (natD k)) (some (.list ((valsAt pl k).map natD))) hd2 (by omega) ⟨.inr ⟨k, r, rfl, hk, rfl⟩⟩ (by rw [List.length_append, List.length_append, List.length_singleton]; omega) (by rw [List.length_append, List.length_singleton]; omega)
    refine ⟨y4, y5, ?_⟩
    rw [List.length_cons, List.range'_succ, List.map_cons]
    unfold vfor
    rw [show vgName 4 (PyData.int (k : Int)) (E41 p pl xs tab x4 x5) = some (E41 p pl xs tab (some (natD k)) x5) from rfl, Option.bind_some]
    have turn : w1B (E41 p pl xs tab (some (natD k)) x5) = some (.nx (E41 p pl (xs ++ behX pl k prev ++ [(false, r)]) (tab ++ [xs.length + (behX pl k prev).length]) (some (natD k)) (some (.list ((valsAt pl k).map natD))))) := by
      refine w1_pre hp asc (by omega) hv (vIfS_t (vTest_of (o2 (x := natD k) (y := .int (p.length : Int)) rfl (by
        show some (PyData.int (((p.map Row.d).length : Nat) : Int)) = _
        rw [List.length_map]) (by
        show some (PyData.bool (decide ((k : Int) < (p.length : Int)))) = _
        rw [decide_eq_true (by omega)]))) ?_)
      refine vSeq_nx (Γ1 := E41 p pl (xs ++ behX pl k prev) (tab ++ [xs.length + (behX pl k prev).length]) (some (natD k)) (some (.list ((valsAt pl k).map natD)))) ?_ ?_
      · refine (apnd_of (ds := tab.map natD) (d := natD (xs.length + (behX pl k prev).length)) rfl (o_look ?_ rfl) (by rw [List.length_map]; exact Nat.lt_of_le_of_lt (show _ ≤ 700 by omega) (by decide))).trans ?_
        · show some (PyData.int ((((xs ++ behX pl k prev).map xD).length : Nat) : Int)) = _
          rw [List.length_map, List.length_append]; rfl
        · unfold E41
          rw [List.map_append (l₁ := tab)]; rfl
      · refine (apnd_of (ds := (xs ++ behX pl k prev).map xD) (d := xD (false, r)) rfl (o2 rfl rfl (ixP hk)) (by rw [List.length_map, List.length_append]; exact Nat.lt_of_le_of_lt (show _ ≤ 700 by omega) (by decide))).trans ?_
        exact congrArg (fun Γ => some (Rs.nx Γ)) (w1_set (more := [(false, r)]) (ys := [xD (false, r)]) rfl)
    rw [turn, Option.bind_some]
    refine ih.trans ?_
    rw [lawX, lawT, List.append_assoc, List.append_assoc, List.append_assoc, List.length_append, List.length_append, List.length_singleton, Nat.add_assoc xs.length]; rfl
theorem fold_new41 : ∀ (qs : List (Nat × Nat)) (acc : List (D × D)), (qs.map (·.1)).Nodup → (∀ q ∈ qs, ∀ z ∈ acc, keyOf z.1 ≠ some (.inl (q.1 : Int))) →
    (qs.map fun q => ((Sum.inl (q.1 : Int) : Key), natD q.2)).foldl (fun acc q => putD acc q.1 q.2) acc = acc ++ qs.map fun q => (natD q.1, natD q.2)
  | [], acc, _, _ => by rw [List.map_nil, List.map_nil, List.append_nil]; rfl
  | q :: qs, acc, nd, h => by
    rw [List.map_cons, List.nodup_cons] at nd
    rw [List.map_cons, List.foldl_cons, putD_new (h q (List.mem_cons_self ..)), fold_new41 qs _ nd.2 (fun x hx z hz => ?_), List.append_assoc]
    · rfl
    · rcases List.mem_append.mp hz with hz | hz
      · exact h x (List.mem_cons_of_mem _ hx) z hz
      · rw [List.mem_singleton.mp hz]
        intro e
        have e2 : (Sum.inl (q.1 : Int) : Key) = Sum.inl (x.1 : Int) := Option.some.inj e
        have e3 : (q.1 : Int) = x.1 := Sum.inl.inj e2
        exact nd.1 (List.mem_map.mpr ⟨x, hx, by omega⟩)
theorem look41 (i : Nat) : ∀ qs : List (Nat × Nat), (dLook (qs.map fun q => (natD q.1, natD q.2)) (natD i)).isSome = (qs.map (·.1)).contains i
  | [] => rfl
  | q :: qs => by
    have ih := look41 i qs
    unfold dLook at ih ⊢
    rw [List.map_cons, List.map_cons, List.find?_cons, List.contains_cons]
    have e : PyData.eqv (natD q.1) (natD i) = (i == q.1) := by
      refine (eqv_int _ _).trans ?_
      rw [Bool.eq_iff_iff, decide_eq_true_eq, beq_iff_eq]
      omega
    dsimp only
    rw [e]
    cases (i == q.1) with
    | true => rfl
    | false => rw [Bool.false_or]; exact ih
theorem putT_lt (pl : Pl) : ∀ (rs : Part) (k a : Nat), (putT pl k a rs).Pairwise (· < ·) ∧ ∀ t ∈ putT pl k a rs, a ≤ t
  | [], k, a => ⟨.nil, fun t h => nomatch h⟩
  | r :: rs, k, a => by
    obtain ⟨h1, h2⟩ := putT_lt pl rs (k + 1) (a + (1 + (behindR pl k r).length))
    rw [putT]
    refine ⟨List.pairwise_cons.mpr ⟨fun t ht => by have := h2 t ht; omega, h1⟩, fun t ht => ?_⟩
    rcases List.mem_cons.mp ht with rfl | ht
    · exact Nat.le_refl _
    · have := h2 t ht; omega
theorem map_fst41 {α : Type} (xs : List α) : xs.zipIdx.map (·.1) = xs := by
  apply List.ext_getElem
  · simp
  · intro i h1 h2
    simp
def tabD (tab : List Nat) : D := .dict ((tab.zipIdx).map fun q => (natD q.1, natD q.2))
theorem in_tab41 (i : Nat) (tab : List Nat) : dIn (natD i) (tabD tab) = some (.bool (tab.contains i)) := by
  show (if isKey (natD i) = true then some (PyData.bool (dLook _ (natD i)).isSome) else none) = _
  rw [if_pos (show isKey (natD i) = true from rfl), look41, map_fst41]
def F41 (p : Part) (pl : Pl) (xs : List XR) (tab : List Nat) (x4 x5 : Option D) (made : Part) (x10 x11 : Option D) : DEnv := [some (pd p), some (.list (pl.map plD)), some (.list (xs.map xD)), some (.list (tab.map natD)), x4, x5, none, none, some (.list (made.map Row.d)), some (tabD tab), x10, x11]
abbrev w2B : VS := (vIfS (vTest (vOp dEq (vOp dIx (vVar 11) (vC (.int 0))) (vC (.str "over")))) (vAppend 8 (vTup (vCons (vC (.str "jump")) (vCons (vOp dIx (vVar 3) (vOp dIx (vVar 11) (vC (.int 1)))) vNil)))) (vIfS (vAnd (vTest (vOp dIn (vVar 10) (vVar 9))) (vTest (vOp dIn (vOp dIx (vVar 11) (vC (.int 0))) (vTup (vCons (vC (.str "jump")) (vCons (vC (.str "branch")) vNil)))))) (vAppend 8 (vTup (vCons (vOp dIx (vVar 11) (vC (.int 0))) (vCons (vOp dIx (vVar 3) (vOp dIx (vVar 11) (vC (.int 1)))) vNil)))) (vAppend 8 (vVar 11))))
theorem w2_set {p : Part} {pl : Pl} {xs : List XR} {tab : List Nat} {x4 x5 x10 x11 : Option D} {made : Part} {r : Row} {d : D} (h : d = r.d) : (F41 p pl xs tab x4 x5 made x10 x11).set 8 (some (.list (made.map Row.d ++ [d]))) = F41 p pl xs tab x4 x5 (made ++ [r]) x10 x11 := by
  subst h
  unfold F41
  rw [List.map_append (l₁ := made)]; rfl
theorem xD0 (x : XR) : dIx (xD x) (.int 0) = some (.str (if x.1 = true then "over" else x.2.w)) := by
  unfold xD
  split
  · exact ix0 _ _
  · exact row0 _
theorem xD1 (x : XR) : dIx (xD x) (.int 1) = some (.int x.2.num) := by
  unfold xD
  split
  · exact ix1 _ _ _
  · exact row1 _
structure XOk (xs : List XR) (tab : List Nat) : Prop where
  over : ∀ x ∈ xs, x.1 = true → ∃ g : Nat, x.2 = .jump (g : Int)
  goal : ∀ x ∈ xs, x.2.isJump = true → ∃ g : Nat, x.2.num = (g : Int) ∧ g < tab.length
  at_ : ∀ i r, xs[i]? = some (false, r) → r.isJump = true → i ∈ tab
theorem w2_turn {p : Part} {pl : Pl} {xs : List XR} {tab : List Nat} {x4 x5 : Option D} {made : Part} {i : Nat} {x : XR} (h : XOk xs tab) (hi : xs[i]? = some x) (hm : made.length ≤ 800) :
    w2B (F41 p pl xs tab x4 x5 made (some (natD i)) (some (xD x))) = some (.nx (F41 p pl xs tab x4 x5 (made ++ [renR tab x.2]) (some (natD i)) (some (xD x)))) := by
  have hx := List.mem_of_getElem? hi
  have ml : (made.map Row.d).length < lim := by rw [List.length_map]; exact Nat.lt_of_le_of_lt hm (by decide)
  have e0 : vOp dIx (vVar 11) (vC (.int 0)) (F41 p pl xs tab x4 x5 made (some (natD i)) (some (xD x))) = some (.str (if x.1 = true then "over" else x.2.w)) := o2 rfl rfl (xD0 x)
  have e1 : vOp dIx (vVar 11) (vC (.int 1)) (F41 p pl xs tab x4 x5 made (some (natD i)) (some (xD x))) = some (.int x.2.num) := o2 rfl rfl (xD1 x)
  have eg : x.2.isJump = true → vOp dIx (vVar 3) (vOp dIx (vVar 11) (vC (.int 1))) (F41 p pl xs tab x4 x5 made (some (natD i)) (some (xD x))) = some (natD (tab.getD x.2.num.toNat 0)) := fun hj => by
    obtain ⟨g, hg, hl⟩ := h.goal x hx hj
    refine o2 (x := .list (tab.map natD)) rfl e1 ?_
    rw [hg, Int.toNat_natCast]
    exact ix_tab hl
  have fin : ∀ {a : VE} {d : D} {r : Row}, a (F41 p pl xs tab x4 x5 made (some (natD i)) (some (xD x))) = some d → d = r.d → vAppend 8 a (F41 p pl xs tab x4 x5 made (some (natD i)) (some (xD x))) = some (.nx (F41 p pl xs tab x4 x5 (made ++ [r]) (some (natD i)) (some (xD x)))) := fun ha hd =>
    (apnd_of (ds := made.map Row.d) rfl ha ml).trans (congrArg (fun Γ => some (Rs.nx Γ)) (w2_set hd))
  obtain ⟨b, r⟩ := x
  cases b with
  | true =>
    obtain ⟨g, hg⟩ := h.over _ hx rfl
    dsimp only at hg
    subst hg
    refine vIfS_t (vTest_of (o2 e0 rfl rfl)) ?_
    exact fin (vt2 rfl (eg rfl)) rfl
  | false =>
    refine vIfS_f (vTest_of (o2 e0 rfl (by cases r <;> rfl))) ?_
    have ec : vAnd (vTest (vOp dIn (vVar 10) (vVar 9))) (vTest (vOp dIn (vOp dIx (vVar 11) (vC (.int 0))) (vTup (vCons (vC (.str "jump")) (vCons (vC (.str "branch")) vNil))))) (F41 p pl xs tab x4 x5 made (some (natD i)) (some (xD (false, r)))) = some (tab.contains i && r.isJump) :=
      vAnd_of (vTest_of (o2 rfl rfl (in_tab41 i tab))) fun _ => vTest_of (o2 e0 (vt2 rfl rfl) (w_jumps r))
    cases hj : r.isJump with
    | true =>
      have hc : tab.contains i = true := List.contains_iff_mem.mpr (h.at_ i r hi hj)
      refine vIfS_t (ec.trans (by rw [hj, hc]; rfl)) ?_
      refine fin (vt2 e0 (eg hj)) ?_
      cases r <;> first | rfl | cases hj
    | false =>
      refine vIfS_f (ec.trans (by rw [hj, Bool.and_false])) ?_
      refine fin (d := r.d) rfl ?_
      cases r <;> first | rfl | cases hj
theorem w2_loop {p : Part} {pl : Pl} {xs : List XR} {tab : List Nat} {x4 x5 : Option D} (h : XOk xs tab) : ∀ (ys : List XR) (i : Nat) (made : Part) (x10 x11 : Option D), ys = xs.drop i → made.length + ys.length ≤ 800 →
    ∃ y10 y11, vfor (vgTup 2 (vgCons (vgName 10) (vgCons (vgName 11) vgNil))) w2B ((ys.zipIdx i).map fun q => .tuple [.int (q.2 : Int), xD q.1]) (F41 p pl xs tab x4 x5 made x10 x11) = some (.nx (F41 p pl xs tab x4 x5 (made ++ ys.map fun x => renR tab x.2) y10 y11))
  | [], i, made, x10, x11, _, _ => ⟨x10, x11, by rw [List.map_nil, List.append_nil]; rfl⟩
  | y :: ys, i, made, x10, x11, hd, hl => by
    rw [List.length_cons] at hl
    have hk : xs[i]? = some y := by
      have := congrArg (fun l : List XR => l[0]?) hd
      simpa using this.symm
    have hd2 : ys = xs.drop (i + 1) := by
      have := congrArg List.tail hd
      rw [List.tail_cons, List.tail_drop] at this
      exact this
    obtain ⟨y10, y11, ih⟩ := w2_loop h ys (i + 1) (made ++ [renR tab y.2]) (some (natD i)) (some (xD y)) hd2 (by rw [List.length_append, List.length_singleton]; omega)
    refine ⟨y10, y11, ?_⟩
    rw [List.zipIdx_cons, List.map_cons]
    unfold vfor
    have e1 : vgTup 2 (vgCons (vgName 10) (vgCons (vgName 11) vgNil)) (.tuple [.int ((y, i).2 : Int), xD (y, i).1]) (F41 p pl xs tab x4 x5 made x10 x11) = some (F41 p pl xs tab x4 x5 made (some (natD i)) (some (xD y))) := rfl
    rw [e1, Option.bind_some, w2_turn h hk (by omega), Option.bind_some]
    refine ih.trans ?_
    rw [List.append_assoc, List.map_cons]; rfl
theorem beh_over {pl : Pl} {k : Nat} {prev : Option Row} {x : XR} (h : x ∈ behX pl k prev) (ht : x.1 = true) : x.2 = .jump (k : Int) := by
  unfold behX at h
  rcases List.mem_append.mp h with h | h
  · split at h
    · rw [List.mem_singleton.mp h]
    · cases h
  · obtain ⟨v, _, rfl⟩ := List.mem_map.mp h
    cases ht
theorem law_over (pl : Pl) : ∀ (rs : Part) (k : Nat) (prev : Option Row) (x : XR), x ∈ lawX pl k prev rs → x.1 = true → ∃ g : Nat, x.2 = .jump (g : Int)
  | [], k, prev, x, h, ht => by rw [lawX] at h; exact ⟨k, beh_over h ht⟩
  | r :: rs, k, prev, x, h, ht => by
    rw [lawX] at h
    rcases List.mem_append.mp h with h | h
    · exact ⟨k, beh_over h ht⟩
    · rcases List.mem_cons.mp h with rfl | h
      · cases ht
      · exact law_over pl rs (k + 1) (some r) x h ht
theorem v__law_put_in_eq {p : Part} {pl : Pl} (h : PlA p pl) (hl : (putR pl 0 p).length ≤ 600) : v__law_put_in [pd p, .list (pl.map plD)] = some (.tuple [pd (putW p pl), .list ((putTab p pl).map natD)]) := by
  have l1 := h.put.parts.l1
  have l20 := h.put.parts.l20
  have few := h.put.few
  have h0 : valsAt pl 0 = [] := by
    unfold valsAt
    rw [List.map_eq_nil_iff, List.filter_eq_nil_iff]
    intro q hq
    have := (h.ins q hq).1
    rw [decide_eq_true_eq]; omega
  have hne : p ≠ [] := fun z => by rw [z] at l1; simp at l1
  obtain ⟨s1, s2⟩ := law_start h0 hne
  have xl : (lawX pl 0 none p).length = (putR pl 0 p).length := by rw [← s1, List.length_map]
  have tl : (putTab p pl).length = p.length := putT_len pl p 0 0
  have s2 : lawT pl 0 0 none p = putTab p pl := s2
  have ok : XOk (lawX pl 0 none p) (putTab p pl) := ⟨fun x hx ht => law_over pl p 0 none x hx ht, fun x hx hj => by
    exact put_jumpA h.put x.2 (by rw [← s1]; exact List.mem_map_of_mem hx) hj, fun i r hi hj => by
    have := law_mem pl p 0 none 0 i r hi hj
    rw [Nat.zero_add, s2] at this
    exact this⟩
  refine vFun_of rfl ?_
  obtain ⟨y4, y5, e1⟩ := w1_loop few h.asc p 0 none [] [] none none rfl (by omega) ⟨.inl ⟨h0, rfl⟩⟩ (by rw [List.length_nil]; omega) (by rw [List.length_nil]; omega)
  rw [List.nil_append, List.nil_append, List.length_nil, s2] at e1
  obtain ⟨y10, y11, e2⟩ := w2_loop (p := p) (pl := pl) (x4 := y4) (x5 := y5) ok (lawX pl 0 none p) 0 [] none none rfl (by rw [List.length_nil]; omega)
  rw [List.nil_append] at e2
  have em : (lawX pl 0 none p).map (fun x => renR (putTab p pl) x.2) = putW p pl := by
    unfold putW
    rw [← s1, List.map_map]; rfl
  rw [em] at e2
  refine vSeq_nx (Γ1 := E41 p pl [] [] none none) rfl (vSeq_nx (Γ1 := E41 p pl (lawX pl 0 none p) (putTab p pl) y4 y5) ?_ (vSeq_nx (Γ1 := F41 p pl (lawX pl 0 none p) (putTab p pl) y4 y5 [] none none) ?_ (vSeq_nx (Γ1 := F41 p pl (lawX pl 0 none p) (putTab p pl) y4 y5 (putW p pl) y10 y11) ?_ (vRet_of ?_))))
  · refine Eq.trans (vFor_of31 (vIR1_nat (n := p.length + 1) (by omega) (vCons_of (o2 (x := .int (p.length : Int)) (y := .int 1) ?_ rfl rfl) rfl))) ?_
    · show some (PyData.int (((p.map Row.d).length : Nat) : Int)) = _
      rw [List.length_map]
    · rw [List.range_eq_range']
      exact e1
  · have ed : vDictP (vLc (vIEn (vCons (vVar 3) vNil)) (vgTup 2 (vgCons (vgName 4) (vgCons (vgName 10) vgNil))) vYes (vTup (vCons (vVar 10) (vCons (vVar 4) vNil))) [4, 10]) (E41 p pl (lawX pl 0 none p) (putTab p pl) y4 y5) = some (tabD (putTab p pl)) := by
      have el : vLc (vIEn (vCons (vVar 3) vNil)) (vgTup 2 (vgCons (vgName 4) (vgCons (vgName 10) vgNil))) vYes (vTup (vCons (vVar 10) (vCons (vVar 4) vNil))) [4, 10] (E41 p pl (lawX pl 0 none p) (putTab p pl) y4 y5) = some (.list (((putTab p pl).zipIdx.map fun q => ((Sum.inl (q.1 : Int) : Key), natD q.2)).map pairKD)) := by
        refine (vLc_of (ds := ((putTab p pl).zipIdx).map fun q => .tuple [.int (q.2 : Int), natD q.1]) (congrArg some (enumD_map natD (putTab p pl) 0)) (by rw [List.length_map, List.length_zipIdx, tl]; exact Nat.le_trans l20 (by decide)) (vcomp_mapOf _ (fun q : Nat × Nat => .tuple [natD q.1, natD q.2]) fun q _ => ⟨_, rfl, rfl, vt2 rfl rfl⟩)).trans ?_
        rw [List.map_map]; rfl
      unfold vDictP
      rw [el, Option.bind_some]
      show Option.bind (unpair (((putTab p pl).zipIdx.map fun q => ((Sum.inl (q.1 : Int) : Key), natD q.2)).map pairKD)) _ = _
      have eu : ∀ ps : List (Nat × Nat), unpair ((ps.map fun q => ((Sum.inl (q.1 : Int) : Key), natD q.2)).map pairKD) = some (ps.map fun q => ((Sum.inl (q.1 : Int) : Key), natD q.2)) := fun ps => by
        induction ps with
        | nil => rfl
        | cons q ps ih =>
          rw [List.map_cons, List.map_cons]
          show unpair (.tuple [.int (q.1 : Int), natD q.2] :: _) = _
          rw [unpair, show keyOf (.int (q.1 : Int)) = some (.inl (q.1 : Int)) from rfl, Option.bind_some, ih]; rfl
      rw [eu, Option.bind_some, fold_new41 _ [] (by rw [map_fst41]; exact (putT_lt pl p 0 0).1.imp (fun h => Nat.ne_of_lt h)) (fun q _ z hz => nomatch hz), List.nil_append]
      rfl
    unfold vPar
    rw [vCons_of (x := .list []) rfl (vCons_of ed (r := vNil) (xs := []) rfl)]
    rfl
  · refine Eq.trans ?_ e2
    exact vFor_of31 (congrArg some (enumD_map xD (lawX pl 0 none p) 0))
  · exact vt2 rfl rfl
end RC
end
section
namespace RC
open PySem PySem.Spec L2 RR
open PyProof.Rows hiding St cutD
end RC
end
section
namespace RC
open PySem PySem.Spec L2 RR
open PyProof.Rows hiding St cutD
theorem dAdd_ls {xs ys : List D} (h : xs.length + ys.length ≤ 1000) : dAdd (.list xs) (.list ys) = some (.list (xs ++ ys)) := if_pos (Nat.le_trans h (by decide))
end RC
end
section
namespace RC
open PySem PySem.Spec L2 RR
open PyProof.Rows hiding St cutD
open PySem.W (alike dataLt dataLe)
def lePl (a b : Nat × Nat) : Bool := decide (a.1 < b.1 ∨ (a.1 = b.1 ∧ a.2 ≤ b.2))
theorem lePl_data (a b : Nat × Nat) : dataLe false id (plD a) (plD b) = lePl a b := by
  have := congrFun (congrFun (PySem.W.dataLe_ii (fun q : Nat × Nat => (q.1 : Int)) (fun q => (q.2 : Int))) a) b
  refine this.trans ?_
  unfold lePl
  exact decide_eq_decide.mpr (by omega)
theorem lePl_trans (a b c : Nat × Nat) (h : lePl a b = true) (k : lePl b c = true) : lePl a c = true := by
  unfold lePl at *
  rw [decide_eq_true_eq] at *
  omega
theorem lePl_total (a b : Nat × Nat) : (lePl a b || lePl b a) = true := by
  unfold lePl
  rw [Bool.or_eq_true, decide_eq_true_eq, decide_eq_true_eq]
  omega
theorem lay_pl : ∀ xs : Pl, PyData.canLayAll0 (xs.map plD) = true ∧ PyData.depthAll (xs.map plD) ≤ 1
  | [] => ⟨by simp [PyData.canLayAll0], by simp [PyData.depthAll]⟩
  | x :: xs => by
    obtain ⟨h1, h2⟩ := lay_pl xs
    rw [List.map_cons]
    exact ⟨by simp [PyData.canLayAll0, PyData.canLay0, plD, natD, h1], by simp only [PyData.depthAll, PyData.depth, plD, natD]; omega⟩
theorem sort_pl (xs : Pl) : cSorted [.list (xs.map plD)] = some (.list ((xs.mergeSort lePl).map plD)) := by
  have e : sortD (xs.map plD) = (xs.mergeSort lePl).map plD := (List.map_mergeSort fun a _ b _ => (lePl_data a b).symm).symm
  have ok : okSort (xs.map plD) = true := by
    unfold okSort
    obtain ⟨h1, h2⟩ := lay_pl xs
    rw [h1, decide_eq_true (show PyData.depthAll (xs.map plD) ≤ 60 by omega), Bool.and_true, Bool.and_true, Bool.and_eq_true, Bool.or_eq_true]
    refine ⟨?_, .inl ?_⟩
    · rw [List.all_map]
      refine List.all_eq_true.mpr fun x _ => ?_
      show ((xs.map plD).all fun y => alike (plD x) y) = true
      rw [List.all_map]
      refine List.all_eq_true.mpr fun y _ => ?_
      show alike (plD x) (plD y) = true
      unfold plD natD
      simp [alike, PySem.W.alikeAll]
    · rw [List.all_map]
      exact List.all_eq_true.mpr fun x _ => rfl
  show (if okSort (xs.map plD) = true then some (PyData.list (sortD (xs.map plD))) else none) = _
  rw [if_pos ok, e]
theorem asc_pairs : ∀ {xs : Pl}, xs.Pairwise (fun a b => ltPl a b = true) → ascPl xs = true
  | [], _ => rfl
  | [a], _ => rfl
  | a :: b :: xs, h => by
    obtain ⟨h1, h2⟩ := List.pairwise_cons.mp h
    have ih := asc_pairs h2
    unfold ascPl at ih ⊢
    rw [List.tail_cons, List.zip_cons_cons, List.all_cons, h1 b (List.mem_cons_self ..), Bool.true_and]
    exact ih
theorem asc_sorted {xs : Pl} (nd : xs.Nodup) : ascPl (xs.mergeSort lePl) = true := by
  have p := List.mergeSort_perm xs lePl
  have s : (xs.mergeSort lePl).Pairwise (fun a b => lePl a b = true) := List.pairwise_mergeSort (fun a b c => lePl_trans a b c) (fun a b => lePl_total a b) xs
  have nd2 : (xs.mergeSort lePl).Nodup := p.nodup_iff.mpr nd
  refine asc_pairs ((s.and nd2).imp fun {a b} h => ?_)
  obtain ⟨h1, h2⟩ := h
  unfold lePl at h1
  unfold ltPl
  rw [decide_eq_true_eq] at *
  rcases h1 with h1 | ⟨h1, h3⟩
  · exact .inl h1
  · refine .inr ⟨h1, ?_⟩
    have : a.2 ≠ b.2 := fun e => h2 (Prod.ext h1 e)
    omega
structure RivOk (p : Part) (pl : Pl) : Prop where
  nd : pl.Nodup
  asc : ascPl pl = true
  ins : ∀ q ∈ pl, 1 ≤ q.1 ∧ q.1 ≤ p.length ∧ q.2 ≤ 65535
theorem riv_nil (p : Part) : RivOk p [] := ⟨List.nodup_nil, rfl, fun q h => nomatch h⟩
def putQ (pl : Pl) (q : Nat × Nat) : Pl := pl ++ (if pl.any (fun x => decide (x = q)) = true then [] else [q])
theorem putQ_nd {pl : Pl} {q : Nat × Nat} (nd : pl.Nodup) : (putQ pl q).Nodup := by
  unfold putQ
  cases h : pl.any (fun x => decide (x = q)) with
  | true => rw [if_pos rfl, List.append_nil]; exact nd
  | false =>
    rw [if_neg (by decide)]
    refine List.nodup_append.mpr ⟨nd, by simp, fun a ha b hb => ?_⟩
    rw [List.mem_singleton.mp hb]
    rintro rfl
    rw [List.any_eq_false] at h
    exact h a ha (by simp)
theorem riv_next {p : Part} {pl : Pl} {q : Nat × Nat} (h : RivOk p pl) (hq : 1 ≤ q.1 ∧ q.1 ≤ p.length ∧ q.2 ≤ 65535) : RivOk p ((putQ pl q).mergeSort lePl) := by
  refine ⟨(List.mergeSort_perm _ _).nodup_iff.mpr (putQ_nd h.nd), asc_sorted (putQ_nd h.nd), fun x hx => ?_⟩
  have hx := (List.mergeSort_perm _ _).mem_iff.mp hx
  unfold putQ at hx
  rcases List.mem_append.mp hx with hx | hx
  · exact h.ins x hx
  · split at hx
    · cases hx
    · rw [List.mem_singleton.mp hx]; exact hq
theorem shaped_pl (q : Nat × Nat) : SeqAt.shaped (plD q) = true := by
  unfold SeqAt.shaped
  rw [Bool.and_eq_true, decide_eq_true_eq]
  exact ⟨by simp [plD, natD, PyData.canLay0, PyData.canLayAll0], by simp [plD, natD, PyData.depth, PyData.depthAll]⟩
theorem shaped_pls (xs : Pl) : SeqAt.shaped (.list (xs.map plD)) = true := by
  obtain ⟨h1, h2⟩ := lay_pl xs
  unfold SeqAt.shaped
  rw [Bool.and_eq_true, decide_eq_true_eq]
  exact ⟨by rw [PyData.canLay0]; exact h1, by rw [PyData.depth]; omega⟩
theorem any_pl (q : Nat × Nat) : ∀ xs : Pl, anyEq (plD q) (xs.map plD) = xs.any fun x => decide (x = q)
  | [] => rfl
  | x :: xs => by
    have ih := any_pl q xs
    unfold anyEq at ih ⊢
    rw [List.map_cons, List.any_cons, List.any_cons, ih]
    congr 1
    have : PyData.eqv (plD x) (plD q) = (decide ((x.1 : Int) = q.1) && decide ((x.2 : Int) = q.2)) := by
      simp only [plD, natD, PyData.eqv, PyData.eqvAll, Bool.and_true]
      rfl
    rw [this]
    by_cases e : x = q
    · subst e; simp
    · rw [decide_eq_false e]
      by_cases e1 : x.1 = q.1
      · have : ¬ x.2 = q.2 := fun e2 => e (Prod.ext e1 e2)
        rw [decide_eq_false (show ¬ (x.2 : Int) = q.2 by omega), Bool.and_false]
      · rw [decide_eq_false (show ¬ (x.1 : Int) = q.1 by omega), Bool.false_and]
theorem notin_pl (q : Nat × Nat) (xs : Pl) : dNotIn (plD q) (.list (xs.map plD)) = some (.bool (!xs.any fun x => decide (x = q))) := by
  unfold dNotIn
  dsimp only
  rw [if_pos ⟨shaped_pl q, shaped_pls xs⟩, any_pl]
end RC
end
section
namespace RC
open PySem PySem.Spec L2 RR
open PyProof.Rows hiding St cutD
def G41 (x0 x1 x2 : Option D) (p : Part) (pl : Pl) (x5 x6 x7 x8 x9 x10 x11 : Option D) : DEnv := [x0, x1, x2, some (pd p), some (.list (pl.map plD)), x5, x6, x7, x8, x9, x10, x11]
abbrev k41A : MS := (mSeq (mSet 10 (mTup (mCons (mOp dAdd (mC (.int 1)) (mCallP m__law_take_v3 (mCons (mCl cLen (mCons (mVar 3) mNil)) mNil))) (mCons (mCallP m__law_one_of_v2 (mCons (mLst (mCons (mC (.int 0)) (mCons (mC (.int 1)) (mCons (mC (.int 2)) (mCons (mC (.int 10)) (mCons (mC (.int 999)) (mCons (mC (.int 65535)) mNil))))))) mNil)) mNil)))) (mIfS (mTest (mOp dNotIn (mVar 10) (mVar 4))) (mSeq (mSet 11 (mLookA 4 (mCl cSorted (mCons (mOp dAdd (mVar 4) (mLst (mCons (mVar 10) mNil))) mNil)))) (mSeq (mClear 4) (mExtend 4 (mVar 11)))) mNext))
abbrev k41T : MS := (mSeq (mPar [6, 7] (mCons (mLook (mLook (mCl cReprX (mCons (mTup (mCons (mVar 3) (mCons (mVar 4) mNil))) mNil)))) (mCons (mLookA 4 (mCall m__law_put_in (mCons (mVar 3) (mCons (mVar 4) mNil)))) mNil))) (mSeq (mIfS (mOr (mTest (mOp dGt (mCl cLen (mCons (mOp dIx (mVar 7) (mC (.int 0))) mNil)) (mC (.int 20)))) (mNot (mTest (mCall m_is_part (mCons (mOp dIx (mVar 7) (mC (.int 0))) mNil))))) mBreak mNext) (mSeq (mKillR 8 9 4 .none m_with_words_v2 (mCons (mVar 3) (mCons (mVar 4) mNil)) (mOr (mTest (mOp dNe (mCl cReprX (mCons (mVar 8) mNil)) (mCl cReprX (mCons (mVar 7) mNil)))) (mOr (mTest (mOp dNe (mCl cReprX (mCons (mTup (mCons (mVar 3) (mCons (mVar 4) mNil))) mNil)) (mVar 6))) (mTest (mOp dNotB (mCall m_is_part (mCons (mOp dIx (mVar 8) (mC (.int 0))) mNil)) (mC (.bool true))))))) (mSeq (mIfS (mTest (mOp dIn (mC .none) (mOp dIx (mCall m_with_words_v2 (mCons (mVar 3) (mCons (mVar 4) mNil))) (mC (.int 1))))) (mRet (mC (.bool false))) mNext) k41A))))
theorem seen_pls41 {pl : Pl} (h : ∀ q ∈ pl, q.1 ≤ 20 ∧ q.2 ≤ 65535) (hl : pl.length ≤ 10) : Seen 2 500 (.list (pl.map plD)) := Seen.lstN (k := 1) (w := 36) (n := 10) (fun x hx => by
  obtain ⟨q, hq, rfl⟩ := List.mem_map.mp hx
  obtain ⟨h1, h2⟩ := h q hq
  exact Seen.tupN (k := 0) (w := 17) (n := 2) (fun y hy => by
    simp only [List.mem_cons, List.not_mem_nil, or_false] at hy
    rcases hy with rfl | rfl
    · exact Seen.int16 (by omega)
    · exact Seen.int16 (by omega)) (Nat.le_refl _) (by decide)) (by rw [List.length_map]; exact hl) (by decide)
theorem seen_all41 {p : Part} {pl : Pl} (ok : partOk p = true) (h : ∀ q ∈ pl, q.1 ≤ 20 ∧ q.2 ≤ 65535) (hl : pl.length ≤ 10) : Seen 3 3000 (.tuple [pd p, .list (pl.map plD)]) := Seen.tupN (k := 2) (w := 1300) (n := 2) (fun x hx => by
  simp only [List.mem_cons, List.not_mem_nil, or_false] at hx
  rcases hx with rfl | rfl
  · exact seen_part16 ok
  · exact (seen_pls41 h hl).mono (by decide) (by decide)) (Nat.le_refl _) (by decide)
theorem seen_due41 {q : Part} {tab : List Nat} (ok : partOk q = true) (h : ∀ t ∈ tab, t < 1000) (hl : tab.length ≤ 20) : Seen 3 3000 (.tuple [pd q, .list (tab.map natD)]) := Seen.tupN (k := 2) (w := 1300) (n := 2) (fun x hx => by
  simp only [List.mem_cons, List.not_mem_nil, or_false] at hx
  rcases hx with rfl | rfl
  · exact seen_part16 ok
  · exact (Seen.lstN (k := 0) (w := 17) (n := 20) (W := 400) (fun x hx => by
      obtain ⟨t, ht, rfl⟩ := List.mem_map.mp hx
      have := h t ht
      exact Seen.int16 (by omega)) (by rw [List.length_map]; exact hl) (by decide)).mono (by decide) (by decide)) (Nat.le_refl _) (by decide)
theorem ap_tab41 {pl : Pl} {tab : List Nat} (h : 1 ≤ tab.length) : apL (.list (pl.map plD)) (tab.map natD) = true := by
  cases tab with
  | nil => simp at h
  | cons t tab =>
    cases pl with
    | nil => rfl
    | cons q pl =>
      show (!(((t :: tab).map natD).length == ((q :: pl).map plD).length) || !(((((t :: tab).map natD).head?.map kd31) == (((q :: pl).map plD).head?.map kd31)))) = true
      rw [show ((((t :: tab).map natD).head?.map kd31) == (((q :: pl).map plD).head?.map kd31)) = false from rfl, Bool.not_false, Bool.or_true]
theorem ap_due41 {g : D} {q : Part} {tab : List Nat} (h : apL g (tab.map natD) = true) : apD g (.tuple [pd q, .list (tab.map natD)]) = true := by
  have fa : ∀ zs : List Nat, apD.apAll g (zs.map natD) = true := fun zs => by
    induction zs with
    | nil => rfl
    | cons z zs ih => rw [List.map_cons, apD.apAll, ih]; rfl
  rw [apD, apD.apAll, apD.apAll, apD.apAll, tup_ap _ (tup_part _), apD, h, fa]; rfl
theorem ap_srt41 {xs ys : Pl} (h : ys.length = xs.length + 1) : apD (.list (xs.map plD)) (.list (ys.map plD)) = true := by
  have fa : ∀ zs : Pl, apD.apAll (.list (xs.map plD)) (zs.map plD) = true := fun zs => by
    induction zs with
    | nil => rfl
    | cons z zs ih => rw [List.map_cons, apD.apAll, ih, Bool.and_true]; exact tup_ap _ rfl
  rw [apD, fa, Bool.and_true]
  show (!((ys.map plD).length == (xs.map plD).length) || _) = true
  rw [List.length_map, List.length_map, h, show (xs.length + 1 == xs.length) = false by simp]; rfl
theorem tup_pls41 (pl : Pl) : lstT (.list (pl.map plD)) = true := by
  show (pl.map plD).all tupD = true
  rw [List.all_eq_true]
  intro x hx
  obtain ⟨q, _, rfl⟩ := List.mem_map.mp hx
  rfl
theorem none_in41 (tab : List Nat) : dIn .none (.list (tab.map natD)) = some (.bool false) := by
  unfold dIn
  dsimp only
  rw [if_pos ⟨by decide +kernel, (Lay.nats tab).shaped (by decide)⟩]
  congr 2
  unfold anyEq
  rw [List.any_eq_false]
  intro x hx
  obtain ⟨t, _, rfl⟩ := List.mem_map.mp hx
  have : PyData.eqv (natD t) .none = false := by unfold natD; rw [PyData.eqv]
  rw [this]; decide
theorem putT_bd (pl : Pl) : ∀ (rs : Part) (k a : Nat), ∀ t ∈ putT pl k a rs, t < a + (putR pl k rs).length
  | [], k, a, t, h => nomatch h
  | r :: rs, k, a, t, h => by
    rw [putT] at h
    rw [putR, List.length_append, List.length_cons]
    rcases List.mem_cons.mp h with rfl | h
    · omega
    · have := putT_bd pl rs _ _ t h
      omega
theorem d_inj41 {r s : Row} (h : r.d = s.d) : r = s := by
  have hw : r.w = s.w := by
    have := row0 r
    rw [h, row0] at this
    exact (PyData.str.inj (Option.some.inj this)).symm
  cases r <;> cases s <;> first
    | (cases h; rfl)
    | (exfalso; simp only [Row.w] at hw; revert hw; decide +kernel)
theorem pd_inj41 : ∀ {p q : Part}, pd p = pd q → p = q := fun {p q} h => by
  have h2 : p.map Row.d = q.map Row.d := PyData.tuple.inj h
  exact (List.map_inj_right fun r s e => d_inj41 e).mp h2
structure Riv41 (p : Part) (pl : Pl) : Prop where
  ok : partOk p = true
  few : pl.length ≤ 8
  riv : RivOk p pl
theorem Riv41.pla {p : Part} {pl : Pl} (h : Riv41 p pl) : PlA p pl ∧ (putR pl 0 p).length ≤ 100 := by
  have hf := h.few
  have l20 := (partOk_len h.ok).2
  have h1 := put_len pl p 0
  have h2 := List.length_filter_le (fun q : Nat × Nat => decide (0 + 1 ≤ q.1)) pl
  exact ⟨⟨⟨parts_of h.ok, by omega, by omega⟩, h.riv.asc, h.riv.ins⟩, by omega⟩
theorem add41 {E : EndsD} {x0 x1 x2 x5 x6 x7 x8 x9 x10 x11 : Option D} {p : Part} {pl : Pl} {n : Nat} (hr : Riv41 p pl) (h7 : pl.length ≤ 7) (hn : n < 900000)
    (k : ∀ pl' y10 y11, Riv41 p pl' → pl'.length ≤ pl.length + 1 → E.nx (G41 x0 x1 x2 p pl' x5 x6 x7 x8 x9 y10 y11) (n + 2)) : k41A E (G41 x0 x1 x2 p pl x5 x6 x7 x8 x9 x10 x11) n := by
  have l1 := (partOk_len hr.ok).1
  have l20 := (partOk_len hr.ok).2
  refine q_setM (s_tup (s_cons (s_op (s_C (w_callP (ds := [.int (p.length : Int)]) (f_Cons (f_Cl (f_Cons f_Var f_Nil)) f_Nil) (vCons_of (show some (PyData.int ((p.map Row.d).length : Int)) = _ by rw [List.length_map]) rfl) ?_)))))
  with_reducible refine take_ok (by omega) (by omega) (by omega) fun x xa xb => ?_
  obtain ⟨x, rfl⟩ := Int.eq_ofNat_of_zero_le xa
  refine ⟨.int (1 + (x : Int)), rfl, s_cons ?_⟩
  refine sa_one natD (xs := [0, 1, 2, 10, 999, 65535]) (fun Q' q => s_cons (s_lst (s_cons (s_C (s_cons (s_C (s_cons (s_C (s_cons (s_C (s_cons (s_C (s_cons (s_C (s_nil ⟨by show 6 ≤ lim; decide, s_nil q⟩))))))))))))))) (by show 1 ≤ 6; decide) (by show 6 < 1073741824; decide) (by omega) fun v hv => ?_
  refine s_nil ⟨by show 2 ≤ lim; decide, ?_⟩
  have hv2 : v ≤ 65535 := by
    simp only [List.mem_cons, List.not_mem_nil, or_false] at hv
    omega
  have eq : PyData.tuple [.int (1 + (x : Int)), natD v] = plD (x + 1, v) := by
    unfold plD natD
    congr 3
    dsimp only
    omega
  rw [eq]
  have hin : (1 ≤ (x + 1, v).1 ∧ (x + 1, v).1 ≤ p.length ∧ (x + 1, v).2 ≤ 65535) := ⟨by dsimp only; omega, by dsimp only; omega, hv2⟩
  have pq : pl.any (fun z => decide (z = (x + 1, v))) = false → putQ pl (x + 1, v) = pl ++ [(x + 1, v)] := fun e => by
    unfold putQ
    rw [e, if_neg (by decide)]
  refine w_if (!pl.any fun z => decide (z = (x + 1, v))) (f_Test (f_Op f_Var f_Var)) (vTest_of (o2 (x := plD (x + 1, v)) (y := .list (pl.map plD)) rfl rfl (notin_pl _ _))) (fun hc => ?_) fun hc => ?_
  · have e := pq (by simpa using hc)
    have ln : ((putQ pl (x + 1, v)).mergeSort lePl).length = pl.length + 1 := by rw [List.length_mergeSort, e, List.length_append, List.length_singleton]
    have es : vLookA 4 (vCl cSorted (vCons (vOp dAdd (vVar 4) (vLst (vCons (vVar 10) vNil))) vNil)) (G41 x0 x1 x2 p pl x5 x6 x7 x8 x9 (some (plD (x + 1, v))) x11) = some (.list (((putQ pl (x + 1, v)).mergeSort lePl).map plD)) := by
      refine vLookA_of41 rfl (o_cl (vCons_of (o2 (x := .list (pl.map plD)) rfl (o_lst (xs := [plD (x + 1, v)]) (vCons_of rfl rfl) (by show 1 ≤ lim; decide)) ?_) rfl) (sort_pl (putQ pl (x + 1, v)))) (ap_srt41 ln)
      rw [e, List.map_append]
      exact dAdd_ls (by rw [List.length_map]; show _ + 1 ≤ _; omega)
    refine q_set (f_LookA (f_Cl (f_Cons (f_Op f_Var (f_Lst (f_Cons f_Var f_Nil))) f_Nil))) es ?_
    refine w_seq ⟨pl.map plD, rfl, ⟨[], rfl, ?_⟩⟩
    refine w_exp (d := .list (((putQ pl (x + 1, v)).mergeSort lePl).map plD)) f_Var rfl ⟨((putQ pl (x + 1, v)).mergeSort lePl).map plD, rfl, by rw [List.length_map, ln, List.length_nil]; exact Nat.le_trans (show _ ≤ 20 by omega) (by decide), ?_⟩
    exact k ((putQ pl (x + 1, v)).mergeSort lePl) _ _ ⟨hr.ok, by rw [ln]; omega, riv_next hr.riv hin⟩ (by rw [ln]; omega)
  · exact k pl _ _ hr (by omega)
theorem turn41 {E : EndsD} {x0 x1 x2 x5 x6 x7 x8 x9 x10 x11 : Option D} {p : Part} {pl : Pl} {n : Nat} (hr : Riv41 p pl) (h7 : pl.length ≤ 7) (hn : n < 900000)
    (kb : ∀ y6 y7, E.bk (G41 x0 x1 x2 p pl x5 y6 y7 x8 x9 x10 x11) n)
    (k : ∀ pl' y6 y7 y10 y11, Riv41 p pl' → pl'.length ≤ pl.length + 1 → E.nx (G41 x0 x1 x2 p pl' x5 y6 y7 none none y10 y11) (n + 2)) : k41T E (G41 x0 x1 x2 p pl x5 x6 x7 x8 x9 x10 x11) n := by
  obtain ⟨PA, pl100⟩ := hr.pla
  have l1 := (partOk_len hr.ok).1
  have l20 := (partOk_len hr.ok).2
  have few := hr.few
  have tl : (putTab p pl).length = p.length := putT_len pl p 0 0
  have tb : ∀ t ∈ putTab p pl, t < 1000 := fun t ht => by
    have := putT_bd pl p 0 0 t ht
    omega
  have ea := seen_reprX (seen_all41 hr.ok (pl := pl) (fun q hq => by have := hr.riv.ins q hq; omega) (by omega)) (by decide) (by decide)
  generalize (PyData.tuple [pd p, .list (pl.map plD)]).shown = sK at ea
  have ap : apL (.list (pl.map plD)) ((putTab p pl).map natD) = true := ap_tab41 (by omega)
  have ep := v__law_put_in_eq PA (by omega)
  have e6 : vLook (vLook (vCl cReprX (vCons (vTup (vCons (vVar 3) (vCons (vVar 4) vNil))) vNil))) (G41 x0 x1 x2 p pl x5 x6 x7 x8 x9 x10 x11) = some (.str sK) := o_look (o_look (o_cl (vCons_of (vt2 rfl rfl) rfl) ea) rfl) rfl
  have e7 : vLookA 4 (vCall v__law_put_in (vCons (vVar 3) (vCons (vVar 4) vNil))) (G41 x0 x1 x2 p pl x5 x6 x7 x8 x9 x10 x11) = some (.tuple [pd (putW p pl), .list ((putTab p pl).map natD)]) := vLookA_of41 rfl (o_call (vCons_of rfl (vCons_of rfl rfl)) ep) (ap_due41 ap)
  refine q_par (w_args (f_Cons (f_Look (f_Look (f_Cl (f_Cons (f_Tup (f_Cons f_Var (f_Cons f_Var f_Nil))) f_Nil)))) (f_Cons (f_LookA (f_Call fp__law_put_in (f_Cons f_Var (f_Cons f_Var f_Nil)))) f_Nil)) (vCons_of e6 (vCons_of e7 rfl)) ⟨rfl, ?_⟩)
  show mSeq _ _ E (G41 x0 x1 x2 p pl x5 (some (.str sK)) (some (.tuple [pd (putW p pl), .list ((putTab p pl).map natD)])) x8 x9 x10 x11) n
  have ei : ∀ Γ : DEnv, vVar 7 Γ = some (.tuple [pd (putW p pl), .list ((putTab p pl).map natD)]) → vOp dIx (vVar 7) (vC (.int 0)) Γ = some (pd (putW p pl)) := fun Γ h => o2 h rfl (ix0 _ _)
  refine w_seq (w_if (decide (20 < (putW p pl).length) || !(partOf (pd (putW p pl))).isSome) (f_Or (f_Test (f_Op (f_Cl (f_Cons (f_Op f_Var f_C) f_Nil)) f_C)) (f_Not (f_Test (f_Call fp_is_part (f_Cons (f_Op f_Var f_C) f_Nil))))) ?_ (fun hc => kb _ _) fun hc => ?_)
  · refine vOr_of (vTest_of (o2 (x := .int ((putW p pl).length : Int)) (y := .int 20) (o_cl (vCons_of (ei _ rfl) rfl) ?_) rfl ?_)) fun _ => vNot_of (vTest_of (o_call (vCons_of (ei _ rfl) rfl) (v_is_part_eq _)))
    · show some (PyData.int ((((putW p pl).map Row.d).length : Nat) : Int)) = _
      rw [List.length_map]
    · exact (dGt_int _ _).trans (congrArg (fun b => some (PyData.bool b)) (decide_eq_decide.mpr (by omega)))
  rw [Bool.or_eq_false_iff] at hc
  have hk : partOk (putW p pl) = true := by
    have h2 := hc.2
    rw [Bool.not_eq_false'] at h2
    obtain ⟨q, hq⟩ := Option.isSome_iff_exists.mp h2
    obtain ⟨e, ok⟩ := partOf_some hq
    have : q = putW p pl := pd_inj41 e.symm
    rw [← this]; exact ok
  have ew := v_with_words_v2_eq PA hk
  have ed := seen_reprX (seen_due41 hk tb (by omega)) (by decide) (by decide)
  have ek : v_is_part [pd (putW p pl)] = some (.bool true) := (v_is_part_eq _).trans (by rw [partOf_d hk]; rfl)
  have flat : ((putTab p pl).map natD).all flatD = true := List.all_eq_true.mpr fun d hd => by
    obtain ⟨t, _, rfl⟩ := List.mem_map.mp hd
    rfl
  refine w_seq ⟨by show 8 < 12; decide, by show 9 < 12; decide, .list (pl.map plD), rfl, ?_⟩
  refine w_args (ds := [pd p, .list (pl.map plD)]) (f_Cons f_Var (f_Cons f_Var f_Nil)) (vCons_of rfl (vCons_of rfl rfl)) ⟨?_, ?_⟩
  · rw [List.all_cons, List.all_cons, tup_pls41, show tupD (pd p) = true from tup_part p]; simp
  refine fp_with_words_v2 _ _ _ ew ⟨pd (putW p pl), (putTab p pl).map natD, rfl, tup_part _, flat, ?_, ap, by rw [List.length_map, tl]; exact Nat.lt_of_le_of_lt l20 (by decide), ?_⟩
  · show (true && (apL (.list (pl.map plD)) ((putTab p pl).map natD) && true)) = true
    rw [ap]; rfl
  refine w_tst (b := false) (f_Or (f_Test (f_Op (f_Cl (f_Cons f_Var f_Nil)) (f_Cl (f_Cons f_Var f_Nil)))) (f_Or (f_Test (f_Op (f_Cl (f_Cons (f_Tup (f_Cons f_Var (f_Cons f_Var f_Nil))) f_Nil)) f_Var)) (f_Test (f_Op (f_Call fp_is_part (f_Cons (f_Op f_Var f_C) f_Nil)) f_C)))) ?_ ?_
  · refine vOr_of (x := false) (y := false) (vTest_of (o2 (o_cl (vCons_of rfl rfl) ed) (o_cl (vCons_of rfl rfl) ed) (same66 _))) fun _ => vOr_of (x := false) (y := false) (vTest_of (o2 (o_cl (vCons_of (vt2 rfl rfl) rfl) ea) rfl (same66 _))) fun _ => vTest_of (o2 (x := .bool true) (y := .bool true) (o_call (vCons_of (o2 rfl rfl (ix0 _ _)) rfl) ek) rfl rfl)
  show (if false = true then _ else _)
  rw [if_neg (by decide)]
  refine q_no (f_Test (f_Op f_C (f_Op (f_Call fp_with_words_v2 (f_Cons f_Var (f_Cons f_Var f_Nil))) f_C))) (vTest_of (o2 (x := .none) rfl (o2 (o_call (vCons_of rfl (vCons_of rfl rfl)) ew) rfl (ix1 _ _ _)) (none_in41 _))) ?_
  exact add41 hr h7 hn fun pl' y10 y11 h1 h2 => k pl' _ _ y10 y11 h1 h2
theorem law41 : b_c41_law mTrue (List.replicate 12 none) 0 := by
  unfold b_c41_law
  refine q_for (s_ir1 (s_cons (s_C (s_nil ⟨8, rfl, (okR_nat (n := 8) (by decide) : okR 8), ?_⟩))))
  refine w_for (fun ds Γ n => (∃ x0 x1 x2 x3 x4 x5 x6 x7 x8 x9 x10 x11, Γ = [x0, x1, x2, x3, x4, x5, x6, x7, x8, x9, x10, x11]) ∧ n + 100 * ds.length ≤ 900) (fun d ds Γ n h K hK => ?_) (fun Γ n h => ?_) _ _ _ ⟨⟨_, _, _, _, _, _, _, _, _, _, _, _, rfl⟩, by rw [rangeD_len]; show 0 + 100 * 8 ≤ 900; omega⟩
  · obtain ⟨⟨x0, x1, x2, x3, x4, x5, x6, x7, x8, x9, x10, x11, rfl⟩, hn⟩ := h
    rw [List.length_cons] at hn
    refine s_gName (q_setM (s_callP (s_cons (s_C (s_cons (s_op (s_C (s_callP (s_cons (s_C (s_nil ?_))))))))))) 
    with_reducible refine take_ok (by decide) (by decide) (by omega) fun x x0 x1 => ?_
    refine ⟨.int (4 * x), rfl, s_cons ?_⟩
    refine sa_one PyData.int (xs := [3, 8, 14]) (fun Q' q => s_cons (s_lst (s_cons (s_C (s_cons (s_C (s_cons (s_C (s_nil ⟨by show 3 ≤ lim; decide, s_nil q⟩))))))))) (by show 1 ≤ 3; decide) (by show 3 < 1073741824; decide) (by omega) fun w hw => ?_
    refine s_nil ?_
    obtain ⟨w, rfl⟩ : ∃ v : Nat, w = (v : Int) := ⟨w.toNat, by
      simp only [List.mem_cons, List.not_mem_nil, or_false] at hw
      omega⟩
    have hw2 : 1 ≤ w ∧ w ≤ 14 := by
      simp only [List.mem_cons, List.not_mem_nil, or_false] at hw
      omega
    refine any_part31 (by omega) (parts := 3) (by decide) (by decide) hw2.1 hw2.2 (by omega) fun p n' ok pl hn' => ?_
    refine q_set (f_Lst f_Nil) rfl ?_
    refine s_for (s_ir1 (s_cons (s_C (s_nil ⟨4, rfl, (okR_nat (n := 4) (by decide) : okR 4), ?_⟩))))
    refine w_for (fun ds' Γ m => (∃ y0 y1 y2 y5 y6 y7 y8 y9 y10 y11 pl, Γ = G41 y0 y1 y2 p pl y5 y6 y7 y8 y9 y10 y11 ∧ Riv41 p pl ∧ pl.length + ds'.length ≤ 4) ∧ m + 2 * ds'.length ≤ n' + 8) (fun d' ds' Γ m h K' hK' => ?_) (fun Γ m h => ?_) _ _ _ ⟨⟨_, _, _, _, _, _, _, _, _, _, [], rfl, ⟨ok, Nat.zero_le _, riv_nil p⟩, by rw [rangeD_len]; show 0 + 4 ≤ 4; omega⟩, by rw [rangeD_len]; show n' + 2 * 4 ≤ n' + 8; omega⟩
    · obtain ⟨⟨y0, y1, y2, y5, y6, y7, y8, y9, y10, y11, pl, rfl, hr, hl⟩, hm⟩ := h
      rw [List.length_cons] at hl hm
      refine s_gName (turn41 hr (by omega) (by omega) (fun z6 z7 => ?_) fun pl' z6 z7 z10 z11 hr' hl' => ?_)
      · exact hK _ _ ⟨⟨_, _, _, _, _, _, _, _, _, _, _, _, rfl⟩, by omega⟩
      · exact hK' _ _ ⟨⟨_, _, _, _, _, _, _, _, _, _, pl', rfl, hr', by omega⟩, by omega⟩
    · obtain ⟨⟨y0, y1, y2, y5, y6, y7, y8, y9, y10, y11, pl, rfl, hr, hl⟩, hm⟩ := h
      rw [List.length_nil] at hm
      exact hK _ _ ⟨⟨_, _, _, _, _, _, _, _, _, _, _, _, rfl⟩, by omega⟩
  · show mRet (mC (.bool true)) mTrue Γ n
    refine w_ret (d := .bool true) f_C rfl ?_
    exact rfl
end RC
end
section
open PySem PySem.W PyProof.Rows
set_option maxHeartbeats 0 in
theorem PySem.Challenge.cw_reachrows_k41_words_put_in_holds : PySem.Challenge.rw_reachrows_k41_words_put_in.Holds := by
  w_on; o_law; k_head; (case hw => w_witness2)
  k_fill
  refine RR.walkG (l := PySem.Challenge.rw_reachrows_k41_words_put_in) (k := 100) (x := "script") rfl rfl rfl ⟨rfl, by decide, by decide⟩ (fun w h Y => PySem.W.kIn_of Y) ?F
  case F =>
    intro w mg fa h KX G hmg
    refine' RR.fin_mk (l := PySem.Challenge.rw_reachrows_k41_words_put_in) (st := K41.topS 37) KX G hmg ?la ?ll ?lc ?lk ?lb (fun base fd sy FF => K41.fn_law (base := base) (K41.Txt.mk sy (PySem.W.mg_none_of KX G ?q1) (PySem.W.mg_none_of KX G ?q2) (PySem.W.mg_none_of KX G ?q3) (PySem.W.mg_none_of KX G ?q4) (PySem.W.mg_none_of KX G ?q5) (PySem.W.mg_none_of KX G ?q6) (PySem.W.mg_none_of KX G ?q7) (PySem.W.mg_none_of KX G ?q8) (PySem.W.mg_none_of KX G ?q9) (PySem.W.mg_none_of KX G ?q10) (PySem.W.mg_none_of KX G ?q11) (PySem.W.mg_none_of KX G ?q12) (PySem.W.mg_none_of KX G ?q13) (PySem.W.mg_none_of KX G ?q14) ⟨_, RR.dk_mk KX G ?q15 ?q16 ?q17 ?q18 ?q70⟩ (RR.ci_int KX G ?q71 ?q72) (RR.ci_int KX G ?q73 ?q74) (RR.ci_int KX G ?q75 ?q76) ⟨_, RR.ci_tup KX G ?q77 ?q78 ?q79 (RR.rqs_cons RR.rq_int (RR.rqs_cons RR.rq_int (RR.rqs_cons RR.rq_int (RR.rqs_cons RR.rq_int RR.rqs_nil)))) ?q80⟩ ⟨_, RR.ci_tup KX G ?q81 ?q82 ?q83 (RR.rqs_cons RR.rq_str (RR.rqs_cons RR.rq_str RR.rqs_nil)) ?q84⟩ ⟨_, RR.ci_tup KX G ?q85 ?q86 ?q87 (RR.rqs_cons RR.rq_str (RR.rqs_cons RR.rq_str (RR.rqs_cons RR.rq_str (RR.rqs_cons RR.rq_str RR.rqs_nil)))) ?q88⟩ (RR.fd_mk (st := K41.topS 30) KX G ?q89 ?q90 ?q91 ?q92 (fun _ _ _ _ _ _ us hl => match us, hl with | [_, _], _ => rfl)) (RR.fd_mk (st := K41.topS 31) KX G ?q93 ?q94 ?q95 ?q96 (fun _ _ _ _ _ _ us hl => match us, hl with | [_, _], _ => rfl)) (RR.fd_mk (st := K41.topS 32) KX G ?q97 ?q98 ?q99 ?q100 (fun _ _ _ _ _ _ us hl => match us, hl with | [_, _], _ => rfl)) (RR.fd_mk (st := K41.topS 34) KX G ?q101 ?q102 ?q103 ?q104 (fun _ _ _ _ _ _ us hl => match us, hl with | [_, _, _], _ => rfl)) (RR.fd_mk (st := K41.topS 35) KX G ?q105 ?q106 ?q107 ?q108 (fun _ _ _ _ _ _ us hl => match us, hl with | [_, _, _, _], _ => rfl)) (RR.fd_mk (st := K41.topS 29) KX G ?q109 ?q110 ?q111 ?q112 (fun _ _ _ _ _ _ us hl => match us, hl with | [_], _ => rfl)) (RR.fd_mk (st := K41.topS 36) KX G ?q113 ?q114 ?q115 ?q116 (fun _ _ _ _ _ _ us hl => match us, hl with | [_, _], _ => rfl)) (RR.fd_mk (st := K41.topS 15) KX G ?q117 ?q118 ?q119 ?q120 (fun _ _ _ _ _ _ us hl => match us, hl with | [_], _ => rfl)) (RR.fd_mk (st := K41.topS 19) KX G ?q121 ?q122 ?q123 ?q124 (fun _ _ _ _ _ _ us hl => match us, hl with | [_], _ => rfl)) (RR.fd_mk (st := K41.topS 18) KX G ?q125 ?q126 ?q127 ?q128 (fun _ _ _ _ _ _ us hl => match us, hl with | [_], _ => rfl)) (RR.fd_mk (st := K41.topS 12) KX G ?q129 ?q130 ?q131 ?q132 (fun _ _ _ _ _ _ us hl => match us, hl with | [_, _, _], _ => rfl)) (RR.fd_mk (st := K41.topS 13) KX G ?q133 ?q134 ?q135 ?q136 (fun _ _ _ _ _ _ us hl => match us, hl with | [_, _], _ => rfl)) (RR.fd_mk (st := K41.topS 14) KX G ?q137 ?q138 ?q139 ?q140 (fun _ _ _ _ _ _ us hl => match us, hl with | [_], _ => rfl)) (RR.fd_mk (st := K41.topS 20) KX G ?q141 ?q142 ?q143 ?q144 (fun _ _ _ _ _ _ us hl => match us, hl with | [_], _ => rfl)) (RR.fd_mk (st := K41.topS 21) KX G ?q145 ?q146 ?q147 ?q148 (fun _ _ _ _ _ _ us hl => match us, hl with | [_], _ => rfl)) (RR.fd_mk (st := K41.topS 22) KX G ?q149 ?q150 ?q151 ?q152 (fun _ _ _ _ _ _ us hl => match us, hl with | [_], _ => rfl)) (RR.fd_mk (st := K41.topS 16) KX G ?q153 ?q154 ?q155 ?q156 (fun _ _ _ _ _ _ us hl => match us, hl with | [_], _ => rfl)) (RR.fd_mk (st := K41.topS 17) KX G ?q157 ?q158 ?q159 ?q160 (fun _ _ _ _ _ _ us hl => match us, hl with | [_, _], _ => rfl)) (RR.fd_mk (st := K41.topS 24) KX G ?q161 ?q162 ?q163 ?q164 (fun _ _ _ _ _ _ us hl => match us, hl with | [_, _], _ => rfl)) (RR.fd_mk (st := K41.topS 25) KX G ?q165 ?q166 ?q167 ?q168 (fun _ _ _ _ _ _ us hl => match us, hl with | [_, _], _ => rfl)) (RR.fd_mk (st := K41.topS 26) KX G ?q169 ?q170 ?q171 ?q172 (fun _ _ _ _ _ _ us hl => match us, hl with | [_, _], _ => rfl)) (RR.fd_mk (st := K41.topS 27) KX G ?q173 ?q174 ?q175 ?q176 (fun _ _ _ _ _ _ us hl => match us, hl with | [_, _], _ => rfl)) (RR.fd_mk (st := K41.topS 37) KX G ?q177 ?q178 ?q179 ?q180 (fun _ _ _ _ _ _ us hl => match us, hl with | [_], _ => rfl))) RC.law41 FF)
    (case la => k_is)
    (case ll => k_is)
    (case lc => k_is)
    (case lk => k_is)
    (case lb => exact fun _ _ => PySem.BindsTo.of_eq rfl)
    (case q1 => k_is)
    (case q2 => k_is)
    (case q3 => k_is)
    (case q4 => k_is)
    (case q5 => k_is)
    (case q6 => k_is)
    (case q7 => k_is)
    (case q8 => k_is)
    (case q9 => k_is)
    (case q10 => k_is)
    (case q11 => k_is)
    (case q12 => k_is)
    (case q13 => k_is)
    (case q14 => k_is)
    (case q15 => k_is)
    (case q16 => k_is)
    (case q17 => k_keys)
    (case q18 => decide)
    (case q70 => (refine' (.cons (v := L2.V.ref _) rfl (RR.rq_tup ?q19 ?q20 (RR.rqs_cons (RR.rq_tup ?q22 ?q23 (RR.rqs_cons RR.rq_int (RR.rqs_cons RR.rq_int RR.rqs_nil)) ?q24) (RR.rqs_cons (RR.rq_tup ?q25 ?q26 (RR.rqs_cons RR.rq_int (RR.rqs_cons RR.rq_int RR.rqs_nil)) ?q27) RR.rqs_nil)) ?q21) (.cons (v := L2.V.ref _) rfl (RR.rq_tup ?q28 ?q29 (RR.rqs_cons (RR.rq_tup ?q31 ?q32 (RR.rqs_cons RR.rq_int (RR.rqs_cons RR.rq_int RR.rqs_nil)) ?q33) RR.rqs_nil) ?q30) (.cons (v := L2.V.ref _) rfl (RR.rq_tup ?q34 ?q35 (RR.rqs_cons (RR.rq_tup ?q37 ?q38 (RR.rqs_cons RR.rq_int (RR.rqs_cons RR.rq_int RR.rqs_nil)) ?q39) RR.rqs_nil) ?q36) (.cons (v := L2.V.ref _) rfl (RR.rq_tup ?q40 ?q41 (RR.rqs_cons (RR.rq_tup ?q43 ?q44 (RR.rqs_cons RR.rq_int (RR.rqs_cons RR.rq_int RR.rqs_nil)) ?q45) RR.rqs_nil) ?q42) (.cons (v := L2.V.ref _) rfl (RR.rq_tup ?q46 ?q47 (RR.rqs_cons (RR.rq_tup ?q49 ?q50 (RR.rqs_cons RR.rq_int (RR.rqs_cons RR.rq_int RR.rqs_nil)) ?q51) RR.rqs_nil) ?q48) (.cons (v := L2.V.ref _) rfl (RR.rq_tup ?q52 ?q53 (RR.rqs_cons (RR.rq_tup ?q55 ?q56 (RR.rqs_cons RR.rq_int (RR.rqs_cons RR.rq_int RR.rqs_nil)) ?q57) RR.rqs_nil) ?q54) (.cons (v := L2.V.ref _) rfl (RR.rq_tup ?q58 ?q59 (RR.rqs_cons (RR.rq_tup ?q61 ?q62 (RR.rqs_cons RR.rq_int (RR.rqs_cons RR.rq_int RR.rqs_nil)) ?q63) RR.rqs_nil) ?q60) (.cons (v := L2.V.ref _) rfl (RR.rq_tup ?q64 ?q65 (RR.rqs_cons (RR.rq_tup ?q67 ?q68 (RR.rqs_cons RR.rq_int (RR.rqs_cons RR.rq_int RR.rqs_nil)) ?q69) RR.rqs_nil) ?q66) .nil)))))))); (case q19 => k_is); (case q20 => decide); (case q21 => exact (.cons rfl (.cons rfl .nil))); (case q22 => k_is); (case q23 => decide); (case q24 => exact (.cons ⟨_, rfl⟩ (.cons ⟨_, rfl⟩ .nil))); (case q25 => k_is); (case q26 => decide); (case q27 => exact (.cons ⟨_, rfl⟩ (.cons ⟨_, rfl⟩ .nil))); (case q28 => k_is); (case q29 => decide); (case q30 => exact (.cons rfl .nil)); (case q31 => k_is); (case q32 => decide); (case q33 => exact (.cons ⟨_, rfl⟩ (.cons ⟨_, rfl⟩ .nil))); (case q34 => k_is); (case q35 => decide); (case q36 => exact (.cons rfl .nil)); (case q37 => k_is); (case q38 => decide); (case q39 => exact (.cons ⟨_, rfl⟩ (.cons ⟨_, rfl⟩ .nil))); (case q40 => k_is); (case q41 => decide); (case q42 => exact (.cons rfl .nil)); (case q43 => k_is); (case q44 => decide); (case q45 => exact (.cons ⟨_, rfl⟩ (.cons ⟨_, rfl⟩ .nil))); (case q46 => k_is); (case q47 => decide); (case q48 => exact (.cons rfl .nil)); (case q49 => k_is); (case q50 => decide); (case q51 => exact (.cons ⟨_, rfl⟩ (.cons ⟨_, rfl⟩ .nil))); (case q52 => k_is); (case q53 => decide); (case q54 => exact (.cons rfl .nil)); (case q55 => k_is); (case q56 => decide); (case q57 => exact (.cons ⟨_, rfl⟩ (.cons ⟨_, rfl⟩ .nil))); (case q58 => k_is); (case q59 => decide); (case q60 => exact (.cons rfl .nil)); (case q61 => k_is); (case q62 => decide); (case q63 => exact (.cons ⟨_, rfl⟩ (.cons ⟨_, rfl⟩ .nil))); (case q64 => k_is); (case q65 => decide); (case q66 => exact (.cons rfl .nil)); (case q67 => k_is); (case q68 => decide); (case q69 => exact (.cons ⟨_, rfl⟩ (.cons ⟨_, rfl⟩ .nil)))))
    (case q71 => k_is)
    (case q72 => exact ⟨_, rfl⟩)
    (case q73 => k_is)
    (case q74 => exact ⟨_, rfl⟩)
    (case q75 => k_is)
    (case q76 => exact ⟨_, rfl⟩)
    (case q77 => k_is)
    (case q78 => k_is)
    (case q79 => decide)
    (case q80 => exact (.cons ⟨_, rfl⟩ (.cons ⟨_, rfl⟩ (.cons ⟨_, rfl⟩ (.cons ⟨_, rfl⟩ .nil)))))
    (case q81 => k_is)
    (case q82 => k_is)
    (case q83 => decide)
    (case q84 => exact (.cons ⟨_, rfl⟩ (.cons ⟨_, rfl⟩ .nil)))
    (case q85 => k_is)
    (case q86 => k_is)
    (case q87 => decide)
    (case q88 => exact (.cons ⟨_, rfl⟩ (.cons ⟨_, rfl⟩ (.cons ⟨_, rfl⟩ (.cons ⟨_, rfl⟩ .nil)))))
    (case q89 => k_is)
    (case q90 => k_is)
    (case q91 => k_is)
    (case q92 => k_is)
    (case q93 => k_is)
    (case q94 => k_is)
    (case q95 => k_is)
    (case q96 => k_is)
    (case q97 => k_is)
    (case q98 => k_is)
    (case q99 => k_is)
    (case q100 => k_is)
    (case q101 => k_is)
    (case q102 => k_is)
    (case q103 => k_is)
    (case q104 => k_is)
    (case q105 => k_is)
    (case q106 => k_is)
    (case q107 => k_is)
    (case q108 => k_is)
    (case q109 => k_is)
    (case q110 => k_is)
    (case q111 => k_is)
    (case q112 => k_is)
    (case q113 => k_is)
    (case q114 => k_is)
    (case q115 => k_is)
    (case q116 => k_is)
    (case q117 => k_is)
    (case q118 => k_is)
    (case q119 => k_is)
    (case q120 => k_is)
    (case q121 => k_is)
    (case q122 => k_is)
    (case q123 => k_is)
    (case q124 => k_is)
    (case q125 => k_is)
    (case q126 => k_is)
    (case q127 => k_is)
    (case q128 => k_is)
    (case q129 => k_is)
    (case q130 => k_is)
    (case q131 => k_is)
    (case q132 => k_is)
    (case q133 => k_is)
    (case q134 => k_is)
    (case q135 => k_is)
    (case q136 => k_is)
    (case q137 => k_is)
    (case q138 => k_is)
    (case q139 => k_is)
    (case q140 => k_is)
    (case q141 => k_is)
    (case q142 => k_is)
    (case q143 => k_is)
    (case q144 => k_is)
    (case q145 => k_is)
    (case q146 => k_is)
    (case q147 => k_is)
    (case q148 => k_is)
    (case q149 => k_is)
    (case q150 => k_is)
    (case q151 => k_is)
    (case q152 => k_is)
    (case q153 => k_is)
    (case q154 => k_is)
    (case q155 => k_is)
    (case q156 => k_is)
    (case q157 => k_is)
    (case q158 => k_is)
    (case q159 => k_is)
    (case q160 => k_is)
    (case q161 => k_is)
    (case q162 => k_is)
    (case q163 => k_is)
    (case q164 => k_is)
    (case q165 => k_is)
    (case q166 => k_is)
    (case q167 => k_is)
    (case q168 => k_is)
    (case q169 => k_is)
    (case q170 => k_is)
    (case q171 => k_is)
    (case q172 => k_is)
    (case q173 => k_is)
    (case q174 => k_is)
    (case q175 => k_is)
    (case q176 => k_is)
    (case q177 => k_is)
    (case q178 => k_is)
    (case q179 => k_is)
    (case q180 => k_is)
end
