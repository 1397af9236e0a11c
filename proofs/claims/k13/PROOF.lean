import PyProof.Rows.All
import Wide.All
import OpenK.AllK
import Wide.FinOn
import HandS.ForMost
import HandS.Evl
import HandS.IsInst
import HandS.Codes
import HandS.Style
import HandS.Exc
import HandS.TryOnly
import HandS.ExcOwn
import HandS.WordsExc
import HandS.ExcIs
import HandS.DictComp
import HandS.Conv
import HandS.SetFor
import HandS.Sort
import HandS.StrMore
import HandS.WideBits
import PySem.Challenge.RW_knotbits_k13_whole_plain_tree
set_option Elab.async false
set_option linter.all false
set_option maxRecDepth 100000
set_option maxHeartbeats 8000000
set_option linter.all false
set_option maxRecDepth 100000
/-! Trees told by parents and by bits: plain Lean. A stack is a list, its top first. -/
namespace KB

/-! ### the walk down: stack, bits, next number -/
structure Stt where
  st : List Int
  bs : List Bool
  k : Int

def adv (s : Stt) (p : Int) : Stt :=
  ⟨s.k :: s.st.dropWhile (fun x => x != p), s.bs ++ List.replicate (s.st.takeWhile (fun x => x != p)).length false ++ [true], s.k + 1⟩
def ini : Stt := ⟨[0], [true], 1⟩
def run (P : List Int) : Stt := P.foldl adv ini
/-- each parent stands on the stack when it is named -/
def Good (P : List Int) : Prop := ∀ i p, P[i]? = some p → p ∈ (run (P.take i)).st
def full (P : List Int) : List Bool := (run P).bs ++ List.replicate (run P).st.length false

theorem run_nil : run [] = ini := rfl
theorem run_app (P : List Int) (p : Int) : run (P ++ [p]) = adv (run P) p := by
  unfold run; rw [List.foldl_append]; rfl
theorem take_more {α : Type} {l : List α} {i : Nat} {x : α} (h : l[i]? = some x) : l.take (i + 1) = l.take i ++ [x] := by
  rw [List.take_add_one, h]; rfl
theorem run_more {P : List Int} {i : Nat} {p : Int} (h : P[i]? = some p) : run (P.take (i + 1)) = adv (run (P.take i)) p := by
  rw [take_more h, run_app]

theorem run_k : ∀ P : List Int, (run P).k = (P.length : Int) + 1 := by
  intro P
  generalize hn : P.length = n
  induction n generalizing P with
  | zero =>
    have e : P = [] := List.eq_nil_of_length_eq_zero hn
    subst e; rfl
  | succ n ih =>
    have h := List.dropLast_concat_getLast (l := P) (by intro z; rw [z] at hn; cases hn)
    rw [← h, run_app]
    have e := ih P.dropLast (by rw [List.length_dropLast, hn]; rfl)
    show (run P.dropLast).k + 1 = _
    rw [e]; omega

/-- induction from behind -/
theorem rev_ind {α : Type} {C : List α → Prop} (h0 : C []) (hs : ∀ P p, C P → C (P ++ [p])) (P : List α) : C P := by
  generalize hn : P.length = n
  induction n generalizing P with
  | zero =>
    have e : P = [] := List.eq_nil_of_length_eq_zero hn
    subst e; exact h0
  | succ n ih =>
    have h := List.dropLast_concat_getLast (l := P) (by intro z; rw [z] at hn; cases hn)
    rw [← h]
    exact hs _ _ (ih P.dropLast (by rw [List.length_dropLast, hn]; rfl))

theorem good_nil : Good [] := fun i p h => by simp at h
theorem Good.left {P : List Int} {p : Int} (h : Good (P ++ [p])) : Good P := fun i q e => by
  have hi : i < P.length := (List.getElem?_eq_some_iff.mp e).1
  have e2 : (P ++ [p])[i]? = some q := by rw [List.getElem?_append_left hi]; exact e
  have z := h i q e2
  rw [List.take_append_of_le_length (Nat.le_of_lt hi)] at z
  exact z
theorem Good.last {P : List Int} {p : Int} (h : Good (P ++ [p])) : p ∈ (run P).st := by
  have z := h P.length p (by simp)
  rw [List.take_left'] at z
  · exact z
  · rfl
theorem Good.app {P : List Int} {p : Int} (h : Good P) (hp : p ∈ (run P).st) : Good (P ++ [p]) := fun i q e => by
  by_cases hi : i < P.length
  · rw [List.getElem?_append_left hi] at e
    rw [List.take_append_of_le_length (Nat.le_of_lt hi)]
    exact h i q e
  · have hl := (List.getElem?_eq_some_iff.mp e).1
    rw [List.length_append, List.length_singleton] at hl
    have ei : i = P.length := by omega
    subst ei
    have e2 : p = q := by simpa using e
    subst e2
    rw [List.take_left' rfl]
    exact hp
theorem Good.take {P : List Int} (h : Good P) (n : Nat) : Good (P.take n) := fun i p e => by
  by_cases hi : i < n
  · rw [List.getElem?_take_of_lt hi] at e
    rw [List.take_take, Nat.min_eq_left (Nat.le_of_lt hi)]
    exact h i p e
  · have hl := (List.getElem?_eq_some_iff.mp e).1
    rw [List.length_take] at hl
    omega

theorem dropWhile_suffix (f : Int → Bool) : ∀ l : List Int, ∃ j, j ≤ l.length ∧ l.dropWhile f = l.drop j
  | [] => ⟨0, Nat.le_refl _, rfl⟩
  | a :: l => by
    rw [List.dropWhile_cons]
    by_cases h : f a = true
    · rw [if_pos h]
      obtain ⟨j, h1, h2⟩ := dropWhile_suffix f l
      exact ⟨j + 1, Nat.succ_le_succ h1, h2⟩
    · rw [if_neg h]
      exact ⟨0, Nat.zero_le _, rfl⟩
theorem mem_dropWhile {f : Int → Bool} {l : List Int} {x : Int} (h : x ∈ l.dropWhile f) : x ∈ l := by
  obtain ⟨j, _, e⟩ := dropWhile_suffix f l
  rw [e] at h
  exact List.mem_of_mem_drop h

/-- the stack falls strictly, from below the next number, to nought -/
structure Fall (s : Stt) : Prop where
  pw : s.st.Pairwise (fun a b => b < a)
  lt : ∀ x ∈ s.st, x < s.k
  ge : ∀ x ∈ s.st, 0 ≤ x
theorem fall_ini : Fall ini := ⟨List.pairwise_singleton _ _, fun x h => by
  have e : x = 0 := by simpa [ini] using h
  subst e; show (0 : Int) < 1; decide, fun x h => by
  have e : x = 0 := by simpa [ini] using h
  subst e; exact Int.le_refl _⟩
theorem Fall.adv {s : Stt} (h : Fall s) (hk : 0 ≤ s.k) (p : Int) : Fall (adv s p) := by
  obtain ⟨j, _, e⟩ := dropWhile_suffix (fun x => x != p) s.st
  refine ⟨?_, ?_, ?_⟩
  · show (s.k :: s.st.dropWhile (fun x => x != p)).Pairwise _
    refine List.pairwise_cons.mpr ⟨fun b hb => h.lt b (mem_dropWhile hb), ?_⟩
    rw [e]
    exact h.pw.drop
  · intro x hx
    have hx' : x ∈ s.k :: s.st.dropWhile (fun x => x != p) := hx
    show x < s.k + 1
    rcases List.mem_cons.mp hx' with r | r
    · omega
    · have := h.lt x (mem_dropWhile r); omega
  · intro x hx
    have hx' : x ∈ s.k :: s.st.dropWhile (fun x => x != p) := hx
    rcases List.mem_cons.mp hx' with r | r
    · omega
    · exact h.ge x (mem_dropWhile r)
theorem fall_run (P : List Int) : Fall (run P) := by
  refine rev_ind (C := fun P => Fall (run P)) ?_ ?_ P
  · exact fall_ini
  · intro P p h
    rw [run_app]
    exact h.adv (by rw [run_k]; omega) p
theorem run_ne (P : List Int) : (run P).st ≠ [] := by
  refine rev_ind (C := fun P => (run P).st ≠ []) ?_ ?_ P
  · exact List.cons_ne_nil _ _
  · intro P p _
    rw [run_app]
    exact List.cons_ne_nil _ _
theorem run_pos (P : List Int) : 0 < (run P).st.length := List.length_pos_iff.mpr (run_ne P)

/-! ### dropWhile at a place -/
theorem takeWhile_place : ∀ (l : List Int) (j : Nat) (p : Int), l.Pairwise (fun a b => b < a) → l[j]? = some p → (l.takeWhile (fun x => x != p)).length = j ∧ l.dropWhile (fun x => x != p) = l.drop j
  | [], j, p, _, h => by simp at h
  | a :: l, 0, p, _, h => by
    have e : a = p := by simpa using h
    subst e
    rw [List.takeWhile_cons, List.dropWhile_cons]
    simp
  | a :: l, j + 1, p, hp, h => by
    have h' : l[j]? = some p := by simpa using h
    have hm : p ∈ l := List.mem_of_getElem? h'
    have hlt : p < a := (List.pairwise_cons.mp hp).1 p hm
    have hne : (a != p) = true := by
      rw [bne_iff_ne]; omega
    obtain ⟨h1, h2⟩ := takeWhile_place l j p (List.pairwise_cons.mp hp).2 h'
    rw [List.takeWhile_cons, List.dropWhile_cons, if_pos hne, if_pos hne]
    exact ⟨by rw [List.length_cons, h1], h2⟩
theorem adv_place {s : Stt} (h : Fall s) {j : Nat} {p : Int} (hj : s.st[j]? = some p) : adv s p = ⟨s.k :: s.st.drop j, s.bs ++ List.replicate j false ++ [true], s.k + 1⟩ := by
  obtain ⟨h1, h2⟩ := takeWhile_place s.st j p h.pw hj
  unfold adv
  rw [h1, h2]
theorem mem_place {l : List Int} {p : Int} (h : p ∈ l) : ∃ j, j < l.length ∧ l[j]? = some p := by
  obtain ⟨j, hj, e⟩ := List.getElem_of_mem h
  exact ⟨j, hj, by rw [List.getElem?_eq_getElem hj, e]⟩
/-- where the parent stands, for a good list -/
theorem good_place {P : List Int} (h : Good P) {i : Nat} {p : Int} (hi : P[i]? = some p) : ∃ j, j < (run (P.take i)).st.length ∧ (run (P.take i)).st[j]? = some p ∧
    run (P.take (i + 1)) = ⟨((i + 1 : Nat) : Int) :: (run (P.take i)).st.drop j, (run (P.take i)).bs ++ List.replicate j false ++ [true], ((i + 1 : Nat) : Int) + 1⟩ := by
  obtain ⟨j, hj, e⟩ := mem_place (h i p hi)
  refine ⟨j, hj, e, ?_⟩
  have hl : (P.take i).length = i := by
    rw [List.length_take, Nat.min_eq_left (Nat.le_of_lt (List.getElem?_eq_some_iff.mp hi).1)]
  rw [run_more hi, adv_place (fall_run _) e, run_k, hl]
  rfl
/-- unlike places hold unlike numbers -/
theorem fall_inj {l : List Int} (h : l.Pairwise (fun a b => b < a)) {i j : Nat} {p q : Int} (hi : l[i]? = some p) (hj : l[j]? = some q) (hij : i < j) : q < p := by
  obtain ⟨h1, e1⟩ := List.getElem?_eq_some_iff.mp hi
  obtain ⟨h2, e2⟩ := List.getElem?_eq_some_iff.mp hj
  have z := (List.pairwise_iff_getElem.mp h) i j h1 h2 hij
  rw [e1, e2] at z
  exact z

/-! ### how many -/
theorem sum_adv (s : Stt) (p : Int) : (adv s p).bs.length + (adv s p).st.length = s.bs.length + s.st.length + 2 := by
  have h : (s.st.takeWhile (fun x => x != p)).length + (s.st.dropWhile (fun x => x != p)).length = s.st.length := by
    rw [← List.length_append, List.takeWhile_append_dropWhile]
  unfold adv
  simp only [List.length_append, List.length_replicate, List.length_cons, List.length_nil]
  omega
theorem sum_run (P : List Int) : (run P).bs.length + (run P).st.length = 2 * (P.length + 1) := by
  refine rev_ind (C := fun P => (run P).bs.length + (run P).st.length = 2 * (P.length + 1)) ?_ ?_ P
  · rfl
  · intro P p h
    rw [run_app, sum_adv, h, List.length_append, List.length_singleton]
    omega
theorem full_len (P : List Int) : (full P).length = 2 * (P.length + 1) := by
  unfold full
  rw [List.length_append, List.length_replicate, sum_run]
theorem st_le (P : List Int) : (run P).st.length ≤ 2 * (P.length + 1) := by have := sum_run P; omega
theorem bs_le (P : List Int) : (run P).bs.length ≤ 2 * (P.length + 1) := by have := sum_run P; omega

/-! ### reading bits: ps the parents so far (none: nought's), st the stack -/
def code (b : Bool) : Nat := if b then 49 else 48
def codes (bs : List Bool) : List Nat := bs.map code
def readGo : List (Option Int) → List Int → List Nat → Option (List (Option Int))
  | ps, st, [] => if st = [] then some ps else none
  | ps, st, c :: r =>
    if ps ≠ [] ∧ st = [] then none
    else if c = 49 then readGo (ps ++ [st.head?]) ((ps.length : Int) :: st) r
    else if c = 48 then (if st = [] then none else readGo ps st.tail r)
    else none
def readM (cs : List Nat) : Option (List (Option Int)) := if cs.length = 0 ∨ 4000 < cs.length then none else readGo [] [] cs
/-- the parents, nought's ahead -/
def par (P : List Int) : List (Option Int) := none :: P.map some
theorem par_len (P : List Int) : (par P).length = P.length + 1 := by unfold par; simp
theorem par_ne (P : List Int) : par P ≠ [] := List.cons_ne_nil _ _
theorem par_app (P : List Int) (p : Int) : par (P ++ [p]) = par P ++ [some p] := by unfold par; simp

theorem read_zeros (ps : List (Option Int)) (r : List Nat) : ∀ (j : Nat) (st : List Int), j ≤ st.length → readGo ps st (codes (List.replicate j false) ++ r) = readGo ps (st.drop j) r
  | 0, st, _ => rfl
  | j + 1, [], h => by simp at h
  | j + 1, a :: st, h => by
    have e : codes (List.replicate (j + 1) false) ++ r = 48 :: (codes (List.replicate j false) ++ r) := rfl
    rw [e]
    show (if ps ≠ [] ∧ a :: st = [] then none else if (48 : Nat) = 49 then _ else if (48 : Nat) = 48 then (if a :: st = [] then none else readGo ps (a :: st).tail (codes (List.replicate j false) ++ r)) else none) = _
    rw [if_neg (fun z => List.cons_ne_nil _ _ z.2), if_neg (by decide), if_pos rfl, if_neg (List.cons_ne_nil _ _)]
    exact read_zeros ps r j st (Nat.le_of_succ_le_succ h)
theorem read_one (ps : List (Option Int)) (st : List Int) (r : List Nat) (h : ¬ (ps ≠ [] ∧ st = [])) : readGo ps st (49 :: r) = readGo (ps ++ [st.head?]) ((ps.length : Int) :: st) r := by
  show (if ps ≠ [] ∧ st = [] then none else if (49 : Nat) = 49 then _ else _) = _
  rw [if_neg h, if_pos rfl]
theorem codes_app (a b : List Bool) : codes (a ++ b) = codes a ++ codes b := List.map_append
theorem codes_len (a : List Bool) : (codes a).length = a.length := List.length_map _
theorem read_run : ∀ (P : List Int), Good P → ∀ r, readGo [] [] (codes (run P).bs ++ r) = readGo (par P) (run P).st r := by
  intro P
  refine rev_ind (C := fun P => Good P → ∀ r, readGo [] [] (codes (run P).bs ++ r) = readGo (par P) (run P).st r) ?_ ?_ P
  · intro _ r
    show readGo [] [] (49 :: r) = _
    rw [read_one _ _ _ (fun z => z.1 rfl)]
    rfl
  · intro P p ih h r
    obtain ⟨j, hj, e⟩ := mem_place h.last
    have ih' := ih h.left
    have ea : run (P ++ [p]) = ⟨(run P).k :: (run P).st.drop j, (run P).bs ++ List.replicate j false ++ [true], (run P).k + 1⟩ := by rw [run_app, adv_place (fall_run _) e]
    rw [ea]
    show readGo [] [] (codes ((run P).bs ++ List.replicate j false ++ [true]) ++ r) = readGo (par (P ++ [p])) ((run P).k :: (run P).st.drop j) r
    rw [codes_app, codes_app, List.append_assoc, List.append_assoc, ih', read_zeros _ _ _ _ (Nat.le_of_lt hj)]
    have hne : (run P).st.drop j ≠ [] := by
      intro z
      have := List.drop_eq_nil_iff.mp z
      omega
    have hh : ((run P).st.drop j).head? = some p := by rw [List.head?_drop]; exact e
    show readGo (par P) ((run P).st.drop j) (49 :: r) = _
    rw [read_one _ _ _ (fun z => hne z.2), hh, par_app, par_len, run_k]
    rfl
theorem readM_full {P : List Int} (h : Good P) (hl : P.length < 2000) : readM (codes (full P)) = some (par P) := by
  unfold readM
  rw [codes_len, full_len, if_neg (by omega)]
  unfold full
  rw [codes_app, read_run P h, ← List.append_nil (codes (List.replicate (run P).st.length false)), read_zeros _ _ _ _ (Nat.le_refl _), List.drop_length]
  rfl
end KB

set_option linter.all false
set_option maxRecDepth 100000
/-! Bits, heights, the stack behind each bit. -/
namespace KB

/-! ### ones and heights -/
def ones (L : List Bool) (j : Nat) : Nat := (L.take j).count true
def ht (L : List Bool) (j : Nat) : Int := 2 * (ones L j : Int) - (min j L.length : Nat)
theorem ones_0 (L : List Bool) : ones L 0 = 0 := by simp [ones]
theorem take_succ' {α : Type} {L : List α} {j : Nat} {b : α} (h : L[j]? = some b) : L.take (j + 1) = L.take j ++ [b] := take_more h
theorem ones_succ {L : List Bool} {j : Nat} {b : Bool} (h : L[j]? = some b) : ones L (j + 1) = ones L j + (if b then 1 else 0) := by
  unfold ones
  rw [take_succ' h, List.count_append]
  cases b <;> simp
theorem ones_le (L : List Bool) (j : Nat) : ones L j ≤ j := by
  unfold ones
  have h1 := List.count_le_length (a := true) (l := L.take j)
  have h2 := List.length_take_le j L
  omega
theorem ones_mono (L : List Bool) {i j : Nat} (h : i ≤ j) : ones L i ≤ ones L j := by
  unfold ones
  have e : L.take j = L.take i ++ (L.take j).drop i := by
    have := List.take_append_drop i (L.take j)
    rw [List.take_take, Nat.min_eq_left h] at this
    exact this.symm
  rw [e, List.count_append]
  omega
theorem ht_0 (L : List Bool) : ht L 0 = 0 := by simp [ht, ones]
theorem ht_succ {L : List Bool} {j : Nat} {b : Bool} (h : L[j]? = some b) : ht L (j + 1) = ht L j + (if b then 1 else -1) := by
  have hj := (List.getElem?_eq_some_iff.mp h).1
  unfold ht
  rw [ones_succ h, Nat.min_eq_left (Nat.le_of_lt hj), Nat.min_eq_left hj]
  cases b <;> simp <;> omega

/-! ### the stack behind j bits: each knot is pushed at its 1, popped at its 0 -/
def skStep (s : List Int × Int) (b : Bool) : List Int × Int := if b then (s.2 :: s.1, s.2 + 1) else (s.1.tail, s.2)
def skAll (L : List Bool) : List Int × Int := L.foldl skStep ([], 0)
def sk (L : List Bool) (j : Nat) : List Int := (skAll (L.take j)).1
theorem skAll_app (L M : List Bool) : skAll (L ++ M) = M.foldl skStep (skAll L) := List.foldl_append
theorem skAll_2 (L : List Bool) : (skAll L).2 = (L.count true : Int) := by
  refine rev_ind (C := fun L : List Bool => (skAll L).2 = (L.count true : Int)) ?_ ?_ L
  · rfl
  · intro L b ih
    rw [skAll_app, List.count_append]
    show (skStep (skAll L) b).2 = _
    cases b
    · show (skAll L).2 = _
      rw [ih]; simp
    · show (skAll L).2 + 1 = _
      rw [ih]; simp
theorem sk_0 (L : List Bool) : sk L 0 = [] := rfl
theorem sk_one {L : List Bool} {j : Nat} (h : L[j]? = some true) : sk L (j + 1) = (ones L j : Int) :: sk L j := by
  unfold sk
  rw [take_succ' h, skAll_app]
  show (skAll (L.take j)).2 :: _ = _
  rw [skAll_2]
  rfl
theorem sk_zero {L : List Bool} {j : Nat} (h : L[j]? = some false) : sk L (j + 1) = (sk L j).tail := by
  unfold sk
  rw [take_succ' h, skAll_app]
  rfl

/-! ### a tree's bits -/
theorem zeros_fold (s : List Int × Int) : ∀ j : Nat, (List.replicate j false).foldl skStep s = (s.1.drop j, s.2)
  | 0 => rfl
  | j + 1 => by
    rw [List.replicate_succ, List.foldl_cons]
    show (List.replicate j false).foldl skStep (s.1.tail, s.2) = _
    rw [zeros_fold]
    show (s.1.tail.drop j, s.2) = _
    rw [List.drop_tail]
theorem skAll_run (P : List Int) : Good P → skAll (run P).bs = ((run P).st, (run P).k) := by
  refine rev_ind (C := fun P => Good P → skAll (run P).bs = ((run P).st, (run P).k)) ?_ ?_ P
  · intro _; rfl
  · intro P p ih hg
    obtain ⟨j, hj, e⟩ := mem_place hg.last
    rw [run_app, adv_place (fall_run _) e]
    show skAll ((run P).bs ++ List.replicate j false ++ [true]) = _
    rw [skAll_app, skAll_app, ih hg.left, zeros_fold]
    rfl
/-- how the bits begin -/
theorem full_take (P : List Int) (i : Nat) (hi : i ≤ P.length) : Good P → ∃ r, full P = (run (P.take i)).bs ++ r := by
  have h : ∀ (m : Nat), i + m ≤ P.length → Good P → ∃ r, (run (P.take (i + m))).bs = (run (P.take i)).bs ++ r := by
    intro m
    induction m with
    | zero => intro _ _; exact ⟨[], by simp⟩
    | succ m ih =>
      intro hm hg
      obtain ⟨r, hr⟩ := ih (by omega) hg
      obtain ⟨p, hp⟩ : ∃ p, P[i + m]? = some p := ⟨_, List.getElem?_eq_getElem (by omega)⟩
      obtain ⟨j, hj, e, er⟩ := good_place hg hp
      rw [← Nat.add_assoc, er]
      refine ⟨r ++ List.replicate j false ++ [true], ?_⟩
      show (run (P.take (i + m))).bs ++ _ ++ _ = _
      rw [hr]
      simp [List.append_assoc]
  intro hg
  obtain ⟨r, hr⟩ := h (P.length - i) (by omega) hg
  rw [Nat.add_sub_cancel' hi, List.take_length] at hr
  exact ⟨r ++ List.replicate (run P).st.length false, by unfold full; rw [hr, List.append_assoc]⟩
/-- the place of a knot -/
def pl (P : List Int) (k : Nat) : Nat := (run (P.take k)).bs.length - 1
theorem bs_last (P : List Int) : Good P → ∃ A, (run P).bs = A ++ [true] := by
  refine rev_ind (C := fun P => Good P → ∃ A, (run P).bs = A ++ [true]) ?_ ?_ P
  · intro _; exact ⟨[], rfl⟩
  · intro P p _ hg
    obtain ⟨j, hj, e⟩ := mem_place hg.last
    rw [run_app, adv_place (fall_run _) e]
    exact ⟨_, rfl⟩
section
variable {P : List Int} (hg : Good P) {k : Nat} (hk : k ≤ P.length)
include hg hk
theorem bs_pos : 1 ≤ (run (P.take k)).bs.length := by
  obtain ⟨A, h⟩ := bs_last _ (hg.take k)
  rw [h, List.length_append]
  exact Nat.le_add_left _ _
theorem pl_lt : pl P k < (full P).length := by
  obtain ⟨r, hr⟩ := full_take P k hk hg
  have := bs_pos hg hk
  rw [hr, List.length_append]
  unfold pl
  omega
theorem full_pl : (full P)[pl P k]? = some true := by
  obtain ⟨r, hr⟩ := full_take P k hk hg
  obtain ⟨A, h⟩ := bs_last _ (hg.take k)
  have e : pl P k = A.length := by unfold pl; rw [h, List.length_append]; rfl
  rw [hr, h, e, List.append_assoc, List.getElem?_append_right (Nat.le_refl _), Nat.sub_self]
  rfl
theorem take_pl1 : (full P).take (pl P k + 1) = (run (P.take k)).bs := by
  obtain ⟨r, hr⟩ := full_take P k hk hg
  have := bs_pos hg hk
  have e : pl P k + 1 = (run (P.take k)).bs.length := by unfold pl; omega
  rw [hr, e, List.take_left' rfl]
theorem sk_pl1 : sk (full P) (pl P k + 1) = (run (P.take k)).st := by
  unfold sk
  rw [take_pl1 hg hk, skAll_run _ (hg.take k)]
theorem ones_pl1 : ones (full P) (pl P k + 1) = k + 1 := by
  have h := skAll_2 ((full P).take (pl P k + 1))
  rw [take_pl1 hg hk, skAll_run _ (hg.take k)] at h
  have h2 : (run (P.take k)).k = (((run (P.take k)).bs.count true : Nat) : Int) := h
  rw [run_k, List.length_take, Nat.min_eq_left hk] at h2
  unfold ones
  rw [take_pl1 hg hk]
  omega
theorem ones_pl : ones (full P) (pl P k) = k := by
  have h := ones_succ (full_pl hg hk)
  rw [ones_pl1 hg hk] at h
  simp at h
  omega
end
theorem pl_0 (P : List Int) : pl P 0 = 0 := rfl
/-- the parent is what lies beneath the knot on the stack -/
theorem par_at {P : List Int} (hg : Good P) {k : Nat} (hk : k ≤ P.length) : (par P)[k]? = some ((sk (full P) (pl P k)).head?) := by
  have h1 := sk_one (full_pl hg hk)
  rw [sk_pl1 hg hk] at h1
  cases k with
  | zero => rfl
  | succ k =>
    obtain ⟨p, hp⟩ : ∃ p, P[k]? = some p := ⟨_, List.getElem?_eq_getElem (by omega)⟩
    obtain ⟨j, hj, e, er⟩ := good_place hg hp
    rw [er] at h1
    have h2 : (run (P.take k)).st.drop j = sk (full P) (pl P (k + 1)) := by
      have h3 : ((k + 1 : Nat) : Int) :: (run (P.take k)).st.drop j = _ := h1
      injection h3
    unfold par
    rw [List.getElem?_cons_succ, List.getElem?_map, hp, ← h2, List.head?_drop, e]
    rfl

theorem sk_left (A B : List Bool) {j : Nat} (h : j ≤ A.length) : sk (A ++ B) j = sk A j := by
  unfold sk; rw [List.take_append_of_le_length h]
theorem sk_right (A B : List Bool) (m : Nat) : sk (A ++ B) (A.length + m) = ((B.take m).foldl skStep (skAll A)).1 := by
  unfold sk
  rw [List.take_length_add_append, skAll_app]
/-- within the bits of a tree the stack is never empty -/
theorem alive_run (P : List Int) : Good P → ∀ j, 1 ≤ j → j ≤ (run P).bs.length → sk (run P).bs j ≠ [] := by
  refine rev_ind (C := fun P => Good P → ∀ j, 1 ≤ j → j ≤ (run P).bs.length → sk (run P).bs j ≠ []) ?_ ?_ P
  · intro _ j h1 h2
    have e : j = 1 := by
      have : (run []).bs.length = 1 := rfl
      omega
    subst e
    intro h; cases h
  · intro P p ih hg j h1 h2
    obtain ⟨j0, hj, e⟩ := mem_place hg.last
    have er : run (P ++ [p]) = ⟨(run P).k :: (run P).st.drop j0, (run P).bs ++ List.replicate j0 false ++ [true], (run P).k + 1⟩ := by rw [run_app, adv_place (fall_run _) e]
    rw [er] at h2 ⊢
    show sk ((run P).bs ++ List.replicate j0 false ++ [true]) j ≠ []
    have h2' : j ≤ (run P).bs.length + j0 + 1 := by
      have h3 : j ≤ ((run P).bs ++ List.replicate j0 false ++ [true]).length := h2
      rw [List.length_append, List.length_append, List.length_replicate] at h3
      exact h3
    by_cases c1 : j ≤ (run P).bs.length
    · rw [List.append_assoc, sk_left _ _ c1]
      exact ih hg.left j h1 c1
    · obtain ⟨m, rfl⟩ : ∃ m, j = (run P).bs.length + m := ⟨j - (run P).bs.length, by omega⟩
      rw [List.append_assoc, sk_right, skAll_run _ hg.left]
      by_cases c2 : m ≤ j0
      · rw [List.take_append_of_le_length (by rw [List.length_replicate]; exact c2), List.take_replicate, Nat.min_eq_left c2, zeros_fold]
        intro z
        have h9 : (run P).st.length ≤ m := List.drop_eq_nil_iff.mp z
        omega
      · have e2 : m = j0 + 1 := by omega
        subst e2
        have e3 : (List.replicate j0 false ++ [true]).take (j0 + 1) = List.replicate j0 false ++ [true] := List.take_of_length_le (by rw [List.length_append, List.length_replicate]; exact Nat.le_refl _)
        rw [e3, List.foldl_append, zeros_fold]
        intro z; cases z
theorem alive {P : List Int} (hg : Good P) {j : Nat} (h1 : 1 ≤ j) (h2 : j < (full P).length) : sk (full P) j ≠ [] := by
  unfold full at h2 ⊢
  by_cases c : j ≤ (run P).bs.length
  · rw [sk_left _ _ c]
    exact alive_run P hg j h1 c
  · obtain ⟨m, rfl⟩ : ∃ m, j = (run P).bs.length + m := ⟨j - (run P).bs.length, by omega⟩
    rw [List.length_append, List.length_replicate] at h2
    rw [sk_right, skAll_run _ hg, List.take_replicate, Nat.min_eq_left (by omega), zeros_fold]
    intro z
    have h9 : (run P).st.length ≤ m := List.drop_eq_nil_iff.mp z
    omega
theorem sk_end {P : List Int} (hg : Good P) : sk (full P) (full P).length = [] := by
  unfold full
  rw [List.length_append, sk_right, skAll_run _ hg, List.length_replicate, List.take_replicate, Nat.min_self, zeros_fold]
  exact List.drop_length
theorem first_one {P : List Int} (hg : Good P) : (full P)[0]? = some true := full_pl hg (Nat.zero_le _)
/-- heights are the stack's lengths -/
theorem ht_sk {P : List Int} (hg : Good P) : ∀ j, j ≤ (full P).length → ht (full P) j = ((sk (full P) j).length : Int)
  | 0, _ => by rw [ht_0]; rfl
  | j + 1, h => by
    have ih := ht_sk hg j (by omega)
    obtain ⟨b, hb⟩ : ∃ b, (full P)[j]? = some b := ⟨_, List.getElem?_eq_getElem (by omega)⟩
    rw [ht_succ hb, ih]
    cases b with
    | true => rw [sk_one hb, List.length_cons]; simp
    | false =>
      rw [sk_zero hb, List.length_tail]
      cases j with
      | zero =>
        rw [first_one hg] at hb
        cases hb
      | succ j =>
        have := List.length_pos_iff.mpr (alive hg (j := j + 1) (by omega) (by omega))
        simp only [Bool.false_eq_true, if_false]
        omega
theorem ht_ge {P : List Int} (hg : Good P) {j : Nat} (h : j ≤ (full P).length) : 0 ≤ ht (full P) j := by rw [ht_sk hg j h]; omega
theorem ht_pos {P : List Int} (hg : Good P) {j : Nat} (h1 : 1 ≤ j) (h2 : j < (full P).length) : 1 ≤ ht (full P) j := by
  rw [ht_sk hg j (Nat.le_of_lt h2)]
  have := List.length_pos_iff.mpr (alive hg h1 h2)
  omega
theorem ht_end {P : List Int} (hg : Good P) : ht (full P) (full P).length = 0 := by rw [ht_sk hg _ (Nat.le_refl _), sk_end hg]; rfl
/-- while the height does not fall below h, the h lowest of the stack stay -/
theorem low_stay {P : List Int} (hg : Good P) {h : Nat} {i : Nat} : ∀ (m : Nat), i + m ≤ (full P).length → (∀ l, i ≤ l → l ≤ i + m → h ≤ (sk (full P) l).length) →
    (sk (full P) (i + m)).drop ((sk (full P) (i + m)).length - h) = (sk (full P) i).drop ((sk (full P) i).length - h)
  | 0, _, _ => rfl
  | m + 1, hm, hl => by
    have ih := low_stay hg (h := h) (i := i) m (by omega) (fun l h1 h2 => hl l h1 (by omega))
    rw [← ih]
    have h1 := hl (i + (m + 1)) (by omega) (Nat.le_refl _)
    have h0 := hl (i + m) (by omega) (by omega)
    obtain ⟨b, hb⟩ : ∃ b, (full P)[i + m]? = some b := ⟨_, List.getElem?_eq_getElem (by omega)⟩
    rw [← Nat.add_assoc] at h1 ⊢
    cases b with
    | true =>
      rw [sk_one hb, List.length_cons, show (sk (full P) (i + m)).length + 1 - h = ((sk (full P) (i + m)).length - h) + 1 by omega]
      rfl
    | false =>
      rw [sk_zero hb] at h1 ⊢
      rw [List.length_tail] at h1 ⊢
      cases e : sk (full P) (i + m) with
      | nil => rw [e] at h1 h0; rfl
      | cons a r =>
        rw [e] at h1
        have h2 : h ≤ r.length := h1
        show r.drop (r.length + 1 - 1 - h) = (a :: r).drop (r.length + 1 - h)
        rw [show r.length + 1 - h = (r.length - h) + 1 by omega]
        rfl
/-! ### the elders of the last knot are the stack -/
theorem st_head (P : List Int) : (run P).st.head? = some (P.length : Int) := by
  refine rev_ind (C := fun P => (run P).st.head? = some (P.length : Int)) ?_ ?_ P
  · rfl
  · intro P p _
    rw [run_app]
    show some (run P).k = _
    rw [run_k, List.length_append]
    rfl
theorem chain (P : List Int) : Good P → ∀ j q, (run P).st[j]? = some q → (par P)[q.toNat]? = some ((run P).st[j + 1]?) := by
  refine rev_ind (C := fun P => Good P → ∀ j q, (run P).st[j]? = some q → (par P)[q.toNat]? = some ((run P).st[j + 1]?)) ?_ ?_ P
  · intro _ j q h
    cases j with
    | zero =>
      have e : (0 : Int) = q := Option.some.inj h
      subst e
      rfl
    | succ j => cases h
  · intro P p ih hg j q h
    obtain ⟨j0, hj, e⟩ := mem_place hg.last
    have er : run (P ++ [p]) = ⟨(run P).k :: (run P).st.drop j0, (run P).bs ++ List.replicate j0 false ++ [true], (run P).k + 1⟩ := by rw [run_app, adv_place (fall_run _) e]
    rw [er] at h ⊢
    have hf := fall_run P
    rw [par_app]
    cases j with
    | zero =>
      have e2 : (run P).k = q := Option.some.inj h
      rw [run_k] at e2
      have e3 : q.toNat = (par P).length := by rw [par_len]; omega
      rw [e3, List.getElem?_append_right (Nat.le_refl _), Nat.sub_self]
      show some (some p) = some (((run P).st.drop j0)[0]?)
      rw [List.getElem?_drop, Nat.add_zero, e]
    | succ j =>
      have h' : ((run P).st.drop j0)[j]? = some q := h
      rw [List.getElem?_drop] at h'
      have hm := List.mem_of_getElem? h'
      have h1 := hf.lt q hm
      have h2 := hf.ge q hm
      rw [run_k] at h1
      rw [List.getElem?_append_left (by rw [par_len]; omega), ih hg.left _ _ h']
      show some ((run P).st[j0 + j + 1]?) = some (((run P).st.drop j0)[j + 1]?)
      rw [List.getElem?_drop]
      rfl
theorem zero_mem (P : List Int) : Good P → (0 : Int) ∈ (run P).st := by
  refine rev_ind (C := fun P => Good P → (0 : Int) ∈ (run P).st) ?_ ?_ P
  · intro _
    exact List.mem_cons_self
  · intro P p ih hg
    obtain ⟨j0, hj, e⟩ := mem_place hg.last
    have er : run (P ++ [p]) = ⟨(run P).k :: (run P).st.drop j0, (run P).bs ++ List.replicate j0 false ++ [true], (run P).k + 1⟩ := by rw [run_app, adv_place (fall_run _) e]
    rw [er]
    refine List.mem_cons_of_mem _ ?_
    obtain ⟨i, hi, e0⟩ := mem_place (ih hg.left)
    by_cases h : j0 ≤ i
    · have : ((run P).st.drop j0)[i - j0]? = some 0 := by rw [List.getElem?_drop, Nat.add_sub_cancel' h]; exact e0
      exact List.mem_of_getElem? this
    · have z := fall_inj (fall_run P).pw e0 e (by omega)
      have := (fall_run P).ge p (List.mem_of_getElem? e)
      omega

/-- the elders of knot k, itself ahead -/
def line (P : List Int) (k : Nat) : List Int := (run (P.take k)).st
theorem line_len_pos (P : List Int) (k : Nat) : 0 < (line P k).length := run_pos _
theorem line_head {P : List Int} {k : Nat} (hk : k ≤ P.length) : (line P k)[0]? = some (k : Int) := by
  have h := st_head (P.take k)
  rw [List.length_take, Nat.min_eq_left hk, List.head?_eq_getElem?] at h
  exact h
theorem par_take (P : List Int) {k q : Nat} (h : q ≤ k) : (par (P.take k))[q]? = (par P)[q]? := by
  unfold par
  cases q with
  | zero => rfl
  | succ q =>
    rw [List.getElem?_cons_succ, List.getElem?_cons_succ, List.getElem?_map, List.getElem?_map, List.getElem?_take_of_lt (by omega)]
theorem line_next {P : List Int} (hg : Good P) {k : Nat} (hk : k ≤ P.length) {j : Nat} {q : Int} (h : (line P k)[j]? = some q) : 0 ≤ q ∧ q ≤ (k : Int) ∧ (par P)[q.toNat]? = some ((line P k)[j + 1]?) := by
  have hm := List.mem_of_getElem? h
  have h1 := (fall_run (P.take k)).lt q hm
  have h2 := (fall_run (P.take k)).ge q hm
  rw [run_k, List.length_take, Nat.min_eq_left hk] at h1
  have hc := chain (P.take k) (hg.take k) j q h
  rw [par_take P (by omega)] at hc
  exact ⟨h2, by omega, hc⟩
/-- the depth of a knot -/
def dep (P : List Int) (k : Nat) : Nat := (line P k).length - 1
theorem dep_ht {P : List Int} (hg : Good P) {k : Nat} (hk : k ≤ P.length) : ht (full P) (pl P k) = (dep P k : Int) := by
  have h1 := ht_sk hg (pl P k) (Nat.le_of_lt (pl_lt hg hk))
  have h2 := sk_one (full_pl hg hk)
  rw [sk_pl1 hg hk] at h2
  have h3 := congrArg List.length h2
  rw [List.length_cons] at h3
  have h4 := line_len_pos P k
  unfold dep
  have h5 : (line P k).length = (run (P.take k)).st.length := rfl
  omega
/-! ### the places of the ones -/
def plcs (L : List Bool) (i : Nat) : List Nat := (List.range i).filter fun j => decide (L[j]? = some true)
theorem plcs_len (L : List Bool) : ∀ i, i ≤ L.length → (plcs L i).length = ones L i
  | 0, _ => by simp [plcs, ones]
  | i + 1, h => by
    have ih := plcs_len L i (by omega)
    obtain ⟨b, hb⟩ : ∃ b, L[i]? = some b := ⟨_, List.getElem?_eq_getElem (by omega)⟩
    unfold plcs at ih ⊢
    rw [List.range_succ, List.filter_append, List.length_append, ih, ones_succ hb]
    cases b <;> simp [hb]
theorem plcs_succ {L : List Bool} {i : Nat} {b : Bool} (h : L[i]? = some b) : plcs L (i + 1) = plcs L i ++ (if b then [i] else []) := by
  unfold plcs
  rw [List.range_succ, List.filter_append]
  cases b <;> simp [h]
theorem plcs_at {L : List Bool} {j i : Nat} (hj : L[j]? = some true) (hi : j < i) (hl : i ≤ L.length) : (plcs L i)[ones L j]? = some j := by
  have e : ∃ r, plcs L i = plcs L (j + 1) ++ r := by
    have h : ∀ m, ∃ r, plcs L (j + 1 + m) = plcs L (j + 1) ++ r := by
      intro m
      induction m with
      | zero => exact ⟨[], by simp⟩
      | succ m ih =>
        obtain ⟨r, hr⟩ := ih
        refine ⟨r ++ (if decide (L[j + 1 + m]? = some true) = true then [j + 1 + m] else []), ?_⟩
        rw [← Nat.add_assoc]
        unfold plcs at hr ⊢
        rw [List.range_succ, List.filter_append, hr, List.append_assoc]
        congr 2
        rw [List.filter_cons]
        rfl
    obtain ⟨r, hr⟩ := h (i - (j + 1))
    rw [show j + 1 + (i - (j + 1)) = i by omega] at hr
    exact ⟨r, hr⟩
  obtain ⟨r, hr⟩ := e
  have h2 := plcs_succ hj
  have h3 := plcs_len L j (by omega)
  rw [hr, h2, List.append_assoc, List.getElem?_append_right (by omega), h3, Nat.sub_self]
  rfl
theorem plcs_pl {P : List Int} (hg : Good P) {k : Nat} (hk : k ≤ P.length) : (plcs (full P) (full P).length)[k]? = some (pl P k) := by
  have h := plcs_at (full_pl hg hk) (pl_lt hg hk) (Nat.le_refl _)
  rw [ones_pl hg hk] at h
  exact h
/-! ### which knot's place or end -/
def kat (L : List Bool) (j : Nat) : Int := if L[j]? = some true then (ones L j : Int) else ((sk L j).head?.getD 0)

theorem sk_bs {P : List Int} (hg : Good P) {i : Nat} (hi : i ≤ P.length) : sk (full P) (run (P.take i)).bs.length = (run (P.take i)).st := by
  obtain ⟨r, hr⟩ := full_take P i hi hg
  rw [hr, sk_left _ _ (Nat.le_refl _)]
  unfold sk
  rw [List.take_length, skAll_run _ (hg.take i)]

/-! ### lines of elders -/
theorem line_at {P : List Int} (hg : Good P) {k j q : Nat} (hk : k ≤ P.length) (h : (line P k)[j]? = some (q : Int)) : ∀ m, (line P k)[j + m]? = (line P q)[m]? := by
  obtain ⟨_, hq, _⟩ := line_next hg hk h
  have hqP : q ≤ P.length := by omega
  intro m
  induction m with
  | zero => rw [Nat.add_zero, h, line_head hqP]
  | succ m ih =>
    cases e : (line P q)[m]? with
    | none =>
      rw [e] at ih
      have h1 := List.getElem?_eq_none_iff.mp ih
      have h2 := List.getElem?_eq_none_iff.mp e
      rw [List.getElem?_eq_none (by omega), List.getElem?_eq_none (by omega)]
    | some v =>
      rw [e] at ih
      obtain ⟨_, _, h1⟩ := line_next hg hk ih
      obtain ⟨_, _, h2⟩ := line_next hg hqP e
      rw [h1] at h2
      rw [← Nat.add_assoc]
      exact Option.some.inj h2
theorem line_drop {P : List Int} (hg : Good P) {k j q : Nat} (hk : k ≤ P.length) (h : (line P k)[j]? = some (q : Int)) : (line P k).drop j = line P q := by
  apply List.ext_getElem?
  intro m
  rw [List.getElem?_drop]
  exact line_at hg hk h m
/-- a knot's line: itself, then its parent's -/
theorem line_succ {P : List Int} (hg : Good P) {k p : Nat} (hk : k ≤ P.length) (h : (par P)[k]? = some (some (p : Int))) : line P k = (k : Int) :: line P p := by
  obtain ⟨_, _, h1⟩ := line_next hg hk (line_head hk)
  rw [Int.toNat_natCast, h] at h1
  have h2 : (line P k)[1]? = some (p : Int) := (Option.some.inj h1).symm
  have h3 := line_drop hg hk h2
  have h4 := line_head hk
  cases e : line P k with
  | nil => rw [e] at h4; cases h4
  | cons a r =>
    rw [e] at h3 h4
    have h5 : a = (k : Int) := by simpa using h4
    rw [h5, ← h3]
    rfl
theorem line_zero (P : List Int) : line P 0 = [0] := by unfold line; rw [List.take_zero]; rfl
/-- parents are numbers below -/
theorem par_lt {P : List Int} (hg : Good P) {k : Nat} (h1 : 1 ≤ k) (hk : k ≤ P.length) : ∃ p : Nat, p < k ∧ (par P)[k]? = some (some (p : Int)) := by
  obtain ⟨i, rfl⟩ : ∃ i, k = i + 1 := ⟨k - 1, by omega⟩
  obtain ⟨p, hp⟩ : ∃ p, P[i]? = some p := ⟨_, List.getElem?_eq_getElem (by omega)⟩
  have hm := hg i p hp
  have a1 := (fall_run (P.take i)).lt p hm
  have a2 := (fall_run (P.take i)).ge p hm
  rw [run_k, List.length_take, Nat.min_eq_left (by omega)] at a1
  refine ⟨p.toNat, by omega, ?_⟩
  unfold par
  rw [List.getElem?_cons_succ, List.getElem?_map, hp, Int.toNat_of_nonneg a2]
  rfl
theorem par_0 (P : List Int) : (par P)[0]? = some none := rfl
theorem line_le {P : List Int} {k : Nat} (hk : k ≤ P.length) {q : Int} (h : q ∈ line P k) : 0 ≤ q ∧ q ≤ (k : Int) := by
  have h1 := (fall_run (P.take k)).lt q h
  have h2 := (fall_run (P.take k)).ge q h
  rw [run_k, List.length_take, Nat.min_eq_left hk] at h1
  exact ⟨h2, by omega⟩
theorem line_self {P : List Int} {k : Nat} (hk : k ≤ P.length) : (k : Int) ∈ line P k := List.mem_of_getElem? (line_head hk)
/-- how many are beneath -/
def benL (P : List Int) (k i : Nat) : List Nat := (List.range i).filter fun j => decide ((k : Int) ∈ line P j)
def ben (P : List Int) (k : Nat) : Nat := (benL P k (P.length + 1)).length - 1
theorem benL_succ (P : List Int) (k i : Nat) : benL P k (i + 1) = benL P k i ++ (if (k : Int) ∈ line P i then [i] else []) := by
  unfold benL
  rw [List.range_succ, List.filter_append]
  by_cases h : (k : Int) ∈ line P i <;> simp [h]
theorem benL_low {P : List Int} {k : Nat} : ∀ i, i ≤ k → i ≤ P.length + 1 → benL P k i = []
  | 0, _, _ => rfl
  | i + 1, h, h2 => by
    rw [benL_succ, benL_low i (by omega) (by omega), if_neg (fun z => by have := line_le (show i ≤ P.length by omega) z; omega)]
    rfl
theorem benL_self {P : List Int} {k : Nat} (hk : k ≤ P.length) : benL P k (k + 1) = [k] := by
  rw [benL_succ, benL_low k (Nat.le_refl _) (by omega), if_pos (line_self hk)]
  rfl
theorem mem_benL {P : List Int} {k i j : Nat} : j ∈ benL P k i ↔ j < i ∧ (k : Int) ∈ line P j := by
  unfold benL
  rw [List.mem_filter, List.mem_range, decide_eq_true_eq]
/-- the next child of the parent -/
def bes (P : List Int) (k : Nat) : Option Nat := (List.range (P.length + 1)).find? fun j => decide (k < j) && decide ((par P)[j]? = (par P)[k]?)
/-- the children -/
def kidL (P : List Int) (k i : Nat) : List Nat := (List.range i).filter fun j => decide ((par P)[j]? = some (some (k : Int)))
/-- the deepest in common -/
def eld (P : List Int) (a b : Nat) : Int := ((line P a).find? fun q => decide (q ∈ line P b)).getD 0
theorem zero_line {P : List Int} (hg : Good P) (k : Nat) : (0 : Int) ∈ line P k := zero_mem _ (hg.take k)
theorem eld_some {P : List Int} (hg : Good P) (a b : Nat) : (line P a).find? (fun q => decide (q ∈ line P b)) = some (eld P a b) := by
  unfold eld
  cases e : (line P a).find? (fun q => decide (q ∈ line P b)) with
  | some v => rfl
  | none =>
    have := List.find?_eq_none.mp e 0 (zero_line hg a)
    exact absurd (decide_eq_true (zero_line hg b)) this
end KB

set_option linter.all false
set_option maxRecDepth 100000
/-! Where knots end, what stands on the stack. -/
namespace KB
/-- the stack is what stood ahead, or what came since -/
theorem sk_since {L : List Bool} {i : Nat} : ∀ (m : Nat), i + m ≤ L.length → ∀ q ∈ sk L (i + m), q ∈ sk L i ∨ (ones L i : Int) ≤ q
  | 0, _, q, h => .inl h
  | m + 1, hm, q, h => by
    have ih := sk_since (L := L) (i := i) m (by omega)
    obtain ⟨b, hb⟩ : ∃ b, L[i + m]? = some b := ⟨_, List.getElem?_eq_getElem (by omega)⟩
    rw [← Nat.add_assoc] at h
    cases b with
    | true =>
      rw [sk_one hb] at h
      rcases List.mem_cons.mp h with h | h
      · have := ones_mono L (show i ≤ i + m by omega)
        right; omega
      · exact ih q h
    | false =>
      rw [sk_zero hb] at h
      exact ih q (List.mem_of_mem_tail h)
theorem sk_below {L : List Bool} : ∀ j, j ≤ L.length → ∀ q ∈ sk L j, 0 ≤ q ∧ q < (ones L j : Int)
  | 0, _, q, h => by rw [sk_0] at h; cases h
  | j + 1, hj, q, h => by
    have ih := sk_below (L := L) j (by omega)
    obtain ⟨b, hb⟩ : ∃ b, L[j]? = some b := ⟨_, List.getElem?_eq_getElem (by omega)⟩
    have ho := ones_succ hb
    cases b with
    | true =>
      rw [sk_one hb] at h
      simp only [if_true] at ho
      rcases List.mem_cons.mp h with h | h
      · omega
      · have := ih q h
        omega
    | false =>
      rw [sk_zero hb] at h
      simp only [Bool.false_eq_true, if_false] at ho
      have := ih q (List.mem_of_mem_tail h)
      omega
/-- the stack falls -/
theorem sk_falls {L : List Bool} : ∀ j, j ≤ L.length → (sk L j).Pairwise (fun a b => b < a)
  | 0, _ => by rw [sk_0]; exact List.Pairwise.nil
  | j + 1, hj => by
    have ih := sk_falls (L := L) j (by omega)
    obtain ⟨b, hb⟩ : ∃ b, L[j]? = some b := ⟨_, List.getElem?_eq_getElem (by omega)⟩
    cases b with
    | true =>
      rw [sk_one hb]
      exact List.Pairwise.cons (fun q hq => (sk_below j (by omega) q hq).2) ih
    | false =>
      rw [sk_zero hb]
      exact ih.tail
section
variable {P : List Int} (hg : Good P)
include hg
/-- what the stack holds at height m: what came where the height was last m -/
theorem stack_low {b i : Nat} (hbi : b < i) (hi : i ≤ (full P).length) (hl : ∀ l, b < l → l ≤ i → ht (full P) b + 1 ≤ ht (full P) l) :
    (full P)[b]? = some true ∧ (sk (full P) i).drop ((sk (full P) i).length - ((sk (full P) b).length + 1)) = (ones (full P) b : Int) :: sk (full P) b := by
  obtain ⟨x, hx⟩ : ∃ x, (full P)[b]? = some x := ⟨_, List.getElem?_eq_getElem (by omega)⟩
  have h1 := hl (b + 1) (by omega) (by omega)
  rw [ht_succ hx] at h1
  have hxt : x = true := by
    cases x with
    | true => rfl
    | false => simp only [Bool.false_eq_true, if_false] at h1; omega
  subst hxt
  refine ⟨hx, ?_⟩
  have hb := ht_sk hg b (by omega)
  have h := low_stay hg (h := (sk (full P) b).length + 1) (i := b + 1) (i - (b + 1)) (by omega) (fun l h1 h2 => by
    have h3 := hl l (by omega) (by omega)
    have h4 := ht_sk hg l (by omega)
    omega)
  rw [show b + 1 + (i - (b + 1)) = i by omega] at h
  rw [h, sk_one hx, List.length_cons, Nat.sub_self, List.drop_zero]
/-- the top of the stack -/
theorem stack_top {b i : Nat} (hbi : b < i) (hi : i ≤ (full P).length) (hh : ht (full P) i = ht (full P) b + 1) (hl : ∀ l, b < l → l ≤ i → ht (full P) b + 1 ≤ ht (full P) l) :
    (full P)[b]? = some true ∧ sk (full P) i = (ones (full P) b : Int) :: sk (full P) b := by
  obtain ⟨h1, h2⟩ := stack_low hg hbi hi hl
  have h3 := ht_sk hg i hi
  have h4 := ht_sk hg b (by omega)
  rw [show (sk (full P) i).length - ((sk (full P) b).length + 1) = 0 by omega, List.drop_zero] at h2
  exact ⟨h1, h2⟩
/-- going down by ones, each height is met -/
theorem meets {a c : Nat} {h : Int} : ∀ m, a + m = c → c ≤ (full P).length → h + 1 ≤ ht (full P) a → ht (full P) c ≤ h → ∃ j, a ≤ j ∧ j < c ∧ ht (full P) (j + 1) = h ∧ ∀ i, a ≤ i → i ≤ j → h + 1 ≤ ht (full P) i
  | 0, e, _, h1, h2 => by
    have : a = c := by omega
    subst this
    omega
  | m + 1, e, hc, h1, h2 => by
    obtain ⟨x, hx⟩ : ∃ x, (full P)[a]? = some x := ⟨_, List.getElem?_eq_getElem (by omega)⟩
    have hs := ht_succ hx
    by_cases hlt : h + 1 ≤ ht (full P) (a + 1)
    · obtain ⟨j, g1, g2, g3, g4⟩ := meets (a := a + 1) (c := c) (h := h) m (by omega) hc hlt h2
      refine ⟨j, by omega, g2, g3, fun i i1 i2 => ?_⟩
      by_cases e2 : i = a
      · rw [e2]; exact h1
      · exact g4 i (by omega) i2
    · have hx2 : ht (full P) a - 1 ≤ ht (full P) (a + 1) := by
        rw [hs]
        cases x <;> simp <;> omega
      exact ⟨a, Nat.le_refl _, by omega, by omega, fun i i1 i2 => by
        have : i = a := by omega
        rw [this]; exact h1⟩
/-- where a knot ends -/
theorem ends {k : Nat} (hk : k ≤ P.length) : ∃ e, pl P k < e ∧ e < (full P).length ∧ ht (full P) (e + 1) = ht (full P) (pl P k) ∧ ∀ i, pl P k < i → i ≤ e → ht (full P) (pl P k) + 1 ≤ ht (full P) i := by
  have hlt := pl_lt hg hk
  have h1 := ht_succ (full_pl hg hk)
  simp only [if_true] at h1
  have h0 := ht_ge hg (Nat.le_of_lt hlt)
  obtain ⟨j, g1, g2, g3, g4⟩ := meets hg (a := pl P k + 1) (c := (full P).length) (h := ht (full P) (pl P k)) ((full P).length - (pl P k + 1)) (by omega) (Nat.le_refl _) (by omega) (by rw [ht_end hg]; exact h0)
  exact ⟨j, by omega, g2, g3, fun i i1 i2 => g4 i (by omega) i2⟩
/-- an end is one only -/
theorem ends_one {a e e' : Nat} (h1 : a < e) (h2 : ht (full P) (e + 1) = ht (full P) a) (h3 : ∀ i, a < i → i ≤ e → ht (full P) a + 1 ≤ ht (full P) i)
    (h1' : a < e') (h2' : ht (full P) (e' + 1) = ht (full P) a) (h3' : ∀ i, a < i → i ≤ e' → ht (full P) a + 1 ≤ ht (full P) i) : e = e' := by
  rcases Nat.lt_trichotomy e e' with c | c | c
  · have := h3' (e + 1) (by omega) (by omega); omega
  · exact c
  · have := h3 (e' + 1) (by omega) (by omega); omega
theorem end_zero {a e : Nat} (he : e < (full P).length) (h1 : a < e) (h2 : ht (full P) (e + 1) = ht (full P) a) (h3 : ∀ i, a < i → i ≤ e → ht (full P) a + 1 ≤ ht (full P) i) : (full P)[e]? = some false ∧ ht (full P) e = ht (full P) a + 1 := by
  obtain ⟨x, hx⟩ : ∃ x, (full P)[e]? = some x := ⟨_, List.getElem?_eq_getElem he⟩
  have hs := ht_succ hx
  have h4 := h3 e h1 (Nat.le_refl _)
  cases x with
  | true => simp only [if_true] at hs; omega
  | false => simp only [Bool.false_eq_true, if_false] at hs; exact ⟨hx, by omega⟩
/-- within a knot's bits it stands on the stack, behind its end it does not -/
theorem in_line {k e : Nat} (hk : k ≤ P.length) (he : e < (full P).length) (h1 : pl P k < e) (h2 : ht (full P) (e + 1) = ht (full P) (pl P k)) (h3 : ∀ i, pl P k < i → i ≤ e → ht (full P) (pl P k) + 1 ≤ ht (full P) i) {i : Nat} (hi : i ≤ (full P).length) :
    (k : Int) ∈ sk (full P) i ↔ pl P k < i ∧ i ≤ e := by
  have ho := ones_pl hg hk
  constructor
  · intro hm
    by_cases c : i ≤ pl P k
    · have := (sk_below i hi _ hm).2
      have := ones_mono (full P) c
      omega
    · refine ⟨by omega, Nat.le_of_not_lt fun c2 => ?_⟩
      obtain ⟨z1, z2⟩ := end_zero hg he h1 h2 h3
      obtain ⟨t1, t2⟩ := stack_top hg h1 (Nat.le_of_lt he) (by omega) h3
      have hz := sk_zero z1
      rw [t2, List.tail_cons] at hz
      rcases sk_since (L := full P) (i := e + 1) (i - (e + 1)) (by omega) (k : Int) (by rw [show e + 1 + (i - (e + 1)) = i by omega]; exact hm) with q | q
      · rw [hz] at q
        have := (sk_below _ (Nat.le_of_lt (pl_lt hg hk)) _ q).2
        omega
      · have := ones_mono (full P) (show pl P k + 1 ≤ e + 1 by omega)
        rw [ones_pl1 hg hk] at this
        omega
  · rintro ⟨c1, c2⟩
    obtain ⟨_, t⟩ := stack_low hg c1 hi (fun l l1 l2 => h3 l l1 (by omega))
    have : (k : Int) ∈ (sk (full P) i).drop ((sk (full P) i).length - ((sk (full P) (pl P k)).length + 1)) := by
      rw [t, ho]
      exact List.mem_cons_self
    exact List.mem_of_mem_drop this
theorem line_sk {k : Nat} (hk : k ≤ P.length) : line P k = sk (full P) (pl P k + 1) := (sk_pl1 hg hk).symm
/-- places rise with the numbers -/
theorem pl_lt_iff {j : Nat} (hj : j ≤ P.length) {i : Nat} : pl P j < i ↔ j < ones (full P) i := by
  constructor
  · intro h
    have := ones_mono (full P) (show pl P j + 1 ≤ i by omega)
    rw [ones_pl1 hg hj] at this
    omega
  · intro h
    apply Nat.lt_of_not_le
    intro h2
    have := ones_mono (full P) h2
    rw [ones_pl hg hj] at this
    omega
/-- the deepest in common stands on the stack where the height is least between -/
theorem eld_at {k l i : Nat} (hk : k ≤ P.length) (hl : l ≤ P.length) (h1 : pl P k < i) (h2 : i ≤ pl P l + 1) (hm : ∀ j, pl P k < j → j ≤ pl P l + 1 → ht (full P) i ≤ ht (full P) j) : (sk (full P) i).head? = some (eld P k l) := by
  have hll := pl_lt hg hl
  have hkl := pl_lt hg hk
  have hi : i ≤ (full P).length := by omega
  have hlen : ∀ j, pl P k < j → j ≤ pl P l + 1 → (sk (full P) i).length ≤ (sk (full P) j).length := fun j j1 j2 => by
    have a1 := hm j j1 j2
    have a2 := ht_sk hg i hi
    have a3 := ht_sk hg j (by omega)
    omega
  have hne : sk (full P) i ≠ [] := by
    by_cases c : i < (full P).length
    · exact alive hg (by omega) c
    · have e : i = (full P).length := by omega
      have hpp := hlen (pl P k + 1) (by omega) (by omega)
      have : ht (full P) i ≤ ht (full P) (pl P k + 1) := hm _ (by omega) (by omega)
      intro z
      -- the place of l is i - 1, a one: the stack behind it is not empty
      have hpl : pl P l + 1 = i := by omega
      rw [← hpl, sk_one (full_pl hg hl)] at z
      cases z
  cases e : sk (full P) i with
  | nil => exact absurd e hne
  | cons q r =>
    have up : ∀ j, pl P k < j → j ≤ pl P l + 1 → ∀ y ∈ sk (full P) i, y ∈ sk (full P) j := by
      intro j j1 j2 y hy
      by_cases c : i ≤ j
      · have z := low_stay hg (h := (sk (full P) i).length) (i := i) (j - i) (by omega) (fun l' l1 l2 => hlen l' (by omega) (by omega))
        rw [show i + (j - i) = j by omega, Nat.sub_self, List.drop_zero] at z
        rw [← z] at hy
        exact List.mem_of_mem_drop hy
      · have z := low_stay hg (h := (sk (full P) i).length) (i := j) (i - j) (by omega) (fun l' l1 l2 => hlen l' (by omega) (by omega))
        rw [show j + (i - j) = i by omega, Nat.sub_self, List.drop_zero] at z
        rw [z] at hy
        exact List.mem_of_mem_drop hy
    have hq : q ∈ sk (full P) i := by rw [e]; exact List.mem_cons_self
    have q1 : q ∈ line P k := by rw [line_sk hg hk]; exact up _ (by omega) (by omega) q hq
    have q2 : q ∈ line P l := by rw [line_sk hg hl]; exact up _ (by omega) (by omega) q hq
    rw [List.head?_cons]
    congr 1
    have hs := eld_some hg k l
    have m1 : eld P k l ∈ line P k := List.mem_of_find?_eq_some hs
    have m2 : eld P k l ∈ line P l := by have := List.find?_some hs; exact of_decide_eq_true this
    -- the common one is on the stack at i
    have m3 : eld P k l ∈ sk (full P) i := by
      rw [line_sk hg hl] at m2
      rcases sk_since (L := full P) (i := i) (pl P l + 1 - i) (by omega) _ (by rw [show i + (pl P l + 1 - i) = pl P l + 1 by omega]; exact m2) with z | z
      · exact z
      · have a1 := (line_le hk m1).2
        have a2 := (pl_lt_iff hg hk).mp h1
        omega
    have a1 : eld P k l ≤ q := by
      have hf := sk_falls (L := full P) i hi
      rw [e] at hf m3
      rcases List.mem_cons.mp m3 with z | z
      · rw [z]; exact Int.le_refl _
      · have := List.rel_of_pairwise_cons hf z
        omega
    have a2 : q ≤ eld P k l := by
      rw [List.find?_eq_some_iff_getElem] at hs
      obtain ⟨_, i0, hi0, e0, hno⟩ := hs
      obtain ⟨j0, hj0, ej0⟩ := List.getElem_of_mem q1
      by_cases c : j0 < i0
      · have := hno j0 c
        rw [ej0] at this
        simp [q2] at this
      · by_cases c2 : i0 = j0
        · subst c2
          rw [← e0, ej0]
          exact Int.le_refl _
        · have hp := (List.pairwise_iff_getElem.mp (fall_run (P.take k)).pw) i0 j0 hi0 hj0 (by omega)
          have e1 : (run (P.take k)).st[i0] = eld P k l := e0
          have e2 : (run (P.take k)).st[j0] = q := ej0
          rw [e1, e2] at hp
          omega
    omega
/-- which knot's line, by places -/
theorem in_line_at {k e j : Nat} (hk : k ≤ P.length) (hj : j ≤ P.length) (he : e < (full P).length) (h1 : pl P k < e) (h2 : ht (full P) (e + 1) = ht (full P) (pl P k)) (h3 : ∀ i, pl P k < i → i ≤ e → ht (full P) (pl P k) + 1 ≤ ht (full P) i) :
    (k : Int) ∈ line P j ↔ k ≤ j ∧ j < ones (full P) e := by
  have hlt := pl_lt hg hj
  rw [line_sk hg hj, in_line hg hk he h1 h2 h3 (by omega)]
  have hz := (end_zero hg he h1 h2 h3).1
  constructor
  · rintro ⟨a, b⟩
    refine ⟨?_, (pl_lt_iff hg hj).mp ?_⟩
    · have := ones_mono (full P) (show pl P k ≤ pl P j by omega)
      rw [ones_pl hg hk, ones_pl hg hj] at this
      exact this
    · by_cases c : pl P j = e
      · rw [← c, full_pl hg hj] at hz; cases hz
      · omega
  · rintro ⟨a, b⟩
    have b' := (pl_lt_iff hg hj).mpr b
    refine ⟨?_, by omega⟩
    by_cases c : pl P k ≤ pl P j
    · omega
    · have := ones_mono (full P) (show pl P j + 1 ≤ pl P k by omega)
      rw [ones_pl1 hg hj, ones_pl hg hk] at this
      omega
/-- how many are beneath -/
theorem ben_at {k e : Nat} (hk : k ≤ P.length) (he : e < (full P).length) (h1 : pl P k < e) (h2 : ht (full P) (e + 1) = ht (full P) (pl P k)) (h3 : ∀ i, pl P k < i → i ≤ e → ht (full P) (pl P k) + 1 ≤ ht (full P) i) :
    ben P k + 1 + k = ones (full P) e ∧ e = pl P k + 2 * ben P k + 1 := by
  have ho1 : k + 1 ≤ ones (full P) e := by
    have := ones_mono (full P) (show pl P k + 1 ≤ e by omega)
    rw [ones_pl1 hg hk] at this
    exact this
  have ho2 : ones (full P) e ≤ P.length + 1 := by
    have a1 := ones_mono (full P) (show e ≤ (full P).length by omega)
    have a2 := ht_end hg
    unfold ht at a2
    have a3 := full_len P
    rw [Nat.min_self] at a2
    omega
  have hbl : ∀ m, m ≤ P.length + 1 → (benL P k m).length = min m (ones (full P) e) - k := by
    intro m
    induction m with
    | zero => intro _; simp [benL]
    | succ m ih =>
      intro hm
      rw [benL_succ, List.length_append, ih (by omega)]
      have hi := in_line_at hg (j := m) hk (by omega) he h1 h2 h3
      by_cases c : (k : Int) ∈ line P m
      · rw [if_pos c]
        have := hi.mp c
        show _ + 1 = _
        omega
      · rw [if_neg c]
        have : ¬ (k ≤ m ∧ m < ones (full P) e) := fun z => c (hi.mpr z)
        show _ + 0 = _
        omega
  have hb := hbl (P.length + 1) (Nat.le_refl _)
  have hbe : ben P k = ones (full P) e - k - 1 := by
    unfold ben
    rw [hb, Nat.min_eq_right ho2]
  have hh := (end_zero hg he h1 h2 h3).2
  have hk1 := ones_pl hg hk
  have hlt := pl_lt hg hk
  unfold ht at hh
  rw [Nat.min_eq_left (by omega), Nat.min_eq_left (by omega), hk1] at hh
  constructor
  · omega
  · omega
/-- the parent: where the height was last one less -/
theorem above_at {k b : Nat} (hk : k ≤ P.length) (h1 : b < pl P k) (h2 : ht (full P) (pl P k) = ht (full P) b + 1) (h3 : ∀ l, b < l → l ≤ pl P k → ht (full P) b + 1 ≤ ht (full P) l) : (par P)[k]? = some (some (ones (full P) b : Int)) := by
  rw [par_at hg hk, (stack_top hg h1 (Nat.le_of_lt (pl_lt hg hk)) h2 h3).2]
  rfl
/-- the knot whose end it is -/
theorem kat_end {j b : Nat} (hj : j < (full P).length) (hz : (full P)[j]? = some false) (h1 : b < j) (h2 : ht (full P) j = ht (full P) b + 1) (h3 : ∀ l, b < l → l ≤ j → ht (full P) b + 1 ≤ ht (full P) l) : kat (full P) j = (ones (full P) b : Int) := by
  unfold kat
  rw [hz, if_neg (by intro z; cases z), (stack_top hg h1 (Nat.le_of_lt hj) h2 h3).2]
  rfl
/-- the knot of a one -/
theorem kat_one {j : Nat} (hz : (full P)[j]? = some true) : kat (full P) j = (ones (full P) j : Int) := by
  unfold kat
  rw [hz, if_pos rfl]
/-- a one's place -/
theorem pl_ones {j : Nat} (hz : (full P)[j]? = some true) : ones (full P) j ≤ P.length ∧ pl P (ones (full P) j) = j := by
  have hj := (List.getElem?_eq_some_iff.mp hz).1
  have ho := ones_succ hz
  simp only [if_true] at ho
  have a1 := ones_mono (full P) (show j + 1 ≤ (full P).length by omega)
  have a2 := ht_end hg
  unfold ht at a2
  have a3 := full_len P
  rw [Nat.min_self] at a2
  have hle : ones (full P) j ≤ P.length := by omega
  refine ⟨hle, ?_⟩
  have b1 := pl_lt_iff hg hle (i := j)
  have b2 := pl_lt_iff hg hle (i := j + 1)
  omega
/-- the next child of the parent stands behind the end -/
theorem beside_at {k e : Nat} (hk : k ≤ P.length) (he : e < (full P).length) (h1 : pl P k < e) (h2 : ht (full P) (e + 1) = ht (full P) (pl P k)) (h3 : ∀ i, pl P k < i → i ≤ e → ht (full P) (pl P k) + 1 ≤ ht (full P) i) :
    bes P k = if (full P)[e + 1]? = some true then some (ones (full P) (e + 1)) else none := by
  have hz := end_zero hg he h1 h2 h3
  obtain ⟨t1, t2⟩ := stack_top hg h1 (Nat.le_of_lt he) hz.2 h3
  have hs := sk_zero hz.1
  rw [t2, List.tail_cons] at hs
  have hoe : ones (full P) (e + 1) = ones (full P) e := by
    rw [ones_succ hz.1]
    simp
  have hpk := par_at hg hk
  have hline := fun (j : Nat) (hj : j ≤ P.length) => in_line_at hg hk hj he h1 h2 h3
  have hlow : k + 1 ≤ ones (full P) e := by
    have := ones_mono (full P) (show pl P k + 1 ≤ e by omega)
    rw [ones_pl1 hg hk] at this
    exact this
  -- what lies beneath k has no parent above k
  have hin : ∀ j, k < j → j ≤ P.length → j < ones (full P) e → (par P)[j]? ≠ (par P)[k]? := by
    intro j j1 j2 j3 hc
    have hm := (hline j j2).mpr ⟨by omega, j3⟩
    obtain ⟨p, hp1, hp2⟩ := par_lt hg (k := j) (by omega) j2
    rw [line_succ hg j2 hp2] at hm
    rcases List.mem_cons.mp hm with z | z
    · omega
    · -- k on the line of p, p the parent of k: k at most p, p less than k
      have z2 := (line_le (by omega) z).2
      rw [hp2] at hc
      by_cases hk0 : k = 0
      · subst hk0
        rw [par_0] at hc
        cases hc
      · obtain ⟨p', hp1', hp2'⟩ := par_lt hg (k := k) (by omega) hk
        rw [hp2'] at hc
        have : (p : Int) = (p' : Int) := Option.some.inj (Option.some.inj hc)
        omega
  by_cases hc : (full P)[e + 1]? = some true
  · rw [if_pos hc]
    obtain ⟨g1, g2⟩ := pl_ones hg hc
    unfold bes
    rw [List.find?_range_eq_some]
    have hpe := par_at hg g1
    rw [g2, hs] at hpe
    refine ⟨?_, List.mem_range.mpr (by omega), fun j hj => ?_⟩
    · rw [Bool.and_eq_true, decide_eq_true_eq, decide_eq_true_eq]
      exact ⟨by omega, by rw [hpe, hpk]⟩
    · by_cases hkj : k < j
      · have := hin j hkj (by omega) (by omega)
        simp [this]
      · simp [hkj]
  · rw [if_neg hc]
    unfold bes
    rw [List.find?_eq_none]
    intro j hj
    rw [List.mem_range] at hj
    by_cases hkj : k < j
    · by_cases hjo : j < ones (full P) e
      · have := hin j hkj (by omega) hjo
        simp [this]
      · -- behind the end: the parent of k is done, or comes to its end
        have hne : (par P)[j]? ≠ (par P)[k]? := by
          intro heq
          obtain ⟨p, hp1, hp2⟩ := par_lt hg (k := j) (by omega) (by omega)
          rw [hp2, hpk] at heq
          have hh : (sk (full P) (pl P k)).head? = some (p : Int) := (Option.some.inj heq).symm
          have hhe : (sk (full P) (e + 1)).head? = some (p : Int) := by rw [hs]; exact hh
          have hpj : ¬ pl P j < e + 1 := fun z => by
            have := (pl_lt_iff hg (by omega)).mp z
            omega
          have hee : e + 1 < (full P).length := by
            have := pl_lt hg (k := j) (by omega)
            omega
          -- the bit behind the end is a nought: p is done there
          obtain ⟨x, hx⟩ : ∃ x, (full P)[e + 1]? = some x := ⟨_, List.getElem?_eq_getElem hee⟩
          have hxf : x = false := by
            cases x with
            | true => exact absurd hx hc
            | false => rfl
          subst hxf
          have hs2 := sk_zero hx
          have hpnot : (p : Int) ∉ sk (full P) (e + 1 + 1) := by
            rw [hs2]
            intro hm
            have hf := sk_falls (L := full P) (e + 1) (by omega)
            cases es : sk (full P) (e + 1) with
            | nil => rw [es] at hhe; cases hhe
            | cons y r =>
              rw [es] at hhe hm hf
              have hy : y = (p : Int) := Option.some.inj hhe
              have := List.rel_of_pairwise_cons hf hm
              omega
          have hpm : (p : Int) ∈ sk (full P) (pl P j) := by
            have := par_at hg (k := j) (by omega)
            rw [hp2] at this
            have h9 : (sk (full P) (pl P j)).head? = some (p : Int) := (Option.some.inj this).symm
            exact List.mem_of_mem_head? h9
          have hpj1 : e + 1 ≠ pl P j := fun z => by
            have := full_pl hg (k := j) (by omega)
            rw [← z, hx] at this
            cases this
          rcases sk_since (L := full P) (i := e + 1 + 1) (pl P j - (e + 1 + 1)) (by have := pl_lt hg (k := j) (by omega); omega) (p : Int) (by rw [show e + 1 + 1 + (pl P j - (e + 1 + 1)) = pl P j by omega]; exact hpm) with z | z
          · exact hpnot z
          · -- p came ahead of k
            have hpk2 : (p : Int) ∈ sk (full P) (pl P k) := List.mem_of_mem_head? hh
            have a1 := (sk_below _ (Nat.le_of_lt (pl_lt hg hk)) _ hpk2).2
            rw [ones_pl hg hk] at a1
            have a2 := ones_mono (full P) (show pl P k ≤ e + 1 + 1 by omega)
            rw [ones_pl hg hk] at a2
            omega
        simp [hne]
    · simp [hkj]
theorem ones_full : ones (full P) (full P).length = P.length + 1 := by
  have a2 := ht_end hg
  unfold ht at a2
  have a3 := full_len P
  rw [Nat.min_self] at a2
  omega
/-- a child's place: one above the knot, ahead of its end -/
theorem child_at {k e x : Nat} (hk : k ≤ P.length) (he : e < (full P).length) (h1 : pl P k < e) (h2 : ht (full P) (e + 1) = ht (full P) (pl P k)) (h3 : ∀ i, pl P k < i → i ≤ e → ht (full P) (pl P k) + 1 ≤ ht (full P) i)
    (hx : (full P)[x]? = some true) : (par P)[ones (full P) x]? = some (some (k : Int)) ↔ pl P k < x ∧ x < e ∧ ht (full P) x = ht (full P) (pl P k) + 1 := by
  obtain ⟨g1, g2⟩ := pl_ones hg hx
  have hxl := (List.getElem?_eq_some_iff.mp hx).1
  have hz := end_zero hg he h1 h2 h3
  have hp := par_at hg g1
  rw [g2] at hp
  rw [hp]
  constructor
  · intro h
    have hm : (k : Int) ∈ sk (full P) x := List.mem_of_mem_head? (Option.some.inj h)
    obtain ⟨a, b⟩ := (in_line hg hk he h1 h2 h3 (by omega)).mp hm
    have hxe : x ≠ e := fun z => by rw [z, hz.1] at hx; cases hx
    refine ⟨a, by omega, ?_⟩
    obtain ⟨_, t⟩ := stack_low hg a (by omega) (fun l l1 l2 => h3 l l1 (by omega))
    rw [ones_pl hg hk] at t
    -- k is the head, and it is the one at its height
    have hh := Option.some.inj h
    have hf := sk_falls (L := full P) x (by omega)
    have l1 := ht_sk hg x (by omega)
    have l2 := ht_sk hg (pl P k) (by have := pl_lt hg hk; omega)
    have l3 := h3 x a b
    cases es : sk (full P) x with
    | nil => rw [es] at hh; cases hh
    | cons y r =>
      rw [es] at hh hf t l1
      have hy : y = (k : Int) := Option.some.inj hh
      rw [List.length_cons] at t l1
      by_cases c : r.length + 1 - ((sk (full P) (pl P k)).length + 1) = 0
      · omega
      · exfalso
        obtain ⟨d, hd⟩ : ∃ d, r.length + 1 - ((sk (full P) (pl P k)).length + 1) = d + 1 := ⟨_, (Nat.succ_pred_eq_of_ne_zero c).symm⟩
        rw [hd, List.drop_succ_cons] at t
        have hkr : (k : Int) ∈ r := List.mem_of_mem_drop (by rw [t]; exact List.mem_cons_self)
        have := List.rel_of_pairwise_cons hf hkr
        omega
  · rintro ⟨a, b, c⟩
    rw [(stack_top hg a (by omega) c (fun l l1 l2 => h3 l l1 (by omega))).2, ones_pl hg hk]
    rfl
def kidP (P : List Int) (k e m : Nat) : List Nat := (List.range m).filter fun x => decide (pl P k < x ∧ x < e ∧ ht (full P) x = ht (full P) (pl P k) + 1)
theorem kids_at {k e : Nat} (hk : k ≤ P.length) (he : e < (full P).length) (h1 : pl P k < e) (h2 : ht (full P) (e + 1) = ht (full P) (pl P k)) (h3 : ∀ i, pl P k < i → i ≤ e → ht (full P) (pl P k) + 1 ≤ ht (full P) i) :
    kidL P k (P.length + 1) = (kidP P k e (full P).length).map (ones (full P)) := by
  have h : ∀ m, m ≤ (full P).length → kidL P k (ones (full P) m) = (kidP P k e m).map (ones (full P)) := by
    intro m
    induction m with
    | zero => intro _; simp [kidP, kidL, ones_0]
    | succ m ih =>
      intro hm
      obtain ⟨x, hx⟩ : ∃ x, (full P)[m]? = some x := ⟨_, List.getElem?_eq_getElem (by omega)⟩
      have ih := ih (by omega)
      have hs : kidP P k e (m + 1) = kidP P k e m ++ (if pl P k < m ∧ m < e ∧ ht (full P) m = ht (full P) (pl P k) + 1 then [m] else []) := by
        unfold kidP
        rw [List.range_succ, List.filter_append]
        by_cases c : pl P k < m ∧ m < e ∧ ht (full P) m = ht (full P) (pl P k) + 1 <;> simp [c]
      rw [hs, List.map_append, ← ih, ones_succ hx]
      cases x with
      | true =>
        have hc := child_at hg hk he h1 h2 h3 hx
        simp only [if_true]
        unfold kidL
        rw [List.range_succ, List.filter_append]
        congr 1
        by_cases c : pl P k < m ∧ m < e ∧ ht (full P) m = ht (full P) (pl P k) + 1
        · rw [if_pos c]
          simp [hc.mpr c]
        · rw [if_neg c]
          have : ¬ (par P)[ones (full P) m]? = some (some (k : Int)) := fun z => c (hc.mp z)
          simp [this]
      | false =>
        have : ¬ (pl P k < m ∧ m < e ∧ ht (full P) m = ht (full P) (pl P k) + 1) := fun ⟨a, b, c⟩ => by
          have s := ht_succ hx
          have := h3 (m + 1) (by omega) (by omega)
          simp only [Bool.false_eq_true, if_false] at s
          omega
        rw [if_neg this]
        simp
  have hf := h (full P).length (Nat.le_refl _)
  rw [ones_full hg] at hf
  exact hf
end
end KB

set_option linter.all false
set_option maxRecDepth 100000
/-! The heights of blocks, and what walks along a book find. -/
namespace KB
/-- the least of some ints -/
def lmin : List Int → Int
  | [] => 0
  | [a] => a
  | a :: b :: r => min a (lmin (b :: r))
theorem lmin_mem : ∀ (ns : List Int), ns ≠ [] → lmin ns ∈ ns
  | [], h => absurd rfl h
  | [a], _ => List.mem_singleton.mpr rfl
  | a :: b :: r, _ => by
    have ih := lmin_mem (b :: r) (List.cons_ne_nil _ _)
    show min a (lmin (b :: r)) ∈ _
    by_cases h : a ≤ lmin (b :: r)
    · rw [Int.min_eq_left h]; exact List.mem_cons_self
    · rw [Int.min_eq_right (by omega)]; exact List.mem_cons_of_mem _ ih
theorem lmin_le : ∀ (ns : List Int) (y : Int), y ∈ ns → lmin ns ≤ y
  | [a], y, h => by rw [List.mem_singleton.mp h]; exact Int.le_refl _
  | a :: b :: r, y, h => by
    show min a (lmin (b :: r)) ≤ y
    rcases List.mem_cons.mp h with h | h
    · rw [h]; exact Int.min_le_left _ _
    · exact Int.le_trans (Int.min_le_right _ _) (lmin_le (b :: r) y h)
theorem lmin_is {ns : List Int} {m : Int} (h1 : m ∈ ns) (h2 : ∀ y ∈ ns, m ≤ y) : m = lmin ns :=
  Int.le_antisymm (h2 _ (lmin_mem ns (fun z => by rw [z] at h1; cases h1))) (lmin_le ns m h1)
/-! ### heights and books -/
def hts (L : List Bool) : List Int := (List.range (L.length + 1)).map (ht L)
theorem hts_len (L : List Bool) : (hts L).length = L.length + 1 := by unfold hts; rw [List.length_map, List.length_range]
theorem hts_at {L : List Bool} {j : Nat} (h : j ≤ L.length) : (hts L)[j]? = some (ht L j) := by
  unfold hts
  rw [List.getElem?_map, List.getElem?_range (by omega)]
  rfl
/-- the heights behind the bits of block j -/
def seg (L : List Bool) (n j : Nat) : List Int := ((hts L).drop (j * n + 1)).take n
/-- some heights in a row -/
def hcut (L : List Bool) (a m : Nat) : List Int := ((hts L).drop a).take m
section
variable {L : List Bool} {a m n j i d : Nat} {v y : Int}
theorem hcut_len : (hcut L a m).length = min m (L.length + 1 - a) := by
  unfold hcut
  rw [List.length_take, List.length_drop, hts_len]
theorem hcut_at (h : i < m) (h2 : a + i ≤ L.length) : (hcut L a m)[i]? = some (ht L (a + i)) := by
  unfold hcut
  rw [List.getElem?_take, if_pos h, List.getElem?_drop, hts_at h2]
theorem hcut_inv (h : (hcut L a m)[i]? = some v) : i < m ∧ a + i ≤ L.length ∧ v = ht L (a + i) := by
  have hl := (List.getElem?_eq_some_iff.mp h).1
  rw [hcut_len] at hl
  rw [hcut_at (by omega) (by omega)] at h
  exact ⟨by omega, by omega, (Option.some.inj h).symm⟩
theorem hcut_drop : (hcut L a m).drop d = hcut L (a + d) (m - d) := by
  unfold hcut
  rw [List.drop_take, List.drop_drop]
theorem hcut_take (h : d ≤ m) : (hcut L a m).take d = hcut L a d := by
  unfold hcut
  rw [List.take_take, Nat.min_eq_left h]
theorem mem_hcut : y ∈ hcut L a m ↔ ∃ i, a ≤ i ∧ i < a + m ∧ i ≤ L.length ∧ y = ht L i := by
  constructor
  · intro h
    obtain ⟨i, hi⟩ := List.getElem?_of_mem h
    obtain ⟨h1, h2, h3⟩ := hcut_inv hi
    exact ⟨a + i, by omega, by omega, h2, h3⟩
  · rintro ⟨i, h1, h2, h3, rfl⟩
    refine List.mem_of_getElem? (i := i - a) ?_
    have := hcut_at (L := L) (a := a) (i := i - a) (m := m) (by omega) (by omega)
    rw [show a + (i - a) = i by omega] at this
    exact this
theorem hcut_lmin (h0 : 0 < m) (ha : a ≤ L.length) : (∃ i, a ≤ i ∧ i < a + m ∧ i ≤ L.length ∧ ht L i = lmin (hcut L a m)) ∧ ∀ i, a ≤ i → i < a + m → i ≤ L.length → lmin (hcut L a m) ≤ ht L i := by
  have hne : hcut L a m ≠ [] := fun z => by
    have := congrArg List.length z
    rw [hcut_len, List.length_nil] at this
    omega
  constructor
  · obtain ⟨i, h1, h2, h3, h4⟩ := mem_hcut.mp (lmin_mem _ hne)
    exact ⟨i, h1, h2, h3, h4.symm⟩
  · intro i h1 h2 h3
    exact lmin_le _ _ (mem_hcut.mpr ⟨i, h1, h2, h3, rfl⟩)
/-- the heights at a block's places, and behind it -/
def hsg (L : List Bool) (n j : Nat) : List Int := hcut L (j * n) (n + 1)
theorem seg_cut : seg L n j = hcut L (j * n + 1) n := rfl
theorem hsg_tail : (hsg L n j).drop 1 = seg L n j := by
  rw [hsg, hcut_drop, seg_cut]
  rfl
end
/-- heights along some bits -/
def along (h : Int) (bs : List Bool) : List Int := (List.range (bs.length + 1)).map fun i => h + ht bs i
theorem along_len (h : Int) (bs : List Bool) : (along h bs).length = bs.length + 1 := by unfold along; rw [List.length_map, List.length_range]
theorem along_at {h : Int} {bs : List Bool} {i : Nat} (hi : i ≤ bs.length) : (along h bs)[i]? = some (h + ht bs i) := by
  unfold along
  rw [List.getElem?_map, List.getElem?_range (by omega)]
  rfl
theorem ht_cut {L : List Bool} {a m i : Nat} (hi : i ≤ m) (h : a + i ≤ L.length) : ht L (a + i) = ht L a + ht ((L.drop a).take m) i := by
  induction i with
  | zero => rw [ht_0]; simp
  | succ i ih =>
    obtain ⟨b, hb⟩ : ∃ b, L[a + i]? = some b := ⟨_, List.getElem?_eq_getElem (by omega)⟩
    have hb2 : ((L.drop a).take m)[i]? = some b := by rw [List.getElem?_take, if_pos (by omega), List.getElem?_drop, hb]
    rw [← Nat.add_assoc, ht_succ hb, ht_succ hb2, ih (by omega) (by omega)]
    omega
theorem along_hsg {L : List Bool} {n j : Nat} (h : j * n ≤ L.length) : along (ht L (j * n)) ((L.drop (j * n)).take n) = hsg L n j := by
  have hl : ((L.drop (j * n)).take n).length = min n (L.length - j * n) := by rw [List.length_take, List.length_drop]
  apply List.ext_getElem?
  intro i
  by_cases c : i ≤ min n (L.length - j * n)
  · rw [along_at (by omega), hsg, hcut_at (by omega) (by omega), ht_cut (m := n) (by omega) (by omega)]
  · rw [List.getElem?_eq_none (by rw [along_len, hl]; omega), List.getElem?_eq_none (by rw [hsg, hcut_len]; omega)]
/-- knots ahead, by the height -/
theorem ahead_ones {L : List Bool} {j : Nat} (h : j ≤ L.length) : ((j : Int) + ht L j) / 2 = (ones L j : Int) := by
  unfold ht
  rw [Nat.min_eq_left h]
  omega
/-! ### the last place of a height, going back; where a knot ends -/
def IsBk (L : List Bool) (p : Nat) (h : Int) (b : Nat) : Prop := b ≤ p ∧ ht L b = h ∧ ∀ l, b < l → l ≤ p → h + 1 ≤ ht L l
theorem back_ex {L : List Bool} {h : Int} (h0 : 0 ≤ h) : ∀ p, p ≤ L.length → h ≤ ht L p → ∃ b, IsBk L p h b
  | 0, _, h1 => ⟨0, Nat.le_refl _, by rw [ht_0] at h1 ⊢; omega, fun l l1 l2 => by omega⟩
  | p + 1, hp, h1 => by
    by_cases c : ht L (p + 1) = h
    · exact ⟨p + 1, Nat.le_refl _, c, fun l l1 l2 => by omega⟩
    · obtain ⟨x, hx⟩ : ∃ x, L[p]? = some x := ⟨_, List.getElem?_eq_getElem (by omega)⟩
      have hs := ht_succ hx
      obtain ⟨b, b1, b2, b3⟩ := back_ex (L := L) h0 p (by omega) (by cases x <;> simp at hs <;> omega)
      exact ⟨b, by omega, b2, fun l l1 l2 => by
        by_cases e : l = p + 1
        · subst e; omega
        · exact b3 l l1 (by omega)⟩
open Classical in
noncomputable def bkP (L : List Bool) (p : Nat) (h : Int) : Nat := if z : ∃ b, IsBk L p h b then z.choose else 0
theorem bkP_is {L : List Bool} {p : Nat} {h : Int} (z : ∃ b, IsBk L p h b) : IsBk L p h (bkP L p h) := by
  unfold bkP
  rw [dif_pos z]
  exact z.choose_spec
def IsEn (L : List Bool) (p e : Nat) : Prop := p < e ∧ e < L.length ∧ ht L (e + 1) = ht L p ∧ ∀ i, p < i → i ≤ e → ht L p + 1 ≤ ht L i
open Classical in
noncomputable def enP (L : List Bool) (p : Nat) : Nat := if z : ∃ e, IsEn L p e then z.choose else 0
theorem enP_is {L : List Bool} {p : Nat} (z : ∃ e, IsEn L p e) : IsEn L p (enP L p) := by
  unfold enP
  rw [dif_pos z]
  exact z.choose_spec
theorem en_pl {P : List Int} (hg : Good P) {k : Nat} (hk : k ≤ P.length) : IsEn (full P) (pl P k) (enP (full P) (pl P k)) := enP_is (ends hg hk)
/-! ### places of a height -/
def gp (L : List Bool) (v : Int) (a c : Nat) : List Nat := (List.range' a (c - a)).filter fun i => decide (ht L i = v)
theorem gp_nil {L : List Bool} {v : Int} {a c : Nat} (h : c ≤ a) : gp L v a c = [] := by
  unfold gp
  rw [show c - a = 0 by omega]
  rfl
theorem gp_split {L : List Bool} {v : Int} {a b c : Nat} (h1 : a ≤ b) (h2 : b ≤ c) : gp L v a c = gp L v a b ++ gp L v b c := by
  unfold gp
  rw [← List.filter_append]
  congr 1
  have := List.range'_append_1 (s := a) (m := b - a) (n := c - b)
  rw [show a + (b - a) = b by omega, show b - a + (c - b) = c - a by omega] at this
  exact this.symm
theorem mem_gp {L : List Bool} {v : Int} {a c i : Nat} : i ∈ gp L v a c ↔ a ≤ i ∧ i < c ∧ ht L i = v := by
  unfold gp
  rw [List.mem_filter, List.mem_range'_1, decide_eq_true_eq]
  constructor
  · rintro ⟨⟨h1, h2⟩, h3⟩; exact ⟨h1, by omega, h3⟩
  · rintro ⟨h1, h2, h3⟩; exact ⟨⟨h1, by omega⟩, h3⟩
theorem gp_one {L : List Bool} {v : Int} {a : Nat} (h : ht L a = v) : gp L v a (a + 1) = [a] := by
  unfold gp
  rw [show a + 1 - a = 1 by omega]
  simp [h]
theorem gp_empty {L : List Bool} {v : Int} {a c : Nat} (h : ∀ i, a ≤ i → i < c → ht L i ≠ v) : gp L v a c = [] := by
  apply List.eq_nil_iff_forall_not_mem.mpr
  intro i hi
  obtain ⟨h1, h2, h3⟩ := mem_gp.mp hi
  exact h i h1 h2 h3
theorem hcut_range {L : List Bool} {a m : Nat} : hcut L a m = (List.range' a (min m (L.length + 1 - a))).map (ht L) := by
  apply List.ext_getElem?
  intro i
  by_cases c : i < min m (L.length + 1 - a)
  · rw [hcut_at (by omega) (by omega), List.getElem?_map, List.getElem?_range' (by omega)]
    simp
  · rw [List.getElem?_eq_none (by rw [hcut_len]; omega), List.getElem?_eq_none (by rw [List.length_map, List.length_range']; omega)]
theorem count_gp {L : List Bool} {a m : Nat} {v : Int} (h : a + m ≤ L.length + 1) : (hcut L a m).count v = (gp L v a (a + m)).length := by
  rw [hcut_range, List.count, List.countP_map, List.countP_eq_length_filter]
  unfold gp
  rw [show a + m - a = m by omega, Nat.min_eq_left (by omega)]
  refine congrArg List.length (List.filter_congr fun i _ => ?_)
  show (ht L i == v) = decide (ht L i = v)
  by_cases z : ht L i = v <;> simp [z]
/-! ### the lowest heights between two places, by blocks -/
def lw (L : List Bool) (n f e m : Nat) : List Int := hcut L (max f (m * n) + 1) (min e (m * n + n) - max f (m * n))
theorem blk_lt {e n m : Nat} (hn : 1 ≤ n) (he : 1 ≤ e) (h : m ≤ (e - 1) / n) : m * n < e := by
  have := (Nat.le_div_iff_mul_le (show 0 < n by omega)).mp h
  omega
theorem blk_gt {f n m : Nat} (hn : 1 ≤ n) (h : f / n ≤ m) : f < m * n + n := by
  have h1 := Nat.lt_mul_div_succ f (show 0 < n by omega)
  have h2 : n * (f / n + 1) ≤ n * (m + 1) := Nat.mul_le_mul_left _ (by omega)
  have h3 : n * (m + 1) = m * n + n := by rw [Nat.mul_comm, Nat.succ_mul]
  omega
theorem lw_ne {L : List Bool} {n f e m : Nat} (hn : 1 ≤ n) (hf : f < e) (he : e ≤ L.length) (h1 : f / n ≤ m) (h2 : m ≤ (e - 1) / n) : 0 < min e (m * n + n) - max f (m * n) ∧ max f (m * n) + 1 ≤ L.length ∧ max f (m * n) + 1 + (min e (m * n + n) - max f (m * n)) = min e (m * n + n) + 1 := by
  have := blk_lt hn (by omega) h2
  have := blk_gt hn h1
  omega
def rowsN (n f e : Nat) : List Nat := List.range' (f / n) ((e - 1) / n + 1 - f / n)
theorem mem_rowsN {n f e m : Nat} : m ∈ rowsN n f e ↔ f / n ≤ m ∧ m ≤ (e - 1) / n := by
  unfold rowsN
  rw [List.mem_range'_1]
  omega
/-- the least between -/
def lowB (L : List Bool) (f e : Nat) : Int := lmin (hcut L (f + 1) (e - f))
theorem lowB_is {L : List Bool} {f e : Nat} (hf : f < e) (he : e ≤ L.length) : (∃ i, f < i ∧ i ≤ e ∧ ht L i = lowB L f e) ∧ ∀ i, f < i → i ≤ e → lowB L f e ≤ ht L i := by
  obtain ⟨⟨i, h1, h2, h3, h4⟩, h5⟩ := hcut_lmin (L := L) (a := f + 1) (m := e - f) (by omega) (by omega)
  exact ⟨⟨i, by omega, by omega, h4⟩, fun i i1 i2 => h5 i (by omega) (by omega) (by omega)⟩
theorem low_rows {L : List Bool} {n f e : Nat} (hn : 1 ≤ n) (hf : f < e) (he : e ≤ L.length) : lmin ((rowsN n f e).map fun m => lmin (lw L n f e m)) = lowB L f e := by
  obtain ⟨⟨i, i1, i2, i3⟩, hle⟩ := lowB_is hf he
  symm
  apply lmin_is
  · have hm1 : f / n ≤ (i - 1) / n := Nat.div_le_div_right (by omega)
    have hm2 : (i - 1) / n ≤ (e - 1) / n := Nat.div_le_div_right (by omega)
    obtain ⟨a1, a2, a3⟩ := lw_ne (L := L) hn hf he hm1 hm2
    obtain ⟨⟨i', j1, j2, j3, j4⟩, hl⟩ := hcut_lmin (L := L) a1 a2
    have b1 : (i - 1) / n * n ≤ i - 1 := Nat.div_mul_le_self _ _
    have b2 := blk_gt (f := i - 1) hn (Nat.le_refl _)
    refine List.mem_map.mpr ⟨(i - 1) / n, mem_rowsN.mpr ⟨hm1, hm2⟩, ?_⟩
    have c1 := hl i (by omega) (by omega) (by omega)
    have c2 := hle i' (by omega) (by omega)
    show lmin (hcut L _ _) = _
    omega
  · intro y hy
    obtain ⟨m, hm, rfl⟩ := List.mem_map.mp hy
    obtain ⟨h1, h2⟩ := mem_rowsN.mp hm
    obtain ⟨a1, a2, a3⟩ := lw_ne (L := L) hn hf he h1 h2
    obtain ⟨⟨i', j1, j2, j3, j4⟩, hl⟩ := hcut_lmin (L := L) a1 a2
    show _ ≤ lmin (hcut L _ _)
    rw [← j4]
    exact hle i' (by omega) (by omega)
/-- the blocks with places of this height, and how many -/
def gaps (L : List Bool) (n f e : Nat) (v : Int) : List (Nat × Nat) := ((rowsN n f e).filter fun m => decide (lmin (lw L n f e m) = v)).map fun m => (m, (lw L n f e m).count (lmin (lw L n f e m)))
def gpB (L : List Bool) (n f e : Nat) (v : Int) (m : Nat) : List Nat := gp L v (max f (m * n) + 1) (min e (m * n + n) + 1)
theorem gaps_count {L : List Bool} {n f e : Nat} {v : Int} (hn : 1 ≤ n) (hf : f < e) (he : e ≤ L.length) {g : Nat × Nat} (h : g ∈ gaps L n f e v) : g.2 = (gpB L n f e v g.1).length ∧ f / n ≤ g.1 ∧ g.1 ≤ (e - 1) / n := by
  obtain ⟨m, hm, rfl⟩ := List.mem_map.mp h
  obtain ⟨hm1, hm2⟩ := List.mem_filter.mp hm
  obtain ⟨h1, h2⟩ := mem_rowsN.mp hm1
  obtain ⟨a1, a2, a3⟩ := lw_ne (L := L) hn hf he h1 h2
  refine ⟨?_, h1, h2⟩
  show (lw L n f e m).count (lmin (lw L n f e m)) = (gpB L n f e v m).length
  rw [of_decide_eq_true hm2]
  unfold lw gpB
  rw [count_gp (by omega), a3]
theorem gaps_flat {L : List Bool} {n f e : Nat} {v : Int} (hn : 1 ≤ n) (hf : f < e) (he : e ≤ L.length) (hv : ∀ i, f < i → i ≤ e → v ≤ ht L i) : ((gaps L n f e v).map fun g => gpB L n f e v g.1).flatten = gp L v (f + 1) (e + 1) := by
  have main : ∀ t, f / n + t ≤ (e - 1) / n + 1 → (((List.range' (f / n) t).filter fun m => decide (lmin (lw L n f e m) = v)).map fun m => gpB L n f e v m).flatten = gp L v (f + 1) (min e ((f / n + t) * n) + 1) := by
    intro t
    induction t with
    | zero =>
      intro _
      have h0 : (f / n + 0) * n ≤ f := Nat.div_mul_le_self f n
      rw [gp_nil (show min e ((f / n + 0) * n) + 1 ≤ f + 1 by omega)]
      rfl
    | succ t ih =>
      intro ht'
      have ih := ih (by omega)
      have hm1 : f / n ≤ f / n + t := Nat.le_add_right _ _
      have hm2 : f / n + t ≤ (e - 1) / n := by omega
      obtain ⟨a1, a2, a3⟩ := lw_ne (L := L) hn hf he hm1 hm2
      obtain ⟨⟨i', j1, j2, j3, j4⟩, hl⟩ := hcut_lmin (L := L) a1 a2
      have hlt := blk_lt hn (by omega) hm2
      have hgt := blk_gt hn hm1
      have e1 : (f / n + (t + 1)) * n = (f / n + t) * n + n := by rw [← Nat.add_assoc, Nat.succ_mul]
      have hb : f ≤ (f / n + t) * n ∨ (t = 0 ∧ (f / n + t) * n ≤ f) := by
        by_cases c : t = 0
        · right
          subst c
          exact ⟨rfl, Nat.div_mul_le_self f n⟩
        · left
          have h1 := blk_gt (f := f) hn (Nat.le_refl (f / n))
          have h2 : (f / n + 1) * n ≤ (f / n + t) * n := Nat.mul_le_mul_right _ (by omega)
          rw [Nat.succ_mul] at h2
          omega
      have hsp : gp L v (f + 1) (min e ((f / n + (t + 1)) * n) + 1) = gp L v (f + 1) (min e ((f / n + t) * n) + 1) ++ gpB L n f e v (f / n + t) := by
        rw [e1]
        unfold gpB
        rcases hb with hb | ⟨ht0, hb⟩
        · rw [show max f ((f / n + t) * n) = (f / n + t) * n by omega, show min e ((f / n + t) * n) = (f / n + t) * n by omega]
          exact gp_split (by omega) (by omega)
        · rw [show max f ((f / n + t) * n) = f by omega, gp_nil (show min e ((f / n + t) * n) + 1 ≤ f + 1 by omega)]
          rfl
      rw [hsp, ← ih, List.range'_1_concat, List.filter_append, List.map_append, List.flatten_append]
      congr 1
      by_cases c : lmin (lw L n f e (f / n + t)) = v
      · simp [c]
      · have : gpB L n f e v (f / n + t) = [] := by
          refine gp_empty fun i i1 i2 z => c ?_
          have h1 : lmin (lw L n f e (f / n + t)) ≤ ht L i := hl i i1 (by omega) (by omega)
          have h2 := hv i' (by omega) (by omega)
          have h3 : ht L i' = lmin (lw L n f e (f / n + t)) := j4
          omega
        rw [this]
        simp [c]
  have hfe : f / n ≤ (e - 1) / n := Nat.div_le_div_right (by omega)
  have h := main ((e - 1) / n + 1 - f / n) (by omega)
  unfold gaps rowsN
  rw [List.map_map]
  have e2 : min e ((f / n + ((e - 1) / n + 1 - f / n)) * n) = e := by
    rw [show f / n + ((e - 1) / n + 1 - f / n) = (e - 1) / n + 1 by omega]
    have := blk_gt (f := e - 1) hn (Nat.le_refl ((e - 1) / n))
    rw [Nat.succ_mul]
    omega
  rw [e2] at h
  exact h
theorem gaps_sum {L : List Bool} {n f e : Nat} {v : Int} (hn : 1 ≤ n) (hf : f < e) (he : e ≤ L.length) (hv : ∀ i, f < i → i ≤ e → v ≤ ht L i) : ((gaps L n f e v).map (·.2)).sum = (gp L v (f + 1) (e + 1)).length := by
  rw [← gaps_flat hn hf he hv, List.length_flatten, List.map_map]
  congr 1
  apply List.map_congr_left
  intro g hg
  exact (gaps_count hn hf he hg).1
/-- the block that has the place with so many ahead -/
def fg : List (Nat × Nat) → Nat → Nat × Nat
  | [], a => (0, a)
  | (b, c) :: r, a => if a < c then (b, a) else fg r (a - c)
theorem fg_flat (F : Nat → List Nat) : ∀ (gs : List (Nat × Nat)) (a : Nat), (∀ g ∈ gs, g.2 = (F g.1).length) → a < (gs.map (·.2)).sum → (fg gs a).2 < (F (fg gs a).1).length ∧ (∃ c, ((fg gs a).1, c) ∈ gs) ∧ ((gs.map fun g => F g.1).flatten)[a]? = (F (fg gs a).1)[(fg gs a).2]?
  | [], a, _, h => by simp at h
  | (b, c) :: r, a, hc, h => by
    have hb : c = (F b).length := hc (b, c) List.mem_cons_self
    unfold fg
    by_cases z : a < c
    · rw [if_pos z]
      refine ⟨show a < (F b).length by omega, ⟨c, List.mem_cons_self⟩, ?_⟩
      rw [List.map_cons, List.flatten_cons, List.getElem?_append_left (by show a < (F b).length; omega)]
    · rw [if_neg z]
      rw [List.map_cons, List.sum_cons] at h
      obtain ⟨h1, ⟨c', h2⟩, h3⟩ := fg_flat F r (a - c) (fun g hg => hc g (List.mem_cons_of_mem _ hg)) (by omega)
      refine ⟨h1, ⟨c', List.mem_cons_of_mem _ h2⟩, ?_⟩
      rw [← h3, List.map_cons, List.flatten_cons, List.getElem?_append_right (by show (F b).length ≤ a; omega)]
      show _ = ((r.map fun g => F g.1).flatten)[a - c]?
      rw [hb]
/-! ### children by gaps -/
section
variable {P : List Int} (hg : Good P)
include hg
theorem kidP_gp {k e : Nat} (he : e ≤ (full P).length) (h1 : pl P k < e) : kidP P k e (full P).length = gp (full P) (ht (full P) (pl P k) + 1) (pl P k + 1) e := by
  unfold kidP gp
  have e0 : List.range (full P).length = List.range' 0 (pl P k + 1) ++ (List.range' (pl P k + 1) (e - (pl P k + 1)) ++ List.range' e ((full P).length - e)) := by
    have a1 := List.range'_append_1 (s := pl P k + 1) (m := e - (pl P k + 1)) (n := (full P).length - e)
    rw [show pl P k + 1 + (e - (pl P k + 1)) = e by omega] at a1
    rw [a1]
    have a2 := List.range'_append_1 (s := 0) (m := pl P k + 1) (n := e - (pl P k + 1) + ((full P).length - e))
    rw [Nat.zero_add] at a2
    rw [a2, List.range_eq_range']
    congr 1
    omega
  rw [e0, List.filter_append, List.filter_append]
  have z1 : (List.range' 0 (pl P k + 1)).filter (fun x => decide (pl P k < x ∧ x < e ∧ ht (full P) x = ht (full P) (pl P k) + 1)) = [] := by
    rw [List.filter_eq_nil_iff]
    intro x hx
    rw [List.mem_range'_1] at hx
    rw [decide_eq_true_eq]
    omega
  have z2 : (List.range' e ((full P).length - e)).filter (fun x => decide (pl P k < x ∧ x < e ∧ ht (full P) x = ht (full P) (pl P k) + 1)) = [] := by
    rw [List.filter_eq_nil_iff]
    intro x hx
    rw [List.mem_range'_1] at hx
    rw [decide_eq_true_eq]
    omega
  rw [z1, z2, List.nil_append, List.append_nil]
  apply List.filter_congr
  intro x hx
  rw [List.mem_range'_1] at hx
  by_cases c : ht (full P) x = ht (full P) (pl P k) + 1
  · rw [decide_eq_true c, decide_eq_true ⟨by omega, by omega, c⟩]
  · rw [decide_eq_false c, decide_eq_false (fun z => c z.2.2)]
/-- all gaps: the children's places, and the end -/
theorem gp_kids {k e : Nat} (hk : k ≤ P.length) (hE : IsEn (full P) (pl P k) e) : gp (full P) (ht (full P) (pl P k) + 1) (pl P k + 1) (e + 1) = kidP P k e (full P).length ++ [e] := by
  obtain ⟨h1, h2, h3, h4⟩ := hE
  rw [gp_split (b := e) (by omega) (by omega), ← kidP_gp hg (by omega) h1, gp_one (end_zero hg h2 h1 h3 h4).2]
end
end KB

set_option linter.all false
set_option maxRecDepth 100000
/-! What the answers find. -/
namespace KB
section
variable {P : List Int} (hg : Good P)
include hg
theorem pl_zero_iff {k : Nat} (hk : k ≤ P.length) : ht (full P) (pl P k) = 0 ↔ k = 0 := by
  constructor
  · intro h
    by_cases c : k = 0
    · exact c
    · have h1 : 1 ≤ pl P k := by
        by_cases z : pl P k = 0
        · have := ones_pl hg hk
          rw [z, ones_0] at this
          omega
        · omega
      have := ht_pos hg h1 (pl_lt hg hk)
      omega
  · intro h
    subst h
    rw [pl_0, ht_0]
/-- the parent's place -/
theorem bk_above {k : Nat} (hk : k ≤ P.length) (h0 : k ≠ 0) : IsBk (full P) (pl P k) (ht (full P) (pl P k) - 1) (bkP (full P) (pl P k) (ht (full P) (pl P k) - 1)) ∧ (par P)[k]? = some (some (ones (full P) (bkP (full P) (pl P k) (ht (full P) (pl P k) - 1)) : Int)) := by
  have hne : ht (full P) (pl P k) ≠ 0 := fun z => h0 ((pl_zero_iff hg hk).mp z)
  have hge := ht_ge hg (Nat.le_of_lt (pl_lt hg hk))
  have hb := bkP_is (back_ex (L := full P) (h := ht (full P) (pl P k) - 1) (by omega) (pl P k) (Nat.le_of_lt (pl_lt hg hk)) (by omega))
  refine ⟨hb, ?_⟩
  obtain ⟨b1, b2, b3⟩ := hb
  have hlt : bkP (full P) (pl P k) (ht (full P) (pl P k) - 1) < pl P k := by
    by_cases c : bkP (full P) (pl P k) (ht (full P) (pl P k) - 1) = pl P k
    · rw [c] at b2; omega
    · omega
  exact above_at hg hk hlt (by omega) (fun l l1 l2 => by have := b3 l l1 l2; omega)
/-- the knot that ends -/
theorem bk_kat {j : Nat} (hj : j < (full P).length) (hz : (full P)[j]? = some false) : IsBk (full P) j (ht (full P) j - 1) (bkP (full P) j (ht (full P) j - 1)) ∧ kat (full P) j = (ones (full P) (bkP (full P) j (ht (full P) j - 1)) : Int) := by
  have hj1 : 1 ≤ j := by
    cases j with
    | zero => rw [first_one hg] at hz; cases hz
    | succ j => omega
  have hp := ht_pos hg hj1 hj
  have hb := bkP_is (back_ex (L := full P) (h := ht (full P) j - 1) (by omega) j (Nat.le_of_lt hj) (by omega))
  refine ⟨hb, ?_⟩
  obtain ⟨b1, b2, b3⟩ := hb
  have hlt : bkP (full P) j (ht (full P) j - 1) < j := by
    by_cases c : bkP (full P) j (ht (full P) j - 1) = j
    · rw [c] at b2; omega
    · omega
  exact kat_end hg hj hz hlt (by omega) (fun l l1 l2 => by have := b3 l l1 l2; omega)
theorem pl_mono {k l : Nat} (hk : k ≤ P.length) (hl : l ≤ P.length) (h : k < l) : pl P k < pl P l := by
  rw [pl_lt_iff hg hk, ones_pl hg hl]
  exact h
/-- the deepest in common -/
theorem bk_eld {k l : Nat} (hk : k ≤ P.length) (hl : l ≤ P.length) (h : k < l) : IsBk (full P) (pl P k) (lowB (full P) (pl P k) (pl P l) - 1) (bkP (full P) (pl P k) (lowB (full P) (pl P k) (pl P l) - 1)) ∧ eld P k l = (ones (full P) (bkP (full P) (pl P k) (lowB (full P) (pl P k) (pl P l) - 1)) : Int) := by
  have hlt := pl_mono hg hk hl h
  have hll := pl_lt hg hl
  obtain ⟨⟨i, i1, i2, i3⟩, hle⟩ := lowB_is (L := full P) hlt (Nat.le_of_lt hll)
  have hi1 := ht_pos hg (show 1 ≤ i by omega) (by omega)
  have hs := ht_succ (full_pl hg hk)
  simp only [if_true] at hs
  have h1 := hle (pl P k + 1) (by omega) (by omega)
  have hb := bkP_is (back_ex (L := full P) (h := lowB (full P) (pl P k) (pl P l) - 1) (by omega) (pl P k) (by omega) (by omega))
  refine ⟨hb, ?_⟩
  obtain ⟨b1, b2, b3⟩ := hb
  have hsl := ht_succ (full_pl hg hl)
  simp only [if_true] at hsl
  have he := eld_at hg hk hl i1 (by omega) (fun j j1 j2 => by
    by_cases c : j = pl P l + 1
    · subst c
      have := hle (pl P l) (by omega) (Nat.le_refl _)
      omega
    · have := hle j j1 (by omega)
      omega)
  have ht' := (stack_top hg (b := bkP (full P) (pl P k) (lowB (full P) (pl P k) (pl P l) - 1)) (i := i) (by omega) (by omega) (by omega) (fun l' l1 l2 => by
    by_cases c : l' ≤ pl P k
    · have := b3 l' l1 c; omega
    · have := hle l' (by omega) (by omega); omega)).2
  rw [ht', List.head?_cons] at he
  exact (Option.some.inj he).symm
/-- which block a knot's place is in -/
theorem blk_of {k n low : Nat} (hk : k ≤ P.length) (hn : 1 ≤ n) (h1 : ones (full P) (low * n) ≤ k) (h2 : (full P).length ≤ low * n + n ∨ k < ones (full P) (low * n + n)) : pl P k / n = low := by
  have a1 : low * n ≤ pl P k := by
    apply Nat.le_of_not_lt
    intro z
    have := (pl_lt_iff hg hk).mp z
    omega
  have a2 : pl P k < low * n + n := by
    rcases h2 with h2 | h2
    · have := pl_lt hg hk; omega
    · exact (pl_lt_iff hg hk).mpr h2
  have b1 : low ≤ pl P k / n := (Nat.le_div_iff_mul_le (by omega)).mpr a1
  have b2 : pl P k / n < low + 1 := (Nat.div_lt_iff_lt_mul (by omega)).mpr (by rw [Nat.succ_mul]; exact a2)
  omega
/-- no knot's place between -/
theorem no_one {s q i : Nat} (hq : q ≤ P.length) (hs : ones (full P) s = q) (h1 : s ≤ i) (h2 : i < pl P q) : (full P)[i]? = some false := by
  have hlt := pl_lt hg hq
  obtain ⟨x, hx⟩ : ∃ x, (full P)[i]? = some x := ⟨_, List.getElem?_eq_getElem (by omega)⟩
  cases x with
  | false => exact hx
  | true =>
    exfalso
    have h3 := ones_succ hx
    simp only [if_true] at h3
    have h4 := ones_mono (full P) h1
    have h5 := (pl_lt_iff hg hq (i := i + 1)).mpr (by omega)
    omega
/-- all children, by the gaps -/
theorem kids_gp {k e : Nat} (hk : k ≤ P.length) (hE : IsEn (full P) (pl P k) e) : kidL P k (P.length + 1) = (kidP P k e (full P).length).map (ones (full P)) ∧ (gp (full P) (ht (full P) (pl P k) + 1) (pl P k + 1) (e + 1)).length = (kidL P k (P.length + 1)).length + 1 := by
  obtain ⟨h1, h2, h3, h4⟩ := id hE
  have h := kids_at hg hk h2 h1 h3 h4
  refine ⟨h, ?_⟩
  rw [gp_kids hg hk hE, h, List.length_append, List.length_map]
  rfl
theorem kid_gp {k e m : Nat} (hk : k ≤ P.length) (hE : IsEn (full P) (pl P k) e) (hm : m < (kidL P k (P.length + 1)).length) : ∃ x, (gp (full P) (ht (full P) (pl P k) + 1) (pl P k + 1) (e + 1))[m]? = some x ∧ (kidL P k (P.length + 1))[m]? = some (ones (full P) x) ∧ pl P k < x ∧ x < e ∧ ht (full P) x = ht (full P) (pl P k) + 1 ∧ (full P)[x]? = some true := by
  obtain ⟨h1, h2, h3, h4⟩ := id hE
  obtain ⟨g1, g2⟩ := kids_gp hg hk hE
  rw [g1, List.length_map] at hm
  obtain ⟨x, hx⟩ : ∃ x, (kidP P k e (full P).length)[m]? = some x := ⟨_, List.getElem?_eq_getElem hm⟩
  refine ⟨x, ?_, ?_, ?_⟩
  · rw [gp_kids hg hk hE, List.getElem?_append_left hm, hx]
  · rw [g1, List.getElem?_map, hx]
    rfl
  · have hmem := List.mem_of_getElem? hx
    unfold kidP at hmem
    obtain ⟨a, b⟩ := List.mem_filter.mp hmem
    obtain ⟨b1, b2, b3⟩ := of_decide_eq_true b
    refine ⟨b1, b2, b3, ?_⟩
    obtain ⟨y, hy⟩ : ∃ y, (full P)[x]? = some y := ⟨_, List.getElem?_eq_getElem (by omega)⟩
    cases y with
    | true => exact hy
    | false =>
      have s := ht_succ hy
      have := h4 (x + 1) (by omega) (by omega)
      simp only [Bool.false_eq_true, if_false] at s
      omega
end
/-! ### lists of heights -/
section
variable {L : List Bool} {n p h : Nat}
theorem div_at (p n : Nat) : p / n * n + p % n = p := by rw [Nat.mul_comm]; exact Nat.div_add_mod p n
/-- going back within a block -/
theorem bk_in {b : Nat} {v : Int} (hn : 1 ≤ n) (hp : p < L.length) (hb : IsBk L p v b) : (b / n = p / n → (hcut L (p / n * n) (p % n + 1))[b % n]? = some v ∧ ∀ i, b % n < i → (hcut L (p / n * n) (p % n + 1))[i]? ≠ some v) ∧ (b / n ≠ p / n → v ∉ hcut L (p / n * n) (p % n + 1)) := by
  obtain ⟨b1, b2, b3⟩ := hb
  have hp0 := div_at p n
  have hb0 := div_at b n
  constructor
  · intro e
    rw [e] at hb0
    refine ⟨?_, fun i hi z => ?_⟩
    · rw [hcut_at (by omega) (by omega), hb0, b2]
    · obtain ⟨z1, z2, z3⟩ := hcut_inv z
      have := b3 (p / n * n + i) (by omega) (by omega)
      omega
  · intro e z
    obtain ⟨i, i1, i2, i3, i4⟩ := mem_hcut.mp z
    have h1 : b / n ≤ p / n := Nat.div_le_div_right b1
    have h2 : b < p / n * n := by
      have a1 := blk_gt (f := b) hn (Nat.le_refl (b / n))
      have a2 : (b / n + 1) * n ≤ p / n * n := Nat.mul_le_mul_right _ (by omega)
      rw [Nat.succ_mul] at a2
      omega
    have := b3 i (by omega) (by omega)
    omega
/-- in the block where it is -/
theorem bk_there {b : Nat} {v : Int} (hn : 1 ≤ n) (hp : p < L.length) (hb : IsBk L p v b) (e : b / n ≠ p / n) : (hsg L n (b / n))[b % n]? = some v ∧ ∀ i, b % n < i → (hsg L n (b / n))[i]? ≠ some v := by
  obtain ⟨b1, b2, b3⟩ := hb
  have hb0 := div_at b n
  have hm := Nat.mod_lt b (show n > 0 by omega)
  have h1 : b / n ≤ p / n := Nat.div_le_div_right b1
  have a2 : (b / n + 1) * n ≤ p / n * n := Nat.mul_le_mul_right _ (by omega)
  have a3 := Nat.div_mul_le_self p n
  rw [Nat.succ_mul] at a2
  refine ⟨?_, fun i hi z => ?_⟩
  · rw [hsg, hcut_at (by omega) (by omega), hb0, b2]
  · obtain ⟨z1, z2, z3⟩ := hcut_inv z
    have := b3 (b / n * n + i) (by omega) (by omega)
    omega
/-- blocks between hold nothing so low -/
theorem bk_over {b m : Nat} {v : Int} (hn : 1 ≤ n) (hp : p < L.length) (hb : IsBk L p v b) (h1 : b / n < m) (h2 : m < p / n) : ¬ min (ht L (m * n)) (lmin (seg L n m)) ≤ v := by
  obtain ⟨b1, b2, b3⟩ := hb
  have a1 := blk_gt (f := b) hn (Nat.le_refl (b / n))
  have a2 : (b / n + 1) * n ≤ m * n := Nat.mul_le_mul_right _ (by omega)
  rw [Nat.succ_mul] at a2
  have a3 : (m + 1) * n ≤ p / n * n := Nat.mul_le_mul_right _ (by omega)
  rw [Nat.succ_mul] at a3
  have a4 := Nat.div_mul_le_self p n
  have c1 := b3 (m * n) (by omega) (by omega)
  obtain ⟨⟨i, i1, i2, i3, i4⟩, _⟩ := hcut_lmin (L := L) (a := m * n + 1) (m := n) (by omega) (by omega)
  have c2 := b3 i (by omega) (by omega)
  rw [seg_cut]
  omega
/-- the block itself holds it -/
theorem bk_hit {b : Nat} {v : Int} (hn : 1 ≤ n) (hp : p < L.length) (hb : IsBk L p v b) : min (ht L (b / n * n)) (lmin (seg L n (b / n))) ≤ v := by
  obtain ⟨b1, b2, b3⟩ := hb
  have hb0 := div_at b n
  have hm := Nat.mod_lt b (show n > 0 by omega)
  by_cases c : b % n = 0
  · rw [c, Nat.add_zero] at hb0
    rw [hb0, b2]
    omega
  · obtain ⟨_, hl⟩ := hcut_lmin (L := L) (a := b / n * n + 1) (m := n) (by omega) (by omega)
    have := hl b (by omega) (by omega) (by omega)
    rw [seg_cut]
    omega
/-- the end within the block -/
theorem en_in {e : Nat} (hn : 1 ≤ n) (hE : IsEn L p e) : (e / n = p / n → (hcut L (p + 1) (n - p % n))[e - p]? = some (ht L p) ∧ ∀ i, i < e - p → (hcut L (p + 1) (n - p % n))[i]? ≠ some (ht L p)) ∧ (e / n ≠ p / n → ht L p ∉ hcut L (p + 1) (n - p % n)) := by
  obtain ⟨e1, e2, e3, e4⟩ := hE
  have hp0 := div_at p n
  have he0 := div_at e n
  have hm := Nat.mod_lt p (show n > 0 by omega)
  have hme := Nat.mod_lt e (show n > 0 by omega)
  constructor
  · intro z
    rw [z] at he0
    refine ⟨?_, fun i hi z => ?_⟩
    · rw [hcut_at (by omega) (by omega), show p + 1 + (e - p) = e + 1 by omega, e3]
    · obtain ⟨z1, z2, z3⟩ := hcut_inv z
      have := e4 (p + 1 + i) (by omega) (by omega)
      omega
  · intro z hc
    obtain ⟨i, i1, i2, i3, i4⟩ := mem_hcut.mp hc
    have h1 : p / n ≤ e / n := Nat.div_le_div_right (by omega)
    have a2 : (p / n + 1) * n ≤ e / n * n := Nat.mul_le_mul_right _ (by omega)
    rw [Nat.succ_mul] at a2
    have := e4 i (by omega) (by omega)
    omega
theorem en_there {e : Nat} (hn : 1 ≤ n) (hE : IsEn L p e) (z : e / n ≠ p / n) : (seg L n (e / n))[e % n]? = some (ht L p) ∧ ∀ i, i < e % n → (seg L n (e / n))[i]? ≠ some (ht L p) := by
  obtain ⟨e1, e2, e3, e4⟩ := hE
  have he0 := div_at e n
  have hme := Nat.mod_lt e (show n > 0 by omega)
  have h1 : p / n ≤ e / n := Nat.div_le_div_right (by omega)
  have a1 := blk_gt (f := p) hn (Nat.le_refl (p / n))
  have a2 : (p / n + 1) * n ≤ e / n * n := Nat.mul_le_mul_right _ (by omega)
  rw [Nat.succ_mul] at a2
  rw [seg_cut]
  refine ⟨?_, fun i hi z => ?_⟩
  · rw [hcut_at (by omega) (by omega), show e / n * n + 1 + e % n = e + 1 by omega, e3]
  · obtain ⟨z1, z2, z3⟩ := hcut_inv z
    have := e4 (e / n * n + 1 + i) (by omega) (by omega)
    omega
theorem en_over {e m : Nat} (hn : 1 ≤ n) (hE : IsEn L p e) (h1 : p / n < m) (h2 : m < e / n) : ¬ lmin (seg L n m) ≤ ht L p := by
  obtain ⟨e1, e2, e3, e4⟩ := hE
  have a1 := blk_gt (f := p) hn (Nat.le_refl (p / n))
  have a2 : (p / n + 1) * n ≤ m * n := Nat.mul_le_mul_right _ (by omega)
  rw [Nat.succ_mul] at a2
  have a3 : (m + 1) * n ≤ e / n * n := Nat.mul_le_mul_right _ (by omega)
  rw [Nat.succ_mul] at a3
  have a4 := Nat.div_mul_le_self e n
  obtain ⟨⟨i, i1, i2, i3, i4⟩, _⟩ := hcut_lmin (L := L) (a := m * n + 1) (m := n) (by omega) (by omega)
  have c2 := e4 i (by omega) (by omega)
  rw [seg_cut]
  omega
theorem en_hit {e : Nat} (hn : 1 ≤ n) (hE : IsEn L p e) : lmin (seg L n (e / n)) ≤ ht L p := by
  obtain ⟨e1, e2, e3, e4⟩ := hE
  have he0 := div_at e n
  have hme := Nat.mod_lt e (show n > 0 by omega)
  obtain ⟨_, hl⟩ := hcut_lmin (L := L) (a := e / n * n + 1) (m := n) (by omega) (by omega)
  have := hl (e + 1) (by omega) (by omega) (by omega)
  rw [seg_cut]
  omega
end
/-! ### which blocks are read -/
def rdPlace (P : List Int) (n k : Nat) : List Nat := [pl P k / n]
def rdDepth (P : List Int) (n k : Nat) : List Nat := [pl P k / n]
noncomputable def rdKnot (P : List Int) (n j : Nat) : List Nat := if (full P)[j]? = some true then [j / n] else [j / n, bkP (full P) j (ht (full P) j - 1) / n]
noncomputable def rdAbove (P : List Int) (n k : Nat) : List Nat := if k = 0 then [pl P k / n] else [pl P k / n, bkP (full P) (pl P k) (ht (full P) (pl P k) - 1) / n]
noncomputable def rdBeneath (P : List Int) (n k : Nat) : List Nat := [pl P k / n, enP (full P) (pl P k) / n]
noncomputable def rdBeside (P : List Int) (n k : Nat) : List Nat := if enP (full P) (pl P k) + 1 = (full P).length then [pl P k / n, enP (full P) (pl P k) / n] else [pl P k / n, enP (full P) (pl P k) / n, (enP (full P) (pl P k) + 1) / n]
noncomputable def rdKids (P : List Int) (n k : Nat) : List Nat := [pl P k / n, enP (full P) (pl P k) / n]
noncomputable def rdKid (P : List Int) (n k m : Nat) : List Nat := if m < (kidL P k (P.length + 1)).length then [pl P k / n, enP (full P) (pl P k) / n, (fg (gaps (full P) n (pl P k) (enP (full P) (pl P k)) (ht (full P) (pl P k) + 1)) m).1] else [pl P k / n, enP (full P) (pl P k) / n]
noncomputable def rdElder (P : List Int) (n k m : Nat) : List Nat := if k = m then [] else [pl P (min k m) / n, pl P (max k m) / n, bkP (full P) (pl P (min k m)) (lowB (full P) (pl P (min k m)) (pl P (max k m)) - 1) / n]
theorem rdPlace_len (P : List Int) (n k : Nat) : (rdPlace P n k).length ≤ 1 := Nat.le_refl _
theorem rdDepth_len (P : List Int) (n k : Nat) : (rdDepth P n k).length ≤ 1 := Nat.le_refl _
theorem rdKnot_len (P : List Int) (n k : Nat) : (rdKnot P n k).length ≤ 2 := by unfold rdKnot; split <;> simp
theorem rdAbove_len (P : List Int) (n k : Nat) : (rdAbove P n k).length ≤ 2 := by unfold rdAbove; split <;> simp
theorem rdBeneath_len (P : List Int) (n k : Nat) : (rdBeneath P n k).length ≤ 2 := Nat.le_refl _
theorem rdBeside_len (P : List Int) (n k : Nat) : (rdBeside P n k).length ≤ 3 := by unfold rdBeside; split <;> simp
theorem rdKids_len (P : List Int) (n k : Nat) : (rdKids P n k).length ≤ 2 := Nat.le_refl _
theorem rdKid_len (P : List Int) (n k m : Nat) : (rdKid P n k m).length ≤ 3 := by unfold rdKid; split <;> simp
theorem rdElder_len (P : List Int) (n k m : Nat) : (rdElder P n k m).length ≤ 3 := by unfold rdElder; split <;> simp
end KB

set_option Elab.async false
set_option linter.all false
set_option maxRecDepth 100000
set_option maxHeartbeats 4000000
/-! Readings of expressions, beside those of HandS.Evl. -/
namespace KB
open PySem L2 Evl

/-! ### texts of bits -/
def txt (bs : List Bool) : Str := ⟨(codes bs).toArray⟩
theorem str_len (x : Str) : x.length = x.cps.toList.length := rfl
theorem str_app (x y : Str) : (x ++ y).cps = x.cps ++ y.cps := rfl
theorem txt_app (a b : List Bool) : txt a ++ txt b = txt (a ++ b) := by
  show Str.mk ((codes a).toArray ++ (codes b).toArray) = Str.mk (codes (a ++ b)).toArray
  rw [codes_app]; simp
theorem txt_len (a : List Bool) : (txt a).length = a.length := by
  show ((codes a).toArray).size = _
  simp [codes_len]
theorem txt_0 : ("0" : Str) = txt [false] := by decide +kernel
theorem txt_1 : ("1" : Str) = txt [true] := by decide +kernel
theorem txt_e : ("" : Str) = txt [] := by decide +kernel
theorem txt_cps (a : List Bool) : (txt a).cps.toList = codes a := by show (codes a).toArray.toList = _; simp
theorem codes_inj : ∀ {a b : List Bool}, codes a = codes b → a = b
  | [], [], _ => rfl
  | [], _ :: _, h => by cases h
  | _ :: _, [], h => by cases h
  | x :: a, y :: b, h => by
    have h' : code x :: codes a = code y :: codes b := h
    injection h' with h1 h2
    have e : x = y := by cases x <;> cases y <;> first | rfl | cases h1
    rw [e, codes_inj h2]
theorem txt_inj {a b : List Bool} (h : txt a = txt b) : a = b := by
  apply codes_inj
  rw [← txt_cps a, ← txt_cps b, h]

/-! ### values of parents -/
def oV : Option Int → V
  | none => .non
  | some i => .int i
def oD : Option Int → PyData
  | none => .none
  | some i => .int i
def pV (xs : List (Option Int)) : List V := xs.map oV
theorem pV_len (xs : List (Option Int)) : (pV xs).length = xs.length := List.length_map _
theorem oV_inj : ∀ {a b : Option Int}, oV a = oV b → a = b
  | none, none, _ => rfl
  | none, some _, h => by cases h
  | some _, none, h => by cases h
  | some a, some b, h => by
    have h' : V.int a = V.int b := h
    injection h' with e; rw [e]
section
variable {K : PySem.W.Frag} {H H' : Hp}
theorem dp_o : ∀ x : Option Int, Dp K H (oV x) (oD x)
  | none => .non
  | some i => .int i
theorem dpAll_o : ∀ xs : List (Option Int), DpAll K H (pV xs) (xs.map oD)
  | [] => .nil
  | x :: xs => .cons (dp_o x) (dpAll_o xs)
theorem dp_pV {a : Addr} {xs : List (Option Int)} (h : SqL K H a (pV xs)) : Dp K H (.ref a) (.list (xs.map oD)) := .lst h (dpAll_o xs)
theorem eqv_o : ∀ a b : Option Int, PyData.eqv (oD a) (oD b) = decide (a = b)
  | none, none => by simp [oD, PyData.eqv]
  | none, some _ => by simp [oD, PyData.eqv]
  | some _, none => by simp [oD, PyData.eqv]
  | some a, some b => by
    simp only [oD, PyData.eqv]
    by_cases h : a = b
    · subst h; simp
    · rw [decide_eq_false (fun z => h (Option.some.inj z))]
      exact beq_eq_false_iff_ne.mpr h
theorem eqvAll_o : ∀ xs ys : List (Option Int), PyData.eqvAll (xs.map oD) (ys.map oD) = decide (xs = ys)
  | [], [] => by simp [PyData.eqvAll]
  | [], _ :: _ => by simp [PyData.eqvAll]
  | _ :: _, [] => by simp [PyData.eqvAll]
  | x :: xs, y :: ys => by
    show PyData.eqvAll (oD x :: xs.map oD) (oD y :: ys.map oD) = _
    simp only [PyData.eqvAll]
    rw [eqv_o, eqvAll_o xs ys]
    by_cases h1 : x = y <;> by_cases h2 : xs = ys <;> simp [h1, h2]
theorem eqv_pV (xs ys : List (Option Int)) : PyData.eqv (.list (xs.map oD)) (.list (ys.map oD)) = decide (xs = ys) := by
  simp only [PyData.eqv]; exact eqvAll_o xs ys
theorem canAll_o : ∀ xs : List (Option Int), PyData.canLayAll0 (xs.map oD) = true
  | [] => by simp [PyData.canLayAll0]
  | none :: xs => by simp [PyData.canLayAll0, oD, PyData.canLay0, canAll_o xs]
  | some _ :: xs => by simp [PyData.canLayAll0, oD, PyData.canLay0, canAll_o xs]
end
theorem depthAll_o : ∀ xs : List (Option Int), PyData.depthAll (xs.map oD) = 0
  | [] => by simp [PyData.depthAll]
  | none :: xs => by simp [PyData.depthAll, oD, PyData.depth, depthAll_o xs]
  | some _ :: xs => by simp [PyData.depthAll, oD, PyData.depth, depthAll_o xs]
theorem shaped_o (xs : List (Option Int)) : SeqAt.shaped (.list (xs.map oD)) = true := by
  unfold SeqAt.shaped
  simp only [PyData.canLay0, canAll_o, PyData.depth, depthAll_o]
  rfl

/-! ### readings -/
section
variable {K : PySem.W.Frag} {σ : L2.St} {H H' : Hp} {ta tb tc te tx to : TE} {t u : TT} {x y z v : V} {r : R2}
theorem rv_addS {a b : Str} (h : a.length + b.length ≤ 100000) : RV (fun x y H Q => ∃ i j, x = .str i ∧ y = .str j ∧ i.length + j.length ≤ sizeLine ∧ Q (.str (i ++ j)) H) (.str a) (.str b) H (.str (a ++ b)) := fun H1 _ _ q => ⟨a, b, rfl, rfl, sz_of h, q H1 (Ex.refl H1)⟩
theorem rv_isN : RV (fun x y H Q => y = .non ∧ Q (.bl (decide (x = .non))) H) x .non H (.bl (decide (x = .non))) := fun H1 _ _ q => ⟨rfl, q H1 (Ex.refl H1)⟩
theorem rv_notN : RV (fun x y H Q => y = .non ∧ Q (.bl (!decide (x = .non))) H) x .non H (.bl (!decide (x = .non))) := fun H1 _ _ q => ⟨rfl, q H1 (Ex.refl H1)⟩
theorem rv_isBl {a b : Bool} : RV rIsB (.bl a) (.bl b) H (.bl (decide (a = b))) := fun H1 _ _ q => ⟨a, b, rfl, rfl, q H1 (Ex.refl H1)⟩
theorem rv_notBl {a b : Bool} : RV rNotB (.bl a) (.bl b) H (.bl (!decide (a = b))) := fun H1 _ _ q => ⟨a, b, rfl, rfl, q H1 (Ex.refl H1)⟩
mutual
theorem dp_ex (e : Ex H H') : ∀ (d : PyData) (v : V), Dp K H v d → Dp K H' v d
  | .none, _, h => by cases h; exact .non
  | .bool _, _, h => by cases h; exact .bl _
  | .int _, _, h => by cases h; exact .int _
  | .str _, _, h => by cases h; exact .str _
  | .list ds, _, h => by
    cases h with
    | lst hs ha => exact .lst (ex_l e hs) (dpAll_ex e ds _ ha)
  | .tuple ds, _, h => by
    cases h with
    | tup hs ha => exact .tup (ex_t e hs) (dpAll_ex e ds _ ha)
  | .dict _, _, h => by cases h
theorem dpAll_ex (e : Ex H H') : ∀ (ds : List PyData) (vs : List V), DpAll K H vs ds → DpAll K H' vs ds
  | [], _, h => by cases h; exact .nil
  | d :: ds, _, h => by
    cases h with
    | cons h1 h2 => exact .cons (dp_ex e d _ h1) (dpAll_ex e ds _ h2)
end
theorem rv_eqD {d f : PyData} (h1 : Dp K H x d) (h2 : Dp K H y f) (h3 : SeqAt.shaped d = true) (h4 : SeqAt.shaped f = true) : RV (rEqD K) x y H (.bl (PyData.eqv d f)) := fun H1 e _ q => ⟨d, f, dp_ex e _ _ h1, dp_ex e _ _ h2, h3, h4, q H1 (Ex.refl H1)⟩
theorem rv_neD {d f : PyData} (h1 : Dp K H x d) (h2 : Dp K H y f) (h3 : SeqAt.shaped d = true) (h4 : SeqAt.shaped f = true) : RV (rNeD K) x y H (.bl (!PyData.eqv d f)) := fun H1 e _ q => ⟨d, f, dp_ex e _ _ h1, dp_ex e _ _ h2, h3, h4, q H1 (Ex.refl H1)⟩
/-- two lists of parents -/
theorem rv_eqP {a b : Addr} {xs ys : List (Option Int)} (h1 : SqL K H a (pV xs)) (h2 : SqL K H b (pV ys)) : RV (rEqD K) (.ref a) (.ref b) H (.bl (decide (xs = ys))) := by
  have h := rv_eqD (H := H) (dp_pV h1) (dp_pV h2) (shaped_o xs) (shaped_o ys)
  rw [eqv_pV] at h; exact h
theorem rv_neP {a b : Addr} {xs ys : List (Option Int)} (h1 : SqL K H a (pV xs)) (h2 : SqL K H b (pV ys)) : RV (rNeD K) (.ref a) (.ref b) H (.bl (!decide (xs = ys))) := by
  have h := rv_neD (H := H) (dp_pV h1) (dp_pV h2) (shaped_o xs) (shaped_o ys)
  rw [eqv_pV] at h; exact h
theorem ev_slS {w : Str} {tl th : TO} {lo hi : Option Int} (h : Ev te σ H (.str w)) (h1 : EvO tl σ H lo) (h2 : EvO th σ H hi) (hl : w.length ≤ 100000) : Ev (tSl rSlS te tl th) σ H (.str (cutS w lo hi)) := fun H1 e _ q =>
  h H1 e _ fun H2 e2 => h1 H2 (e.trans e2) _ fun H3 e3 => h2 H3 ((e.trans e2).trans e3) _ fun H4 e4 => ⟨w, rfl, sz_of hl, q H4 ((e2.trans e3).trans e4)⟩
theorem ev_lenS {w : Str} (h : Ev te σ H (.str w)) (hl : w.length ≤ 100000) : Ev (tCB (fun xs H Q => ∃ z, xs = [.str z] ∧ z.length ≤ sizeLine ∧ Q (.int z.length) H) (tCons te tNil)) σ H (.int (w.length : Int)) := fun H1 e _ q =>
  h H1 e _ fun H2 e2 => ⟨w, rfl, sz_of hl, q H2 e2⟩
theorem tyx_ex {tv : Value} (e : Ex H H') (h : TyX K H x tv) : TyX K H' x tv := by
  cases h with
  | base h =>
    refine .base ?_
    cases h with
    | non => exact .non
    | bl => exact .bl _
    | int => exact .int _
    | str => exact .str _
    | flt => exact .flt _
    | lst ea => exact .lst (e _ _ ea)
    | frz ea => exact .frz (e _ _ ea)
    | tup ea => exact .tup (e _ _ ea)
    | dK ea => exact .dK (e _ _ ea)
    | dT ea => exact .dT (e _ _ ea)
    | ins ea cl a b c d => exact .ins (e _ _ ea) cl a b c d
  | byt b => exact .byt b
  | set ea => exact .set (e _ _ ea)
  | kList ea c => exact .kList ea c
  | kTuple ea c => exact .kTuple ea c
  | kDict ea c => exact .kDict ea c
  | fTuple ea => exact .fTuple (e _ _ ea)
  | fDict ea => exact .fDict (e _ _ ea)
theorem ev_isi {c : V} {tv uv : Value} {b : Bool} (h1 : Ev ta σ H x) (h2 : Ev tb σ H c) (k : ClsV c uv) (ty : TyX K H x tv) (hb : PySem.W.kitOne K tv uv = some b) : Ev (tCB (rIsi K) (tCons ta (tCons tb tNil))) σ H (.bl b) := fun H1 e _ q =>
  h1 H1 e _ fun H2 e2 => h2 H2 (e.trans e2) _ fun H3 e3 => ⟨x, c, tv, uv, b, rfl, k, tyx_ex ((e.trans e2).trans e3) ty, hb, q H3 (e2.trans e3)⟩
theorem ev_min2 {i j : Int} (ha : Ev ta σ H (.int i)) (hb : Ev tb σ H (.int j)) : Ev (tCB (fun xs H Q => ∃ i j, xs = [.int i, .int j] ∧ Q (.int (if j < i then j else i)) H) (tCons ta (tCons tb tNil))) σ H (.int (min i j)) := fun H1 e Q q =>
  ha H1 e _ fun H2 e2 => hb H2 (e.trans e2) _ fun H3 e3 => ⟨i, j, rfl, by
    have z : (if j < i then j else i) = min i j := by split <;> omega
    show Q (.int (if j < i then j else i)) H3
    rw [z]; exact q H3 (e2.trans e3)⟩
theorem tru_ex {k : Bool} (e : Ex H H') (h : TruV K x H k) : TruV K x H' k := by
  cases x with
  | ref p =>
    rcases h with ⟨xs, h, r⟩ | ⟨xs, h, r⟩ | ⟨kvs, h, r⟩
    · exact .inl ⟨xs, ex_l e h, r⟩
    · exact .inr (.inl ⟨xs, ex_t e h, r⟩)
    · exact .inr (.inr ⟨kvs, e _ _ h, r⟩)
  | _ => exact h
theorem et_truth {k : Bool} (h : Ev ta σ H x) (ht : TruV K x H k) : EvT (fun σ H Q => ta σ H fun x H' => ∃ k, TruV K x H' k ∧ Q k H') σ H k := fun H1 e _ q => h H1 e _ fun H2 e2 => ⟨k, tru_ex (e.trans e2) ht, q H2 e2⟩
theorem tru_l {a : Addr} {xs : List V} (h : SqL K H a xs) : TruV K (.ref a) H (!xs.isEmpty) := .inl ⟨xs, h, rfl⟩
/-- a < b < c of ints, the second by its own answer -/
theorem ev_chain {r' : R2} {b : Bool} {b2 : Bool} (h1 : Ev ta σ H x) (h2 : Ev tb σ H y) (hr : RV r x y H (.bl b)) (h3 : b = true → Ev tc σ H z) (hr2 : b = true → RV r' y z H (.bl b2)) : Ev (tChain r r' ta tb tc) σ H (.bl (b && b2)) := fun H1 e Q q =>
  h1 H1 e _ fun H2 e2 => h2 H2 (e.trans e2) _ fun H3 e3 => hr H3 ((e.trans e2).trans e3) _ fun H4 e4 => ⟨b, rfl, by
    cases b with
    | true =>
      show tc σ H4 _
      exact h3 rfl H4 (((e.trans e2).trans e3).trans e4) _ fun H5 e5 => hr2 rfl H5 ((((e.trans e2).trans e3).trans e4).trans e5) _ fun H6 e6 => q H6 ((((e2.trans e3).trans e4).trans e5).trans e6)
    | false =>
      show Q (.bl false) H4
      exact q H4 ((e2.trans e3).trans e4)⟩
theorem ev_join {a : Str} {p : Addr} {ys : List Str} (h1 : Ev to σ H (.str a)) (h2 : Ev te σ H (.ref p)) (hs : SqL K H p (ys.map V.str)) (hl : (ys.map (·.length)).sum + ys.length * a.length ≤ 16777216) :
    Ev (tM1 (fun x xs H Q => ∃ a p, ∃ ys : List Str, x = .str a ∧ xs = [.ref p] ∧ (SqL K H p (ys.map V.str) ∨ SqT K H p (ys.map V.str)) ∧ (ys.map (·.length)).sum + ys.length * a.length ≤ 16777216 ∧ Q (.str (Txt.join a ys)) H) to te) σ H (.str (Txt.join a ys)) := fun H1 e Q q =>
  h1 H1 e _ fun H2 e2 => ⟨⟨a, rfl⟩, h2 H2 (e.trans e2) _ fun H3 e3 => ⟨a, p, ys, rfl, rfl, .inl (ex_l ((e.trans e2).trans e3) hs), hl, q H3 (e2.trans e3)⟩⟩
theorem ev_fld {a C dx : Addr} {fs : List (Str × V)} {f : Str} (h : Ev ta σ H (.ref a)) (ho : H a = some (.ins C dx fs)) (hc : Cls K C) (hn : NoAttr K C f) (hl : fs.lookup f = some v) : Ev (tFld K ta f) σ H v := fun H1 e _ q =>
  h H1 e _ fun H2 e2 => ⟨a, C, dx, fs, v, rfl, (e.trans e2) _ _ ho, hc, hn, hl, q H2 e2⟩
theorem rv_inS {c : Nat} {w : Str} : RV (fun x y H Q => ∃ (c : Nat) (z : Str), x = .str ⟨#[c]⟩ ∧ y = .str z ∧ Q (.bl (decide (c ∈ z.cps.toList))) H) (.str ⟨#[c]⟩) (.str w) H (.bl (decide (c ∈ w.cps.toList))) := fun H1 _ _ q => ⟨c, w, rfl, rfl, q H1 (Ex.refl H1)⟩
theorem rv_notInS {c : Nat} {w : Str} : RV (fun x y H Q => ∃ (c : Nat) (z : Str), x = .str ⟨#[c]⟩ ∧ y = .str z ∧ Q (.bl (!decide (c ∈ z.cps.toList))) H) (.str ⟨#[c]⟩) (.str w) H (.bl (!decide (c ∈ w.cps.toList))) := fun H1 _ _ q => ⟨c, w, rfl, rfl, q H1 (Ex.refl H1)⟩
/-- list + list, both new -/
theorem el_catLL {xs ys : List V} (h1 : EvL ta σ H xs) (h2 : EvL tb σ H ys) (hl : xs.length + ys.length ≤ 100000) : EvL (tOp rCat ta tb) σ H (xs ++ ys) := fun H1 e Q q =>
  h1 H1 e _ fun p H2 hp e2 h2' => h2 H2 (e.trans e2) _ fun p2 H3 hp2 e3 h3' => ⟨p, p2, xs, ys, rfl, rfl, e3 _ _ h2', h3', sz_of hl, fun l hl => q l _ (fresh_back (e2.trans e3) hl) ((e2.trans e3).trans (Ex.new hl)) upd_same⟩

/-! ### statements -/
variable {D : Ends} {tz : TS}
theorem s_pop {l : Addr} {xs : List V} {y : V} (hl : H l = some (.lst xs)) (ha : Ev ta σ H (.ref l)) (hy : xs[xs.length - 1]? = some y) (k : ∀ H1, Ex H H1 → D.nx σ (upd H1 l (.lst xs.dropLast))) :
    tDrop (tBM0 K "list" rPop ta) D σ H := ha H (Ex.refl H) _ fun H1 e1 => ⟨Or.inl ⟨rfl, xs, sq_of (e1 l _ hl)⟩, l, xs, y, rfl, rfl, e1 l _ hl, hy, k H1 e1⟩
theorem q_pop {l : Addr} {xs : List V} {y : V} (hl : H l = some (.lst xs)) (ha : Ev ta σ H (.ref l)) (hy : xs[xs.length - 1]? = some y) (k : ∀ H1, Ex H H1 → tz D σ (upd H1 l (.lst xs.dropLast))) :
    tSeq (tDrop (tBM0 K "list" rPop ta)) tz D σ H := s_pop (D := { D with nx := tz D }) hl ha hy k
end

/-! ### a list of one's own: new since H0 -/
structure Own (H0 H : Hp) (a : Addr) (xs : List V) : Prop where
  nw : H0 a = none
  at_ : H a = some (.lst xs)
section
variable {K : PySem.W.Frag} {H0 H H' : Hp} {a b : Addr} {xs ys : List V} {o : HO}
theorem Own.sq (h : Own H0 H a xs) : SqL K H a xs := sq_of h.at_
theorem Own.ex (h : Own H0 H a xs) (e : Ex H H') : Own H0 H' a xs := ⟨h.nw, e _ _ h.at_⟩
theorem Own.back {H1 : Hp} (h : Own H1 H a xs) (e : Ex H0 H1) : Own H0 H a xs := ⟨fresh_back e h.nw, h.at_⟩
theorem Own.put (h : Own H0 H a xs) : Own H0 (upd H' a (.lst ys)) a ys := ⟨h.nw, upd_same⟩
theorem Own.off (h : Own H0 H a xs) (n : a ≠ b) : Own H0 (upd H b o) a xs := ⟨h.nw, by rw [upd_ne n]; exact h.at_⟩
theorem Own.ne (h : Own H0 H a xs) (hb : H b = none) : a ≠ b := ne_of_none h.at_ hb
end

/-! ### "0" * n -/
def rMulS : R2 := fun x y H Q => ∃ (z : Str) (n : Int), x = .str z ∧ y = .int n ∧ z.length = 1 ∧ 0 ≤ n ∧ n ≤ 100000 ∧ Q (.str (Txt.mul z n)) H
theorem op_mulS {X : Cx} : OpR X (binaryOp .Mult) rMulS := by
  intro pins s σ H x y v u Q I rx ry h
  obtain ⟨z, n, rfl, rfl, hz, h0, h1, q⟩ := h
  obtain ⟨t, rfl⟩ := rx
  obtain ⟨t2, rfl⟩ := ry
  refine SB.mul ?_ (fun t' k => ⟨.str (Txt.mul z n), H, I.tok k, ⟨t', rfl⟩, q⟩)
  refine ⟨?_, fun h2 _ => ?_, fun h2 _ => ?_⟩
  · rw [decide_eq_false (by omega), decide_eq_false (by omega)]; rfl
  · rw [hz]
    intro c
    have hn : (1 : Int) ≤ n := by omega
    have h3 : n ≤ (2 ^ 63 - 1) := by omega
    have h4 : (1 : Int) ≤ (2 ^ 63 - 1) / n := (Int.le_ediv_iff_mul_le (by omega)).mpr (by omega)
    have c' : ((1 : Nat) : Int) > (2 ^ 63 - 1) / n := c
    omega
  · rw [hz, Nat.one_mul]
    unfold PySem.Builtin.Str.tooLong
    exact decide_eq_false (by
      have : n.toNat ≤ 100000 := by omega
      have h5 : (100000 : Nat) ≤ sizeLine := by decide
      omega)
theorem mul_one (c : Nat) : ∀ n : Nat, (List.replicate n (#[c] : Array Nat)).foldl (· ++ ·) #[] = (List.replicate n c).toArray := by
  have g : ∀ (n : Nat) (acc : List Nat), (List.replicate n (#[c] : Array Nat)).foldl (· ++ ·) acc.toArray = (acc ++ List.replicate n c).toArray := by
    intro n
    induction n with
    | zero => intro acc; simp
    | succ n ih =>
      intro acc
      rw [List.replicate_succ, List.foldl_cons]
      have e : acc.toArray ++ #[c] = (acc ++ [c]).toArray := by simp
      rw [e, ih (acc ++ [c]), List.replicate_succ, List.append_assoc]
      rfl
  intro n
  have h := g n []
  simpa using h
theorem mul_0 (n : Int) (h0 : 0 ≤ n) : Txt.mul ("0" : Str) n = txt (List.replicate n.toNat false) := by
  rw [txt_0]
  unfold Txt.mul
  by_cases h : n < 1
  · have e : n = 0 := by omega
    subst e
    rw [if_pos h]; rfl
  · rw [if_neg h]
    by_cases h2 : n = 1
    · subst h2; rfl
    · have h3 : (n == 1 || (txt [false]).length == 0) = false := by
        rw [txt_len]
        simp [h2]
      rw [h3, if_neg (by decide)]
      show Str.mk ((List.replicate n.toNat (#[48] : Array Nat)).foldl (· ++ ·) #[]) = Str.mk (codes (List.replicate n.toNat false)).toArray
      rw [mul_one]
      unfold codes
      rw [List.map_replicate]
      rfl
section
variable {σ : L2.St} {H : Hp} {te : TE}
theorem rv_mulS {n : Int} (h : 0 ≤ n ∧ n ≤ 100000) : RV rMulS (.str ("0" : Str)) (.int n) H (.str (txt (List.replicate n.toNat false))) := fun H1 _ Q q => by
  refine ⟨"0", n, rfl, rfl, by decide +kernel, h.1, h.2, ?_⟩
  rw [mul_0 n h.1]
  exact q H1 (Ex.refl H1)
end
/-! ### join of pieces -/
def catS (ys : List Str) : List Nat := (ys.map (fun y => y.cps.toList)).flatten
theorem catS_app (a b : List Str) : catS (a ++ b) = catS a ++ catS b := by unfold catS; rw [List.map_append, List.flatten_append]
theorem catS_one (y : Str) : catS [y] = y.cps.toList := by unfold catS; simp
theorem join_fold : ∀ (ps : List Str) (acc : Array Nat), (ps.foldl (fun acc p => acc ++ (Str.empty).cps ++ p.cps) acc) = acc ++ (catS ps).toArray
  | [], acc => by simp [catS]
  | p :: ps, acc => by
    rw [List.foldl_cons, join_fold ps]
    have e : catS (p :: ps) = p.cps.toList ++ catS ps := by unfold catS; simp
    rw [e]
    have e2 : (Str.empty).cps = #[] := rfl
    rw [e2]
    apply Array.toList_inj.mp
    simp
theorem empty_is : ("" : Str) = Str.empty := by decide +kernel
theorem join_cat (ps : List Str) : Txt.join ("" : Str) ps = ⟨(catS ps).toArray⟩ := by
  rw [empty_is]
  show Str.mk ((ps.drop 1).foldl (fun acc p => acc ++ (Str.empty).cps ++ p.cps) (ps.headD Str.empty).cps) = _
  rw [join_fold]
  cases ps with
  | nil => rfl
  | cons p ps =>
    have e : catS (p :: ps) = p.cps.toList ++ catS ps := by unfold catS; simp
    rw [e]
    show Str.mk (p.cps ++ (catS ps).toArray) = _
    congr 1
    apply Array.toList_inj.mp
    simp
theorem catS_sum : ∀ ps : List Str, (ps.map (·.length)).sum = (catS ps).length
  | [] => rfl
  | p :: ps => by
    have e : catS (p :: ps) = p.cps.toList ++ catS ps := by unfold catS; simp
    rw [e, List.map_cons, List.sum_cons, catS_sum ps, List.length_append]
    rfl
end KB
namespace KB
open PySem PySem.Spec PyProof.Rows L2 Evl
/-- z[::-1] -/
def revS (z : Str) : Str := Txt.sliceBy z none none (-1, 0)
theorem revS_len (z : Str) : (revS z).length = z.length := step_rev_len z 0
def tRevS (te : TE) : TE := fun σ H Q => te σ H fun x H1 => ∃ z, x = .str z ∧ z.length ≤ sizeLine ∧ Q (.str (revS z)) H1
section
variable {X : Cx}
theorem pe_revS {e : Expr} {te : TE} {k : Nat} {p1 p2 p3 pos : Pos} (he : PE X e te) : PE X (.Subscript e (.Slice none none (some (.UnaryOp .USub (.Constant (.int 1) k p1) p2)) p3) pos) (tRevS te) := by
  refine ⟨fun pins s σ H Q I h => ?_⟩
  refine Subscript_ (thn (he.run pins s σ H _ I h) fun v s1 ⟨x, H1, I1, r1, q1⟩ => ?_)
  obtain ⟨z, ex, hz, q⟩ := q1
  subst ex
  obtain ⟨t, rfl⟩ := r1
  have hst : PO X (some (.UnaryOp .USub (.Constant (.int 1) k p1) p2)) (tPart (tUn (rU fun i => .int (-i)) (tC (.int 1)))) := po_some (pe_un un_neg pe_int)
  refine wpAny_Slice (thn (po_none.run pins s1 σ H1 (fun o H2 => o = none ∧ H2 = H1) I1 ⟨rfl, rfl⟩) fun vl s2 ⟨l, H2, I2, pl, el, e2⟩ => ?_)
  subst el e2
  refine thn (po_none.run pins s2 σ H2 (fun o H3 => o = none ∧ H3 = H2) I2 ⟨rfl, rfl⟩) fun vu s3 ⟨u, H3, I3, pu, eu, e3⟩ => ?_
  subst eu e3
  refine thn (hst.run pins s3 σ H3 (fun o H4 => o = some (-1) ∧ H4 = H3) I3 ⟨1, rfl, -1, rfl, rfl, rfl⟩) fun vs s4 ⟨o, H4, I4, ps, eo, e4⟩ => ?_
  subst eo e4
  obtain ⟨l, hl1, hl2⟩ := IsPart.raw pl
  obtain ⟨u, hu1, hu2⟩ := IsPart.raw pu
  obtain ⟨st, hs1, hs2⟩ := IsPart.raw ps
  subst hl1 hu1 hs1
  cases l with
  | some _ => cases hl2
  | none =>
    cases u with
    | some _ => cases hu2
    | none =>
      cases st with
      | none => cases hs2
      | some p =>
        obtain ⟨i, tk⟩ := p
        have hi : (-1 : Int) = i := (Option.some.inj hs2).symm
        subst hi
        have I5 : Inv X pins σ H4 { s4 with heap := s4.heap.push { cls := .type "slice", data := .fields #[partValue none, partValue none, partValue (some (-1, tk))] } } := I4.kept (t' := s4.toks) fun b ob q => Heap.get?_push_of_some _ q
        show wpAny (model X.prog X.w) X.A (subscriptTail e (.Slice none none (some (.UnaryOp .USub (.Constant (.int 1) k p1) p2)) p3) (.str z t) (.ref s4.heap.objs.size)) (EP X pins σ Q) X.xe { s4 with heap := s4.heap.push { cls := .type "slice", data := .fields #[partValue none, partValue none, partValue (some (-1, tk))] } }
        refine tail_any (ops := [.str z t, .ref s4.heap.objs.size]) (typeIs_str _ _ _) F.slot_str_getitem.lookup ?_ (by with_unfolding_all rfl)
        refine wpAny_getItem_str_slice (l := none) (u := none) (st := some (-1, tk)) ⟨_, Heap.get?_push_size _ rfl, rfl, rfl⟩ rfl ?_
        have hlen := step_rev_len z tk
        have hq : Q (.str (Txt.sliceBy z none none (-1, tk))) H4 := q
        unfold sliceMade
        unfold Txt.sliceBy at hlen hq
        have hc : ((((some ((-1 : Int), tk)).map (·.1)).getD 1 == 1 && (slicePicked z none none (some (-1, tk))).length == z.length)) = false := rfl
        rw [hc] at hlen hq ⊢
        rw [if_neg Bool.false_ne_true] at hlen hq ⊢
        exact ⟨by rw [hlen]; exact hz, .str _, H4, I5.tok _, ⟨_, rfl⟩, hq⟩
end
theorem ev_revS {σ : L2.St} {H : Hp} {te : TE} {z : Str} (h : Ev te σ H (.str z)) (hl : z.length ≤ 100000) : Ev (tRevS te) σ H (.str (revS z)) := fun H1 e _ q => h H1 e _ fun H2 e2 => ⟨z, rfl, sz_of hl, q H2 e2⟩
theorem mul_1s (n : Int) (h0 : 0 ≤ n) : Txt.mul ("1" : Str) n = txt (List.replicate n.toNat true) := by
  rw [txt_1]
  unfold Txt.mul
  by_cases h : n < 1
  · have e : n = 0 := by omega
    subst e
    rw [if_pos h]; rfl
  · rw [if_neg h]
    by_cases h2 : n = 1
    · subst h2; rfl
    · have h3 : (n == 1 || (txt [true]).length == 0) = false := by
        rw [txt_len]
        simp [h2]
      rw [h3, if_neg (by decide)]
      show Str.mk ((List.replicate n.toNat (#[49] : Array Nat)).foldl (· ++ ·) #[]) = Str.mk (codes (List.replicate n.toNat true)).toArray
      rw [mul_one]
      unfold codes
      rw [List.map_replicate]
      rfl
theorem rv_mulS1 {H : Hp} {n : Int} (h : 0 ≤ n ∧ n ≤ 100000) : RV rMulS (.str ("1" : Str)) (.int n) H (.str (txt (List.replicate n.toNat true))) := fun H1 _ Q q => by
  refine ⟨"1", n, rfl, rfl, by decide +kernel, h.1, h.2, ?_⟩
  rw [mul_1s n h.1]
  exact q H1 (Ex.refl H1)
end KB

set_option Elab.async false
set_option linter.all false
set_option maxRecDepth 100000
set_option maxHeartbeats 8000000

namespace KB
open PySem L2 Evl
/-! ### stacks as lists -/
def stk (st : List Int) : List V := st.reverse.map V.int
theorem stk_cons (x : Int) (st : List Int) : stk (x :: st) = stk st ++ [.int x] := by unfold stk; rw [List.reverse_cons, List.map_append]; rfl
theorem stk_len (st : List Int) : (stk st).length = st.length := by unfold stk; rw [List.length_map, List.length_reverse]
theorem stk_last (x : Int) (st : List Int) : atI (stk (x :: st)) (-1) = some (.int x) := by rw [stk_cons]; exact atI_last _ _
theorem stk_top (x : Int) (st : List Int) : (stk (x :: st))[(stk (x :: st)).length - 1]? = some (.int x) := by
  rw [stk_cons, List.length_append, List.length_singleton, Nat.add_sub_cancel]; simp
theorem stk_pop (x : Int) (st : List Int) : (stk (x :: st)).dropLast = stk st := by rw [stk_cons]; simp
theorem stk_cut (st : List Int) (j : Nat) {h : Int} (hh : h = ((st.length - j : Nat) : Int)) : cutV (stk st) none (some h) = stk (st.drop j) := by
  subst hh
  unfold cutV
  rw [HT.sIx_none, HT.sIx_nat, stk_len, Nat.min_eq_left (Nat.sub_le _ _), Nat.sub_zero, List.drop_zero]
  unfold stk
  rw [← List.map_take, List.take_reverse]
  congr 2
  by_cases hj : j ≤ st.length
  · rw [Nat.sub_sub_self hj]
  · rw [show st.length - (st.length - j) = st.length by omega, List.drop_length, List.drop_eq_nil_of_le (by omega)]
theorem stk_emp (st : List Int) : (stk st).isEmpty = st.isEmpty := by
  cases st with
  | nil => rfl
  | cons x r => rw [stk_cons]; simp
theorem atI_six {a0 a1 a2 a3 a4 a5 : Int} (h0 : 0 ≤ a0) (h1 : 0 ≤ a1) (h2 : 0 ≤ a2) (h3 : 0 ≤ a3) (h4 : 0 ≤ a4) (h5 : 0 ≤ a5) {i : Int} (hi : 0 ≤ i) (hi2 : i < 6) :
    ∃ u, 0 ≤ u ∧ atI [V.int a0, .int a1, .int a2, .int a3, .int a4, .int a5] i = some (.int u) := by
  have h : i = 0 ∨ i = 1 ∨ i = 2 ∨ i = 3 ∨ i = 4 ∨ i = 5 := by omega
  rcases h with rfl | rfl | rfl | rfl | rfl | rfl
  · exact ⟨a0, h0, rfl⟩
  · exact ⟨a1, h1, rfl⟩
  · exact ⟨a2, h2, rfl⟩
  · exact ⟨a3, h3, rfl⟩
  · exact ⟨a4, h4, rfl⟩
  · exact ⟨a5, h5, rfl⟩
theorem pV_app (xs : List (Option Int)) (p : Int) : pV (xs ++ [some p]) = pV xs ++ [.int p] := by unfold pV; rw [List.map_append]; rfl
/-! ### a list of ints as data -/
theorem dpAll_int {K : PySem.W.Frag} {H : Hp} : ∀ ns : List Int, DpAll K H (ns.map V.int) (ns.map PyData.int)
  | [] => .nil
  | n :: ns => .cons (.int n) (dpAll_int ns)
theorem canAll_int : ∀ ns : List Int, PyData.canLayAll0 (ns.map PyData.int) = true
  | [] => by simp [PyData.canLayAll0]
  | n :: ns => by simp [PyData.canLayAll0, PyData.canLay0, canAll_int ns]
theorem depthAll_int : ∀ ns : List Int, PyData.depthAll (ns.map PyData.int) = 0
  | [] => by simp [PyData.depthAll]
  | n :: ns => by simp [PyData.depthAll, PyData.depth, depthAll_int ns]
theorem shaped_int (ns : List Int) : SeqAt.shaped (.list (ns.map PyData.int)) = true := by
  unfold SeqAt.shaped
  simp only [PyData.canLay0, canAll_int, PyData.depth, depthAll_int]
  rfl
theorem shaped_nil : SeqAt.shaped (.list []) = true := shaped_int []
theorem eqv_nil (ns : List Int) : PyData.eqv (.list (ns.map PyData.int)) (.list []) = decide (ns = []) := by
  cases ns with
  | nil => simp [PyData.eqv, PyData.eqvAll]
  | cons n r => simp [PyData.eqv, PyData.eqvAll]
theorem rv_neNil {K : PySem.W.Frag} {H : Hp} {a b : Addr} {st : List Int} (h1 : SqL K H a (stk st)) (h2 : SqL K H b []) : RV (rNeD K) (.ref a) (.ref b) H (.bl (!decide (st = []))) := by
  have h := rv_neD (H := H) (x := .ref a) (y := .ref b) (.lst h1 (dpAll_int st.reverse)) (.lst h2 .nil) (shaped_int _) shaped_nil
  rw [eqv_nil] at h
  have e : decide (st.reverse = []) = decide (st = []) := by cases st <;> simp
  rw [e] at h
  exact h
/-! ### the bits, turn by turn -/
def rs (P : List Int) : Nat → List Int
  | 0 => []
  | i + 1 => (run (P.take i)).st
def rb (P : List Int) : Nat → List Bool
  | 0 => []
  | i + 1 => (run (P.take i)).bs
theorem bits_turn {P : List Int} (hg : Good P) {i : Nat} (hi : i ≤ P.length) : ∃ (J : Nat) (p : Int), (∀ j, j < J → ∃ q, (rs P i)[j]? = some q ∧ q ≠ p) ∧ J ≤ (rs P i).length ∧ (J = (rs P i).length ∨ (rs P i)[J]? = some p) ∧
    (rs P i ≠ [] → (pV (par P))[i]? = some (.int p)) ∧ rs P (i + 1) = (i : Int) :: (rs P i).drop J ∧ rb P (i + 1) = rb P i ++ List.replicate J false ++ [true] := by
  cases i with
  | zero =>
    exact ⟨0, 0, fun j h => absurd h (Nat.not_lt_zero _), Nat.le_refl _, .inl rfl, fun h => absurd rfl h, rfl, rfl⟩
  | succ i =>
    have hlt : i < P.length := hi
    obtain ⟨p, hp⟩ : ∃ p, P[i]? = some p := ⟨_, List.getElem?_eq_getElem hlt⟩
    obtain ⟨j, hj, e, er⟩ := good_place hg hp
    refine ⟨j, p, fun l hl => ?_, Nat.le_of_lt hj, .inr e, fun _ => ?_, ?_, ?_⟩
    · have hl' : l < (run (P.take i)).st.length := Nat.lt_trans hl hj
      refine ⟨_, List.getElem?_eq_getElem hl', ?_⟩
      have z := fall_inj (fall_run _).pw (List.getElem?_eq_getElem hl') e hl
      omega
    · unfold pV par
      rw [List.map_cons, List.getElem?_cons_succ, List.map_map, List.getElem?_map, hp]
      rfl
    · show (run (P.take (i + 1))).st = _
      rw [er]; rfl
    · show (run (P.take (i + 1))).bs = _
      rw [er]; rfl
theorem rb_le {P : List Int} {i : Nat} (hi : i ≤ P.length + 1) : (rb P i).length + (rs P i).length ≤ 2 * (P.length + 1) := by
  cases i with
  | zero => simp [rb, rs]
  | succ i =>
    have h := sum_run (P.take i)
    rw [List.length_take] at h
    show (run (P.take i)).bs.length + (run (P.take i)).st.length ≤ _
    omega
/-! ### facts of values, promises -/
def isInt : V → Bool
  | .int _ => true
  | _ => false
section
variable {K : PySem.W.Frag} {H H' : Hp}
/-- a value whose kind is known -/
def Kd (K : PySem.W.Frag) (H : Hp) (x : V) : Prop := ∃ tv b1 b2, TyX K H x tv ∧ PySem.W.kitOne K tv (.type "int") = some b1 ∧ PySem.W.kitOne K tv (.type "bool") = some b2 ∧ (b1 && !b2) = isInt x
theorem Kd.ex {x : V} (e : Ex H H') (h : Kd K H x) : Kd K H' x := by
  obtain ⟨tv, b1, b2, h1, h2⟩ := h
  exact ⟨tv, b1, b2, tyx_ex e h1, h2⟩
theorem kd_int (i : Int) : Kd K H (.int i) := ⟨_, true, false, .base (.int i), kit_ty (by decide +kernel), kit_ty (by decide +kernel), rfl⟩
theorem kd_non : Kd K H .non := ⟨_, false, false, .base .non, kit_ty (by decide +kernel), kit_ty (by decide +kernel), rfl⟩
theorem kd_bl (b : Bool) : Kd K H (.bl b) := ⟨_, true, true, .base (.bl b), kit_ty (by decide +kernel), kit_ty (by decide +kernel), rfl⟩
theorem kd_str (z : Str) : Kd K H (.str z) := ⟨_, false, false, .base (.str z), kit_ty (by decide +kernel), kit_ty (by decide +kernel), rfl⟩
theorem kd_lst {a : Addr} {xs : List V} (h : H a = some (.lst xs)) : Kd K H (.ref a) := ⟨_, false, false, .base (.lst h), kit_ty (by decide +kernel), kit_ty (by decide +kernel), rfl⟩
theorem kd_tup {a : Addr} {xs : List V} (h : H a = some (.tup xs)) : Kd K H (.ref a) := ⟨_, false, false, .base (.tup h), kit_ty (by decide +kernel), kit_ty (by decide +kernel), rfl⟩
theorem kd_o : ∀ x : Option Int, Kd K H (oV x)
  | none => kd_non
  | some i => kd_int i
theorem kd_pV {xs : List (Option Int)} {x : V} (h : x ∈ pV xs) : Kd K H x := by
  obtain ⟨o, _, rfl⟩ := List.mem_map.mp h
  exact kd_o o
end
/-! ### the script's cells -/
def cell (ns : List Int) (k : Nat) : Int := if k < ns.length then (ns.getD k 0 * 48271 + 7919 * (k : Int) + 13) % 1000003 else 7919 * (k : Int) % 1000003
theorem cell_ge (ns : List Int) (k : Nat) : 0 ≤ cell ns k := by
  unfold cell; split <;> omega
theorem cell_lt (ns : List Int) (k : Nat) : cell ns k < 1000003 := by
  unfold cell; split <;> omega
def spCel (K : PySem.W.Frag) : Sp := fun vs H Q _ => ∃ (a : Addr) (ns : List Int) (k : Nat), vs = [.ref a, .int k] ∧ SqL K H a (ns.map V.int) ∧ ∀ H', Ex H H' → Q (.int (cell ns k)) H'
def spWhole (K : PySem.W.Frag) : Sp := fun vs H Q _ => ∃ (x : V), vs = [x] ∧ Kd K H x ∧ ∀ H', Ex H H' → Q (.bl (isInt x)) H'
section
variable {K : PySem.W.Frag} {H : Hp}
theorem sv_cell {a : Addr} {ns : List Int} {i : Int} (k : Nat) (hi : i = (k : Int)) (h : SqL K H a (ns.map V.int)) : SpV (spCel K) [.ref a, .int i] H (.int (cell ns k)) := fun H1 e Q q E => ⟨a, ns, k, by rw [hi], ex_l e h, q⟩
theorem sv_whole {x : V} (h : Kd K H x) : SpV (spWhole K) [x] H (.bl (isInt x)) := fun H1 e Q q E => ⟨x, rfl, h.ex e, q⟩
end
/-! ### the tree that the script tells -/
/-- the greatest number of knots is 160 -/
def spParents (K : PySem.W.Frag) : Sp := fun vs H Q _ => ∃ (a : Addr) (ns : List Int), vs = [.ref a] ∧ SqL K H a (ns.map V.int) ∧ ∀ P : List Int, Good P → P.length < 160 → ∀ p H', H p = none → Ex H H' → H' p = some (.lst (pV (par P))) → Q (.ref p) H'
def spBits (K : PySem.W.Frag) : Sp := fun vs H Q _ => ∃ (a : Addr) (P : List Int), vs = [.ref a] ∧ SqL K H a (pV (par P)) ∧ Good P ∧ P.length < 2000 ∧ ∀ H', Ex H H' → Q (.str (txt (full P))) H'
/-! ### which lists are those of trees -/
theorem pV_inj : ∀ {a b : List (Option Int)}, pV a = pV b → a = b
  | [], [], _ => rfl
  | [], _ :: _, h => by cases h
  | _ :: _, [], h => by cases h
  | x :: a, y :: b, h => by
    have h' : oV x :: pV a = oV y :: pV b := h
    injection h' with h1 h2
    rw [oV_inj h1, pV_inj h2]
theorem par_inj {P Q : List Int} (h : par P = par Q) : P = Q := by
  have h' : (none : Option Int) :: P.map some = none :: Q.map some := h
  injection h' with _ h2
  have h3 := congrArg (List.map (fun o : Option Int => o.getD 0)) h2
  rw [List.map_map, List.map_map] at h3
  have e : ((fun o : Option Int => o.getD 0) ∘ some) = id := rfl
  rw [e, List.map_id, List.map_id] at h3
  exact h3
def IsTree (xs : List V) (P : List Int) : Prop := xs = pV (par P) ∧ Good P ∧ P.length < 2000
theorem IsTree.uniq {xs : List V} {P Q : List Int} (h : IsTree xs P) (h2 : IsTree xs Q) : P = Q := par_inj (pV_inj (h.1.symm.trans h2.1))
open Classical in
noncomputable def bitsV (xs : List V) : Option (List Bool) := if h : ∃ P, IsTree xs P then some (full h.choose) else none
theorem bitsV_some {xs : List V} {P : List Int} (h : IsTree xs P) : bitsV xs = some (full P) := by
  have hx : ∃ P, IsTree xs P := ⟨P, h⟩
  unfold bitsV
  rw [dif_pos hx, hx.choose_spec.uniq h]
theorem bitsV_none {xs : List V} (h : ∀ P, ¬ IsTree xs P) : bitsV xs = none := by
  unfold bitsV
  rw [dif_neg (fun ⟨P, z⟩ => h P z)]
def resV : Option (List Bool) → V
  | some bs => .str (txt bs)
  | none => .non
/-- a thing, and the bits that it tells, if any -/
def Th (K : PySem.W.Frag) (H : Hp) (x : V) (r : Option (List Bool)) : Prop :=
  (∃ (a : Addr) (xs : List V), x = .ref a ∧ H a = some (.lst xs) ∧ xs.length ≤ 4000 ∧ (∀ y ∈ xs, Kd K H y) ∧ r = bitsV xs) ∨ (∃ tv, TyX K H x tv ∧ PySem.W.kitOne K tv (.type "list") = some false ∧ r = none)
theorem Th.ex {K : PySem.W.Frag} {H H' : Hp} {x : V} {r : Option (List Bool)} (e : Ex H H') (h : Th K H x r) : Th K H' x r := by
  rcases h with ⟨a, xs, h1, h2, h3, h4, h5⟩ | ⟨tv, h1, h2, h3⟩
  · exact .inl ⟨a, xs, h1, e _ _ h2, h3, fun y hy => (h4 y hy).ex e, h5⟩
  · exact .inr ⟨tv, tyx_ex e h1, h2, h3⟩
theorem th_tree {K : PySem.W.Frag} {H : Hp} {a : Addr} {P : List Int} (h : H a = some (.lst (pV (par P)))) (hg : Good P) (hl : P.length < 2000) : Th K H (.ref a) (some (full P)) :=
  .inl ⟨a, _, rfl, h, by rw [pV_len, par_len]; omega, fun y hy => kd_pV hy, (bitsV_some ⟨rfl, hg, hl⟩).symm⟩
def spBitsOf (K : PySem.W.Frag) : Sp := fun vs H Q _ => ∃ (x : V) (r : Option (List Bool)), vs = [x] ∧ Th K H x r ∧ ∀ H', Ex H H' → Q (resV r) H'
def spPressed (K : PySem.W.Frag) (C : Addr) : Sp := fun vs H Q E => ∃ (x : V) (r : Option (List Bool)), vs = [x] ∧ Th K H x r ∧ (∀ bs, r = some bs → ∀ H', Ex H H' → Q (.str (txt bs)) H') ∧ (r = none → ∀ H', Ex H H' → E (.ref C) none H')
def spIsTree (K : PySem.W.Frag) : Sp := fun vs H Q _ => ∃ (x : V) (r : Option (List Bool)), vs = [x] ∧ Th K H x r ∧ ∀ H', Ex H H' → Q (.bl r.isSome) H'
section
variable {K : PySem.W.Frag} {H : Hp}
theorem sv_bitsOf {x : V} {r : Option (List Bool)} (h : Th K H x r) : SpV (spBitsOf K) [x] H (resV r) := fun H1 e Q q E => ⟨x, r, rfl, h.ex e, q⟩
theorem sv_isTree {x : V} {r : Option (List Bool)} (h : Th K H x r) : SpV (spIsTree K) [x] H (.bl r.isSome) := fun H1 e Q q E => ⟨x, r, rfl, h.ex e, q⟩
theorem sv_pressed {x : V} {C : Addr} {bs : List Bool} (h : Th K H x (some bs)) : SpV (spPressed K C) [x] H (.str (txt bs)) := fun H1 e Q q E => ⟨x, _, rfl, h.ex e, fun b hb => by cases hb; exact q, fun z => nomatch z⟩
theorem sv_bits {a : Addr} {P : List Int} (h : SqL K H a (pV (par P))) (hg : Good P) (hl : P.length < 2000) : SpV (spBits K) [.ref a] H (.str (txt (full P))) := fun H1 e Q q E => ⟨a, P, rfl, ex_l e h, hg, hl, q⟩
end
theorem pop_to : ∀ (st : List Int) (p : Int), ∃ J, J ≤ st.length ∧ (∀ j, j < J → ∃ q, st[j]? = some q ∧ q ≠ p) ∧ ((J = st.length ∧ p ∉ st) ∨ st[J]? = some p)
  | [], p => ⟨0, Nat.le_refl _, fun j h => absurd h (Nat.not_lt_zero _), .inl ⟨rfl, by simp⟩⟩
  | a :: st, p => by
    by_cases h : a = p
    · exact ⟨0, Nat.zero_le _, fun j h => absurd h (Nat.not_lt_zero _), .inr (by rw [h]; rfl)⟩
    · obtain ⟨J, h1, h2, h3⟩ := pop_to st p
      refine ⟨J + 1, Nat.succ_le_succ h1, fun j hj => ?_, ?_⟩
      · cases j with
        | zero => exact ⟨a, rfl, h⟩
        | succ j =>
          obtain ⟨q, e1, e2⟩ := h2 j (Nat.lt_of_succ_lt_succ hj)
          exact ⟨q, by simpa using e1, e2⟩
      · rcases h3 with ⟨h3, h4⟩ | h3
        · refine .inl ⟨by rw [h3]; rfl, fun z => ?_⟩
          rcases List.mem_cons.mp z with z | z
          · exact h z.symm
          · exact h4 z
        · exact .inr (by simpa using h3)
theorem drop_cons {st : List Int} {j : Nat} {q : Int} (h : st[j]? = some q) : st.drop j = q :: st.drop (j + 1) := by
  obtain ⟨h1, h2⟩ := List.getElem?_eq_some_iff.mp h
  rw [List.drop_eq_getElem_cons h1, h2]
/-- what has been walked of a list is a tree -/
structure Pre (xs : List V) (i : Nat) (P : List Int) : Prop where
  tk : xs.take (i + 1) = pV (par P)
  ln : P.length = i
  gd : Good P
theorem take_pV (P : List Int) (i : Nat) : (pV (par P)).take (i + 1) = pV (par (P.take i)) := by
  unfold pV par
  rw [List.map_cons, List.take_succ_cons, List.map_cons, List.map_take, List.map_take]
theorem Pre.of {xs : List V} {i : Nat} {P Q : List Int} (h : Pre xs i P) (hq : xs = pV (par Q)) : Q.take i = P := by
  have e := h.tk
  rw [hq, take_pV] at e
  exact par_inj (pV_inj e)
theorem pV_at (P : List Int) (i : Nat) : (pV (par P))[i + 1]? = P[i]?.map V.int := by
  unfold pV par
  rw [List.map_cons, List.getElem?_cons_succ, List.map_map, List.getElem?_map]
  rfl
theorem Pre.no {xs : List V} {i : Nat} {P : List Int} (h : Pre xs i P) {y : V} (hy : xs[i + 1]? = some y) (hn : isInt y = false) : bitsV xs = none := bitsV_none fun Q ⟨hq, _, _⟩ => by
  rw [hq, pV_at] at hy
  cases e : Q[i]? with
  | none => rw [e] at hy; cases hy
  | some p =>
    rw [e] at hy
    cases hy
    cases hn
theorem Pre.off {xs : List V} {i : Nat} {P : List Int} (h : Pre xs i P) {p : Int} (hy : xs[i + 1]? = some (.int p)) (hn : p ∉ (run P).st) : bitsV xs = none := bitsV_none fun Q ⟨hq, hg, _⟩ => by
  have e := h.of hq
  rw [hq, pV_at] at hy
  cases e2 : Q[i]? with
  | none => rw [e2] at hy; cases hy
  | some r =>
    rw [e2] at hy
    have e3 : r = p := V.int.inj (Option.some.inj hy)
    subst e3
    have z := hg i r e2
    rw [e] at z
    exact hn z
theorem Pre.more {xs : List V} {i : Nat} {P : List Int} (h : Pre xs i P) {p : Int} (hy : xs[i + 1]? = some (.int p)) (hn : p ∈ (run P).st) : Pre xs (i + 1) (P ++ [p]) :=
  ⟨by rw [take_more hy, h.tk, par_app, pV_app], by rw [List.length_append, h.ln]; rfl, h.gd.app hn⟩
theorem Pre.all {xs : List V} {i : Nat} {P : List Int} (h : Pre xs i P) (hl : xs.length ≤ i + 1) (h2 : xs.length ≤ 2000) : bitsV xs = some (full P) := by
  have e := h.tk
  rw [List.take_of_length_le hl] at e
  refine bitsV_some ⟨e, h.gd, ?_⟩
  have e2 := congrArg List.length e
  rw [pV_len, par_len] at e2
  omega
theorem no_first {xs : List V} {y : V} (hy : xs[0]? = some y) (hn : y ≠ .non) : bitsV xs = none := bitsV_none fun Q ⟨hq, _, _⟩ => by
  rw [hq] at hy
  exact hn (Option.some.inj hy).symm
theorem no_size {xs : List V} (h : ¬ (1 ≤ xs.length ∧ xs.length ≤ 2000)) : bitsV xs = none := bitsV_none fun Q ⟨hq, _, hl⟩ => by
  have e2 := congrArg List.length hq
  rw [pV_len, par_len] at e2
  omega
/-- the pieces of the text so far -/
def Pcs (H0 H : Hp) (a : Addr) (bs : List Bool) : Prop := ∃ ys : List Str, Own H0 H a (ys.map V.str) ∧ catS ys = codes bs ∧ ys.length ≤ bs.length
section
variable {H0 H H' : Hp} {a b : Addr} {bs cs : List Bool} {o : HO}
theorem Pcs.ex (h : Pcs H0 H a bs) (e : Ex H H') : Pcs H0 H' a bs := by
  obtain ⟨ys, h1, h2⟩ := h
  exact ⟨ys, h1.ex e, h2⟩
theorem Pcs.off (h : Pcs H0 H a bs) (n : a ≠ b) : Pcs H0 (upd H b o) a bs := by
  obtain ⟨ys, h1, h2⟩ := h
  exact ⟨ys, h1.off n, h2⟩
theorem pcs_add {ys : List Str} (n : H0 a = none) (h2 : catS ys = codes bs) (h3 : ys.length ≤ bs.length) (hc : 1 ≤ cs.length) : Pcs H0 (upd H a (.lst (ys.map V.str ++ [.str (txt cs)]))) a (bs ++ cs) :=
  ⟨ys ++ [txt cs], ⟨n, by rw [upd_same, List.map_append]; rfl⟩, by rw [catS_app, h2, catS_one, txt_cps, codes_app], by rw [List.length_append, List.length_append, List.length_singleton]; omega⟩
end
section
variable {σ : L2.St} {H : Hp} {te : TE} {D : Ends} {tu tz : TS}
/-- a for over a text's signs -/
theorem s_forS {z : Str} {j : Nat} (h : Ev te σ H (.str z)) (Pv : Nat → L2.St → Hp → Prop) (h0 : ∀ H1, Ex H H1 → Pv 0 σ H1)
    (hs : ∀ i c σ' H', z.cps.toList[i]? = some c → Pv i σ' H' → tu { D with nx := Pv (i + 1), ct := Pv (i + 1), bk := D.nx } (σ'.set j (some (.str ⟨#[c]⟩))) H') (hd : ∀ σ' H', Pv z.length σ' H' → D.nx σ' H') : tFor (iStr te) (gName j) tu D σ H :=
  h H (Ex.refl H) _ fun H1 e => ⟨z, rfl, fun i m σ H => m = z.cps.size - i ∧ i ≤ z.cps.size ∧ Pv i σ H, ⟨_, rfl, Nat.zero_le _, h0 H1 e⟩, by
    rintro i m σ H ⟨rfl, hi, p⟩
    by_cases hlt : i < z.cps.size
    · refine .inr ⟨hlt, Pv (i + 1), fun σ' H' p' => ⟨z.cps.size - (i + 1), by omega, rfl, hlt, p'⟩, fun x H' y => ?_⟩
      obtain ⟨e, c, hc, y⟩ := y
      subst e y
      exact hs i c σ _ (by rw [Array.getElem?_toList]; exact hc) p
    · have e : i = z.cps.size := by omega
      subst e
      exact .inl ⟨Nat.le_refl _, hd σ H p⟩⟩
theorem q_forS {z : Str} {j : Nat} (h : Ev te σ H (.str z)) (Pv : Nat → L2.St → Hp → Prop) (h0 : ∀ H1, Ex H H1 → Pv 0 σ H1)
    (hs : ∀ i c σ' H', z.cps.toList[i]? = some c → Pv i σ' H' → tu { D with nx := Pv (i + 1), ct := Pv (i + 1), bk := tz D } (σ'.set j (some (.str ⟨#[c]⟩))) H') (hd : ∀ σ' H', Pv z.length σ' H' → tz D σ' H') : tSeq (tFor (iStr te) (gName j) tu) tz D σ H :=
  s_forS (D := { D with nx := tz D }) h Pv h0 hs hd
end
/-- a thing, and the parents that its signs tell, if any -/
def Tx (K : PySem.W.Frag) (H : Hp) (x : V) (r : Option (List (Option Int))) : Prop :=
  (∃ z : Str, x = .str z ∧ z.length ≤ 90000 ∧ r = readM z.cps.toList) ∨ (∃ tv, TyX K H x tv ∧ PySem.W.kitOne K tv (.type "str") = some false ∧ r = none)
theorem Tx.ex {K : PySem.W.Frag} {H H' : Hp} {x : V} {r : Option (List (Option Int))} (e : Ex H H') (h : Tx K H x r) : Tx K H' x r := by
  rcases h with h | ⟨tv, h1, h2, h3⟩
  · exact .inl h
  · exact .inr ⟨tv, tyx_ex e h1, h2, h3⟩
theorem tx_full {K : PySem.W.Frag} {H : Hp} {P : List Int} (hg : Good P) (hl : P.length < 2000) : Tx K H (.str (txt (full P))) (some (par P)) :=
  .inl ⟨_, rfl, by rw [txt_len, full_len]; omega, by rw [txt_cps, readM_full hg hl]⟩
def spParentsOf (K : PySem.W.Frag) : Sp := fun vs H Q _ => ∃ (x : V) (r : Option (List (Option Int))), vs = [x] ∧ Tx K H x r ∧ (r = none → ∀ H', Ex H H' → Q .non H') ∧ (∀ ps, r = some ps → ∀ p H', H p = none → Ex H H' → H' p = some (.lst (pV ps)) → Q (.ref p) H')
def spPlain (K : PySem.W.Frag) (C : Addr) : Sp := fun vs H Q E => ∃ (x : V) (r : Option (List (Option Int))), vs = [x] ∧ Tx K H x r ∧ (r = none → ∀ H', Ex H H' → E (.ref C) none H') ∧ (∀ ps, r = some ps → ∀ p H', H p = none → Ex H H' → H' p = some (.lst (pV ps)) → Q (.ref p) H')
section
variable {K : PySem.W.Frag} {H : Hp}
theorem sl_plain {x : V} {C : Addr} {ps : List (Option Int)} (h : Tx K H x (some ps)) : SpL (spPlain K C) [x] H (pV ps) := fun H1 e Q q E => ⟨x, some ps, rfl, h.ex e, (fun z => nomatch z), (fun b hb => by cases hb; exact q)⟩
end
theorem readGo_bad {ps : List (Option Int)} {st : List Int} {c : Nat} {r : List Nat} (h : ps ≠ [] ∧ st = []) : readGo ps st (c :: r) = none := by
  show (if ps ≠ [] ∧ st = [] then none else _) = _
  rw [if_pos h]
theorem readGo_0 {ps : List (Option Int)} {st : List Int} {r : List Nat} (h : ¬ (ps ≠ [] ∧ st = [])) (h2 : st ≠ []) : readGo ps st (48 :: r) = readGo ps st.tail r := by
  show (if ps ≠ [] ∧ st = [] then none else if (48 : Nat) = 49 then _ else if (48 : Nat) = 48 then (if st = [] then none else readGo ps st.tail r) else none) = _
  rw [if_neg h, if_neg (by decide), if_pos rfl, if_neg h2]
theorem readGo_no {ps : List (Option Int)} {st : List Int} {c : Nat} {r : List Nat} (h1 : c ≠ 49) (h2 : ¬ (c = 48 ∧ st ≠ [])) : readGo ps st (c :: r) = none := by
  show (if ps ≠ [] ∧ st = [] then none else if c = 49 then _ else if c = 48 then (if st = [] then none else readGo ps st.tail r) else none) = _
  rw [if_neg h1]
  by_cases h : ps ≠ [] ∧ st = []
  · rw [if_pos h]
  · rw [if_neg h]
    by_cases h3 : c = 48
    · rw [if_pos h3, if_pos (by
        by_cases h4 : st = []
        · exact h4
        · exact absurd ⟨h3, h4⟩ h2)]
    · rw [if_neg h3]
theorem readM_no {cs : List Nat} (h : ¬ (1 ≤ cs.length ∧ cs.length ≤ 4000)) : readM cs = none := by
  unfold readM
  rw [if_pos (by omega)]
theorem readM_go {cs : List Nat} (h : 1 ≤ cs.length ∧ cs.length ≤ 4000) : readM cs = readGo [] [] cs := by
  unfold readM
  rw [if_neg (by omega)]
theorem sign_1 (c : Nat) : decide (V.str ⟨#[c]⟩ = V.str (Str.ofString "1")) = decide (c = 49) := by
  have e : Str.ofString "1" = ⟨#[49]⟩ := by decide +kernel
  rw [e]
  by_cases h : c = 49
  · subst h; simp
  · simp [h]
theorem sign_0 (c : Nat) : decide (V.str ⟨#[c]⟩ = V.str (Str.ofString "0")) = decide (c = 48) := by
  have e : Str.ofString "0" = ⟨#[48]⟩ := by decide +kernel
  rw [e]
  by_cases h : c = 48
  · subst h; simp
  · simp [h]
theorem pV_emp (ps : List (Option Int)) : (pV ps).isEmpty = ps.isEmpty := by cases ps <;> rfl
theorem pV_app' (xs : List (Option Int)) (o : Option Int) : pV (xs ++ [o]) = pV xs ++ [oV o] := by unfold pV; rw [List.map_append]; rfl
section
variable {σ : L2.St} {H : Hp} {ta : TA} {D : Ends} {tz : TS} {sp : Sp} {vs dvs : List V} {E : XK} {i : Nat}
/-- x = f(..), by the promise of f itself -/
theorem q_asgC (h : EvA ta σ H vs) (hs : ∀ H1, Ex H H1 → sp (vs ++ dvs) H1 (fun v H2 => tz D (σ.set i (some v)) H2) E) : tSeq (tAsg (tCall sp dvs E ta) (gName i)) tz D σ H :=
  h H (Ex.refl H) _ fun H1 e => hs H1 e
theorem s_asgC (h : EvA ta σ H vs) (hs : ∀ H1, Ex H H1 → sp (vs ++ dvs) H1 (fun v H2 => D.nx (σ.set i (some v)) H2) E) : tAsg (tCall sp dvs E ta) (gName i) D σ H :=
  h H (Ex.refl H) _ fun H1 e => hs H1 e
theorem s_retC (h : EvA ta σ H vs) (hs : ∀ H1, Ex H H1 → sp (vs ++ dvs) H1 D.rt E) : tRet (tCall sp dvs E ta) D σ H :=
  h H (Ex.refl H) _ fun H1 e => hs H1 e
theorem e_opC {r : R2} {tb : TE} {Q : VK} (h : EvA ta σ H vs) (hs : ∀ H1, Ex H H1 → sp (vs ++ dvs) H1 (fun x H2 => tb σ H2 (fun y H3 => r x y H3 Q)) E) : tOp r (tCall sp dvs E ta) tb σ H Q :=
  h H (Ex.refl H) _ fun H1 e => hs H1 e
end
def spLaw (K : PySem.W.Frag) : Sp := fun vs H Q _ => ∃ (a : Addr) (ns : List Int), vs = [.ref a] ∧ SqL K H a (ns.map V.int) ∧ ns.length ≤ 63 ∧ ∀ H', Q (.bl true) H'
theorem rv_eqNil {K : PySem.W.Frag} {H : Hp} {a b : Addr} {st : List Int} (h1 : SqL K H a (stk st)) (h2 : SqL K H b []) : RV (rEqD K) (.ref a) (.ref b) H (.bl (decide (st = []))) := by
  have h := rv_eqD (H := H) (x := .ref a) (y := .ref b) (.lst h1 (dpAll_int st.reverse)) (.lst h2 .nil) (shaped_int _) shaped_nil
  rw [eqv_nil] at h
  have e : decide (st.reverse = []) = decide (st = []) := by cases st <;> simp
  rw [e] at h
  exact h
section
variable {K : PySem.W.Frag} {σ : L2.St} {H : Hp} {ta tb te : TE} {tr : TA} {Q : List V → Hp → Prop} {R : VK} {x : V} {ys : List V} {D : Ends} {tz : TS} {i : Nat} {r : R2}
theorem e_cons (h : Ev ta σ H x) (k : ∀ H1, Ex H H1 → tr σ H1 (fun xs H2 => Q (x :: xs) H2)) : tCons ta tr σ H Q := h H (Ex.refl H) _ k
theorem e_consL (h : EvL ta σ H ys) (k : ∀ p H1, H p = none → Ex H H1 → H1 p = some (.lst ys) → tr σ H1 (fun xs H2 => Q (.ref p :: xs) H2)) : tCons ta tr σ H Q := h H (Ex.refl H) _ k
theorem e_consU (h : EvU ta σ H ys) (k : ∀ p H1, H p = none → Ex H H1 → H1 p = some (.tup ys) → tr σ H1 (fun xs H2 => Q (.ref p :: xs) H2)) : tCons ta tr σ H Q := h H (Ex.refl H) _ k
theorem e_consX (h : ta σ H (fun x H1 => tr σ H1 (fun xs H2 => Q (x :: xs) H2))) : tCons ta tr σ H Q := h
theorem e_consD (k : ∀ p H1, H p = none → Ex H H1 → H1 p = some (.dK []) → tr σ H1 (fun xs H2 => Q (.ref p :: xs) H2)) : tCons tDNewK tr σ H Q := fun p np => k p _ np (Ex.new np) upd_same
theorem e_nil (h : Q [] H) : tNil σ H Q := h
theorem e_lst (h : tr σ H (fun xs H1 => xs.length ≤ sizeLine ∧ ∀ p, H1 p = none → R (.ref p) (upd H1 p (.lst xs)))) : tLst tr σ H R := h
theorem q_asgX (h : te σ H (fun x H1 => tz D (σ.set i (some x)) H1)) : tSeq (tAsg te (gName i)) tz D σ H := h
theorem s_retX (h : te σ H D.rt) : tRet te D σ H := h
theorem e_op (h : ta σ H (fun x H1 => tb σ H1 (fun y H2 => r x y H2 R))) : tOp r ta tb σ H R := h
theorem eu_tupleL {a : Addr} (h : Ev ta σ H (.ref a)) (hs : SqL K H a ys) : EvU (tCB (fun xs H Q => ∃ p ys, xs = [.ref p] ∧ ((SqL K H p ys ∧ ∀ l, H l = none → Q (.ref l) (upd H l (.tup ys))) ∨ (SqT K H p ys ∧ Q (.ref p) H))) (tCons ta tNil)) σ H ys := fun H1 e Q q =>
  h H1 e _ fun H2 e2 => ⟨a, ys, rfl, .inl ⟨ex_l (e.trans e2) hs, fun l hl => q l _ (fresh_back e2 hl) (e2.trans (Ex.new hl)) upd_same⟩⟩
end
end KB
namespace KB
open PySem L2 Evl
section
variable {X : Cx} {a D : Addr} {oe : Obj} {cls : Value} {d : Option Addr} {pn : List (Addr × Obj)}
def rIsC (K : PySem.W.Frag) (D a : Addr) (cls : Value) (d : Option Addr) : List V → Hp → VK → Prop := fun xs H Q => cls = .ref D ∧ d = none ∧ rIsE K D a xs H Q
theorem call_isC (C : ExcC X.K D) (hz : Zc cls d oe) (hf : ∃ vs, oe.data = .fields vs) : CallR (X.suite a ((a, oe) :: pn)) (.builtin "isinstance") (rIsC X.K D a cls d) := by
  intro pins s σ H xs us Q I r h
  obtain ⟨e1, e2, h⟩ := h
  subst e1 e2
  exact call_isE C hz hf pins s σ H xs us Q I r h
end
section
variable {K : PySem.W.Frag} {σ : L2.St} {H : Hp} {ta tb : TE} {D : Ends} {W : WX} {sp : Sp} {vs : List V} {args : TA}
theorem ev_isC {Dd a : Addr} {c : V} {cv : Value} {b : Bool} (h1 : Ev ta σ H (.ref a)) (h2 : Ev tb σ H c) (hc : ∀ u, RelV c u → u = cv) (hb : PySem.W.kitOne K (.ref Dd) cv = some b) : Ev (tCB (rIsC K Dd a (.ref Dd) none) (tCons ta (tCons tb tNil))) σ H (.bl b) := fun H1 e _ q =>
  h1 H1 e _ fun H2 e2 => h2 H2 (e.trans e2) _ fun H3 e3 => ⟨rfl, rfl, c, cv, b, rfl, hc, hb, q H3 (e2.trans e3)⟩
/-- return f(..) within a try, f may raise -/
theorem s_retS (h : EvA args σ H vs) (hs : ∀ H1, Ex H H1 → sp vs H1 D.rt (WE W σ)) : tRet (tCallS sp (WE W) args) D σ H := h H (Ex.refl H) _ fun H1 e => hs H1 e
theorem s_dropS (h : EvA args σ H vs) (hs : ∀ H1, Ex H H1 → sp vs H1 (fun _ H2 => D.nx σ H2) (WE W σ)) : tDrop (tCallS sp (WE W) args) D σ H := h H (Ex.refl H) _ fun H1 e => hs H1 e
end
theorem kit_ref {K : PySem.W.Frag} {t : Value} {C : Addr} {b : Bool} (hd : PySem.W.hasDictIn K C = true) (ht : PySem.W.typeIn K (.ref C) = some (.type "type")) (h : PySem.W.subIn K t (.ref C) = some b) (hne : (t == .ref C) = true → b = true) : PySem.W.kitOne K t (.ref C) = some b := by
  unfold PySem.W.kitOne
  by_cases e : (t == .ref C) = true
  · rw [if_pos e, hne e]
  · rw [if_neg e]
    obtain ⟨cd, hc, _⟩ := PySem.W.any_some hd
    show (if ((PySem.W.clsIn K C).isSome && PySem.W.typeIn K (.ref C) == some (.type "type")) = true then PySem.W.subIn K t (.ref C) else none) = some b
    rw [hc, ht, if_pos (by rfl)]
    exact h
theorem kit_tyD {K : PySem.W.Frag} {C : Addr} {T : String} {b : Bool} (h : PySem.W.subIn K (.ref C) (.type T) = some b) (hm : PySem.W.kitMeta T = true) : PySem.W.kitOne K (.ref C) (.type T) = some b := by
  unfold PySem.W.kitOne
  rw [if_neg (by intro z; cases z)]
  show (if PySem.W.kitMeta T = true then PySem.W.subIn K (.ref C) (.type T) else none) = some b
  rw [if_pos hm]
  exact h
theorem kit_other {K : PySem.W.Frag} {D C : Addr} (hD : PySem.W.subIn K (.ref D) (.ref D) = some true) (hd : PySem.W.hasDictIn K C = true) (ht : PySem.W.typeIn K (.ref C) = some (.type "type")) (h : PySem.W.subIn K (.ref D) (.ref C) = some false) : PySem.W.kitOne K (.ref D) (.ref C) = some false := by
  refine kit_ref hd ht h fun z => ?_
  have e : Value.ref D = Value.ref C := by simpa using z
  cases e
  rw [hD] at h
  cases h
end KB
namespace KB
open PySem PySem.Spec PyProof.Rows L2 Evl
/-! ### a method, a new instance, within a try: what is raised is wished for at the caller's slots -/
section
variable {X : Cx} {CX : CXT} {k : Nat} {f C : Addr} {fd : FuncData} {ps : List Str} {sp : Sp} {E : L2.St → XK} {x m : Str} {p pos apos : Pos} {e o : Expr} {es : List Expr} {ta : TE} {t : TA}
def tMethX (C : Addr) (m : Str) (sp : Sp) (E : L2.St → XK) (ta : TE) (t : TA) : TE := fun σ H Q => ta σ H fun x H1 => ∃ a dx fs, x = .ref a ∧ H1 a = some (.ins C dx fs) ∧ fs.lookup m = none ∧ t σ H1 fun vs H2 => sp (x :: vs) H2 Q (E σ)
theorem pe_methX {pl : Sem Bool} (he : PE X o ta) (c : Cls X.K C) (hm : Meth X.K C m f) (F : FnOk X.prog X.w X.K X.mg X.base CX k f fd ps sp) (hr : Room k X.A) (hb : Binds X.K fd ps []) (hx : ∀ σ, PassesAt CX X σ (E σ)) (ha : PA X (e :: es) t)
    (hst : starEach (e :: es) X.env = (false, eval e X.env) :: starEach es X.env := by rfl) (hpl : (backTo pos (starEach es X.env)).any (·.1) = false := by rfl)
    (ht : eval (.Call (.Attribute o m apos) (e :: es) [] pos) X.env = (do
      let ov ← eval o X.env
      standAt apos.atName
      let (f, first) ← holding [ov] (getMethod ov m pl)
      callWith pos f first (backTo pos (starEach (e :: es) X.env)) (backToKw pos (keywordEach [] X.env))) := by rfl) :
    PE X (.Call (.Attribute o m apos) (e :: es) [] pos) (tMethX C m sp E ta t) := by
  refine ⟨fun pins s σ H Q I h => ?_⟩
  refine PySem.W.methodCall_KW (pl := pl) (thn (he.run pins s σ H _ I h) fun u s1 ⟨x, H1, I1, rx, a, dx, fs, ex, ea, l, q⟩ => ?_) ht
  subst ex
  obtain rfl : u = Value.ref a := rx
  refine getmeth_ok I1 ea c hm l ?_
  refine PySem.W.callWith_K (first := [.ref a]) (h₀ := X.base) I.ok.mod.kin hm.kp (thn (ha.run pos pins s1 σ H1 _ I1 q) fun us s2 ⟨vs, H2, I2, r, q2⟩ => ⟨I2.kIn, ?_⟩) hst hpl
  exact run_fnS (us := .ref a :: us) (vs := .ref a :: vs) F hr hb (hx σ) I2 (.cons rfl r) q2
def tMakeX (C : Addr) (sp : Sp) (E : L2.St → XK) (t : TA) : TE := fun σ H Q => t σ H fun vs H1 => ∀ x dx, H1 x = none → H1 dx = none → dx ≠ x → sp (.ref x :: vs) (upd (upd H1 dx (.own x)) x (.ins C dx [])) (fun v H2 => v = .non ∧ Q (.ref x) H2) (E σ)
theorem run_makeX {pins : List (Addr × Obj)} {σ : L2.St} {H : Hp} {s : Shared} {Q : VK} {us : List Value} {vs : List V} {E1 : XK} (M : Mk X.K C f) (F : FnOk X.prog X.w X.K X.mg X.base CX k f fd ps sp) (hr : Room (k + 1) X.A) (hb : Binds X.K fd ps [])
    (hx : PassesAt CX X σ E1) (I : Inv X pins σ H s) (r : Vals vs us)
    (h : ∀ x dx, H x = none → H dx = none → dx ≠ x → sp (.ref x :: vs) (upd (upd H dx (.own x)) x (.ins C dx [])) (fun v H2 => v = .non ∧ Q (.ref x) H2) E1) :
    wpAny (model X.prog X.w) X.A (call (.ref C) us) (EP X pins σ Q) X.xe s := by
  have hq := h (s.heap.objs.size + 1) s.heap.objs.size (I.hok.fresh (Nat.le_succ _)) (I.hok.fresh (Nat.le_refl _)) (Nat.ne_of_lt (Nat.lt_succ_self _))
  have I2 := Inv.made (C := C) I
  have r2 : Vals (V.ref (s.heap.objs.size + 1) :: vs) (Value.ref (s.heap.objs.size + 1) :: us) := .cons rfl r
  have hl : (Value.ref (s.heap.objs.size + 1) :: us).length = ps.length := by rw [← r2.length]; exact F.len _ _ _ _ hq
  have b := hb _ (Value.ref (s.heap.objs.size + 1) :: us) I2.kIn (by rw [List.append_nil]; exact hl)
  rw [List.append_nil] at b
  refine wpAny_call (make_map (f := f) I.kIn M.makes M.init (beq_iff_eq.mp M.fn) (codeAny_mono (F.run _ X.stack _ _ ⟨Value.ref (s.heap.objs.size + 1) :: us, []⟩ _ _ _ E1 (hr.make C us [])
    (I2.env0.make C us []) b r2 hq) fun r s' hq' => ?_))
  cases r with
  | error e => exact hx pins _ _ e s' I2 hq'
  | ok fl =>
    cases fl with
    | ret u =>
      obtain ⟨v, H', I3, rv, ev, q3⟩ := I2.after hq'
      subst ev
      exact ⟨rv, ⟨V.ref (s.heap.objs.size + 1), H', I3, rfl, q3⟩⟩
    | next => exact False.elim hq'
    | brk => exact False.elim hq'
    | cont => exact False.elim hq'
theorem pe_makeX (M : Mk X.K C f) (F : FnOk X.prog X.w X.K X.mg X.base CX k f fd ps sp) (hr : Room (k + 1) X.A) (hg : Gl X x) (hm : X.mg x = some (.ref C)) (hb : Binds X.K fd ps []) (hx : ∀ σ, PassesAt CX X σ (E σ))
    (ha : PA X (e :: es) t) (hdb : (x == ("__debug__" : Str)) = false := by decide) (he : starEach (e :: es) X.env = (false, eval e X.env) :: starEach es X.env := by rfl) (hpl : (backTo pos (starEach es X.env)).any (·.1) = false := by rfl) :
    PE X (.Call (.Name x p) (e :: es) [] pos) (tMakeX C sp E t) := by
  refine ⟨fun pins s σ H Q I h => ?_⟩
  refine wpAny_Call_Name_kw (ld_glob I hg hm ?_ hdb)
  refine PySem.W.callWith_K (h₀ := X.base) I.ok.mod.kin M.kp (thn (ha.run pos pins s σ H _ I h) fun us s1 ⟨vs, H1, I1, r, q⟩ => ⟨I1.kIn, ?_⟩) he hpl
  exact run_makeX M F hr hb (hx σ) I1 r q
end
end KB
namespace KB
open PySem L2 Evl
/-! ### the class Blocks -/
def bf (l n : Int) (pp td : Addr) : List (Str × V) := putF "_told" (.ref td) (putF "_parts" (.ref pp) (putF "size" (.int n) (putF "length" (.int l) [])))
theorem ne_ls : ¬ (("length" : Str) = "size") := by decide +kernel
theorem ne_lp : ¬ (("length" : Str) = "_parts") := by decide +kernel
theorem ne_lt : ¬ (("length" : Str) = "_told") := by decide +kernel
theorem ne_sp : ¬ (("size" : Str) = "_parts") := by decide +kernel
theorem ne_st : ¬ (("size" : Str) = "_told") := by decide +kernel
theorem ne_pt : ¬ (("_parts" : Str) = "_told") := by decide +kernel
section
variable {l n : Int} {pp td : Addr}
theorem bf_length : (bf l n pp td).lookup ("length" : Str) = some (.int l) := by
  unfold bf
  rw [lookup_putF, if_neg ne_lt, lookup_putF, if_neg ne_lp, lookup_putF, if_neg ne_ls, lookup_putF, if_pos rfl]
theorem bf_size : (bf l n pp td).lookup ("size" : Str) = some (.int n) := by
  unfold bf
  rw [lookup_putF, if_neg ne_st, lookup_putF, if_neg ne_sp, lookup_putF, if_pos rfl]
theorem bf_parts : (bf l n pp td).lookup ("_parts" : Str) = some (.ref pp) := by
  unfold bf
  rw [lookup_putF, if_neg ne_pt, lookup_putF, if_pos rfl]
theorem bf_told : (bf l n pp td).lookup ("_told" : Str) = some (.ref td) := by
  unfold bf
  rw [lookup_putF, if_pos rfl]
theorem bf_no {m : Str} (h1 : ¬ m = "_told") (h2 : ¬ m = "_parts") (h3 : ¬ m = "size") (h4 : ¬ m = "length") : (bf l n pp td).lookup m = none := by
  unfold bf
  rw [lookup_putF, if_neg h1, lookup_putF, if_neg h2, lookup_putF, if_neg h3, lookup_putF, if_neg h4]
  rfl
end
theorem putF_len (f : Str) (v : V) : ∀ fs : List (Str × V), (putF f v fs).length ≤ fs.length + 1
  | [] => Nat.le_refl _
  | (g, x) :: r => by
    show (if g = f then (g, v) :: r else (g, x) :: putF f v r).length ≤ _
    split
    · exact Nat.le_succ _
    · exact Nat.succ_le_succ (putF_len f v r)
theorem putF_lt {f : Str} {v : V} {fs : List (Str × V)} {k : Nat} (h : fs.length < k) : (putF f v fs).length < k + 1 := Nat.lt_of_le_of_lt (putF_len f v fs) (Nat.succ_lt_succ h)
/-! ### blocks of bits -/
def cnt (l n : Nat) : Nat := (l + n - 1) / n
def cutAt (z : Str) (n j : Nat) : Str := cutS z (some ((j : Int) * n)) (some ((j : Int) * n + n))
def parts (z : Str) (n : Nat) : List V := (List.range (cnt z.length n)).map fun j => V.str (cutAt z n j)
theorem parts_len (z : Str) (n : Nat) : (parts z n).length = cnt z.length n := by unfold parts; rw [List.length_map, List.length_range]
theorem parts_at {z : Str} {n j : Nat} (h : j < cnt z.length n) : (parts z n)[j]? = some (.str (cutAt z n j)) := by
  unfold parts
  rw [List.getElem?_map, List.getElem?_range h]
  rfl
theorem cnt_le (l n : Nat) (hn : 1 ≤ n) : cnt l n ≤ l := by
  unfold cnt
  rw [Nat.div_le_iff_le_mul_add_pred hn]
  have : l * 1 ≤ n * l := by rw [Nat.mul_comm n l]; exact Nat.mul_le_mul_left _ hn
  omega
theorem cnt_pos (l n : Nat) (hl : 1 ≤ l) (hn : 1 ≤ n) : 1 ≤ cnt l n := by
  unfold cnt
  exact (Nat.le_div_iff_mul_le hn).mpr (by omega)
theorem cnt_int (l n : Nat) (hl : 1 ≤ l) : ((l : Int) + n - 1) / n = ((cnt l n : Nat) : Int) := by
  unfold cnt
  rw [Int.natCast_ediv]
  congr 1
  omega
def addK (ks : List Nat) (j : Nat) : List Nat := if j ∈ ks then ks else ks ++ [j]
def dk (ks : List Nat) : List (Key × V) := ks.map fun (k : Nat) => (Sum.inl (k : Int), V.bl true)
theorem dk_put (ks : List Nat) (j : Nat) : putK (dk ks) (Sum.inl (j : Int)) (.bl true) = dk (addK ks j) := by
  unfold putK addK dk
  have h : ((ks.map fun (k : Nat) => ((Sum.inl (k : Int) : Key), V.bl true)).any fun kv => decide (kv.1 = (Sum.inl (j : Int) : Key))) = decide (j ∈ ks) := by
    rw [List.any_map]
    by_cases hj : j ∈ ks
    · rw [decide_eq_true hj, List.any_eq_true]
      exact ⟨j, hj, decide_eq_true rfl⟩
    · rw [decide_eq_false hj, List.any_eq_false]
      intro k hk
      have : ¬ ((Sum.inl (k : Int) : Key) = Sum.inl (j : Int)) := fun e => hj (by
        have e2 : (k : Int) = (j : Int) := Sum.inl.inj e
        have e3 : k = j := by omega
        rw [← e3]; exact hk)
      show ¬ decide ((Sum.inl (k : Int) : Key) = Sum.inl (j : Int)) = true
      rw [decide_eq_false this]
      exact Bool.false_ne_true
  rw [h]
  by_cases hj : j ∈ ks
  · rw [if_pos (decide_eq_true hj), if_pos hj, List.map_map]
    apply List.map_congr_left
    intro k _
    show (if (Sum.inl (k : Int) : Key) = Sum.inl (j : Int) then (Sum.inl (k : Int), V.bl true) else (Sum.inl (k : Int), V.bl true)) = _
    split <;> rfl
  · rw [if_neg (by rw [decide_eq_false hj]; exact Bool.false_ne_true), if_neg hj, List.map_append]
    rfl
theorem dk_len (ks : List Nat) : (dk ks).length = ks.length := List.length_map _
theorem dk_keys (ks : List Nat) : ((dk ks).map fun kv => kV kv.1) = ks.map fun (k : Nat) => V.int (k : Int) := by
  unfold dk
  rw [List.map_map]
  rfl
/-- a Blocks at x: of the text z, in blocks of n; told so far: ks, in the dict at td -/
structure Bk (C : Addr) (H : Hp) (x td : Addr) (z : Str) (n : Nat) (ks : List Nat) : Prop where
  ob : ∃ dx pp, H x = some (.ins C dx (bf z.length n pp td)) ∧ H pp = some (.lst (parts z n))
  dc : H td = some (.dK (dk ks))
section
variable {C x td b : Addr} {H H' F : Hp} {z : Str} {n : Nat} {ks : List Nat} {o : HO}
theorem Bk.ex (e : Ex H H') (h : Bk C H x td z n ks) : Bk C H' x td z n ks := by
  obtain ⟨⟨dx, pp, h1, h2⟩, h3⟩ := h
  exact ⟨⟨dx, pp, e _ _ h1, e _ _ h2⟩, e _ _ h3⟩
theorem Bk.off (h : Bk C H x td z n ks) {ys : List V} (hb : H b = some (.lst ys)) (hp : ys ≠ parts z n) : Bk C (upd H b o) x td z n ks := by
  obtain ⟨⟨dx, pp, h1, h2⟩, h3⟩ := h
  have n1 : x ≠ b := ne_of h1 hb (by intro q; cases q)
  have n2 : pp ≠ b := ne_of h2 hb (by intro q; exact hp (HO.lst.inj q).symm)
  have n3 : td ≠ b := ne_of h3 hb (by intro q; cases q)
  exact ⟨⟨dx, pp, by rw [upd_ne n1]; exact h1, by rw [upd_ne n2]; exact h2⟩, by rw [upd_ne n3]; exact h3⟩
end
/-- all that F holds stays, but for td, which F does not hold -/
def spWF (K : PySem.W.Frag) : Sp := fun vs H Q _ => ∃ (a b : Int) (v : V), vs = [.int a, .int b, v] ∧ Kd K H v ∧ (∀ i, v = .int i → ∀ H', Ex H H' → Q (.bl (decide (a ≤ i) && decide (i ≤ b))) H') ∧ (isInt v = false → ∀ H', Ex H H' → Q (.bl false) H')
def inR (a b : Int) : V → Bool
  | .int i => decide (a ≤ i) && decide (i ≤ b)
  | _ => false
theorem sv_wf {K : PySem.W.Frag} {H : Hp} {a b : Int} {v : V} (h : Kd K H v) : SpV (spWF K) [.int a, .int b, v] H (.bl (inR a b v)) := fun H1 e Q q E =>
  ⟨a, b, v, rfl, h.ex e, (fun i hi => by subst hi; exact q), (fun hv => by
    cases v with
    | int i => cases hv
    | _ => exact q)⟩
def spInit (K : PySem.W.Frag) (C CN : Addr) : Sp := fun vs H Q E => ∃ (x dx : Addr) (z : Str) (v : V), vs = [.ref x, .str z, v] ∧ H x = some (.ins C dx []) ∧ 1 ≤ z.length ∧ z.length ≤ 4000 ∧ Kd K H v ∧
  (∀ n : Nat, v = .int (n : Int) → 1 ≤ n → n ≤ 4000 → ∀ td H', H td = none → (∀ F : Hp, F x = none → Ex F H → Ex F H') → Bk C H' x td z n [] → Q .non H') ∧ (inR 1 4000 v = false → ∀ H', Ex H H' → E (.ref CN) none H')
def spMany (C : Addr) : Sp := fun vs H Q _ => ∃ (x td : Addr) (z : Str) (n : Nat) (ks : List Nat), vs = [.ref x] ∧ Bk C H x td z n ks ∧ ∀ H', Ex H H' → Q (.int ((cnt z.length n : Nat) : Int)) H'
def spAsked (C : Addr) : Sp := fun vs H Q _ => ∃ (x td : Addr) (z : Str) (n : Nat) (ks : List Nat), vs = [.ref x] ∧ Bk C H x td z n ks ∧ ∀ p H', H p = none → Ex H H' → H' p = some (.lst (ks.map fun (k : Nat) => V.int (k : Int))) → Q (.ref p) H'
def spPart (K : PySem.W.Frag) (C CN : Addr) : Sp := fun vs H Q E => ∃ (x td : Addr) (z : Str) (n : Nat) (ks : List Nat) (v : V), vs = [.ref x, v] ∧ Bk C H x td z n ks ∧ 1 ≤ n ∧ 1 ≤ z.length ∧ z.length ≤ 4000 ∧ ks.length ≤ 9000 ∧ Kd K H v ∧
  (∀ j : Nat, v = .int (j : Int) → j < cnt z.length n → ∀ H', (∀ F : Hp, F td = none → Ex F H → Ex F H') → Bk C H' x td z n (addK ks j) → Q (.str (cutAt z n j)) H') ∧
  (inR 0 ((cnt z.length n : Int) - 1) v = false → ∀ H', Ex H H' → E (.ref CN) none H')
end KB
namespace KB
open PySem L2 Evl
section
variable {K : PySem.W.Frag} {σ : L2.St} {H : Hp} {ta tv te : TE} {y : V} {a C dx : Addr} {fs : List (Str × V)} {f : Str} {D : Ends} {tz : TS} {ys : List V}
theorem q_fld (hv : Ev tv σ H y) (ha : Ev ta σ H (.ref a)) (ho : H a = some (.ins C dx fs)) (hc : Cls K C) (hn : NoAttr K C f) (hl : fs.length < 1000) (k : ∀ H1, Ex H H1 → tz D σ (upd H1 a (.ins C dx (putF f y fs)))) : tSeq (sFld K ta tv f) tz D σ H :=
  hv H (Ex.refl H) _ fun H1 e1 => ha H1 e1 _ fun H2 e2 => ⟨a, C, dx, fs, rfl, (e1.trans e2) _ _ ho, hc, hn, hl, k H2 (e1.trans e2)⟩
theorem q_fldL (hv : EvL tv σ H ys) (ha : Ev ta σ H (.ref a)) (ho : H a = some (.ins C dx fs)) (hc : Cls K C) (hn : NoAttr K C f) (hl : fs.length < 1000) (k : ∀ p H1, H p = none → Ex H H1 → H1 p = some (.lst ys) → tz D σ (upd H1 a (.ins C dx (putF f (.ref p) fs)))) : tSeq (sFld K ta tv f) tz D σ H :=
  hv H (Ex.refl H) _ fun p H1 hp e1 h1 => ha H1 e1 _ fun H2 e2 => ⟨a, C, dx, fs, rfl, (e1.trans e2) _ _ ho, hc, hn, hl, k p H2 hp (e1.trans e2) (e2 _ _ h1)⟩
theorem s_fldD (ha : Ev ta σ H (.ref a)) (ho : H a = some (.ins C dx fs)) (hc : Cls K C) (hn : NoAttr K C f) (hl : fs.length < 1000) (k : ∀ p H1, H p = none → Ex H H1 → H1 p = some (.dK []) → D.nx σ (upd H1 a (.ins C dx (putF f (.ref p) fs)))) : sFld K ta tDNewK f D σ H := fun p hp =>
  ha _ (Ex.new hp) _ fun H2 e2 => ⟨a, C, dx, fs, rfl, ((Ex.new hp).trans e2) _ _ ho, hc, hn, hl, k p H2 hp ((Ex.new hp).trans e2) (e2 _ _ upd_same)⟩
theorem el_lcR3 {tr : TA} {j : Nat} {vs : List Nat} {lo hi c : Int} {n : Nat} (v : Nat → V) (h : EvA tr σ H [.int lo, .int hi, .int c]) (hrg : RgC lo hi c n) (hn : n ≤ 40000) (hw : ∀ x, wipe ((wipe σ vs).set j (some x)) vs = wipe σ vs)
    (he : ∀ (i : Nat) H1, Ex H H1 → i < n → Ev te ((wipe σ vs).set j (some (.int (lo + (i : Nat) * c)))) H1 (v i)) : EvL (tLc (iRng3 tr) (gName j) tYes te vs) σ H ((List.range n).map v) := fun H0 e Q q => h H0 e _ fun H1 e1 => ⟨lo, hi, c, n, rfl, hrg, fun Dl hD =>
  ⟨fun i m H' => m = n - i ∧ i ≤ n ∧ Ex H1 H' ∧ H' Dl = some (.lst ((List.range i).map v)), ⟨n, by simp, Nat.zero_le _, Ex.new hD, upd_same⟩, by
    rintro i m H' ⟨rfl, hi', e2, hd⟩
    by_cases hlt : i < n
    · refine .inr ⟨hlt, fun H'' => Ex H1 H'' ∧ H'' Dl = some (.lst ((List.range (i + 1)).map v)), fun H'' p => ⟨n - (i + 1), by omega, rfl, hlt, p⟩, fun x H'' y => ?_⟩
      obtain ⟨e3, y⟩ := y
      subst e3 y
      refine ⟨hw _, ?_⟩
      unfold tYes
      dsimp only
      rw [if_pos rfl]
      refine he i H1 (e.trans e1) hlt _ e2 _ fun H3 e3 => ⟨_, e3 _ _ hd, ?_, Ex.mut (e2.trans e3) hD, ?_⟩
      · rw [List.length_map, List.length_range]
        exact sz_lt (by omega)
      · rw [upd_same, List.range_succ, List.map_append]
        rfl
    · have ei : i = n := by omega
      subst ei
      exact .inl ⟨Nat.le_refl _, q Dl H' (fresh_back e1 hD) (e1.trans e2) hd⟩⟩⟩
end
theorem rg_cut {l n : Nat} (hl : 1 ≤ l) (hl2 : l ≤ 100000) (hn : 1 ≤ n) (hn2 : n ≤ 100000) : RgC 0 (l : Int) (n : Int) (cnt l n) := by
  have hsz : Builtin.Range.rangeSize 0 (l : Int) (n : Int) = ((cnt l n : Nat) : Int) := by
    unfold Builtin.Range.rangeSize
    rw [if_pos (by omega), if_pos (by omega)]
    unfold cnt
    have e : (l : Int) - 0 - 1 = ((l - 1 : Nat) : Int) := by omega
    rw [e]
    have e2 : ((l - 1 : Nat) : Int) / (n : Int) = (((l - 1) / n : Nat) : Int) := by rw [Int.natCast_ediv]
    rw [e2]
    have e3 : (l + n - 1) / n = (l - 1) / n + 1 := by
      rw [show l + n - 1 = (l - 1) + n by omega, Nat.add_div_right _ hn]
    rw [e3]
    rfl
  refine ⟨by omega, by omega, ?_, hsz⟩
  have hc := cnt_le l n hn
  unfold Builtin.Range.small
  rw [hsz]
  simp only [Builtin.Range.rangeFitsLong, Bool.and_eq_true, Bool.or_eq_true, decide_eq_true_eq, beq_iff_eq, show ((n : Int) > 0) by omega, if_true]
  omega
end KB
namespace KB
open PySem L2 Evl
section
variable {σ : L2.St} {H : Hp} {td ty tv te : TE} {v : V} {d : Addr} {kvs : List (Key × V)} {k : Key} {D : Ends} {tz : TS}
theorem el_listD (h : Ev te σ H (.ref d)) (hd : H d = some (.dK kvs)) : EvL (tCB rListD (tCons te tNil)) σ H (kvs.map fun kv => kV kv.1) := fun H1 e _ q =>
  h H1 e _ fun H2 e2 => ⟨d, kvs, rfl, (e.trans e2) _ _ hd, fun p hp => q p _ (fresh_back e2 hp) (e2.trans (Ex.new hp)) upd_same⟩
theorem q_dput (hv : Ev tv σ H v) (hd : Ev td σ H (.ref d)) (hk : Ev ty σ H (kV k)) (h : H d = some (.dK kvs)) (hl : kvs.length < 100000) (q : ∀ H1, Ex H H1 → tz D σ (upd H1 d (.dK (putK kvs k v)))) : tSeq (sDPut td ty tv) tz D σ H :=
  hv H (Ex.refl H) _ fun H1 e1 => hd H1 e1 _ fun H2 e2 => hk H2 (e1.trans e2) _ fun H3 e3 => ⟨d, _, rfl, DPut.k (((e1.trans e2).trans e3) _ _ h) (sz_lt hl), q H3 ((e1.trans e2).trans e3)⟩
end
end KB
namespace KB
open PySem L2 Evl
section
variable {K : PySem.W.Frag} {σ : L2.St} {H : Hp} {ta te : TE} {args : TA} {D : Ends} {tz tu : TS} {W : WX} {sp : Sp} {vs ys xs : List V} {C a dx l : Addr} {fs : List (Str × V)} {m : Str} {v y : V} {E : XK} {t : TE}
theorem s_dropM (h : EvA args σ H vs) (hs : ∀ H1 x dx, Ex H H1 → H1 x = none → H1 dx = none → dx ≠ x → sp (.ref x :: vs) (upd (upd H1 dx (.own x)) x (.ins C dx [])) (fun v H2 => v = .non ∧ D.nx σ H2) (WE W σ)) : tDrop (tMakeX C sp (WE W) args) D σ H :=
  h H (Ex.refl H) _ fun H1 e x dx h1 h2 h3 => hs H1 x dx e h1 h2 h3
theorem q_asgM {i : Nat} (h : EvA args σ H vs) (hs : ∀ H1 x dx, Ex H H1 → H1 x = none → H1 dx = none → dx ≠ x → sp (.ref x :: (vs ++ [])) (upd (upd H1 dx (.own x)) x (.ins C dx [])) (fun v H2 => v = .non ∧ tz D (σ.set i (some (.ref x))) H2) E) : tSeq (tAsg (tMake C sp [] E args) (gName i)) tz D σ H :=
  h H (Ex.refl H) _ fun H1 e x dx h1 h2 h3 => hs H1 x dx e h1 h2 h3
theorem s_retMX (ho : Ev ta σ H (.ref a)) (hi : H a = some (.ins C dx fs)) (hl : fs.lookup m = none) (h : EvA args σ H vs) (hs : ∀ H1, Ex H H1 → sp (.ref a :: vs) H1 D.rt (WE W σ)) : tRet (tMethX C m sp (WE W) ta args) D σ H :=
  ho H (Ex.refl H) _ fun H1 e1 => ⟨a, dx, fs, rfl, e1 _ _ hi, hl, h H1 e1 _ fun H2 e2 => hs H2 (e1.trans e2)⟩
theorem el_meth0 (ho : Ev ta σ H (.ref a)) (hi : H a = some (.ins C dx fs)) (hl : fs.lookup m = none) (hs : SpL sp [.ref a] H ys) : EvL (tMeth C m sp [] E ta tNil) σ H ys := fun H1 e Q q =>
  ho H1 e _ fun H2 e2 => ⟨a, dx, fs, rfl, (e.trans e2) _ _ hi, hl, hs H2 (e.trans e2) Q (fun p H3 hp e3 h3 => q p H3 (fresh_back e2 hp) (e2.trans e3) h3) E⟩
theorem ev_meth0 (ho : Ev ta σ H (.ref a)) (hi : H a = some (.ins C dx fs)) (hl : fs.lookup m = none) (hs : SpV sp [.ref a] H v) : Ev (tMeth C m sp [] E ta tNil) σ H v := fun H1 e Q q =>
  ho H1 e _ fun H2 e2 => ⟨a, dx, fs, rfl, (e.trans e2) _ _ hi, hl, hs H2 (e.trans e2) Q (fun H3 e3 => q H3 (e2.trans e3)) E⟩
theorem q_whenX (h : t σ H (fun x H1 => ∃ k, x = .bl k ∧ (if k = true then tu { D with nx := tz D } σ H1 else tz D σ H1))) : tSeq (tIfS (tTest t) tu tNext) tz D σ H := h
theorem s_whenX (h : t σ H (fun x H1 => ∃ k, x = .bl k ∧ (if k = true then tu D σ H1 else D.nx σ H1))) : tIfS (tTest t) tu tNext D σ H := h
theorem q_appX (ha : Ev ta σ H (.ref l)) (hl : H l = some (.lst xs)) (h : ∀ H1, Ex H H1 → te σ H1 (fun y H2 => rAppend (.ref l) [y] H2 (fun _ H3 => tz D σ H3))) :
    tSeq (tDrop (tBM K "list" rAppend ta (tCons te tNil))) tz D σ H := ha H (Ex.refl H) _ fun H1 e1 =>
  ⟨Or.inl ⟨rfl, xs, sq_of (e1 l _ hl)⟩, h H1 e1⟩
theorem s_appL1 (h : EvL ta σ H ys) (hz : ys.length < 100000) (he : ∀ H', Ev te σ H' v) (k : ∀ p H1, H p = none → Ex H H1 → D.nx σ (upd H1 p (.lst (ys ++ [v])))) : tDrop (tBM K "list" rAppend ta (tCons te tNil)) D σ H :=
  h H (Ex.refl H) _ fun p H1 hp e1 h1 => ⟨Or.inl ⟨rfl, ys, sq_of h1⟩, he H1 H1 (Ex.refl H1) _ fun H2 e2 => ⟨p, ys, v, rfl, rfl, e2 _ _ h1, sz_lt hz, k p H2 hp (e1.trans e2)⟩⟩
end
def spNoSize : Sp := fun vs H Q _ => ∃ (z : Str) (c : Int), vs = [.str z, .int c] ∧ 1 ≤ z.length ∧ z.length ≤ 4000 ∧ 0 ≤ c ∧ ∀ H', Ex H H' → Q (.bl true) H'
def spNumber (K : PySem.W.Frag) : Sp := fun vs H Q _ => ∃ (c m : Int), vs = [.int c, .int m] ∧ 0 ≤ c ∧ 1 ≤ m ∧ ∀ v H', Ex H H' → Kd K H' v → scal v .non = true ∨ isInt v = false → Q v H'
def spLPart (K : PySem.W.Frag) (C : Addr) : Sp := fun vs H Q _ => ∃ (x td : Addr) (z : Str) (n : Nat) (ks : List Nat) (v : V), vs = [.ref x, v] ∧ Bk C H x td z n ks ∧ 1 ≤ n ∧ 1 ≤ z.length ∧ z.length ≤ 4000 ∧ ks.length ≤ 9000 ∧ Kd K H v ∧
  (∀ j : Nat, v = .int (j : Int) → j < cnt z.length n → ∀ H', (∀ F : Hp, F td = none → Ex F H → Ex F H') → Bk C H' x td z n (addK ks j) → Q (.str (cutAt z n j)) H') ∧
  (inR 0 ((cnt z.length n : Int) - 1) v = false → ∀ H', Ex H H' → Q .non H')
theorem sv_noSize {H : Hp} {z : Str} {c : Int} (h1 : 1 ≤ z.length) (h2 : z.length ≤ 4000) (h3 : 0 ≤ c) : SpV spNoSize [.str z, .int c] H (.bl true) := fun H1 e Q q E => ⟨z, c, rfl, h1, h2, h3, q⟩
theorem sl_asked {C x td : Addr} {H : Hp} {z : Str} {n : Nat} {ks : List Nat} (h : Bk C H x td z n ks) : SpL (spAsked C) [.ref x] H (ks.map fun (k : Nat) => V.int (k : Int)) := fun H1 e Q q E => ⟨x, td, z, n, ks, rfl, h.ex e, q⟩
theorem sv_many {C x td : Addr} {H : Hp} {z : Str} {n : Nat} {ks : List Nat} (h : Bk C H x td z n ks) : SpV (spMany C) [.ref x] H (.int ((cnt z.length n : Nat) : Int)) := fun H1 e Q q E => ⟨x, td, z, n, ks, rfl, h.ex e, q⟩
end KB
namespace KB
open PySem L2 Evl
def nints (l : List Nat) : List V := l.map fun (k : Nat) => V.int (k : Int)
theorem nints_len (l : List Nat) : (nints l).length = l.length := List.length_map _
theorem nints_map (l : List Nat) : nints l = (l.map fun (k : Nat) => (k : Int)).map V.int := by unfold nints; rw [List.map_map]; rfl
theorem inV_ints (j : Nat) : ∀ l : List Nat, inV (.int (j : Int)) (nints l) = decide (j ∈ l)
  | [] => by simp [inV, nints]
  | k :: l => by
    have ih := inV_ints j l
    unfold inV at ih ⊢
    show (eqV (.int (k : Int)) (.int (j : Int)) || (nints l).any fun y => eqV y (.int (j : Int))) = _
    rw [ih]
    show (((k : Int) == (j : Int)) || decide (j ∈ l)) = _
    by_cases h : j = k
    · subst h; simp
    · have h2 : ((k : Int) == (j : Int)) = false := by
        rw [beq_eq_false_iff_ne]
        omega
      rw [h2, Bool.false_or]
      simp [h]
theorem flat_ints : ∀ l : List Nat, (nints l).all flatV = true
  | [] => rfl
  | k :: l => by
    show (flatV (.int (k : Int)) && (nints l).all flatV) = true
    rw [flat_ints l]
    rfl
theorem rv_neI {K : PySem.W.Frag} {H : Hp} {a b : Addr} {l : List Nat} (h1 : SqL K H a (nints l)) (h2 : SqL K H b (nints l)) : RV (rNeD K) (.ref a) (.ref b) H (.bl false) := by
  rw [nints_map] at h1 h2
  have h := rv_neD (H := H) (x := .ref a) (y := .ref b) (.lst h1 (dpAll_int _)) (.lst h2 (dpAll_int _)) (shaped_int _) (shaped_int _)
  rw [SeqAt.eqv_refl _ (SeqAt.canLay_of_shaped (shaped_int _))] at h
  exact h
/-- a pair of alike lists, which nothing changes -/
def Pr (F : Hp) (p : Addr) : Prop := ∃ (a b : Addr) (l : List Nat), F p = some (.lst [.ref a, .ref b]) ∧ F a = some (.lst (nints l)) ∧ F b = some (.lst (nints l))
theorem Pr.ex {F F' : Hp} {p : Addr} (e : Ex F F') (h : Pr F p) : Pr F' p := by
  obtain ⟨a, b, l, h1, h2, h3⟩ := h
  exact ⟨a, b, l, e _ _ h1, e _ _ h2, e _ _ h3⟩
theorem grow {F H' : Hp} {a : Addr} {o : HO} (e : Ex F H') (h : H' a = some o) : Ex (upd F a o) H' := fun b u hb => by
  by_cases hba : b = a
  · subst hba
    rw [upd_same] at hb
    cases hb
    exact h
  · rw [upd_ne hba] at hb
    exact e _ _ hb
theorem kept_but {H1 H2 : Hp} {td : Addr} (kp : ∀ F : Hp, F td = none → Ex F H1 → Ex F H2) : ∀ a o, a ≠ td → H1 a = some o → H2 a = some o := fun a o hn h =>
  kp (fun b => if b = td then none else H1 b) (if_pos rfl) (fun b u hb0 => by
    have hb : (if b = td then none else H1 b) = some u := hb0
    by_cases hbt : b = td
    · rw [if_pos hbt] at hb; cases hb
    · rw [if_neg hbt] at hb; exact hb) a o (by show (if a = td then none else H1 a) = some o; rw [if_neg hn]; exact h)
theorem bk_of {C : Addr} {F H : Hp} {x td dx pp : Addr} {z : Str} {n : Nat} {ks : List Nat} (e : Ex F H) (h1 : F x = some (.ins C dx (bf z.length n pp td))) (h2 : F pp = some (.lst (parts z n))) (h3 : H td = some (.dK (dk ks))) : Bk C H x td z n ks := ⟨⟨dx, pp, e _ _ h1, e _ _ h2⟩, h3⟩
def spWell (K : PySem.W.Frag) (C : Addr) : Sp := fun vs H Q _ => ∃ (x pc pw ph td dx pp : Addr) (z : Str) (n : Nat) (cs : List Int) (F : Hp), vs = [.ref x, .str z, .ref pc, .ref pw, .ref ph] ∧ Ex F H ∧ F td = none ∧ F pw = none ∧ F ph = none ∧ pw ≠ ph ∧
  F x = some (.ins C dx (bf z.length n pp td)) ∧ F pp = some (.lst (parts z n)) ∧ SqL K F pc (cs.map V.int) ∧ (∀ c ∈ cs, 0 ≤ c) ∧ cs.length ≤ 60 ∧ H td = some (.dK (dk [])) ∧ H pw = some (.lst []) ∧ H ph = some (.lst []) ∧ 1 ≤ n ∧ n ≤ 4000 ∧ 1 ≤ z.length ∧ z.length ≤ 4000 ∧
  ∀ (H' F' : Hp) (ks : List Nat) (prs : List Addr), Ex F F' → Ex F' H' → F' td = none → F' ph = none → ks.length ≤ 60 → H' td = some (.dK (dk ks)) → H' ph = some (.lst (prs.map V.ref)) → prs.length ≤ 60 → (∀ p ∈ prs, Pr F' p) → Q (.bl true) H'
theorem addK_len (ks : List Nat) (j : Nat) : (addK ks j).length ≤ ks.length + 1 := by
  unfold addK
  split
  · exact Nat.le_succ _
  · rw [List.length_append]; exact Nat.le_refl _
end KB
namespace KB
open PySem L2 Evl
theorem cutAt_list (z : Str) (n j : Nat) : (cutAt z n j).cps.toList = (z.cps.toList.drop (min (j * n) z.length)).take (min (j * n + n) z.length - min (j * n) z.length) := by
  unfold cutAt cutS
  have e1 : ((j : Int) * (n : Int)) = ((j * n : Nat) : Int) := by rw [Int.natCast_mul]
  have e2 : ((j : Int) * (n : Int) + (n : Int)) = ((j * n + n : Nat) : Int) := by rw [e1]; omega
  rw [e2, e1, HT.sIx_nat, HT.sIx_nat]
theorem cat_cuts (z : Str) (n : Nat) : ∀ m : Nat, catS ((List.range m).map (cutAt z n)) = z.cps.toList.take (min (m * n) z.length)
  | 0 => by simp [catS]
  | m + 1 => by
    rw [List.range_succ, List.map_append, catS_app, cat_cuts z n m]
    show _ ++ catS [cutAt z n m] = _
    rw [catS_one, cutAt_list, ← List.take_add]
    congr 1
    have : (m + 1) * n = m * n + n := Nat.succ_mul m n
    rw [this]
    omega
theorem join_cuts (z : Str) (n : Nat) (hn : 1 ≤ n) : Txt.join ("" : Str) ((List.range (cnt z.length n)).map (cutAt z n)) = z := by
  rw [join_cat, cat_cuts]
  have h : z.length ≤ cnt z.length n * n := by
    unfold cnt
    have h1 := Nat.div_add_mod (z.length + n - 1) n
    have h2 := Nat.mod_lt (z.length + n - 1) (show 0 < n by omega)
    have h3 : n * ((z.length + n - 1) / n) = (z.length + n - 1) / n * n := Nat.mul_comm _ _
    omega
  rw [Nat.min_eq_right h, List.take_of_length_le (show z.cps.toList.length ≤ z.length from Nat.le_refl _)]
theorem sum_cuts (z : Str) (n : Nat) (m : Nat) : (((List.range m).map (cutAt z n)).map (·.length)).sum ≤ z.length := by
  rw [catS_sum, cat_cuts, List.length_take]
  have : z.cps.toList.length = z.length := rfl
  omega
section
variable {σ : L2.St} {H : Hp} {te : TE} {args : TA} {D : Ends} {tz tu : TS} {sp : Sp} {dvs : List V} {E : XK} {R : VK}
theorem et_yes {σ : L2.St} {H : Hp} : EvT tYes σ H true := fun H1 _ _ q => q H1 (Ex.refl H1)
theorem q_whenN (h : te σ H (fun x H1 => ∃ c, x = .bl c ∧ (if (!c) = true then tu { D with nx := tz D } σ H1 else tz D σ H1))) : tSeq (tIfS (tNot (tB te)) tu tNext) tz D σ H := h
theorem e_call (h : args σ H (fun vs H1 => sp (vs ++ dvs) H1 R E)) : tCall sp dvs E args σ H R := h
end
end KB
namespace KB
open PySem L2 Evl
/-- a heap without two of its objects -/
def less (H : Hp) (a b : Addr) : Hp := fun d => if d = a then none else if d = b then none else H d
theorem less_ex (H : Hp) (a b : Addr) : Ex (less H a b) H := fun d u h => by
  have h' : (if d = a then none else if d = b then none else H d) = some u := h
  split at h'
  · cases h'
  · split at h'
    · cases h'
    · exact h'
theorem less_a (H : Hp) (a b : Addr) : less H a b a = none := if_pos rfl
theorem less_b (H : Hp) (a b : Addr) : less H a b b = none := by
  show (if b = a then none else if b = b then none else H b) = none
  split
  · rfl
  · rw [if_pos rfl]
theorem less_at {H : Hp} {a b d : Addr} {o : HO} (h : H d = some o) (h1 : d ≠ a) (h2 : d ≠ b) : less H a b d = some o := by
  show (if d = a then none else if d = b then none else H d) = some o
  rw [if_neg h1, if_neg h2]
  exact h
theorem less_no {H : Hp} {a b d : Addr} (h : H d = none) : less H a b d = none := by
  show (if d = a then none else if d = b then none else H d) = none
  split
  · rfl
  · split
    · rfl
    · exact h
theorem init_at {K : PySem.W.Frag} {C CN : Addr} {H : Hp} {x dx : Addr} {z : Str} {i : Int} {Q : VK} {E : XK} (nx : H x = none) (ndx : H dx = none) (nxd : dx ≠ x) (hz1 : 1 ≤ z.length) (hz2 : z.length ≤ 4000) (hi : 1 ≤ i ∧ i ≤ 4000)
    (k : ∀ (n : Nat) (td : Addr) (H' : Hp), i = (n : Int) → 1 ≤ n → n ≤ 4000 → H td = none → Ex H H' → Bk C H' x td z n [] → Q .non H') : spInit K C CN [.ref x, .str z, .int i] (upd (upd H dx (.own x)) x (.ins C dx [])) Q E := by
  have xo : Ex H (upd (upd H dx (.own x)) x (.ins C dx [])) := (Ex.new ndx).trans (Ex.new (by rw [upd_ne nxd.symm]; exact nx))
  refine ⟨x, dx, z, .int i, rfl, upd_same, hz1, hz2, kd_int _, fun n hn h1 h2 td H' ntd kp hB => ?_, fun hr0 => ?_⟩
  · exact k n td H' (V.int.inj hn) h1 h2 (fresh_back xo ntd) (kp H nx xo) hB
  · exfalso
    have hr1 : (decide ((1 : Int) ≤ i) && decide (i ≤ 4000)) = false := hr0
    rw [decide_eq_true hi.1, decide_eq_true hi.2] at hr1
    cases hr1
end KB
namespace KB
open PySem L2 Evl
theorem Bk.near {C x td b : Addr} {H : Hp} {z : Str} {n : Nat} {ks : List Nat} {ys : List V} {o : HO} (h : Bk C H x td z n ks) (hb : H b = some (.lst ys)) (hl : ys.length ≠ cnt z.length n) : Bk C (upd H b o) x td z n ks := h.off hb (fun e => hl (by rw [e, parts_len]))
end KB
namespace KB
open PySem L2 Evl
section
variable {σ : L2.St} {H : Hp} {ta te : TE} {args : TA} {R : VK} {sp : Sp} {vs : List V} {E : XK} {C a dx : Addr} {m : Str} {fs : List (Str × V)}
theorem e_lcR1 {ws : List Nat} {j n : Nat} (h : EvA args σ H [.int (n : Int)]) (hn : n ≤ 40000) (hw : ∀ x, wipe ((wipe σ ws).set j (some x)) ws = wipe σ ws)
    (k : ∀ H1 Dl, Ex H H1 → H1 Dl = none → ∃ Pv : Nat → Hp → Prop, Pv 0 (upd H1 Dl (.lst [])) ∧ (∀ i H', i < n → Pv i H' → te ((wipe σ ws).set j (some (.int (i : Int)))) H' (fun y H4 => ∃ acc, H4 Dl = some (.lst acc) ∧ acc.length < sizeLine ∧ Pv (i + 1) (upd H4 Dl (.lst (acc ++ [y]))))) ∧ (∀ H', Pv n H' → R (.ref Dl) H')) :
    tLc (iRng1 args) (gName j) tYes te ws σ H R := h H (Ex.refl H) _ fun H1 e1 => ⟨(n : Int), rfl, by omega, by omega, fun Dl hD => by
  obtain ⟨Pv, h0, hs, hd⟩ := k H1 Dl e1 hD
  refine lc_range (lo := 0) (n := (n : Int).toNat) Pv h0 (fun i H' hi p => ?_) (fun H' p => hd H' (by rw [Int.toNat_natCast] at p; exact p))
  have e0 : (0 : Int) + (i : Int) = (i : Int) := Int.zero_add _
  show wipe ((wipe σ ws).set j (some (.int ((0 : Int) + (i : Int))))) ws = wipe σ ws ∧ _
  rw [e0]
  refine ⟨hw _, ?_⟩
  unfold tYes
  dsimp only
  rw [if_pos rfl]
  exact hs i H' (by omega) p⟩
theorem e_meth (ho : Ev ta σ H (.ref a)) (hi : H a = some (.ins C dx fs)) (hl : fs.lookup m = none) (h : EvA args σ H vs) (hs : ∀ H1, Ex H H1 → sp (.ref a :: (vs ++ [])) H1 R E) : tMeth C m sp [] E ta args σ H R :=
  ho H (Ex.refl H) _ fun H1 e1 => ⟨a, dx, fs, rfl, e1 _ _ hi, hl, h H1 e1 _ fun H2 e2 => hs H2 (e1.trans e2)⟩
end
end KB
namespace KB
open PySem L2 Evl
section
variable {K : PySem.W.Frag} {σ : L2.St} {H : Hp} {ta tb te : TE} {a : Addr} {D : Ends} {tz tu : TS} {args : TA}
theorem ev_intB {b : Bool} (h : Ev te σ H (.bl b)) : Ev (tCB (fun xs H Q => (∃ i, xs = [.int i] ∧ Q (.int i) H) ∨ ∃ k, xs = [.bl k] ∧ Q (.int (if k then 1 else 0)) H) (tCons te tNil)) σ H (.int (if b then 1 else 0)) := fun H1 e _ q =>
  h H1 e _ fun H2 e2 => .inr ⟨b, rfl, q H2 e2⟩
theorem ev_Max2 {i j : Int} (ha : Ev ta σ H (.int i)) (hb : Ev tb σ H (.int j)) : Ev (tCB (fun xs H Q => ∃ i j, xs = [.int i, .int j] ∧ Q (.int (if j > i then j else i)) H) (tCons ta (tCons tb tNil))) σ H (.int (max i j)) := fun H1 e Q q =>
  ha H1 e _ fun H2 e2 => hb H2 (e.trans e2) _ fun H3 e3 => ⟨i, j, rfl, by
    have z : (if j > i then j else i) = max i j := by split <;> omega
    show Q (.int (if j > i then j else i)) H3
    rw [z]; exact q H3 (e2.trans e3)⟩
theorem ev_minL {ns : List Int} (h : Ev ta σ H (.ref a)) (hs : SqL K H a (ns.map V.int)) (hn : 0 < ns.length) : Ev (tCB (rMin K) (tCons ta tNil)) σ H (.int (lmin ns)) := fun H1 e Q q =>
  h H1 e _ fun H2 e2 => ⟨a, ns, rfl, ex_l (e.trans e2) hs, hn, fun m h1 h2 => by rw [lmin_is h1 h2]; exact q H2 e2⟩
theorem ev_count {ns : List Int} {k : Int} (h : Ev ta σ H (.ref a)) (hs : SqL K H a (ns.map V.int)) (hk : Ev tb σ H (.int k)) : Ev (tBM K "list" (rCntI K) ta (tCons tb tNil)) σ H (.int ((ns.count k : Nat) : Int)) := fun H1 e Q q =>
  h H1 e _ fun H2 e2 => ⟨.inl ⟨rfl, _, ex_l (e.trans e2) hs⟩, hk H2 (e.trans e2) _ fun H3 e3 => ⟨a, ns, k, rfl, rfl, ex_l ((e.trans e2).trans e3) hs, q H3 (e2.trans e3)⟩⟩
/-- for x in range(lo, hi, c) -/
theorem q_forR3 {j : Nat} {lo hi c : Int} {n : Nat} (h : EvA args σ H [.int lo, .int hi, .int c]) (hrg : RgC lo hi c n) (Pv : Nat → L2.St → Hp → Prop) (h0 : ∀ H1, Ex H H1 → Pv 0 σ H1)
    (hs : ∀ (i : Nat) σ' H', i < n → Pv i σ' H' → tu { D with nx := Pv (i + 1), ct := Pv (i + 1), bk := tz D } (σ'.set j (some (.int (lo + (i : Nat) * c)))) H') (hd : ∀ σ' H', Pv n σ' H' → tz D σ' H') : tSeq (tFor (iRng3 args) (gName j) tu) tz D σ H :=
  h H (Ex.refl H) _ fun H1 e => ⟨lo, hi, c, n, rfl, hrg, for_rangeC (lo := lo) (c := c) (n := n) Pv (h0 H1 e) (fun i σ' H' hi' p => hs i σ' H' hi' p) hd⟩
end
/-! ### heights and books -/
def row (L : List Bool) (n j : Nat) : List V := [.int (ht L (j * n)), .int (lmin (seg L n j)), .int (((seg L n j).count (lmin (seg L n j)) : Nat) : Int)]
/-- the book stands at p: a list of tuples -/
structure Bok (H : Hp) (p : Addr) (L : List Bool) (n : Nat) (qs : List Addr) : Prop where
  ls : H p = some (.lst (qs.map V.ref))
  ln : qs.length = cnt L.length n
  rw_ : ∀ (j : Nat) (q : Addr), qs[j]? = some q → H q = some (.tup (row L n j))
theorem Bok.ex {H H' : Hp} {p : Addr} {L : List Bool} {n : Nat} {qs : List Addr} (e : Ex H H') (h : Bok H p L n qs) : Bok H' p L n qs := ⟨e _ _ h.ls, h.ln, fun j q hq => e _ _ (h.rw_ j q hq)⟩
def spHeights : Sp := fun vs H Q _ => ∃ (L : List Bool), vs = [.str (txt L)] ∧ L.length ≤ 5000 ∧ ∀ p H', H p = none → Ex H H' → H' p = some (.lst ((hts L).map V.int)) → Q (.ref p) H'
def spBook : Sp := fun vs H Q _ => ∃ (L : List Bool) (n : Nat), vs = [.str (txt L), .int (n : Int)] ∧ 1 ≤ L.length ∧ L.length ≤ 4000 ∧ 1 ≤ n ∧ n ≤ 4000 ∧ ∀ p qs H', H p = none → Ex H H' → Bok H' p L n qs → (∀ q ∈ qs, H q = none) → Q (.ref p) H'
def spSize (K : PySem.W.Frag) : Sp := fun vs H Q _ => ∃ (a : Addr) (ns : List Int) (L : List Bool), vs = [.ref a, .str (txt L)] ∧ SqL K H a (ns.map V.int) ∧ L.length ≤ 1000 ∧ ∀ (n : Nat) H', 1 ≤ n → n ≤ 1000 → Ex H H' → Q (.int (n : Int)) H'
def spFew (C : Addr) : Sp := fun vs H Q _ => ∃ (x td : Addr) (z : Str) (n : Nat) (ks : List Nat) (m : Int), vs = [.ref x, .int m] ∧ Bk C H x td z n ks ∧ ∀ H', Ex H H' → Q (.bl (decide ((ks.length : Int) ≤ m))) H'
section
variable {K : PySem.W.Frag} {H : Hp}
theorem sl_heights {L : List Bool} (h : L.length ≤ 5000) : SpL spHeights [.str (txt L)] H ((hts L).map V.int) := fun H1 e Q q E => ⟨L, rfl, h, q⟩
theorem sv_few {C x td : Addr} {z : Str} {n : Nat} {ks : List Nat} {m : Int} (h : Bk C H x td z n ks) : SpV (spFew C) [.ref x, .int m] H (.bl (decide ((ks.length : Int) ≤ m))) := fun H1 e Q q E => ⟨x, td, z, n, ks, m, rfl, h.ex e, q⟩
end
end KB
namespace KB
open PySem L2 Evl
def kats (L : List Bool) (i : Nat) : List V := (List.range i).map fun j => V.int (kat L j)
theorem kats_len (L : List Bool) (i : Nat) : (kats L i).length = i := by unfold kats; rw [List.length_map, List.length_range]
theorem kats_succ (L : List Bool) (i : Nat) : kats L (i + 1) = kats L i ++ [.int (kat L i)] := by unfold kats; rw [List.range_succ, List.map_append]; rfl
def spKnots (K : PySem.W.Frag) : Sp := fun vs H Q _ => ∃ (a : Addr) (P : List Int), vs = [.ref a] ∧ SqL K H a (pV (par P)) ∧ Good P ∧ P.length < 2000 ∧ ∀ p H', H p = none → Ex H H' → H' p = some (.lst (kats (full P) (full P).length)) → Q (.ref p) H'
section
variable {K : PySem.W.Frag} {σ : L2.St} {H : Hp} {ta te : TE} {l a : Addr} {xs ys : List V} {D : Ends}
theorem s_appX (ha : Ev ta σ H (.ref l)) (hl : H l = some (.lst xs)) (h : ∀ H1, Ex H H1 → te σ H1 (fun y H2 => rAppend (.ref l) [y] H2 (fun _ H3 => D.nx σ H3))) :
    tDrop (tBM K "list" rAppend ta (tCons te tNil)) D σ H := ha H (Ex.refl H) _ fun H1 e1 => ⟨Or.inl ⟨rfl, xs, sq_of (e1 l _ hl)⟩, h H1 e1⟩
theorem el_revL (h : Ev te σ H (.ref a)) (hs : SqL K H a xs) : EvL (tRevL K te) σ H xs.reverse := fun H1 e Q q =>
  h H1 e _ fun H2 e2 => ⟨a, xs, rfl, ex_l (e.trans e2) hs, fun p hp => q p _ (fresh_back e2 hp) (e2.trans (Ex.new hp)) upd_same⟩
theorem el_catL1 {b : Addr} (h1 : Ev ta σ H (.ref b)) (hb : H b = some (.lst xs)) (h2 : EvL te σ H ys) (hl : xs.length + ys.length ≤ 100000) : EvL (tOp rCat ta te) σ H (xs ++ ys) := fun H1 e Q q =>
  h1 H1 e _ fun H2 e2 => h2 H2 (e.trans e2) _ fun p2 H3 hp2 e3 h3' => ⟨b, p2, xs, ys, rfl, rfl, ((e.trans e2).trans e3) _ _ hb, h3', sz_of hl, fun l hl => q l _ (fresh_back (e2.trans e3) hl) ((e2.trans e3).trans (Ex.new hl)) upd_same⟩
end
/-- the bits of the k-th turn -/
theorem turn_bits {P : List Int} (hg : Good P) {i : Nat} (hi : i ≤ P.length) {J : Nat} (he : rb P (i + 1) = rb P i ++ List.replicate J false ++ [true]) :
    (∀ j, j < J → (full P)[(rb P i).length + j]? = some false) ∧ (full P)[(rb P i).length + J]? = some true ∧ (rb P i).length + J = pl P i ∧ (rb P (i + 1)).length = (rb P i).length + J + 1 := by
  obtain ⟨r, hr⟩ := full_take P i hi hg
  have h1 : rb P (i + 1) = (run (P.take i)).bs := rfl
  have hl : (rb P (i + 1)).length = (rb P i).length + J + 1 := by rw [he, List.length_append, List.length_append, List.length_replicate]; rfl
  have hp : (rb P i).length + J = pl P i := by unfold pl; rw [← h1, hl]; rfl
  refine ⟨fun j hj => ?_, by rw [hp]; exact full_pl hg hi, hp, hl⟩
  rw [hr, ← h1, he, List.append_assoc, List.append_assoc, List.getElem?_append_right (Nat.le_add_right _ _), Nat.add_sub_cancel_left, List.getElem?_append_left (by rw [List.length_replicate]; exact hj), List.getElem?_replicate, if_pos hj]
theorem sk_rb {P : List Int} (hg : Good P) {i : Nat} (hi : i ≤ P.length + 1) : sk (full P) (rb P i).length = rs P i := by
  cases i with
  | zero => rfl
  | succ i => exact sk_bs hg (by omega)
theorem sk_zeros {L : List Bool} {b : Nat} : ∀ j, (∀ l, l < j → L[b + l]? = some false) → sk L (b + j) = (sk L b).drop j
  | 0, _ => rfl
  | j + 1, h => by
    rw [← Nat.add_assoc, sk_zero (h j (Nat.lt_succ_self _)), sk_zeros j (fun l hl => h l (Nat.lt_succ_of_lt hl)), List.tail_drop]
end KB
namespace KB
open PySem L2 Evl
def spPlaces : Sp := fun vs H Q _ => ∃ (L : List Bool), vs = [.str (txt L)] ∧ L.length ≤ 5000 ∧ ∀ p H', H p = none → Ex H H' → H' p = some (.lst (nints (plcs L L.length))) → Q (.ref p) H'
def spDepth (K : PySem.W.Frag) : Sp := fun vs H Q _ => ∃ (a : Addr) (P : List Int) (k : Nat), vs = [.ref a, .int (k : Int)] ∧ SqL K H a (pV (par P)) ∧ Good P ∧ k ≤ P.length ∧ P.length ≤ 5000 ∧ ∀ H', Ex H H' → Q (.int (dep P k : Int)) H'
end KB
namespace KB
open PySem L2 Evl
def oN : Option Nat → V
  | none => .non
  | some j => .int (j : Int)
def spBen (K : PySem.W.Frag) : Sp := fun vs H Q _ => ∃ (a : Addr) (P : List Int) (k : Nat), vs = [.ref a, .int (k : Int)] ∧ SqL K H a (pV (par P)) ∧ Good P ∧ k ≤ P.length ∧ P.length < 2000 ∧ ∀ H', Ex H H' → Q (.int (ben P k : Int)) H'
def spBes (K : PySem.W.Frag) : Sp := fun vs H Q _ => ∃ (a : Addr) (P : List Int) (k : Nat), vs = [.ref a, .int (k : Int)] ∧ SqL K H a (pV (par P)) ∧ Good P ∧ k ≤ P.length ∧ P.length < 2000 ∧ ∀ H', Ex H H' → Q (oN (bes P k)) H'
def spKids (K : PySem.W.Frag) : Sp := fun vs H Q _ => ∃ (a : Addr) (P : List Int) (k : Nat), vs = [.ref a, .int (k : Int)] ∧ SqL K H a (pV (par P)) ∧ k ≤ P.length ∧ P.length < 2000 ∧ ∀ p H', H p = none → Ex H H' → H' p = some (.lst (nints (kidL P k (P.length + 1)))) → Q (.ref p) H'
def spLine (K : PySem.W.Frag) : Sp := fun vs H Q _ => ∃ (a : Addr) (P : List Int) (k : Nat), vs = [.ref a, .int (k : Int)] ∧ SqL K H a (pV (par P)) ∧ Good P ∧ k ≤ P.length ∧ P.length < 2000 ∧ ∀ p H', H p = none → Ex H H' → H' p = some (.lst ((line P k).map V.int)) → Q (.ref p) H'
def spElder (K : PySem.W.Frag) : Sp := fun vs H Q _ => ∃ (a : Addr) (P : List Int) (k l : Nat), vs = [.ref a, .int (k : Int), .int (l : Int)] ∧ SqL K H a (pV (par P)) ∧ Good P ∧ k ≤ P.length ∧ l ≤ P.length ∧ P.length < 2000 ∧ ∀ H', Ex H H' → Q (.int (eld P k l)) H'
def spPair (K : PySem.W.Frag) : Sp := fun vs H Q _ => ∃ (a : Addr) (P : List Int) (c : Int), vs = [.ref a, .int c] ∧ SqL K H a (pV (par P)) ∧ Good P ∧ 0 ≤ c ∧ P.length < 2000 ∧ ∀ p k l H', H p = none → Ex H H' → k ≤ P.length → l ≤ P.length → H' p = some (.tup [.int ((k : Nat) : Int), .int ((l : Nat) : Int)]) → Q (.ref p) H'
theorem par_at_some {P : List Int} {i : Nat} {x : Option Int} (h : (par P)[i]? = some x) : atI (pV (par P)) (i : Int) = some (oV x) := by
  refine atI_nat ?_
  unfold pV
  rw [List.getElem?_map, h]
  rfl
theorem inV_mapI (v : Int) : ∀ l : List Int, inV (.int v) (l.map V.int) = decide (v ∈ l)
  | [] => by simp [inV]
  | k :: l => by
    have ih := inV_mapI v l
    unfold inV at ih ⊢
    show (eqV (.int k) (.int v) || (l.map V.int).any fun y => eqV y (.int v)) = _
    rw [ih]
    show ((k == v) || _) = _
    by_cases h : k = v
    · subst h; simp
    · have h2 : ¬ v = k := fun z => h z.symm
      simp [h, h2]
theorem flat_mapI : ∀ l : List Int, (l.map V.int).all flatV = true
  | [] => rfl
  | k :: l => by
    show (flatV (.int k) && (l.map V.int).all flatV) = true
    rw [flat_mapI l]
    rfl
end KB
namespace KB
open PySem L2 Evl
section
variable {K : PySem.W.Frag} {H : Hp} {a : Addr} {P : List Int} {k l : Nat}
theorem sl_line (hS : SqL K H a (pV (par P))) (hg : Good P) (hk : k ≤ P.length) (hl : P.length < 2000) : SpL (spLine K) [.ref a, .int (k : Int)] H ((line P k).map V.int) := fun H1 e Q q E => ⟨a, P, k, rfl, ex_l e hS, hg, hk, hl, q⟩
end
end KB
namespace KB
open PySem L2 Evl
/-! ### two books alike -/
def rowD (L : List Bool) (n j : Nat) : PyData := .tuple [.int (ht L (j * n)), .int (lmin (seg L n j)), .int (((seg L n j).count (lmin (seg L n j)) : Nat) : Int)]
def bookD (L : List Bool) (n a m : Nat) : List PyData := (List.range' a m).map (rowD L n)
theorem bookD_can (L : List Bool) (n : Nat) : ∀ m a, PyData.canLayAll0 (bookD L n a m) = true
  | 0, _ => by simp [bookD, PyData.canLayAll0]
  | m + 1, a => by
    have ih := bookD_can L n m (a + 1)
    unfold bookD at ih ⊢
    rw [List.range'_succ, List.map_cons]
    simp only [PyData.canLayAll0, ih, Bool.and_true]
    simp [rowD, PyData.canLay0, PyData.canLayAll0]
theorem bookD_depth (L : List Bool) (n : Nat) : ∀ m a, PyData.depthAll (bookD L n a m) ≤ 1
  | 0, _ => by simp [bookD, PyData.depthAll]
  | m + 1, a => by
    have ih := bookD_depth L n m (a + 1)
    unfold bookD at ih ⊢
    rw [List.range'_succ, List.map_cons]
    simp only [PyData.depthAll]
    have h1 : PyData.depth (rowD L n a) ≤ 1 := by simp [rowD, PyData.depth, PyData.depthAll]
    omega
theorem bookD_shaped (L : List Bool) (n m a : Nat) : SeqAt.shaped (.list (bookD L n a m)) = true := by
  have h := bookD_depth L n m a
  have h2 : PyData.depth (.list (bookD L n a m)) ≤ 64 := by
    simp only [PyData.depth]
    omega
  have h1 : PyData.canLay0 (.list (bookD L n a m)) = true := by
    simp only [PyData.canLay0, bookD_can]
  show (PyData.canLay0 _ && decide _) = true
  rw [h1, decide_eq_true h2]
  rfl
theorem bookD_all {K : PySem.W.Frag} {H : Hp} {L : List Bool} {n : Nat} : ∀ (qs : List Addr) (a : Nat), (∀ (j : Nat) (q : Addr), qs[j]? = some q → H q = some (.tup (row L n (a + j)))) → DpAll K H (qs.map V.ref) (bookD L n a qs.length)
  | [], a, _ => .nil
  | q :: qs, a, h => by
    have h0 := h 0 q rfl
    have ih := bookD_all (K := K) qs (a + 1) (fun j r hj => by
      have := h (j + 1) r (by rw [List.getElem?_cons_succ]; exact hj)
      rw [show a + 1 + j = a + (j + 1) by omega]
      exact this)
    unfold bookD at ih ⊢
    rw [List.length_cons, List.range'_succ, List.map_cons, List.map_cons]
    exact .cons (.tup (st_of h0) (.cons (.int _) (.cons (.int _) (.cons (.int _) .nil)))) ih
theorem Bok.dp {K : PySem.W.Frag} {H : Hp} {p : Addr} {L : List Bool} {n : Nat} {qs : List Addr} (h : Bok H p L n qs) : Dp K H (.ref p) (.list (bookD L n 0 (cnt L.length n))) := by
  rw [← h.ln]
  refine .lst (sq_of h.ls) (bookD_all qs 0 fun j q hq => ?_)
  rw [Nat.zero_add]
  exact h.rw_ j q hq
theorem rv_neBok {K : PySem.W.Frag} {H : Hp} {p r : Addr} {L : List Bool} {n : Nat} {qs rs' : List Addr} (h1 : Bok H p L n qs) (h2 : Bok H r L n rs') : RV (rNeD K) (.ref p) (.ref r) H (.bl false) := by
  have h := rv_neD (K := K) h1.dp h2.dp (bookD_shaped L n _ 0) (bookD_shaped L n _ 0)
  rw [SeqAt.eqv_refl _ (SeqAt.canLay_of_shaped (bookD_shaped L n _ 0))] at h
  exact h
theorem rv_eqBok {K : PySem.W.Frag} {H : Hp} {p r : Addr} {L : List Bool} {n : Nat} {qs rs' : List Addr} (h1 : Bok H p L n qs) (h2 : Bok H r L n rs') : RV (rEqD K) (.ref p) (.ref r) H (.bl true) := by
  have h := rv_eqD (K := K) h1.dp h2.dp (bookD_shaped L n _ 0) (bookD_shaped L n _ 0)
  rw [SeqAt.eqv_refl _ (SeqAt.canLay_of_shaped (bookD_shaped L n _ 0))] at h
  exact h
/-! ### asking: all stays but what was told -/
def Kept (td : Addr) (H H' : Hp) : Prop := ∀ F : Hp, F td = none → Ex F H → Ex F H'
theorem Kept.at_ {td a : Addr} {H H' : Hp} {o : HO} (k : Kept td H H') (n : a ≠ td) (h : H a = some o) : H' a = some o := kept_but k a o n h
theorem Kept.of {td : Addr} {H H' : Hp} (e : Ex H H') : Kept td H H' := fun _ _ h => h.trans e
theorem Kept.trans {td : Addr} {H1 H2 H3 : Hp} (a : Kept td H1 H2) (b : Kept td H2 H3) : Kept td H1 H3 := fun F n e => b F n (a F n e)
theorem Bk.but {C x td td2 : Addr} {H H' : Hp} {z : Str} {n : Nat} {ks : List Nat} {kvs : List (Key × V)} (h : Bk C H x td z n ks) (k : Kept td2 H H') (h2 : H td2 = some (.dK kvs)) (ne : td ≠ td2) : Bk C H' x td z n ks := by
  obtain ⟨⟨dx, pp, g1, g2⟩, g3⟩ := h
  exact ⟨⟨dx, pp, k.at_ (ne_of g1 h2 (by intro q; cases q)) g1, k.at_ (ne_of g2 h2 (by intro q; cases q)) g2⟩, k.at_ ne g3⟩
def asks (ks rd : List Nat) : List Nat := rd.foldl addK ks
theorem asks_len (rd : List Nat) : ∀ ks, (asks ks rd).length ≤ ks.length + rd.length := by
  induction rd with
  | nil => intro ks; exact Nat.le_refl _
  | cons j rd ih =>
    intro ks
    show (asks (addK ks j) rd).length ≤ _
    have h1 := ih (addK ks j)
    have h2 := addK_len ks j
    rw [List.length_cons]
    omega
theorem mem_addK {ks : List Nat} {i j : Nat} : i ∈ addK ks j ↔ i ∈ ks ∨ i = j := by
  unfold addK
  split
  · rename_i h
    constructor
    · exact .inl
    · rintro (h1 | h1)
      · exact h1
      · rw [h1]; exact h
  · rw [List.mem_append, List.mem_singleton]
theorem mem_asks {i : Nat} : ∀ (rd ks : List Nat), i ∈ asks ks rd ↔ i ∈ ks ∨ i ∈ rd
  | [], ks => by simp [asks]
  | j :: rd, ks => by
    show i ∈ asks (addK ks j) rd ↔ _
    rw [mem_asks rd, mem_addK, List.mem_cons, or_assoc]
theorem asks_in : ∀ (rd ks : List Nat), (∀ i ∈ rd, i ∈ ks) → asks ks rd = ks
  | [], ks, _ => rfl
  | j :: rd, ks, h => by
    show asks (addK ks j) rd = ks
    have e : addK ks j = ks := if_pos (h j List.mem_cons_self)
    rw [e]
    exact asks_in rd ks fun i hi => h i (List.mem_cons_of_mem _ hi)
theorem asks_twice (rd ks : List Nat) : asks (asks ks rd) rd = asks ks rd := asks_in rd _ fun i hi => (mem_asks rd ks).mpr (.inr hi)
theorem asks_app (a b ks : List Nat) : asks ks (a ++ b) = asks (asks ks a) b := List.foldl_append
/-- the text told agrees with the bits in the blocks read -/
def Same (z : Str) (L : List Bool) (n : Nat) (rd : List Nat) : Prop := ∀ j ∈ rd, cutAt z n j = cutAt (txt L) n j
/-- what is handed to a question -/
structure Given (C : Addr) (H : Hp) (b x td : Addr) (qs : List Addr) (P : List Int) (z : Str) (n : Nat) (ks : List Nat) : Prop where
  bok : Bok H b (full P) n qs
  bk : Bk C H x td z n ks
  gd : Good P
  le : P.length < 160
  n1 : 1 ≤ n
  n2 : n ≤ 4000
  zl : z.length = (full P).length
  kl : ks.length ≤ 8000
def spAns (K : PySem.W.Frag) (C CK : Addr) (top : List Int → Nat) (f : List Int → Nat → V) (rd : List Int → Nat → Nat → List Nat) : Sp := fun vs H Q E => ∃ (b x td : Addr) (qs : List Addr) (P : List Int) (z : Str) (n : Nat) (ks : List Nat) (v : V), vs = [.ref b, .ref x, v] ∧ Given C H b x td qs P z n ks ∧ Kd K H v ∧
  (∀ k : Nat, v = .int (k : Int) → k < top P → Same z (full P) n (rd P n k) ∧ ∀ H', Kept td H H' → Bk C H' x td z n (asks ks (rd P n k)) → Q (f P k) H') ∧ (inR 0 ((top P : Int) - 1) v = false → ∀ H', Ex H H' → E (.ref CK) none H')
def spAnsKid (K : PySem.W.Frag) (C CK : Addr) (f : List Int → Nat → Nat → V) (rd : List Int → Nat → Nat → Nat → List Nat) : Sp := fun vs H Q E => ∃ (b x td : Addr) (qs : List Addr) (P : List Int) (z : Str) (n : Nat) (ks : List Nat) (v : V) (m : Nat), vs = [.ref b, .ref x, v, .int (m : Int)] ∧ Given C H b x td qs P z n ks ∧ Kd K H v ∧
  (∀ k : Nat, v = .int (k : Int) → k < P.length + 1 → Same z (full P) n (rd P n k m) ∧ ∀ H', Kept td H H' → Bk C H' x td z n (asks ks (rd P n k m)) → Q (f P k m) H') ∧ (inR 0 ((P.length + 1 : Int) - 1) v = false → ∀ H', Ex H H' → E (.ref CK) none H')
def spAnsTwo (K : PySem.W.Frag) (C CK : Addr) (f : List Int → Nat → Nat → V) (rd : List Int → Nat → Nat → Nat → List Nat) : Sp := fun vs H Q E => ∃ (b x td : Addr) (qs : List Addr) (P : List Int) (z : Str) (n : Nat) (ks : List Nat) (v u : V), vs = [.ref b, .ref x, v, u] ∧ Given C H b x td qs P z n ks ∧ Kd K H v ∧ Kd K H u ∧
  (∀ k m : Nat, v = .int (k : Int) → u = .int (m : Int) → k < P.length + 1 → m < P.length + 1 → Same z (full P) n (rd P n k m) ∧ ∀ H', Kept td H H' → Bk C H' x td z n (asks ks (rd P n k m)) → Q (f P k m) H') ∧ (inR 0 ((P.length + 1 : Int) - 1) v = false ∨ inR 0 ((P.length + 1 : Int) - 1) u = false → ∀ H', Ex H H' → E (.ref CK) none H')
/-- how many knots, places -/
def topK (P : List Int) : Nat := P.length + 1
def topP (P : List Int) : Nat := (full P).length
def aPlace (P : List Int) (k : Nat) : V := .int (pl P k : Int)
def aDepth (P : List Int) (k : Nat) : V := .int (dep P k : Int)
def aKnot (P : List Int) (j : Nat) : V := .int (kat (full P) j)
def aAbove (P : List Int) (k : Nat) : V := oV (((par P)[k]?).getD none)
def aBeneath (P : List Int) (k : Nat) : V := .int (ben P k : Int)
def aBeside (P : List Int) (k : Nat) : V := oN (bes P k)
def kidsOf (P : List Int) (k : Nat) : List Nat := kidL P k (P.length + 1)
def aKids (P : List Int) (k : Nat) : V := .int ((kidsOf P k).length : Int)
def aKid (P : List Int) (k m : Nat) : V := oN ((kidsOf P k)[m]?)
def aElder (P : List Int) (k m : Nat) : V := .int (eld P k m)
theorem same_self (L : List Bool) (n : Nat) (rd : List Nat) : Same (txt L) L n rd := fun _ _ => rfl
section
variable {K : PySem.W.Frag} {C CK : Addr} {top : List Int → Nat} {f : List Int → Nat → V} {g : List Int → Nat → Nat → V} {rd : List Int → Nat → Nat → List Nat} {re : List Int → Nat → Nat → Nat → List Nat}
  {H : Hp} {b x td : Addr} {qs : List Addr} {P : List Int} {n k m : Nat} {ks : List Nat} {Q : VK} {E : XK}
theorem not_out {i t : Int} (h0 : 0 ≤ i) (ht : i < t) : ¬ inR 0 (t - 1) (.int i) = false := fun h => by
  have h' : (decide ((0 : Int) ≤ i) && decide (i ≤ t - 1)) = false := h
  rw [decide_eq_true h0, decide_eq_true (by omega)] at h'
  cases h'
theorem ask (h : Given C H b x td qs P (txt (full P)) n ks) (hk : k < top P) (q : ∀ H', Kept td H H' → Bk C H' x td (txt (full P)) n (asks ks (rd P n k)) → Q (f P k) H') : spAns K C CK top f rd [.ref b, .ref x, .int (k : Int)] H Q E :=
  ⟨b, x, td, qs, P, _, n, ks, _, rfl, h, kd_int _, fun k' e _ => by
    have e2 : k' = k := by have := V.int.inj e; omega
    subst e2
    exact ⟨same_self _ _ _, q⟩, fun ho => absurd ho (not_out (by omega) (by omega))⟩
theorem askKid (h : Given C H b x td qs P (txt (full P)) n ks) (hk : k < P.length + 1) (q : ∀ H', Kept td H H' → Bk C H' x td (txt (full P)) n (asks ks (re P n k m)) → Q (g P k m) H') : spAnsKid K C CK g re [.ref b, .ref x, .int (k : Int), .int (m : Int)] H Q E :=
  ⟨b, x, td, qs, P, _, n, ks, _, m, rfl, h, kd_int _, fun k' e _ => by
    have e2 : k' = k := by have := V.int.inj e; omega
    subst e2
    exact ⟨same_self _ _ _, q⟩, fun ho => absurd ho (not_out (by omega) (by omega))⟩
theorem askTwo (h : Given C H b x td qs P (txt (full P)) n ks) (hk : k < P.length + 1) (hm : m < P.length + 1) (q : ∀ H', Kept td H H' → Bk C H' x td (txt (full P)) n (asks ks (re P n k m)) → Q (g P k m) H') : spAnsTwo K C CK g re [.ref b, .ref x, .int (k : Int), .int (m : Int)] H Q E :=
  ⟨b, x, td, qs, P, _, n, ks, _, _, rfl, h, kd_int _, kd_int _, fun k' m' e e' _ _ => by
    have e2 : k' = k := by have := V.int.inj e; omega
    have e3 : m' = m := by have := V.int.inj e'; omega
    subst e2 e3
    exact ⟨same_self _ _ _, q⟩, fun ho => by
    rcases ho with ho | ho
    · exact absurd ho (not_out (by omega) (by omega))
    · exact absurd ho (not_out (by omega) (by omega))⟩
end
end KB
namespace KB
open PySem L2 Evl
/-! ### which blocks are read -/
theorem few_asks {ks rd : List Nat} {m : Nat} (h : ks.length + rd.length ≤ m) : decide (((asks ks rd).length : Int) ≤ (m : Int)) = true := by
  have := asks_len rd ks
  exact decide_eq_true (by omega)
section
variable {K : PySem.W.Frag} {H : Hp} {a : Addr} {P : List Int} {L : List Bool} {k l : Nat}
theorem sl_places (h : L.length ≤ 5000) : SpL spPlaces [.str (txt L)] H (nints (plcs L L.length)) := fun H1 e Q q E => ⟨L, rfl, h, q⟩
theorem sv_depth (hS : SqL K H a (pV (par P))) (hg : Good P) (hk : k ≤ P.length) (hl : P.length ≤ 5000) : SpV (spDepth K) [.ref a, .int (k : Int)] H (.int (dep P k : Int)) := fun H1 e Q q E => ⟨a, P, k, rfl, ex_l e hS, hg, hk, hl, q⟩
theorem nints_at {l : List Nat} {i v : Nat} (h : l[i]? = some v) : atI (nints l) (i : Int) = some (.int (v : Int)) := by
  refine atI_nat ?_
  unfold nints
  rw [List.getElem?_map, h]
  rfl
end
def spKnotTold (K : PySem.W.Frag) : Sp := fun vs H Q _ => ∃ (b a : Addr) (qs : List Addr) (P : List Int) (n k : Nat), vs = [.ref b, .str (txt (full P)), .int (n : Int), .ref a, .int (k : Int)] ∧ Bok H b (full P) n qs ∧ SqL K H a (pV (par P)) ∧ Good P ∧ P.length < 160 ∧ 1 ≤ n ∧ n ≤ 4000 ∧ k ≤ P.length ∧ ∀ H', Ex H H' → Q (.bl true) H'
def spPlaceTold (K : PySem.W.Frag) : Sp := fun vs H Q _ => ∃ (b a : Addr) (qs : List Addr) (P : List Int) (n j : Nat), vs = [.ref b, .str (txt (full P)), .int (n : Int), .ref a, .int (j : Int)] ∧ Bok H b (full P) n qs ∧ SqL K H a (kats (full P) (full P).length) ∧ Good P ∧ P.length < 160 ∧ 1 ≤ n ∧ n ≤ 4000 ∧ j < (full P).length ∧ ∀ H', Ex H H' → Q (.bl true) H'
end KB
namespace KB
open PySem L2 Evl
theorem e_andX {σ : L2.St} {H : Hp} {ta tb : TE} {Q : VK} (h : ta σ H (fun x H1 => x = .bl true ∧ tb σ H1 Q)) (mono : ∀ R R' : VK, (∀ v H', R v H' → R' v H') → ta σ H R → ta σ H R') : tAndV ta tb σ H Q := mono _ _ (fun v H' ⟨e, r⟩ => ⟨true, e, r⟩) h
theorem kats_at {L : List Bool} {j m : Nat} (h : j < m) : atI (kats L m) (j : Int) = some (.int (kat L j)) := by
  refine atI_nat ?_
  unfold kats
  rw [List.getElem?_map, List.getElem?_range h]
  rfl
theorem sl_knots {K : PySem.W.Frag} {H : Hp} {a : Addr} {P : List Int} (hS : SqL K H a (pV (par P))) (hg : Good P) (hl : P.length < 2000) : SpL (spKnots K) [.ref a] H (kats (full P) (full P).length) := fun H1 e Q q E => ⟨a, P, rfl, ex_l e hS, hg, hl, q⟩
end KB
namespace KB
open PySem L2 Evl
theorem Bok.copy {H H' : Hp} {p r : Addr} {L : List Bool} {n : Nat} {qs : List Addr} (h : Bok H p L n qs) (e : Ex H H') (hr : H' r = some (.lst (qs.map V.ref))) : Bok H' r L n qs := ⟨hr, h.ln, fun j q hq => e _ _ (h.rw_ j q hq)⟩
theorem sv_knotTold {K : PySem.W.Frag} {H : Hp} {b a : Addr} {qs : List Addr} {P : List Int} {n k : Nat} (hB : Bok H b (full P) n qs) (hS : SqL K H a (pV (par P))) (hg : Good P) (hl : P.length < 160) (h1 : 1 ≤ n) (h2 : n ≤ 4000) (hk : k ≤ P.length) : SpV (spKnotTold K) [.ref b, .str (txt (full P)), .int (n : Int), .ref a, .int (k : Int)] H (.bl true) := fun H1 e Q q E => ⟨b, a, qs, P, n, k, rfl, hB.ex e, ex_l e hS, hg, hl, h1, h2, hk, q⟩
theorem sv_placeTold {K : PySem.W.Frag} {H : Hp} {b a : Addr} {qs : List Addr} {P : List Int} {n j : Nat} (hB : Bok H b (full P) n qs) (hS : SqL K H a (kats (full P) (full P).length)) (hg : Good P) (hl : P.length < 160) (h1 : 1 ≤ n) (h2 : n ≤ 4000) (hj : j < (full P).length) : SpV (spPlaceTold K) [.ref b, .str (txt (full P)), .int (n : Int), .ref a, .int (j : Int)] H (.bl true) := fun H1 e Q q E => ⟨b, a, qs, P, n, j, rfl, hB.ex e, ex_l e hS, hg, hl, h1, h2, hj, q⟩
/-- a remainder as a place -/
theorem mod_nat (c : Int) {l : Nat} (hl : 0 < l) : ∃ k : Nat, c % (l : Int) = (k : Int) ∧ k < l := by
  have h1 := Int.emod_nonneg c (show (l : Int) ≠ 0 by omega)
  have h2 := Int.emod_lt_of_pos c (show 0 < (l : Int) by omega)
  exact ⟨(c % (l : Int)).toNat, by omega, by omega⟩
end KB
namespace KB
open PySem L2 Evl
section
variable {σ : L2.St} {H : Hp} {ta tb : TE} {D : Ends} {tz tu : TS}
theorem q_or2X (h : ta σ H (fun x H1 => ∃ k, x = .bl k ∧ if k = true then (if true = true then tu { D with nx := tz D } σ H1 else tz D σ H1) else tb σ H1 (fun y H2 => ∃ k2, y = .bl k2 ∧ if k2 = true then tu { D with nx := tz D } σ H2 else tz D σ H2))) : tSeq (tIfS (tOr (tTest ta) (tTest tb)) tu tNext) tz D σ H := h
theorem s_or2X (h : ta σ H (fun x H1 => ∃ k, x = .bl k ∧ if k = true then (if true = true then tu D σ H1 else D.nx σ H1) else tb σ H1 (fun y H2 => ∃ k2, y = .bl k2 ∧ if k2 = true then tu D σ H2 else D.nx σ H2))) : tIfS (tOr (tTest ta) (tTest tb)) tu tNext D σ H := h
theorem k_of {x : V} {Q : Bool → Prop} {b : Bool} (e : x = .bl b) (h : Q b) : ∃ k, x = .bl k ∧ Q k := ⟨b, e, h⟩
end
theorem asks0 {rd : List Nat} {m : Nat} (h : rd.length ≤ m) : (asks [] rd).length ≤ m := Nat.le_trans (asks_len _ _) (by rw [List.length_nil]; omega)
section
variable {K : PySem.W.Frag} {H : Hp} {a : Addr} {P : List Int} {k l : Nat}
theorem sv_ben (hS : SqL K H a (pV (par P))) (hg : Good P) (hk : k ≤ P.length) (hl : P.length < 2000) : SpV (spBen K) [.ref a, .int (k : Int)] H (.int (ben P k : Int)) := fun H1 e Q q E => ⟨a, P, k, rfl, ex_l e hS, hg, hk, hl, q⟩
theorem sv_bes (hS : SqL K H a (pV (par P))) (hg : Good P) (hk : k ≤ P.length) (hl : P.length < 2000) : SpV (spBes K) [.ref a, .int (k : Int)] H (oN (bes P k)) := fun H1 e Q q E => ⟨a, P, k, rfl, ex_l e hS, hg, hk, hl, q⟩
theorem sl_kids (hS : SqL K H a (pV (par P))) (hk : k ≤ P.length) (hl : P.length < 2000) : SpL (spKids K) [.ref a, .int (k : Int)] H (nints (kidsOf P k)) := fun H1 e Q q E => ⟨a, P, k, rfl, ex_l e hS, hk, hl, q⟩
theorem sv_elder (hS : SqL K H a (pV (par P))) (hg : Good P) (hk : k ≤ P.length) (hl : l ≤ P.length) (hP : P.length < 2000) : SpV (spElder K) [.ref a, .int (k : Int), .int (l : Int)] H (.int (eld P k l)) := fun H1 e Q q E => ⟨a, P, k, l, rfl, ex_l e hS, hg, hk, hl, hP, q⟩
end
theorem kd_oV {K : PySem.W.Frag} {H : Hp} (x : Option Int) : Kd K H (oV x) := by
  cases x with
  | none => exact kd_non
  | some i => exact kd_int i
theorem scal_oV (x y : Option Int) : scal (oV x) (oV y) = true := by cases x <;> cases y <;> rfl
end KB
namespace KB
theorem bes_zero {P : List Int} (hg : Good P) : bes P 0 = none := by
  unfold bes
  rw [List.find?_eq_none]
  intro j hj
  rw [List.mem_range] at hj
  by_cases h : 0 < j
  · obtain ⟨p, _, hp⟩ := par_lt hg (k := j) h (by omega)
    rw [hp, par_0]
    simp
  · simp [h]
theorem scal_oN (x y : Option Nat) : L2.scal (oN x) (oN y) = true := by cases x <;> cases y <;> rfl
end KB
namespace KB
open PySem L2 Evl
def spToldKid (K : PySem.W.Frag) : Sp := fun vs H Q _ => ∃ (b a : Addr) (qs : List Addr) (P : List Int) (n k m : Nat), vs = [.ref b, .str (txt (full P)), .int (n : Int), .ref a, .int (k : Int), .int (m : Int)] ∧ Bok H b (full P) n qs ∧ SqL K H a (nints (kidsOf P k)) ∧ Good P ∧ P.length < 160 ∧ 1 ≤ n ∧ n ≤ 4000 ∧ k ≤ P.length ∧ ∀ H', Ex H H' → Q (.bl true) H'
theorem sv_toldKid {K : PySem.W.Frag} {H : Hp} {b a : Addr} {qs : List Addr} {P : List Int} {n k m : Nat} (hB : Bok H b (full P) n qs) (hS : SqL K H a (nints (kidsOf P k))) (hg : Good P) (hl : P.length < 160) (h1 : 1 ≤ n) (h2 : n ≤ 4000) (hk : k ≤ P.length) : SpV (spToldKid K) [.ref b, .str (txt (full P)), .int (n : Int), .ref a, .int (k : Int), .int (m : Int)] H (.bl true) := fun H1 e Q q E => ⟨b, a, qs, P, n, k, m, rfl, hB.ex e, ex_l e hS, hg, hl, h1, h2, hk, q⟩
theorem kidsOf_len (P : List Int) (k : Nat) : (kidsOf P k).length ≤ P.length + 1 := by
  unfold kidsOf kidL
  exact Nat.le_trans (List.length_filter_le _ _) (by rw [List.length_range]; exact Nat.le_refl _)
theorem atI_3 {Pr : V → Prop} {x y z : V} (h0 : Pr x) (h1 : Pr y) (h2 : Pr z) {i : Int} (a : 0 ≤ i) (b : i < 3) : ∃ v, Pr v ∧ atI [x, y, z] i = some v := by
  have h : i = 0 ∨ i = 1 ∨ i = 2 := by omega
  rcases h with rfl | rfl | rfl
  · exact ⟨x, h0, rfl⟩
  · exact ⟨y, h1, rfl⟩
  · exact ⟨z, h2, rfl⟩
theorem kid_none {P : List Int} {k m : Nat} (h : (kidsOf P k).length ≤ m) : aKid P k m = .non := by unfold aKid; rw [List.getElem?_eq_none h]; rfl
theorem kid_some {P : List Int} {k m : Nat} (h : m < (kidsOf P k).length) : ∃ v : Nat, aKid P k m = .int (v : Int) ∧ (kidsOf P k)[m]? = some v := by
  refine ⟨(kidsOf P k)[m], ?_, List.getElem?_eq_getElem h⟩
  unfold aKid
  rw [List.getElem?_eq_getElem h]
  rfl
theorem kid_at (P : List Int) (k m : Nat) : atI (nints (kidsOf P k) ++ [V.non]) (min (m : Int) ((nints (kidsOf P k)).length : Int)) = some (aKid P k m) := by
  rw [nints_len]
  by_cases h : m < (kidsOf P k).length
  · obtain ⟨v, h1, h2⟩ := kid_some h
    rw [Int.min_eq_left (by omega), h1]
    refine atI_nat ?_
    rw [List.getElem?_append_left (by rw [nints_len]; exact h)]
    unfold nints
    rw [List.getElem?_map, h2]
    rfl
  · rw [Int.min_eq_right (by omega), kid_none (by omega)]
    refine atI_nat ?_
    rw [List.getElem?_append_right (by rw [nints_len]; exact Nat.le_refl _), nints_len, Nat.sub_self]
    rfl
end KB
namespace KB
theorem eld_mem {P : List Int} (hg : Good P) (a b : Nat) : eld P a b ∈ line P a ∧ eld P a b ∈ line P b := by
  have h := eld_some hg a b
  exact ⟨List.mem_of_find?_eq_some h, by have := List.find?_some h; exact of_decide_eq_true this⟩
theorem eld_max {P : List Int} (hg : Good P) {a b : Nat} {q : Int} (h1 : q ∈ line P a) (h2 : q ∈ line P b) : q ≤ eld P a b := by
  have h := eld_some hg a b
  rw [List.find?_eq_some_iff_getElem] at h
  obtain ⟨_, i, hi, e, hno⟩ := h
  obtain ⟨j, hj, ej⟩ := List.getElem_of_mem h1
  by_cases c : j < i
  · have := hno j c
    rw [ej] at this
    simp [h2] at this
  · by_cases c2 : i = j
    · subst c2
      rw [← e, ej]
      exact Int.le_refl _
    · have hp := (List.pairwise_iff_getElem.mp (fall_run (P.take a)).pw) i j hi hj (by omega)
      have e1 : (run (P.take a)).st[i] = eld P a b := e
      have e2 : (run (P.take a)).st[j] = q := ej
      rw [e1, e2] at hp
      omega
theorem eld_comm {P : List Int} (hg : Good P) (a b : Nat) : eld P a b = eld P b a := by
  obtain ⟨h1, h2⟩ := eld_mem hg a b
  obtain ⟨h3, h4⟩ := eld_mem hg b a
  exact Int.le_antisymm (eld_max hg h2 h1) (eld_max hg h4 h3)
open PySem L2 Evl
def ForL (K : PySem.W.Frag) (a : Addr) (g : TG) (tb : TS) (D : Ends) (σ : L2.St) (H : Hp) : Prop := ∃ W : Nat → Nat → L2.St → Hp → Prop, (∃ m, W 0 m σ H) ∧ ∀ i m σ H, W i m σ H →
      ((Itl K a).stop i H ∧ D.nx σ H) ∨ ((Itl K a).go i H ∧ ∃ N : L2.St → Hp → Prop, (∀ σ' H', N σ' H' → ∃ m', m' < m ∧ W (i + 1) m' σ' H') ∧ ∀ x H', (Itl K a).yld i H x H' → g x σ H' fun σ2 H2 => tb { D with nx := N, ct := N, bk := D.nx } σ2 H2)
theorem q_forI {K : PySem.W.Frag} {tl : TE} {g : TG} {tu tz : TS} {D : Ends} {σ : L2.St} {H : Hp} (h : tl σ H (fun x H1 => ∃ a, x = .ref a ∧ (∃ xs, SqL K H1 a xs) ∧ ForL K a g tu { D with nx := tz D } σ H1)) : tSeq (tFor (iList K tl) g tu) tz D σ H := h
theorem s_forI {K : PySem.W.Frag} {tl : TE} {g : TG} {tu : TS} {D : Ends} {σ : L2.St} {H : Hp} (h : tl σ H (fun x H1 => ∃ a, x = .ref a ∧ (∃ xs, SqL K H1 a xs) ∧ ForL K a g tu D σ H1)) : tFor (iList K tl) g tu D σ H := h
end KB
namespace KB
open PySem L2 Evl
def spBookOf (K : PySem.W.Frag) (CN : Addr) : Sp := fun vs H Q E => ∃ (P : List Int) (v : V), vs = [.str (txt (full P)), v] ∧ Good P ∧ P.length < 160 ∧ Kd K H v ∧
  (∀ n : Nat, v = .int (n : Int) → 1 ≤ n → n ≤ 4000 → ∀ p qs H', H p = none → Ex H H' → Bok H' p (full P) n qs → (∀ q ∈ qs, H q = none) → Q (.ref p) H') ∧ (inR 1 4000 v = false → ∀ H', Ex H H' → E (.ref CN) none H')
/-- the width: how many figures of two -/
def widG : Nat → Nat → Nat
  | 0, _ => 0
  | f + 1, n => if n = 0 then 0 else widG f (n / 2) + 1
def wid (n : Nat) : Nat := widG n n
def spWidth : Sp := fun vs H Q _ => ∃ (n : Nat), vs = [.int (n : Int)] ∧ 1 ≤ n ∧ n ≤ 4000 ∧ ∀ H', Ex H H' → Q (.int (wid n : Int)) H'
def spWeight : Sp := fun vs H Q _ => ∃ (p : Addr) (qs : List Addr) (L : List Bool) (n l : Nat), vs = [.ref p, .int (l : Int)] ∧ Bok H p L n qs ∧ qs.length ≤ 4000 ∧ 1 ≤ l ∧ l ≤ 4000 ∧ ∀ H', Ex H H' → Q (.int ((3 * qs.length * wid l : Nat) : Int)) H'
def spSizeFor (K : PySem.W.Frag) (CN : Addr) : Sp := fun vs H Q E => ∃ (l : Nat) (v : V), vs = [.int (l : Int), v] ∧ 1 ≤ l ∧ l ≤ 4000 ∧ Kd K H v ∧
  (∀ s : Nat, v = .int (s : Int) → 1 ≤ s → s ≤ 100 → ∀ H', Ex H H' → Q (.int ((3 * wid l * s : Nat) : Int)) H') ∧ (inR 1 100 v = false → ∀ H', Ex H H' → E (.ref CN) none H')
def spNoSizeB : Sp := fun vs H Q _ => ∃ (P : List Int) (c : Int), vs = [.str (txt (full P)), .int c] ∧ Good P ∧ P.length < 160 ∧ 0 ≤ c ∧ ∀ H', Ex H H' → Q (.bl true) H'
def spNoShare : Sp := fun vs H Q _ => ∃ (l : Nat) (c : Int), vs = [.int (l : Int), .int c] ∧ 1 ≤ l ∧ l ≤ 4000 ∧ 0 ≤ c ∧ ∀ H', Ex H H' → Q (.bl true) H'
theorem sv_noSizeB {H : Hp} {P : List Int} {c : Int} (h1 : Good P) (h2 : P.length < 160) (h3 : 0 ≤ c) : SpV spNoSizeB [.str (txt (full P)), .int c] H (.bl true) := fun H1 e Q q E => ⟨P, c, rfl, h1, h2, h3, q⟩
theorem sv_noShare {H : Hp} {l : Nat} {c : Int} (h1 : 1 ≤ l) (h2 : l ≤ 4000) (h3 : 0 ≤ c) : SpV spNoShare [.int (l : Int), .int c] H (.bl true) := fun H1 e Q q E => ⟨l, c, rfl, h1, h2, h3, q⟩
/-- a new book -/
def EvB (te : TE) (σ : L2.St) (H : Hp) (L : List Bool) (n : Nat) : Prop := ∀ H1, Ex H H1 → ∀ Q : VK, (∀ p qs H2, H1 p = none → Ex H1 H2 → Bok H2 p L n qs → Q (.ref p) H2) → te σ H1 Q
section
variable {K : PySem.W.Frag} {σ : L2.St} {H : Hp} {ta tb : TE} {p : Addr} {L : List Bool} {n : Nat} {qs : List Addr} {args : TA} {E : XK}
theorem ev_neB (h1 : Ev ta σ H (.ref p)) (hb : Bok H p L n qs) (h2 : EvB tb σ H L n) : Ev (tOp (rNeD K) ta tb) σ H (.bl false) := fun H1 e Q q =>
  h1 H1 e _ fun H2 e2 => h2 H2 (e.trans e2) _ fun r rs' H3 nr e3 hr => rv_neBok (hb.ex ((e.trans e2).trans e3)) hr H3 (Ex.refl _) Q fun H4 e4 => q H4 ((e2.trans e3).trans e4)
theorem eb_book (h : EvA args σ H [.str (txt L), .int (n : Int)]) (h1 : 1 ≤ L.length) (h2 : L.length ≤ 4000) (h3 : 1 ≤ n) (h4 : n ≤ 4000) : EvB (tCall spBook [] E args) σ H L n := fun H1 e Q q =>
  h H1 e _ fun H2 e2 => ⟨L, n, rfl, h1, h2, h3, h4, fun p qs H3 np e3 hB _ => q p qs H3 (fresh_back e2 np) (e2.trans e3) hB⟩
end
end KB
namespace KB
open PySem L2 Evl
/-! ### the nine questions -/
def fW (way : Nat) (P : List Int) (k m : Nat) : V := match way with
  | 0 => aPlace P k | 1 => aDepth P k | 2 => aKnot P k | 3 => aAbove P k | 4 => aBeneath P k | 5 => aBeside P k | 6 => aKids P k | 7 => aKid P k m | _ => aElder P k m
noncomputable def rdW (way : Nat) (P : List Int) (n k m : Nat) : List Nat := match way with
  | 0 => rdPlace P n k | 1 => rdDepth P n k | 2 => rdKnot P n k | 3 => rdAbove P n k | 4 => rdBeneath P n k | 5 => rdBeside P n k | 6 => rdKids P n k | 7 => rdKid P n k m | _ => rdElder P n k m
def topW (way : Nat) (P : List Int) : Nat := if way = 2 then (full P).length else P.length + 1
def mostW (way : Nat) : Nat := match way with
  | 0 => 1 | 1 => 1 | 2 => 2 | 3 => 2 | 4 => 2 | 5 => 3 | 6 => 2 | 7 => 3 | _ => 3
theorem rdW_len (way : Nat) (P : List Int) (n k m : Nat) : (rdW way P n k m).length ≤ mostW way := by
  match way with
  | 0 => exact rdPlace_len P n k
  | 1 => exact rdDepth_len P n k
  | 2 => exact rdKnot_len P n k
  | 3 => exact rdAbove_len P n k
  | 4 => exact rdBeneath_len P n k
  | 5 => exact rdBeside_len P n k
  | 6 => exact rdKids_len P n k
  | 7 => exact rdKid_len P n k m
  | w + 8 => exact rdElder_len P n k m
def spCall (K : PySem.W.Frag) (C CK : Addr) : Sp := fun vs H Q E => ∃ (way : Nat) (b x td : Addr) (qs : List Addr) (P : List Int) (z : Str) (n : Nat) (ks : List Nat) (v u : V), vs = [.int (way : Int), .ref b, .ref x, v, u] ∧ way ≤ 8 ∧ Given C H b x td qs P z n ks ∧ Kd K H v ∧ Kd K H u ∧ (way = 7 → ∃ m : Nat, u = .int (m : Int)) ∧
  (∀ k m : Nat, v = .int (k : Int) → k < topW way P → (7 ≤ way → u = .int (m : Int)) → (way = 8 → m < P.length + 1) → Same z (full P) n (rdW way P n k m) ∧ ∀ H', Kept td H H' → Bk C H' x td z n (asks ks (rdW way P n k m)) → Q (fW way P k m) H') ∧
  (inR 0 ((topW way P : Int) - 1) v = false ∨ (way = 8 ∧ inR 0 ((P.length + 1 : Int) - 1) u = false) → ∀ H', Ex H H' → E (.ref CK) none H')
theorem Given.ex {C : Addr} {H H' : Hp} {b x td : Addr} {qs : List Addr} {P : List Int} {z : Str} {n : Nat} {ks : List Nat} (e : Ex H H') (h : Given C H b x td qs P z n ks) : Given C H' b x td qs P z n ks := ⟨h.bok.ex e, h.bk.ex e, h.gd, h.le, h.n1, h.n2, h.zl, h.kl⟩
theorem Kept.back {td : Addr} {H1 H2 H3 : Hp} (e : Ex H1 H2) (k : Kept td H2 H3) : Kept td H1 H3 := fun F n h => k F n (h.trans e)
end KB
namespace KB
open PySem L2 Evl
theorem s_asgX {σ : L2.St} {H : Hp} {te : TE} {D : Ends} {i : Nat} (h : te σ H (fun x H1 => D.nx (σ.set i (some x)) H1)) : tAsg te (gName i) D σ H := h
end KB
namespace KB
open PySem L2 Evl
theorem fW_same {way k m m' : Nat} {P : List Int} (h : 7 ≤ way → m' = m) : fW way P k m' = fW way P k m := by
  by_cases h7 : 7 ≤ way
  · rw [h h7]
  · have : way = 0 ∨ way = 1 ∨ way = 2 ∨ way = 3 ∨ way = 4 ∨ way = 5 ∨ way = 6 := by omega
    rcases this with rfl | rfl | rfl | rfl | rfl | rfl | rfl <;> rfl
theorem rdW_same {way n k m m' : Nat} {P : List Int} (h : 7 ≤ way → m' = m) : rdW way P n k m' = rdW way P n k m := by
  by_cases h7 : 7 ≤ way
  · rw [h h7]
  · have : way = 0 ∨ way = 1 ∨ way = 2 ∨ way = 3 ∨ way = 4 ∨ way = 5 ∨ way = 6 := by omega
    rcases this with rfl | rfl | rfl | rfl | rfl | rfl | rfl <;> rfl
theorem askCall {K : PySem.W.Frag} {C CK : Addr} {H : Hp} {b x td : Addr} {qs : List Addr} {P : List Int} {z : Str} {way n k m : Nat} {ks : List Nat} {Q : VK} {E : XK} (h : Given C H b x td qs P z n ks) (hw : way ≤ 8) (hk : k < topW way P) (hm : m < P.length + 1)
    (hs : Same z (full P) n (rdW way P n k m)) (q : ∀ H', Kept td H H' → Bk C H' x td z n (asks ks (rdW way P n k m)) → Q (fW way P k m) H') : spCall K C CK [.int (way : Int), .ref b, .ref x, .int (k : Int), .int (m : Int)] H Q E :=
  ⟨way, b, x, td, qs, P, z, n, ks, _, _, rfl, hw, h, kd_int _, kd_int _, fun _ => ⟨m, rfl⟩, fun k' m' e _ em _ => by
    have e2 : k' = k := by have := V.int.inj e; omega
    subst e2
    have e3 : 7 ≤ way → m' = m := fun h7 => by have := V.int.inj (em h7); omega
    rw [rdW_same e3, fW_same e3]
    exact ⟨hs, q⟩, fun ho => by
    rcases ho with ho | ⟨_, ho⟩
    · exact absurd ho (not_out (by omega) (by omega))
    · exact absurd ho (not_out (by omega) (by omega))⟩
theorem most_at {way : Nat} (h : way ≤ 8) : atI [V.int 1, .int 1, .int 2, .int 2, .int 2, .int 3, .int 2, .int 3, .int 3] (way : Int) = some (.int (mostW way : Int)) := by
  have : way = 0 ∨ way = 1 ∨ way = 2 ∨ way = 3 ∨ way = 4 ∨ way = 5 ∨ way = 6 ∨ way = 7 ∨ way = 8 := by omega
  rcases this with rfl | rfl | rfl | rfl | rfl | rfl | rfl | rfl | rfl <;> rfl
theorem mostW_3 (way : Nat) : mostW way ≤ 3 := by unfold mostW; split <;> omega
theorem tops_at {P : List Int} (way : Nat) : atI [V.int ((pV (par P)).length : Int), .int ((txt (full P)).length : Int)] (if decide (V.int (way : Int) = V.int 2) = true then 1 else 0) = some (.int (topW way P : Int)) := by
  by_cases h2 : way = 2
  · subst h2
    rw [txt_len]
    rfl
  · unfold topW
    rw [if_neg h2, decide_eq_false (fun z => h2 (by have := V.int.inj z; omega)), pV_len, par_len]
    rfl
theorem fW_oV (way : Nat) (P : List Int) (k m : Nat) : ∃ o : Option Int, fW way P k m = oV o := by
  have hn : ∀ x : Option Nat, ∃ o : Option Int, oN x = oV o := fun x => by
    cases x with
    | none => exact ⟨none, rfl⟩
    | some j => exact ⟨some (j : Int), rfl⟩
  match way with
  | 0 => exact ⟨some _, rfl⟩
  | 1 => exact ⟨some _, rfl⟩
  | 2 => exact ⟨some _, rfl⟩
  | 3 => exact ⟨_, rfl⟩
  | 4 => exact ⟨some _, rfl⟩
  | 5 => exact hn _
  | 6 => exact ⟨some _, rfl⟩
  | 7 => exact hn _
  | w + 8 => exact ⟨some _, rfl⟩
/-! ### widths -/
theorem widG_gt : ∀ f n, n ≤ f → n < 2 ^ widG f n
  | 0, n, h => by
    have : n = 0 := by omega
    subst this
    exact Nat.one_pos
  | f + 1, n, h => by
    unfold widG
    split
    · subst_vars; exact Nat.one_pos
    · have ih := widG_gt f (n / 2) (by omega)
      rw [Nat.pow_succ]
      omega
theorem widG_le : ∀ f n, n ≤ f → 1 ≤ n → 2 ^ (widG f n - 1) ≤ n
  | 0, n, h, h1 => by omega
  | f + 1, n, h, h1 => by
    unfold widG
    rw [if_neg (by omega)]
    by_cases c : n / 2 = 0
    · have e : widG f (n / 2) = 0 := by rw [c]; cases f <;> rfl
      rw [e]
      exact h1
    · have ih := widG_le f (n / 2) (by omega) (by omega)
      have hp : 1 ≤ widG f (n / 2) := by
        cases f with
        | zero => omega
        | succ f => unfold widG; rw [if_neg c]; omega
      have e : widG f (n / 2) + 1 - 1 = (widG f (n / 2) - 1) + 1 := by omega
      rw [e, Nat.pow_succ]
      omega
theorem wid_gt (n : Nat) : n < 2 ^ wid n := widG_gt n n (Nat.le_refl _)
theorem wid_le {n w : Nat} (h : 1 ≤ n) (hw : w < wid n) : 2 ^ w ≤ n :=
  Nat.le_trans (Nat.pow_le_pow_right (by omega) (show w ≤ widG n n - 1 by have e : wid n = widG n n := rfl; omega)) (widG_le n n (Nat.le_refl _) h)
theorem wid_iff {n w : Nat} (h : 1 ≤ n) : 2 ^ w ≤ n ↔ w < wid n := by
  constructor
  · intro h1
    apply Nat.lt_of_not_le
    intro h2
    have h3 := wid_gt n
    have h4 := Nat.pow_le_pow_right (show 0 < 2 by omega) h2
    omega
  · exact wid_le h
theorem wid_pos {n : Nat} (h : 1 ≤ n) : 1 ≤ wid n := (wid_iff (w := 0) h).mp h
theorem wid_12 {n : Nat} (h1 : 1 ≤ n) (h : n ≤ 4000) : wid n ≤ 12 := by
  apply Nat.le_of_not_lt
  intro h2
  have := wid_le h1 (w := 12) (by omega)
  omega
theorem sv_size {K : PySem.W.Frag} {C : Addr} {H : Hp} {l s : Nat} (h1 : 1 ≤ l) (h2 : l ≤ 4000) (h3 : 1 ≤ s) (h4 : s ≤ 100) : SpV (spSizeFor K C) [.int (l : Int), .int (s : Int)] H (.int ((3 * wid l * s : Nat) : Int)) := fun H1 e Q q E => ⟨l, _, rfl, h1, h2, kd_int _, fun s' hs _ _ => by
  have : s' = s := by have := V.int.inj hs; omega
  subst this
  exact q, fun ho => by
  exfalso
  have h' : (decide ((1 : Int) ≤ (s : Int)) && decide ((s : Int) ≤ 100)) = false := ho
  rw [decide_eq_true (by omega), decide_eq_true (by omega)] at h'
  cases h'⟩
end KB

set_option Elab.async false
set_option linter.all false
set_option maxRecDepth 100000
set_option maxHeartbeats 8000000
namespace KB
open PySem PySem.Spec PyProof.Rows L2 Evl
/-! ### walking a range object -/
def iObj (te : TE) : TI := fun σ H R => te σ H fun x H1 => ∃ (a : Addr) (lo hi : Int), x = .ref a ∧ H1 a = some (.rng lo hi) ∧ (-(2 ^ 62) ≤ lo ∧ lo < 2 ^ 62 ∧ -(2 ^ 62) ≤ hi ∧ hi < 2 ^ 62) ∧ R (Itr lo (hi - lo).toNat) H1
theorem pi_rng {X : Cx} {tg e : Expr} {te : TE} (he : PE X e te) : PI X tg e (iObj te) := by
  refine ⟨fun pins s σ H R I h => ?_⟩
  refine thn (he.run pins s σ H _ I h) fun v s1 ⟨x, H1, I1, r1, q1⟩ => ?_
  obtain ⟨a, lo, hi, ex, ha, ⟨b1, b2, b3, b4⟩, q⟩ := q1
  subst ex
  cases r1
  obtain ⟨t, u, w', hz⟩ := I1.hok a _ ha
  refine wpAny_pyIter_range hz (small_one b1 b2 b3 b4) ?_
  refine ⟨s1.heap.objs.size, [s1.heap.objs.size], _, _, H1, rfl, I1.kept (t' := s1.toks) fun b o e => Heap.get?_push_of_some _ e, turn_range _ lo (hi - lo).toNat, ?_, fun b hb => ?_, q⟩
  · have e1 : lo + ((0 : Nat) : Int) * 1 = lo := by simp
    have e2 : (((hi - lo).toNat : Nat) : Int) - ((0 : Nat) : Int) = Builtin.Range.rangeSize lo hi 1 := by rw [rangeSize_one]; split <;> omega
    show IsRangeIter _ _ (lo + ((0 : Nat) : Int) * 1) ((((hi - lo).toNat : Nat) : Int) - ((0 : Nat) : Int)) 1
    rw [e1, e2]
    exact Heap.get?_push_size _ rfl
  · have e : b = s1.heap.objs.size := by simpa using hb
    subst e
    exact I1.fpOk (Nat.le_refl _) (I1.hok.fresh (Nat.le_refl _))
end KB
namespace KB
open PySem L2 Evl
/-! ### readings -/
section
variable {K : PySem.W.Frag} {σ : L2.St} {H : Hp} {ta tb te to : TE} {t : TT} {args : TA} {D : Ends} {tz tu : TS} {i j l : Nat} {a x C : Addr} {y z u : V} {sp : Sp} {vs dvs ys : List V} {E : XK} {Q : VK} {R : L2.St → Hp → Prop} {dx : Addr} {fs : List (Str × V)} {m : Str}
theorem g_tup2 (h : SqT K H a [y, z]) (q : R ((σ.set i (some y)).set j (some z)) H) : gTup K 2 (gCons (gName i) (gCons (gName j) gNil)) (.ref a) σ H R := ⟨a, _, rfl, h, rfl, _, _, rfl, _, _, rfl, rfl, q⟩
theorem g_tup3 (h : SqT K H a [y, z, u]) (q : R (((σ.set i (some y)).set j (some z)).set l (some u)) H) : gTup K 3 (gCons (gName i) (gCons (gName j) (gCons (gName l) gNil))) (.ref a) σ H R := ⟨a, _, rfl, h, rfl, _, _, rfl, _, _, rfl, _, _, rfl, rfl, q⟩
theorem q_divmod {p n : Nat} (h : EvA args σ H [.int (p : Int), .int (n : Int)]) (h1 : 1 ≤ n) (h2 : n ≤ 4000) (k : ∀ H1, Ex H H1 → tz D ((σ.set i (some (.int ((p / n : Nat) : Int)))).set j (some (.int ((p % n : Nat) : Int)))) H1) :
    tSeq (tAsg (tCB (fun xs H Q => ∃ i j, xs = [.int i, .int j] ∧ CDiv i j ∧ ∀ p, H p = none → Q (.ref p) (upd H p (.tup [.int (i / j), .int (i % j)]))) args) (gTup K 2 (gCons (gName i) (gCons (gName j) gNil)))) tz D σ H :=
  h H (Ex.refl H) _ fun H1 e1 => ⟨_, _, rfl, ⟨by omega, by omega⟩, fun q nq => g_tup2 (st_of upd_same) (by
    rw [← Int.natCast_ediv, ← Int.natCast_emod]
    exact k _ (e1.trans (Ex.new nq)))⟩
theorem e_callC (h : EvA args σ H vs) (hs : ∀ H1, Ex H H1 → sp (vs ++ dvs) H1 Q E) : tCall sp dvs E args σ H Q := h H (Ex.refl H) _ fun H1 e => hs H1 e
theorem e_methC (ho : Ev to σ H (.ref a)) (hi : H a = some (.ins C dx fs)) (hl : fs.lookup m = none) (h : EvA args σ H vs) (hs : ∀ H1, Ex H H1 → sp (.ref a :: (vs ++ dvs)) H1 Q E) : tMeth C m sp dvs E to args σ H Q :=
  ho H (Ex.refl H) _ fun H1 e1 => ⟨a, dx, fs, rfl, e1 _ _ hi, hl, h H1 e1 _ fun H2 e2 => hs H2 (e1.trans e2)⟩
theorem q_dropC (h : EvA args σ H vs) (hs : ∀ H1, Ex H H1 → sp (vs ++ dvs) H1 (fun _ H2 => tz D σ H2) E) : tSeq (tDrop (tCall sp dvs E args)) tz D σ H := h H (Ex.refl H) _ fun H1 e => hs H1 e
theorem q_asgUX {g : TG} (h : te σ H (fun x H1 => g x σ H1 (fun σ' H2 => tz D σ' H2))) : tSeq (tAsg te g) tz D σ H := h
theorem s_asgUX {g : TG} (h : te σ H (fun x H1 => g x σ H1 (fun σ' H2 => D.nx σ' H2))) : tAsg te g D σ H := h
theorem ev_indexI {ns : List Int} {k : Int} (h1 : Ev ta σ H (.ref a)) (hs : SqL K H a (ns.map V.int)) (h2 : Ev tb σ H (.int k)) (hj : ns[j]? = some k) (hno : ∀ i, i < j → ns[i]? ≠ some k) : Ev (tBM K "list" (rIndex K) ta (tCons tb tNil)) σ H (.int (j : Int)) := fun H1 e Q q =>
  h1 H1 e _ fun H2 e2 => ⟨.inl ⟨rfl, _, ex_l (e.trans e2) hs⟩, h2 H2 (e.trans e2) _ fun H3 e3 => ⟨a, _, _, j, .int k, rfl, rfl, ex_l ((e.trans e2).trans e3) hs, rfl, flat_mapI ns, by rw [List.getElem?_map, hj]; rfl, by show (k == k) = true; simp, fun m z' hm hz => by
    rw [List.getElem?_map] at hz
    cases e9 : ns[m]? with
    | none => rw [e9] at hz; cases hz
    | some v =>
      rw [e9] at hz
      cases hz
      have := hno m hm
      rw [e9] at this
      show (v == k) = false
      exact beq_eq_false_iff_ne.mpr (fun z => this (by rw [z])), q H3 (e2.trans e3)⟩⟩
theorem ev_indexN {ns : List Int} {k : Int} (h1 : EvL ta σ H (ns.map V.int)) (h2 : ∀ H1, Ex H H1 → Ev tb σ H1 (.int k)) (hj : ns[j]? = some k) (hno : ∀ i, i < j → ns[i]? ≠ some k) : Ev (tBM K "list" (rIndex K) ta (tCons tb tNil)) σ H (.int (j : Int)) := fun H1 e Q q =>
  h1 H1 e _ fun a H2 np e2 hs => ⟨.inl ⟨rfl, _, sq_of hs⟩, h2 H2 (e.trans e2) H2 (Ex.refl H2) _ fun H3 e3 => ⟨a, _, _, j, .int k, rfl, rfl, sq_of (e3 _ _ hs), rfl, flat_mapI ns, by rw [List.getElem?_map, hj]; rfl, by show (k == k) = true; simp, fun m z' hm hz => by
    rw [List.getElem?_map] at hz
    cases e9 : ns[m]? with
    | none => rw [e9] at hz; cases hz
    | some v =>
      rw [e9] at hz
      cases hz
      have := hno m hm
      rw [e9] at this
      show (v == k) = false
      exact beq_eq_false_iff_ne.mpr (fun z => this (by rw [z])), q H3 (e2.trans e3)⟩⟩
theorem ev_bits {i : Int} (h : Ev te σ H (.int i)) : Ev (tBits te) σ H (.int (Builtin.Int.intBits i : Nat)) := fun H1 e Q q => h H1 e _ fun H2 e2 => ⟨i, rfl, q H2 e2⟩
theorem ev_sumN {ns : List Int} (h : EvL ta σ H (ns.map V.int)) : Ev (tCB (rSum K) (tCons ta tNil)) σ H (.int ns.sum) := fun H1 e Q q =>
  h H1 e _ fun p H2 np e2 hp => ⟨p, ns, rfl, sq_of hp, q H2 e2⟩
theorem ev_minN {ns : List Int} (h : EvL ta σ H (ns.map V.int)) (hn : 0 < ns.length) : Ev (tCB (rMin K) (tCons ta tNil)) σ H (.int (lmin ns)) := fun H1 e Q q =>
  h H1 e _ fun p H2 np e2 hp => ⟨p, ns, rfl, sq_of hp, hn, fun m h1 h2 => by rw [lmin_is h1 h2]; exact q H2 e2⟩
theorem given_all (n : Nat) (v : Nat → V) : given n (fun _ => true) v = (List.range n).map v := by
  unfold given
  rw [List.filter_eq_self.mpr (fun _ _ => rfl)]
end
theorem Kept.fresh {td p : Addr} {H H' : Hp} {o : HO} (k : Kept td H H') (hd : H' td = some o) (hp : H' p = none) : H p = none := by
  cases e : H p with
  | none => rfl
  | some u =>
    exfalso
    by_cases c : p = td
    · rw [c, hd] at hp; cases hp
    · rw [k.at_ c e] at hp; cases hp
theorem e_ix {r : R2} {σ : L2.St} {H : Hp} {ta tb : TE} {Q : VK} (h : ta σ H (fun x H1 => tb σ H1 (fun y H2 => r x y H2 Q))) : tOp r ta tb σ H Q := h
theorem e_callX {σ : L2.St} {H : Hp} {args : TA} {sp : Sp} {dvs : List V} {E : XK} {Q : VK} (h : args σ H (fun vs H1 => sp (vs ++ dvs) H1 Q E)) : tCall sp dvs E args σ H Q := h
theorem part_at {K : PySem.W.Frag} {C CN : Addr} {H : Hp} {x td : Addr} {z : Str} {n j : Nat} {ks : List Nat} {Q : VK} {E : XK} (hB : Bk C H x td z n ks) (h1 : 1 ≤ n) (hz1 : 1 ≤ z.length) (hz2 : z.length ≤ 4000) (hk : ks.length ≤ 9000) (hj : j < cnt z.length n)
    (q : ∀ H', Kept td H H' → Bk C H' x td z n (addK ks j) → Q (.str (cutAt z n j)) H') : spPart K C CN [.ref x, .int (j : Int)] H Q E :=
  ⟨x, td, z, n, ks, _, rfl, hB, h1, hz1, hz2, hk, kd_int _, fun j' e _ => by
    have e2 : j' = j := by have := V.int.inj e; omega
    subst e2
    exact q, fun ho => absurd ho (not_out (by omega) (by omega))⟩
/-! ### what is handed from walk to walk -/
structure Giv (C : Addr) (H : Hp) (b x td : Addr) (qs : List Addr) (P : List Int) (z : Str) (n : Nat) (ks : List Nat) (m : Nat) : Prop where
  bok : Bok H b (full P) n qs
  bk : Bk C H x td z n ks
  gd : Good P
  le : P.length < 160
  n1 : 1 ≤ n
  n2 : n ≤ 4000
  zl : z.length = (full P).length
  kl : ks.length ≤ m
theorem Bok.kept {H H' : Hp} {p td : Addr} {L : List Bool} {n : Nat} {qs : List Addr} {kvs : List (Key × V)} (h : Bok H p L n qs) (k : Kept td H H') (hd : H td = some (.dK kvs)) : Bok H' p L n qs :=
  ⟨k.at_ (ne_of h.ls hd (by intro z; cases z)) h.ls, h.ln, fun j q hq => k.at_ (ne_of (h.rw_ j q hq) hd (by intro z; cases z)) (h.rw_ j q hq)⟩
section
variable {C : Addr} {H H' : Hp} {b x td : Addr} {qs : List Addr} {P : List Int} {z : Str} {n : Nat} {ks ks' : List Nat} {m m' : Nat}
theorem Giv.ex (e : Ex H H') (h : Giv C H b x td qs P z n ks m) : Giv C H' b x td qs P z n ks m := ⟨h.bok.ex e, h.bk.ex e, h.gd, h.le, h.n1, h.n2, h.zl, h.kl⟩
theorem Giv.step (h : Giv C H b x td qs P z n ks m) (k : Kept td H H') (hB : Bk C H' x td z n ks') (hl : ks'.length ≤ m') : Giv C H' b x td qs P z n ks' m' := ⟨h.bok.kept k h.bk.dc, hB, h.gd, h.le, h.n1, h.n2, h.zl, hl⟩
theorem Giv.up (h : Giv C H b x td qs P z n ks m) (hm : m ≤ m') : Giv C H b x td qs P z n ks m' := ⟨h.bok, h.bk, h.gd, h.le, h.n1, h.n2, h.zl, Nat.le_trans h.kl hm⟩
theorem Given.giv (h : Given C H b x td qs P z n ks) : Giv C H b x td qs P z n ks 8000 := ⟨h.bok, h.bk, h.gd, h.le, h.n1, h.n2, h.zl, h.kl⟩
theorem Giv.fl (h : Giv C H b x td qs P z n ks m) : (full P).length = 2 * (P.length + 1) ∧ z.length = 2 * (P.length + 1) ∧ z.length ≤ 320 := by
  have := full_len P
  have := h.zl
  have := h.le
  omega
end
theorem cnt_iff {l n j : Nat} (hn : 1 ≤ n) : j < cnt l n ↔ j * n < l := by
  unfold cnt
  constructor
  · intro h
    have h1 := (Nat.le_div_iff_mul_le (show 0 < n by omega)).mp (show j + 1 ≤ (l + n - 1) / n from h)
    have h2 : (j + 1) * n = j * n + n := Nat.succ_mul j n
    omega
  · intro h
    refine (Nat.le_div_iff_mul_le (show 0 < n by omega)).mpr ?_
    rw [Nat.succ_mul]
    omega
theorem div_blk {p n l : Nat} (h : p < l) : p / n * n < l := Nat.lt_of_le_of_lt (Nat.div_mul_le_self p n) h
theorem cut_txt (L : List Bool) (n j : Nat) : cutAt (txt L) n j = txt ((L.drop (j * n)).take n) := by
  have e1 : ((j : Int) * (n : Int)) = ((j * n : Nat) : Int) := by rw [Int.natCast_mul]
  have e2 : ((j * n : Nat) : Int) + (n : Int) = ((j * n + n : Nat) : Int) := by omega
  unfold cutAt cutS
  rw [e1, e2, HT.sIx_nat, HT.sIx_nat, txt_len, txt_cps]
  unfold txt codes
  rw [← List.map_drop, ← List.map_take]
  congr 3
  apply List.ext_getElem?
  intro i
  rw [List.getElem?_take, List.getElem?_take, List.getElem?_drop, List.getElem?_drop]
  by_cases c : j * n + i < L.length
  · by_cases c2 : i < n
    · rw [if_pos (by omega), if_pos c2, Nat.min_eq_left (by omega)]
    · rw [if_neg (by omega), if_neg c2]
  · rw [if_neg (by omega)]
    split
    · rw [List.getElem?_eq_none (by omega)]
    · rfl
/-! ### promises -/
def spAlong : Sp := fun vs H Q _ => ∃ (h : Int) (bs : List Bool), vs = [.int h, .str (txt bs)] ∧ bs.length ≤ 5000 ∧ ∀ p H', H p = none → Ex H H' → H' p = some (.lst ((along h bs).map V.int)) → Q (.ref p) H'
def spHin (C : Addr) : Sp := fun vs H Q _ => ∃ (b x td : Addr) (qs : List Addr) (P : List Int) (z : Str) (n : Nat) (ks : List Nat) (j : Nat), vs = [.ref b, .ref x, .int (j : Int)] ∧ Giv C H b x td qs P z n ks 9000 ∧ j * n < (full P).length ∧ cutAt z n j = cutAt (txt (full P)) n j ∧
  ∀ p H', H p = none → Kept td H H' → Bk C H' x td z n (addK ks j) → H' p = some (.lst ((hsg (full P) n j).map V.int)) → Q (.ref p) H'
def spLowest (K : PySem.W.Frag) : Sp := fun vs H Q _ => ∃ (a : Addr) (ns : List Int), vs = [.ref a] ∧ SqL K H a (ns.map V.int) ∧ 0 < ns.length ∧ ∀ p H', H p = none → Ex H H' → H' p = some (.tup [.int (lmin ns), .int ((ns.count (lmin ns) : Nat) : Int)]) → Q (.ref p) H'
def spAhead : Sp := fun vs H Q _ => ∃ (a h : Int), vs = [.int a, .int h] ∧ ∀ H', Ex H H' → Q (.int ((a + h) / 2)) H'
def spBitAt (C : Addr) : Sp := fun vs H Q _ => ∃ (b x td : Addr) (qs : List Addr) (P : List Int) (z : Str) (n : Nat) (ks : List Nat) (p : Nat) (c : Bool), vs = [.ref x, .int (p : Int)] ∧ Giv C H b x td qs P z n ks 9000 ∧ (full P)[p]? = some c ∧ cutAt z n (p / n) = cutAt (txt (full P)) n (p / n) ∧
  ∀ H', Kept td H H' → Bk C H' x td z n (addK ks (p / n)) → Q (.str ⟨#[code c]⟩) H'
def spHtAt (C : Addr) : Sp := fun vs H Q _ => ∃ (b x td : Addr) (qs : List Addr) (P : List Int) (z : Str) (n : Nat) (ks : List Nat) (p : Nat), vs = [.ref b, .ref x, .int (p : Int)] ∧ Giv C H b x td qs P z n ks 9000 ∧ p < (full P).length ∧ cutAt z n (p / n) = cutAt (txt (full P)) n (p / n) ∧
  ∀ H', Kept td H H' → Bk C H' x td z n (addK ks (p / n)) → Q (.int (ht (full P) p)) H'
def spBlk : Sp := fun vs H Q _ => ∃ (b : Addr) (qs : List Addr) (P : List Int) (n k : Nat), vs = [.ref b, .int (n : Int), .int (k : Int)] ∧ Bok H b (full P) n qs ∧ Good P ∧ P.length < 160 ∧ 1 ≤ n ∧ n ≤ 4000 ∧ k ≤ P.length ∧ ∀ H', Ex H H' → Q (.int ((pl P k / n : Nat) : Int)) H'
def spSpot (C : Addr) : Sp := fun vs H Q _ => ∃ (b x td : Addr) (qs : List Addr) (P : List Int) (z : Str) (n : Nat) (ks : List Nat) (k : Nat), vs = [.ref b, .ref x, .int (k : Int)] ∧ Giv C H b x td qs P z n ks 9000 ∧ k ≤ P.length ∧ cutAt z n (pl P k / n) = cutAt (txt (full P)) n (pl P k / n) ∧
  ∀ p H', H p = none → Kept td H H' → Bk C H' x td z n (addK ks (pl P k / n)) → H' p = some (.tup [.int (pl P k : Int), .int (ht (full P) (pl P k))]) → Q (.ref p) H'
def spBlkBack : Sp := fun vs H Q _ => ∃ (b : Addr) (qs : List Addr) (L : List Bool) (n p bb : Nat) (v : Int), vs = [.ref b, .int ((p / n : Nat) : Int), .int v] ∧ Bok H b L n qs ∧ 1 ≤ n ∧ L.length ≤ 400 ∧ p < L.length ∧ IsBk L p v bb ∧ bb / n ≠ p / n ∧ ∀ H', Ex H H' → Q (.int ((bb / n : Nat) : Int)) H'
def spBlkOn : Sp := fun vs H Q _ => ∃ (b : Addr) (qs : List Addr) (L : List Bool) (n p e : Nat), vs = [.ref b, .int ((p / n : Nat) : Int), .int (ht L p)] ∧ Bok H b L n qs ∧ 1 ≤ n ∧ L.length ≤ 400 ∧ IsEn L p e ∧ e / n ≠ p / n ∧ ∀ H', Ex H H' → Q (.int ((e / n : Nat) : Int)) H'
def spBack (C : Addr) : Sp := fun vs H Q _ => ∃ (b x td : Addr) (qs : List Addr) (P : List Int) (z : Str) (n : Nat) (ks : List Nat) (p bb : Nat) (v : Int), vs = [.ref b, .ref x, .int (p : Int), .int v] ∧ Giv C H b x td qs P z n ks 8990 ∧ p < (full P).length ∧ IsBk (full P) p v bb ∧ Same z (full P) n [p / n, bb / n] ∧
  ∀ H', Kept td H H' → Bk C H' x td z n (asks ks [p / n, bb / n]) → Q (.int (ones (full P) bb : Int)) H'
def spEnd (C : Addr) : Sp := fun vs H Q _ => ∃ (b x td : Addr) (qs : List Addr) (P : List Int) (z : Str) (n : Nat) (ks : List Nat) (p e : Nat), vs = [.ref b, .ref x, .int (p : Int), .int (ht (full P) p)] ∧ Giv C H b x td qs P z n ks 8990 ∧ IsEn (full P) p e ∧ Same z (full P) n [p / n, e / n] ∧
  ∀ H', Kept td H H' → Bk C H' x td z n (asks ks [p / n, e / n]) → Q (.int (e : Int)) H'
/-- the rows between two places -/
def row3 (L : List Bool) (n f e m : Nat) : List V := [.int (m : Int), .int (lmin (lw L n f e m)), .int (((lw L n f e m).count (lmin (lw L n f e m)) : Nat) : Int)]
def Rws (H : Hp) (rs : List Addr) (L : List Bool) (n f e m : Nat) : Prop := rs.length = m ∧ ∀ (i : Nat) (q : Addr), rs[i]? = some q → H q = some (.tup (row3 L n f e (f / n + i)))
def rdLows (n f e : Nat) : List Nat := [f / n, (e - 1) / n].filter fun m => !(decide (f ≤ m * n) && decide (m * n + n ≤ e))
def spLows (C : Addr) : Sp := fun vs H Q _ => ∃ (b x td : Addr) (qs : List Addr) (P : List Int) (z : Str) (n : Nat) (ks : List Nat) (f e : Nat), vs = [.ref b, .ref x, .int (f : Int), .int (e : Int)] ∧ Giv C H b x td qs P z n ks 8980 ∧ f < e ∧ e ≤ (full P).length ∧ Same z (full P) n (rdLows n f e) ∧
  ∀ p rs H', H p = none → Kept td H H' → Bk C H' x td z n (asks ks (rdLows n f e)) → H' p = some (.lst (rs.map V.ref)) → Rws H' rs (full P) n f e (rowsN n f e).length → Q (.ref p) H'
def spPB (C : Addr) : Sp := fun vs H Q _ => ∃ (b x td : Addr) (qs : List Addr) (P : List Int) (z : Str) (n : Nat) (ks : List Nat) (m f : Nat) (v : Int), vs = [.ref b, .ref x, .int (m : Int), .int (f : Int), .int v] ∧ Giv C H b x td qs P z n ks 9000 ∧ m * n < (full P).length ∧ f < (full P).length ∧ cutAt z n m = cutAt (txt (full P)) n m ∧
  ∀ p H', H p = none → Kept td H H' → Bk C H' x td z n (addK ks m) → H' p = some (.lst (nints (gp (full P) v (max f (m * n) + 1) (min (m * n + n) (full P).length + 1)))) → Q (.ref p) H'
/-- pairs of numbers -/
def Prs (H : Hp) (rs : List Addr) (gs : List (Nat × Nat)) : Prop := rs.length = gs.length ∧ ∀ (i : Nat) (q : Addr) (g : Nat × Nat), rs[i]? = some q → gs[i]? = some g → H q = some (.tup [.int (g.1 : Int), .int (g.2 : Int)])
theorem Prs.ex {H H' : Hp} {rs : List Addr} {gs : List (Nat × Nat)} (e : Ex H H') (h : Prs H rs gs) : Prs H' rs gs := ⟨h.1, fun i q g a b => e _ _ (h.2 i q g a b)⟩
def spGaps (C : Addr) : Sp := fun vs H Q _ => ∃ (b x td : Addr) (qs : List Addr) (P : List Int) (z : Str) (n : Nat) (ks : List Nat) (p e : Nat), vs = [.ref b, .ref x, .int (p : Int), .int (ht (full P) p)] ∧ Giv C H b x td qs P z n ks 8970 ∧ IsEn (full P) p e ∧ Same z (full P) n [p / n, e / n] ∧
  ∀ a rs H', H a = none → Kept td H H' → Bk C H' x td z n (asks ks [p / n, e / n]) → H' a = some (.lst (rs.map V.ref)) → Prs H' rs (gaps (full P) n p e (ht (full P) p + 1)) → Q (.ref a) H'
def spMany' (K : PySem.W.Frag) : Sp := fun vs H Q _ => ∃ (a : Addr) (rs : List Addr) (gs : List (Nat × Nat)), vs = [.ref a] ∧ SqL K H a (rs.map V.ref) ∧ Prs H rs gs ∧ gs.length ≤ 4000 ∧ ∀ H', Ex H H' → Q (.int (((gs.map (·.2)).sum : Nat) - 1 : Int)) H'
def spFind (K : PySem.W.Frag) : Sp := fun vs H Q _ => ∃ (a : Addr) (rs : List Addr) (gs : List (Nat × Nat)) (m : Nat), vs = [.ref a, .int (m : Int)] ∧ SqL K H a (rs.map V.ref) ∧ Prs H rs gs ∧ m < (gs.map (·.2)).sum ∧ ∀ p H', H p = none → Ex H H' → H' p = some (.tup [.int ((fg gs m).1 : Int), .int ((fg gs m).2 : Int)]) → Q (.ref p) H'
def spLook (K : PySem.W.Frag) (C CK : Addr) : Sp := fun vs H Q E => ∃ (x td : Addr) (z : Str) (n : Nat) (ks : List Nat) (m : Nat) (v : V), vs = [.ref x, v] ∧ Bk C H x td z n ks ∧ z.length = 2 * m ∧ 1 ≤ m ∧ Kd K H v ∧
  (∀ k : Nat, v = .int (k : Int) → k < m → ∀ H', Ex H H' → Q .non H') ∧ (inR 0 ((m : Int) - 1) v = false → ∀ H', Ex H H' → E (.ref CK) none H')
section
variable {H : Hp}
theorem el_is {σ : L2.St} {te : TE} {xs ys : List V} (h : EvL te σ H xs) (e : xs = ys) : EvL te σ H ys := by rw [← e]; exact h
theorem ea_is {σ : L2.St} {args : TA} {vs ws : List V} (h : EvA args σ H vs) (e : vs = ws) : EvA args σ H ws := by rw [← e]; exact h
theorem sv_ahead {a h : Int} : SpV spAhead [.int a, .int h] H (.int ((a + h) / 2)) := fun H1 e Q q E => ⟨a, h, rfl, q⟩
theorem cnt_over {l n : Nat} (hn : 1 ≤ n) : l ≤ cnt l n * n := by
  have := (cnt_iff (l := l) (j := cnt l n) hn)
  omega
theorem Bok.at_ {p : Addr} {L : List Bool} {n j : Nat} {qs : List Addr} (h : Bok H p L n qs) (hn : 1 ≤ n) (hj : j * n < L.length) : ∃ r, atI (qs.map V.ref) (j : Int) = some (.ref r) ∧ H r = some (.tup (row L n j)) := by
  obtain ⟨r, hr0⟩ : ∃ r, qs[j]? = some r := ⟨_, List.getElem?_eq_getElem (by rw [h.ln]; exact (cnt_iff hn).mpr hj)⟩
  exact ⟨r, atI_nat (by rw [List.getElem?_map, hr0]; rfl), h.rw_ j r hr0⟩
theorem sv_blk {b : Addr} {qs : List Addr} {P : List Int} {n k : Nat} (hB : Bok H b (full P) n qs) (hg : Good P) (hl : P.length < 160) (h1 : 1 ≤ n) (h2 : n ≤ 4000) (hk : k ≤ P.length) : SpV spBlk [.ref b, .int (n : Int), .int (k : Int)] H (.int ((pl P k / n : Nat) : Int)) := fun H1 e Q q E => ⟨b, qs, P, n, k, rfl, hB.ex e, hg, hl, h1, h2, hk, q⟩
end
theorem find_from {bs : List Bool} {s j : Nat} (hs : s ≤ j) (hj : bs[j]? = some true) (hno : ∀ i, s ≤ i → i < j → bs[i]? = some false) : ∃ r, PySem.Builtin.Str.occurrences (txt bs) ("1" : Str) s (txt bs).length 1 = j :: r := by
  have hat : ∀ i, PySem.StrLaws.At (txt bs) ("1" : Str) (txt bs).length i ↔ bs[i]? = some true := by
    intro i
    have h1 : ("1" : Str) = ⟨#[49]⟩ := txt_1
    rw [h1]
    show (_ ∧ _) ↔ _
    rw [PySem.StrLaws.subAt_one, txt_cps]
    unfold codes
    rw [List.getElem?_map]
    cases bs[i]? with
    | none => simp
    | some c => cases c <;> simp [code]
  rcases PySem.StrLaws.occ_head_from (txt bs) ("1" : Str) s 1 (Nat.le_refl _) with ⟨_, h⟩ | ⟨i, r, h, h1, h2, h3⟩
  · exact absurd ((hat j).mpr hj) (h j hs)
  · have hi := (hat i).mp h2
    by_cases c : i < j
    · have := hno i h1 c
      rw [hi] at this
      cases this
    · by_cases c2 : j < i
      · exact absurd ((hat j).mpr hj) (h3 j hs c2)
      · have : i = j := by omega
        subst this
        exact ⟨r, h⟩
theorem find_1 {bs : List Bool} {j : Nat} (hj : bs[j]? = some true) (hno : ∀ i, i < j → bs[i]? = some false) : PySem.Txt.find (txt bs) ("1" : Str) = (j : Int) := by
  obtain ⟨r, h⟩ := find_from (Nat.zero_le j) hj (fun i _ => hno i)
  unfold PySem.Txt.find
  rw [h]
theorem find_3 {bs : List Bool} {s j : Nat} {v : Int} (hv : v = (s : Int)) (hs : s ≤ j) (hj : bs[j]? = some true) (hno : ∀ i, s ≤ i → i < j → bs[i]? = some false) : PySem.Txt.find3 (txt bs) ("1" : Str) v = (j : Int) := by
  obtain ⟨r, h⟩ := find_from hs hj hno
  subst hv
  unfold PySem.Txt.find3
  have e : PySem.fromIndex (txt bs).length (s : Int) = s := by
    unfold PySem.fromIndex
    rw [if_neg (by omega)]
    omega
  rw [e, h]
theorem ev_find {K : PySem.W.Frag} {σ : L2.St} {H : Hp} {to te : TE} {z y : Str} (h1 : Ev to σ H (.str z)) (h2 : Ev te σ H (.str y)) : Ev (tBM K "str" (fun x xs H Q => ∃ a b, x = .str a ∧ xs = [.str b] ∧ Q (.int (PySem.Txt.find a b)) H) to (tCons te tNil)) σ H (.int (PySem.Txt.find z y)) := fun H1 e Q q =>
  h1 H1 e _ fun H2 e2 => ⟨rfl, h2 H2 (e.trans e2) _ fun H3 e3 => ⟨z, y, rfl, rfl, q H3 (e2.trans e3)⟩⟩
theorem ev_find3 {K : PySem.W.Frag} {σ : L2.St} {H : Hp} {to te ti : TE} {z y : Str} {i : Int} (h1 : Ev to σ H (.str z)) (h2 : Ev te σ H (.str y)) (h3 : Ev ti σ H (.int i)) : Ev (tBM K "str" (fun x xs H Q => ∃ (a b : Str) (i : Int), x = .str a ∧ xs = [.str b, .int i] ∧ Q (.int (PySem.Txt.find3 a b i)) H) to (tCons te (tCons ti tNil))) σ H (.int (PySem.Txt.find3 z y i)) := fun H1 e Q q =>
  h1 H1 e _ fun H2 e2 => ⟨rfl, h2 H2 (e.trans e2) _ fun H3 e3 => h3 H3 ((e.trans e2).trans e3) _ fun H4 e4 => ⟨z, y, i, rfl, rfl, q H4 ((e2.trans e3).trans e4)⟩⟩
section
variable {K : PySem.W.Frag} {σ : L2.St} {H : Hp} {ta tb te : TE} {tl th : TO} {args : TA} {sp : Sp} {vs dvs xs : List V} {E : XK} {Q : VK} {a : Addr} {lo hi : Option Int} {ns : List Int}
theorem e_slC (h : EvA args σ H vs) (hs : ∀ H1, Ex H H1 → sp (vs ++ dvs) H1 (fun x H2 => tl σ H2 fun lo H3 => th σ H3 fun hi H4 => rSlL K x lo hi H4 Q) E) : tSl (rSlL K) (tCall sp dvs E args) tl th σ H Q := h H (Ex.refl H) _ fun H1 e => hs H1 e
theorem sl_at (hx : SqL K H a xs) (h1 : EvO tl σ H lo) (h2 : EvO th σ H hi) (q : ∀ p H2, H p = none → Ex H H2 → H2 p = some (.lst (cutV xs lo hi)) → Q (.ref p) H2) : tl σ H (fun lo H3 => th σ H3 (fun hi H4 => rSlL K (.ref a) lo hi H4 Q)) :=
  h1 H (Ex.refl H) _ fun H3 e3 => h2 H3 e3 _ fun H4 e4 => ⟨a, xs, rfl, ex_l (e3.trans e4) hx, fun p hp => q p _ (fresh_back (e3.trans e4) hp) ((e3.trans e4).trans (Ex.new hp)) upd_same⟩
theorem cutV_take (ns : List Int) {m : Nat} {v : Int} (hv : v = (m : Int)) : cutV (ns.map V.int) none (some v) = (ns.take m).map V.int := by
  subst hv
  unfold cutV
  rw [HT.sIx_none, HT.sIx_nat, Nat.sub_zero, List.drop_zero, ← List.map_take, List.length_map]
  congr 1
  by_cases h : m ≤ ns.length
  · rw [Nat.min_eq_left h]
  · rw [Nat.min_eq_right (by omega), List.take_length, List.take_of_length_le (by omega)]
theorem cutV_drop (ns : List Int) {m : Nat} {v : Int} (hv : v = (m : Int)) : cutV (ns.map V.int) (some v) none = (ns.drop m).map V.int := by
  subst hv
  unfold cutV
  rw [HT.sIx_none, HT.sIx_nat, ← List.map_drop, List.length_map]
  have h2 : ((ns.drop (min m ns.length)).map V.int).length = ns.length - min m ns.length := by rw [List.length_map, List.length_drop]
  rw [List.take_of_length_le (by rw [h2]; exact Nat.le_refl _)]
  congr 1
  by_cases h : m ≤ ns.length
  · rw [Nat.min_eq_left h]
  · rw [Nat.min_eq_right (by omega), List.drop_length, List.drop_eq_nil_of_le (by omega)]
theorem cutV_mid (ns : List Int) {m c : Nat} {v u : Int} (hv : v = (m : Int)) (hu : u = (c : Int)) : cutV (ns.map V.int) (some v) (some u) = ((ns.drop m).take (c - m)).map V.int := by
  subst hv hu
  unfold cutV
  rw [HT.sIx_nat, HT.sIx_nat, ← List.map_drop, ← List.map_take, List.length_map]
  congr 1
  apply List.ext_getElem?
  intro i
  rw [List.getElem?_take, List.getElem?_take, List.getElem?_drop, List.getElem?_drop]
  by_cases h : m + i < ns.length
  · by_cases h2 : i < c - m
    · rw [if_pos (by omega), if_pos h2, Nat.min_eq_left (by omega)]
    · rw [if_neg (by omega), if_neg h2]
  · rw [if_neg (by omega)]
    split
    · rw [List.getElem?_eq_none (by omega)]
    · rfl
theorem el_revI (h : Ev te σ H (.ref a)) (hs : SqL K H a (ns.map V.int)) : EvL (tRevL K te) σ H (ns.reverse.map V.int) := by
  rw [List.map_reverse]
  exact el_revL h hs
theorem rev_at {i : Nat} {v : Int} (hi : ns[i]? = some v) (hno : ∀ j, i < j → ns[j]? ≠ some v) : ns.reverse[ns.length - 1 - i]? = some v ∧ ∀ m, m < ns.length - 1 - i → ns.reverse[m]? ≠ some v := by
  have hl := (List.getElem?_eq_some_iff.mp hi).1
  constructor
  · rw [List.getElem?_reverse (by omega), show ns.length - 1 - (ns.length - 1 - i) = i by omega, hi]
  · intro m hm
    rw [List.getElem?_reverse (by omega)]
    exact hno _ (by omega)
end
theorem addK_again (ks : List Nat) (j : Nat) : addK (addK ks j) j = addK ks j := if_pos (mem_addK.mpr (.inr rfl))
theorem sv_blkBack {H : Hp} {b : Addr} {qs : List Addr} {L : List Bool} {n p bb : Nat} {v : Int} (hB : Bok H b L n qs) (h1 : 1 ≤ n) (hl : L.length ≤ 400) (hp : p < L.length) (hI : IsBk L p v bb) (hne : bb / n ≠ p / n) : SpV spBlkBack [.ref b, .int ((p / n : Nat) : Int), .int v] H (.int ((bb / n : Nat) : Int)) := fun H1 e Q q E => ⟨b, qs, L, n, p, bb, v, rfl, hB.ex e, h1, hl, hp, hI, hne, q⟩
theorem sv_blkOn {H : Hp} {b : Addr} {qs : List Addr} {L : List Bool} {n p e : Nat} (hB : Bok H b L n qs) (h1 : 1 ≤ n) (hl : L.length ≤ 400) (hI : IsEn L p e) (hne : e / n ≠ p / n) : SpV spBlkOn [.ref b, .int ((p / n : Nat) : Int), .int (ht L p)] H (.int ((e / n : Nat) : Int)) := fun H1 e' Q q E => ⟨b, qs, L, n, p, e, rfl, hB.ex e', h1, hl, hI, hne, q⟩
section
variable {K : PySem.W.Frag} {σ : L2.St} {H : Hp} {te : TE} {tl th : TO} {xs : List V} {a : Addr} {lo hi : Option Int} {D : Ends} {i j : Nat} {y z : V}
theorem eu_slT (h : Ev te σ H (.ref a)) (h1 : EvO tl σ H lo) (h2 : EvO th σ H hi) (hs : SqT K H a xs) (hw : ¬ (HT.sIx xs.length 0 lo = 0 ∧ HT.sIx xs.length xs.length hi = xs.length)) : EvU (tSl (rSlT K) te tl th) σ H (cutV xs lo hi) := fun H1 e Q q =>
  h H1 e _ fun H2 e2 => h1 H2 (e.trans e2) _ fun H3 e3 => h2 H3 ((e.trans e2).trans e3) _ fun H4 e4 => ⟨a, xs, rfl, ex_t (((e.trans e2).trans e3).trans e4) hs, hw, fun p hp => q p _ (fresh_back ((e2.trans e3).trans e4) hp) (((e2.trans e3).trans e4).trans (Ex.new hp)) upd_same⟩
theorem s_unpU2 (h : EvU te σ H [y, z]) (k : ∀ H1, Ex H H1 → D.nx ((σ.set i (some y)).set j (some z)) H1) : tAsg te (gTup K 2 (gCons (gName i) (gCons (gName j) gNil))) D σ H := h H (Ex.refl H) _ fun p H1 _ e hp => g_tup2 (st_of hp) (k H1 e)
end
theorem Kept.mut {td p : Addr} {H H' : Hp} {o : HO} (k : Kept td H H') (h : H p = none) : Kept td H (upd H' p o) := fun F n e => (k F n e).mut (fresh_back e h)
theorem refs_ne_parts {rs : List Addr} {z : Str} {n : Nat} (h : 1 ≤ cnt z.length n) : rs.map V.ref ≠ parts z n := by
  intro e
  have h0 := parts_at (z := z) (n := n) (j := 0) h
  rw [← e, List.getElem?_map] at h0
  cases hr : rs[0]? with
  | none => rw [hr] at h0; cases h0
  | some r => rw [hr] at h0; cases h0
/-! ### which of the blocks between are read -/
def nc (n f e m : Nat) : Bool := !(decide (f ≤ m * n) && decide (m * n + n ≤ e))
theorem nc_mid {n f e m : Nat} (hn : 1 ≤ n) (h1 : f / n < m) (h2 : m < (e - 1) / n) : nc n f e m = false := by
  have a1 := blk_gt (f := f) hn (Nat.le_refl (f / n))
  have a2 : (f / n + 1) * n ≤ m * n := Nat.mul_le_mul_right _ (by omega)
  rw [Nat.succ_mul] at a2
  have a3 : (m + 1) * n ≤ (e - 1) / n * n := Nat.mul_le_mul_right _ (by omega)
  rw [Nat.succ_mul] at a3
  have a4 := Nat.div_mul_le_self (e - 1) n
  unfold nc
  rw [decide_eq_true (by omega), decide_eq_true (by omega)]
  rfl
theorem lows_list {n f e : Nat} (hn : 1 ≤ n) (hf : f < e) : ((rowsN n f e).filter (nc n f e)).length ≤ 2 ∧ ∀ ks, asks ks ((rowsN n f e).filter (nc n f e)) = asks ks (rdLows n f e) := by
  have hle : f / n ≤ (e - 1) / n := Nat.div_le_div_right (by omega)
  unfold rdLows rowsN
  show _ ∧ ∀ ks, _ = asks ks ([f / n, (e - 1) / n].filter (nc n f e))
  obtain ⟨a, ha⟩ : ∃ a, a = f / n := ⟨_, rfl⟩
  obtain ⟨c, hc⟩ : ∃ c, c = (e - 1) / n := ⟨_, rfl⟩
  rw [← ha, ← hc]
  by_cases h : a = c
  · subst h
    have e0 : List.range' a (a + 1 - a) = [a] := by rw [show a + 1 - a = 1 by omega]; rfl
    rw [e0]
    cases hnc : nc n f e a with
    | false => simp [hnc]
    | true =>
      simp only [List.filter_cons, List.filter_nil, hnc, if_true]
      refine ⟨by simp, fun ks => ?_⟩
      show asks ks [a] = addK (addK ks a) a
      exact (if_pos (mem_addK.mpr (.inr rfl))).symm
  · obtain ⟨t, ht⟩ : ∃ t, c = a + t + 1 := ⟨c - a - 1, by omega⟩
    have e1 : List.range' a (c + 1 - a) = [a] ++ (List.range' (a + 1) t ++ [c]) := by
      rw [show c + 1 - a = (t + 1) + 1 by omega, List.range'_succ, List.range'_1_concat, ht, show a + 1 + t = a + t + 1 by omega]
      rfl
    have e2 : (List.range' (a + 1) t).filter (nc n f e) = [] := by
      rw [List.filter_eq_nil_iff]
      intro m hm
      rw [List.mem_range'_1] at hm
      rw [nc_mid hn (by omega) (by omega)]
      exact Bool.false_ne_true
    rw [e1, List.filter_append, List.filter_append, e2, List.nil_append, ← List.filter_append]
    refine ⟨?_, fun ks => rfl⟩
    exact Nat.le_trans (List.length_filter_le _ _) (Nat.le_refl 2)
theorem hcut_take' {L : List Bool} {a m d : Nat} : (hcut L a m).take d = hcut L a (min d m) := by
  unfold hcut
  rw [List.take_take]
section
variable {K : PySem.W.Frag} {σ : L2.St} {H : Hp} {te tl : TE} {t : TT} {args : TA} {D : Ends} {tz : TS}
theorem q_asgRng {i : Nat} {lo hi : Int} (h : EvA args σ H [.int lo, .int hi]) (k : ∀ p H1, H p = none → Ex H H1 → H1 p = some (.rng lo hi) → tz D (σ.set i (some (.ref p))) H1) : tSeq (tAsg (tCB (fun vs H Q => ∃ i j, vs = [V.int i, V.int j] ∧ ∀ p, H p = none → Q (.ref p) (upd H p (.rng i j))) args) (gName i)) tz D σ H :=
  h H (Ex.refl H) _ fun H1 e => ⟨lo, hi, rfl, fun p hp => k p _ (fresh_back e hp) (e.trans (Ex.new hp)) upd_same⟩
/-- a comprehension over a range object -/
theorem el_lcO {a : Addr} {j : Nat} {ws : List Nat} {lo hi : Int} (f : Nat → Bool) (v : Nat → V) (h : Ev tl σ H (.ref a)) (ha : H a = some (.rng lo hi)) (hn : 0 ≤ lo ∧ lo ≤ 40000 ∧ 0 ≤ hi ∧ hi ≤ 40000)
    (hw : ∀ x, wipe ((wipe σ ws).set j (some x)) ws = wipe σ ws)
    (hyes : ∀ (i : Nat) H1, Ex H H1 → lo + (i : Int) < hi → EvT t ((wipe σ ws).set j (some (.int (lo + (i : Int))))) H1 (f i))
    (he : ∀ (i : Nat) H1, Ex H H1 → lo + (i : Int) < hi → f i = true → Ev te ((wipe σ ws).set j (some (.int (lo + (i : Int))))) H1 (v i)) :
    EvL (tLc (iObj tl) (gName j) t te ws) σ H (given (hi - lo).toNat f v) := fun H0 e Q q => h H0 e _ fun H1 e1 => by
  refine ⟨a, lo, hi, rfl, (e.trans e1) _ _ ha, by omega, fun Dl hD => ?_⟩
  refine lc_range (lo := lo) (n := (hi - lo).toNat) (Cw H1 f v Dl) ⟨hD, Ex.new hD, upd_same⟩ (fun i H' hi' p => ?_) (fun H' p => ?_)
  · have hlt : lo + (i : Int) < hi := by omega
    exact ⟨hw _, cw_turn p (by omega) (hyes i H1 (e.trans e1) hlt) (fun hf => he i H1 (e.trans e1) hlt hf)⟩
  · obtain ⟨p1, p2, p3⟩ := p
    exact q Dl H' (fresh_back e1 p1) (e1.trans p2) p3
end
theorem dec_I (a b : Int) : decide (V.int a = V.int b) = decide (a = b) := by
  by_cases h : a = b
  · subst h; simp
  · rw [decide_eq_false h, decide_eq_false (fun z => h (V.int.inj z))]
theorem gp_given {L : List Bool} {v : Int} {a c : Nat} (w : Nat → V) (hw : ∀ i, w i = .int ((a + i : Nat) : Int)) : given (c - a) (fun i => decide (V.int (ht L (a + i)) = V.int v)) w = nints (gp L v a c) := by
  unfold given nints gp
  rw [List.range'_eq_map_range, List.filter_map, List.map_map]
  have e : (fun i => decide (V.int (ht L (a + i)) = V.int v)) = (fun i => decide (ht L i = v)) ∘ fun x => a + x := by
    funext i
    exact dec_I _ _
  rw [← e]
  apply List.map_congr_left
  intro i _
  exact hw i
theorem sum_cast : ∀ gs : List (Nat × Nat), (gs.map fun g => (g.2 : Int)).sum = (((gs.map (·.2)).sum : Nat) : Int)
  | [] => rfl
  | g :: gs => by
    rw [List.map_cons, List.sum_cons, List.map_cons, List.sum_cons, sum_cast gs]
    omega
theorem asks_head (ks r : List Nat) (a : Nat) : asks (addK ks a) (a :: r) = asks ks (a :: r) := by
  show asks (addK (addK ks a) a) r = asks (addK ks a) r
  rw [addK_again]
theorem gaps_le {L : List Bool} {n f e : Nat} {v : Int} (h : f < e) : (gaps L n f e v).length ≤ e := by
  unfold gaps rowsN
  rw [List.length_map]
  have h1 := List.length_filter_le (fun m => decide (lmin (lw L n f e m) = v)) (List.range' (f / n) ((e - 1) / n + 1 - f / n))
  rw [List.length_range'] at h1
  have : (e - 1) / n ≤ e - 1 := Nat.div_le_self _ _
  have := Nat.zero_le (f / n)
  omega
theorem aAbove_0 (P : List Int) : aAbove P 0 = .non := by unfold aAbove; rw [par_0]; rfl
theorem aAbove_is {P : List Int} {k : Nat} {q : Int} (h : (par P)[k]? = some (some q)) : aAbove P k = .int q := by unfold aAbove; rw [h]; rfl
theorem rdLows_in {n p e : Nat} (hn1 : 1 ≤ n) (hpe : p < e) : ∀ m ∈ rdLows n p e, m ∈ [p / n, e / n] := by
  intro m hm
  unfold rdLows at hm
  obtain ⟨hm1, hm2⟩ := List.mem_filter.mp hm
  have hde := div_at e n
  have hme := Nat.mod_lt e (show n > 0 by omega)
  rcases List.mem_cons.mp hm1 with h | h
  · rw [h]; exact List.mem_cons_self
  · have h : m = (e - 1) / n := by simpa using h
    by_cases c : (e - 1) / n = e / n
    · rw [h, c]; exact List.mem_cons_of_mem _ List.mem_cons_self
    · by_cases c2 : (e - 1) / n = p / n
      · rw [h, c2]; exact List.mem_cons_self
      · exfalso
        have h1 : (e - 1) / n ≤ e / n := Nat.div_le_div_right (by omega)
        have h2 : ((e - 1) / n + 1) * n ≤ e / n * n := Nat.mul_le_mul_right _ (by omega)
        rw [Nat.succ_mul] at h2
        have h3 : p / n ≤ (e - 1) / n := Nat.div_le_div_right (by omega)
        have h4 : (p / n + 1) * n ≤ (e - 1) / n * n := Nat.mul_le_mul_right _ (by omega)
        rw [Nat.succ_mul] at h4
        have h5 := blk_gt (f := p) hn1 (Nat.le_refl (p / n))
        rw [h, decide_eq_true (by omega), decide_eq_true (by omega)] at hm2
        exact absurd hm2 (by decide)
theorem sv_many' {K : PySem.W.Frag} {H : Hp} {a : Addr} {rs : List Addr} {gs : List (Nat × Nat)} (hS : SqL K H a (rs.map V.ref)) (hP : Prs H rs gs) (hl : gs.length ≤ 4000) : SpV (spMany' K) [.ref a] H (.int (((gs.map (·.2)).sum : Nat) - 1 : Int)) := fun H1 e Q q E => ⟨a, rs, gs, rfl, ex_l e hS, hP.ex e, hl, q⟩
theorem eld_self {P : List Int} (hg : Good P) {k : Nat} (hk : k ≤ P.length) : eld P k k = (k : Int) := by
  obtain ⟨h1, _⟩ := eld_mem hg k k
  have h2 := (line_le hk h1).2
  have h3 : (k : Int) ∈ line P k := by
    have := st_head (P.take k)
    rw [List.length_take, Nat.min_eq_left hk] at this
    exact List.mem_of_mem_head? this
  have h4 := eld_max hg h3 h3
  omega
theorem e_cb {r : List V → Hp → VK → Prop} {σ : L2.St} {H : Hp} {args : TA} {Q : VK} (h : args σ H (fun vs H1 => r vs H1 Q)) : tCB r args σ H Q := h
theorem e_lcC {K : PySem.W.Frag} {sp : Sp} {dvs vs : List V} {E : XK} {args : TA} {g : TG} {tt : TT} {te : TE} {ws : List Nat} {σ : L2.St} {H : Hp} {Q : VK} (h : EvA args σ H vs)
    (hs : ∀ H1, Ex H H1 → sp (vs ++ dvs) H1 (fun x H2 => tLc (iList K (tC x)) g tt te ws σ H2 Q) E) : tLc (iList K (tCall sp dvs E args)) g tt te ws σ H Q := h H (Ex.refl H) _ fun H1 e => hs H1 e
theorem wid_log {n : Nat} (h : 1 ≤ n) : n.log2 + 1 = wid n := by
  have key : ∀ w, w < wid n ↔ w ≤ n.log2 := fun w => by rw [← wid_iff h, Nat.le_log2 (by omega)]
  have a := key (wid n)
  have b := key (n.log2)
  have c := key (wid n - 1)
  have := wid_pos h
  omega
theorem bits_wid {n : Nat} (h : 1 ≤ n) : (PySem.Builtin.Int.intBits (n : Int) : Nat) = wid n := by
  unfold PySem.Builtin.Int.intBits
  have : ((n : Int) == 0) = false := beq_eq_false_iff_ne.mpr (by omega)
  rw [this, if_neg Bool.false_ne_true, Int.natAbs_natCast, wid_log h]
theorem sv_widthOf {H : Hp} {m : Nat} (h1 : 1 ≤ m) (h : m ≤ 4000) : SpV spWidth [.int (m : Int)] H (.int (wid m : Int)) := fun H1 e Q q E => ⟨m, rfl, h1, h, q⟩
end KB

namespace KB
open PySem L2 Evl
section
variable {K : PySem.W.Frag} {σ : L2.St} {H : Hp} {ta tb te : TE} {t : TT} {args : TA}
/-- a comprehension over range(lo, hi) -/
theorem el_lcR2 {j : Nat} {ws : List Nat} {lo hi : Int} (f : Nat → Bool) (v : Nat → V) (h : EvA args σ H [.int lo, .int hi]) (hn : 0 ≤ lo ∧ lo ≤ 40000 ∧ 0 ≤ hi ∧ hi ≤ 40000)
    (hw : ∀ x, wipe ((wipe σ ws).set j (some x)) ws = wipe σ ws)
    (hyes : ∀ (i : Nat) H1, Ex H H1 → lo + (i : Int) < hi → EvT t ((wipe σ ws).set j (some (.int (lo + (i : Int))))) H1 (f i))
    (he : ∀ (i : Nat) H1, Ex H H1 → lo + (i : Int) < hi → f i = true → Ev te ((wipe σ ws).set j (some (.int (lo + (i : Int))))) H1 (v i)) :
    EvL (tLc (iRng2 args) (gName j) t te ws) σ H (given (hi - lo).toNat f v) := fun H0 e Q q => h H0 e _ fun H1 e1 => by
  refine ⟨lo, hi, rfl, by omega, fun Dl hD => ?_⟩
  refine lc_range (lo := lo) (n := (hi - lo).toNat) (Cw H1 f v Dl) ⟨hD, Ex.new hD, upd_same⟩ (fun i H' hi' p => ?_) (fun H' p => ?_)
  · have hlt : lo + (i : Int) < hi := by omega
    exact ⟨hw _, cw_turn p (by omega) (hyes i H1 (e.trans e1) hlt) (fun hf => he i H1 (e.trans e1) hlt hf)⟩
  · obtain ⟨p1, p2, p3⟩ := p
    exact q Dl H' (fresh_back e1 p1) (e1.trans p2) p3
/-- [x] * n -/
theorem el_rep {x : V} {n : Int} (h1 : EvL ta σ H [x]) (h2 : ∀ H1, Ex H H1 → Ev tb σ H1 (.int n)) (h : 0 ≤ n ∧ n ≤ 40000) : EvL (tOp rRep ta tb) σ H (List.replicate n.toNat x) := fun H1 e Q q =>
  h1 H1 e _ fun p H2 np e2 hp => h2 H2 (e.trans e2) H2 (Ex.refl _) _ fun H3 e3 => ⟨p, n, [x], rfl, rfl, e3 _ _ hp, by omega, by omega, sz_of (by rw [List.length_singleton, Nat.one_mul]; omega), fun l hl => by
    have z := q l (upd H3 l (.lst (List.replicate n.toNat x))) (fresh_back (e2.trans e3) hl) ((e2.trans e3).trans (Ex.new hl)) upd_same
    have e9 : (List.replicate n.toNat [x]).flatten = List.replicate n.toNat x := by
      rw [List.flatten_replicate_singleton]
    rw [e9]
    exact z⟩
theorem ev_index {a : Addr} {ys : List V} {y : V} {j : Nat} (h1 : Ev ta σ H (.ref a)) (hs : SqL K H a ys) (h2 : Ev tb σ H y) (fy : flatV y = true) (fys : ys.all flatV = true) (hj : ys[j]? = some y) (he : eqV y y = true)
    (hno : ∀ (m : Nat) (z' : V), m < j → ys[m]? = some z' → eqV z' y = false) : Ev (tBM K "list" (rIndex K) ta (tCons tb tNil)) σ H (.int (j : Int)) := fun H1 e Q q =>
  h1 H1 e _ fun H2 e2 => ⟨.inl ⟨rfl, _, ex_l (e.trans e2) hs⟩, h2 H2 (e.trans e2) _ fun H3 e3 => ⟨a, ys, y, j, y, rfl, rfl, ex_l ((e.trans e2).trans e3) hs, fy, fys, hj, he, hno, q H3 (e2.trans e3)⟩⟩
end
theorem given_head (n : Nat) (f : Nat → Bool) (v : Nat → V) : (given n f v)[0]? = ((List.range n).find? f).map v := by
  unfold given
  rw [← List.head?_eq_getElem?, List.head?_map, List.head?_filter]
theorem given_filt (n : Nat) (f : Nat → Bool) (v : Nat → V) : (given n f v).length = ((List.range n).filter f).length := by
  unfold given
  rw [List.length_map]
/-! ### the stack holds what came ahead -/
theorem sk_lt {L : List Bool} : ∀ j, j ≤ L.length → ∀ q ∈ sk L j, q < (ones L j : Int)
  | 0, _, q, h => by rw [sk_0] at h; cases h
  | j + 1, hj, q, h => by
    have ih := sk_lt (L := L) j (by omega)
    obtain ⟨b, hb⟩ : ∃ b, L[j]? = some b := ⟨_, List.getElem?_eq_getElem (by omega)⟩
    have ho := ones_succ hb
    cases b with
    | true =>
      rw [sk_one hb] at h
      simp only [if_true] at ho
      rcases List.mem_cons.mp h with h | h
      · omega
      · have := ih q h
        omega
    | false =>
      rw [sk_zero hb] at h
      simp only [Bool.false_eq_true, if_false] at ho
      have := ih q (List.mem_of_mem_tail h)
      omega
theorem kat_pl {P : List Int} (hg : Good P) {k : Nat} (hk : k ≤ P.length) : kat (full P) (pl P k) = (k : Int) := by
  unfold kat
  rw [full_pl hg hk, if_pos rfl, ones_pl hg hk]
theorem kat_before {P : List Int} (hg : Good P) {k j : Nat} (hk : k ≤ P.length) (hj : j < pl P k) : kat (full P) j < (k : Int) := by
  have hlt := pl_lt hg hk
  obtain ⟨b, hb⟩ : ∃ b, (full P)[j]? = some b := ⟨_, List.getElem?_eq_getElem (by omega)⟩
  have ho := ones_succ hb
  have hm := ones_mono (full P) (show j + 1 ≤ pl P k by omega)
  rw [ones_pl hg hk] at hm
  unfold kat
  cases b with
  | true =>
    rw [hb, if_pos rfl]
    simp only [if_true] at ho
    omega
  | false =>
    rw [hb, if_neg (by intro z; cases z)]
    have hj1 : 1 ≤ j := by
      cases j with
      | zero => rw [first_one hg] at hb; cases hb
      | succ j => omega
    have hne := alive hg hj1 (by omega)
    cases e : sk (full P) j with
    | nil => exact absurd e hne
    | cons q r =>
      have := sk_lt (L := full P) j (by omega) q (by rw [e]; exact List.mem_cons_self)
      simp only [List.head?_cons, Option.getD_some]
      simp only [Bool.false_eq_true, if_false] at ho
      omega
theorem bes_shift {P : List Int} {k : Nat} : ∀ o, (List.range (P.length - k)).find? (fun i => decide ((par P)[k + 1 + i]? = (par P)[k]?)) = o → bes P k = o.map fun i => k + 1 + i := by
  intro o ho
  unfold bes
  cases o with
  | none =>
    rw [List.find?_eq_none] at ho
    rw [Option.map_none, List.find?_eq_none]
    intro j hj
    rw [List.mem_range] at hj
    by_cases c : k < j
    · have h := ho (j - (k + 1)) (List.mem_range.mpr (by omega))
      rw [show k + 1 + (j - (k + 1)) = j by omega] at h
      simp only [decide_eq_true_eq] at h
      simp [h]
    · simp [c]
  | some i =>
    rw [List.find?_range_eq_some] at ho
    obtain ⟨h1, h2, h3⟩ := ho
    rw [List.mem_range] at h2
    rw [Option.map_some, List.find?_range_eq_some]
    refine ⟨?_, List.mem_range.mpr (by omega), fun j hj => ?_⟩
    · rw [Bool.and_eq_true, decide_eq_true_eq]
      exact ⟨by omega, h1⟩
    · by_cases c : k < j
      · have h := h3 (j - (k + 1)) (by omega)
        rw [show k + 1 + (j - (k + 1)) = j by omega] at h
        simp [c]
        simpa using h
      · simp [c]
theorem find_range {l : List Int} {f : Int → Bool} : ((List.range l.length).find? fun i => match l[i]? with | some q => f q | none => false).map (fun i => V.int (match l[i]? with | some q => q | none => 0)) = (l.find? f).map V.int := by
  cases e : l.find? f with
  | none =>
    rw [Option.map_none]
    have h : ((List.range l.length).find? fun i => match l[i]? with | some q => f q | none => false) = none := by
      rw [List.find?_eq_none]
      intro i hi
      rw [List.mem_range] at hi
      rw [List.find?_eq_none] at e
      rw [List.getElem?_eq_getElem hi]
      exact e _ (List.getElem_mem hi)
    rw [h]
    rfl
  | some q =>
    rw [List.find?_eq_some_iff_getElem] at e
    obtain ⟨h1, i, hi, h2, h3⟩ := e
    have h : ((List.range l.length).find? fun i => match l[i]? with | some q => f q | none => false) = some i := by
      rw [List.find?_range_eq_some]
      refine ⟨?_, List.mem_range.mpr hi, fun j hj => ?_⟩
      · rw [List.getElem?_eq_getElem hi, h2]
        exact h1
      · rw [List.getElem?_eq_getElem (by omega)]
        exact h3 j hj
    rw [h, Option.map_some, Option.map_some, List.getElem?_eq_getElem hi, h2]
def spDue (K : PySem.W.Frag) : Sp := fun vs H Q _ => ∃ (way : Nat) (a c : Addr) (P : List Int) (k m : Nat), vs = [.int (way : Int), .ref a, .ref c, .int (k : Int), .int (m : Int)] ∧ way ≤ 8 ∧ SqL K H a (pV (par P)) ∧ SqL K H c (kats (full P) (full P).length) ∧ Good P ∧ P.length < 160 ∧ k < topW way P ∧ m ≤ P.length ∧ ∀ H', Ex H H' → Q (fW way P k m) H'
end KB
namespace KB
open PySem L2 Evl
theorem sv_due {K : PySem.W.Frag} {H : Hp} {a c : Addr} {P : List Int} {way k m : Nat} (hw : way ≤ 8) (hS : SqL K H a (pV (par P))) (hC : SqL K H c (kats (full P) (full P).length)) (hg : Good P) (hl : P.length < 160) (hk : k < topW way P) (hm : m ≤ P.length) : SpV (spDue K) [.int (way : Int), .ref a, .ref c, .int (k : Int), .int (m : Int)] H (fW way P k m) := fun H1 e Q q E => ⟨way, a, c, P, k, m, rfl, hw, ex_l e hS, ex_l e hC, hg, hl, hk, hm, q⟩
end KB

namespace LW
open PySem PySem.Spec PyProof.Rows L2 Evl KB
def topS (i : Nat) : Stmt := PySem.Challenge.pw_knotbits_k13_whole_plain_tree.main.body.getD i (.Pass ⟨0, 0, 0, 0⟩)
abbrev s_heights_along : Stmt := topS 7
abbrev s_heights_in : Stmt := topS 8
abbrev s_lowest : Stmt := topS 9
abbrev s_knots_ahead : Stmt := topS 10
abbrev s_bit_at : Stmt := topS 11
abbrev s_height_at : Stmt := topS 12
abbrev s_spot_of : Stmt := topS 13
abbrev s_knot_back : Stmt := topS 14
abbrev s_end_of : Stmt := topS 15
abbrev s_lows_between : Stmt := topS 16
abbrev s_places_behind : Stmt := topS 17
abbrev s_block_of_knot : Stmt := topS 18
abbrev s_block_back : Stmt := topS 19
abbrev s_block_on : Stmt := topS 20
abbrev s_is_whole : Stmt := topS 22
abbrev s_is_whole_from : Stmt := topS 23
abbrev s_place_of : Stmt := topS 25
abbrev s_depth_of : Stmt := topS 26
abbrev s_knot_at : Stmt := topS 27
abbrev s_above : Stmt := topS 28
abbrev s_beneath : Stmt := topS 29
abbrev s_beside : Stmt := topS 30
abbrev s_kids : Stmt := topS 31
abbrev s_kid : Stmt := topS 32
abbrev s_elder : Stmt := topS 33
abbrev s_look_at_knot : Stmt := topS 34
abbrev s_gaps_of : Stmt := topS 35
abbrev s_many_kids : Stmt := topS 36
abbrev s_find_gap : Stmt := topS 37
abbrev s_Blocks___init__ : Stmt := inClass (topS 40) 0
abbrev s_Blocks_many : Stmt := inClass (topS 40) 1
abbrev s_Blocks_part : Stmt := inClass (topS 40) 2
abbrev s_Blocks_asked : Stmt := inClass (topS 40) 3
abbrev s_book_of : Stmt := topS 43
abbrev s_width_of : Stmt := topS 44
abbrev s_size_for : Stmt := topS 45
abbrev s_pressed : Stmt := topS 48
abbrev s_plain : Stmt := topS 49
abbrev s_bits_of : Stmt := topS 50
abbrev s_parents_of : Stmt := topS 51
abbrev s_law_cell_at : Stmt := topS 53
abbrev s_law_whole : Stmt := topS 54
abbrev s_law_parents : Stmt := topS 55
abbrev s_law_size : Stmt := topS 56
abbrev s_law_call : Stmt := topS 57
abbrev s_law_line : Stmt := topS 58
abbrev s_law_kids : Stmt := topS 59
abbrev s_law_walk : Stmt := topS 60
abbrev s_law_due : Stmt := topS 61
abbrev s_law : Stmt := topS 62
structure Adr where
  f_heights_along : Addr
  d_heights_along : FuncData
  f_heights_in : Addr
  d_heights_in : FuncData
  f_lowest : Addr
  d_lowest : FuncData
  f_knots_ahead : Addr
  d_knots_ahead : FuncData
  f_bit_at : Addr
  d_bit_at : FuncData
  f_height_at : Addr
  d_height_at : FuncData
  f_spot_of : Addr
  d_spot_of : FuncData
  f_knot_back : Addr
  d_knot_back : FuncData
  f_end_of : Addr
  d_end_of : FuncData
  f_lows_between : Addr
  d_lows_between : FuncData
  f_places_behind : Addr
  d_places_behind : FuncData
  f_block_of_knot : Addr
  d_block_of_knot : FuncData
  f_block_back : Addr
  d_block_back : FuncData
  f_block_on : Addr
  d_block_on : FuncData
  f_is_whole : Addr
  d_is_whole : FuncData
  f_is_whole_from : Addr
  d_is_whole_from : FuncData
  f_place_of : Addr
  d_place_of : FuncData
  f_depth_of : Addr
  d_depth_of : FuncData
  f_knot_at : Addr
  d_knot_at : FuncData
  f_above : Addr
  d_above : FuncData
  f_beneath : Addr
  d_beneath : FuncData
  f_beside : Addr
  d_beside : FuncData
  f_kids : Addr
  d_kids : FuncData
  f_kid : Addr
  d_kid : FuncData
  f_elder : Addr
  d_elder : FuncData
  f_look_at_knot : Addr
  d_look_at_knot : FuncData
  f_gaps_of : Addr
  d_gaps_of : FuncData
  f_many_kids : Addr
  d_many_kids : FuncData
  f_find_gap : Addr
  d_find_gap : FuncData
  f_Blocks___init__ : Addr
  d_Blocks___init__ : FuncData
  f_Blocks_many : Addr
  d_Blocks_many : FuncData
  f_Blocks_part : Addr
  d_Blocks_part : FuncData
  f_Blocks_asked : Addr
  d_Blocks_asked : FuncData
  f_book_of : Addr
  d_book_of : FuncData
  f_width_of : Addr
  d_width_of : FuncData
  f_size_for : Addr
  d_size_for : FuncData
  f_pressed : Addr
  d_pressed : FuncData
  f_plain : Addr
  d_plain : FuncData
  f_bits_of : Addr
  d_bits_of : FuncData
  f_parents_of : Addr
  d_parents_of : FuncData
  f_law_cell_at : Addr
  d_law_cell_at : FuncData
  f_law_whole : Addr
  d_law_whole : FuncData
  f_law_parents : Addr
  d_law_parents : FuncData
  f_law_size : Addr
  d_law_size : FuncData
  f_law_call : Addr
  d_law_call : FuncData
  f_law_line : Addr
  d_law_line : FuncData
  f_law_kids : Addr
  d_law_kids : FuncData
  f_law_walk : Addr
  d_law_walk : FuncData
  f_law_due : Addr
  d_law_due : FuncData
  f_law : Addr
  d_law : FuncData
  c_KnotError : Addr
  c_NoTree : Addr
  c_NoSize : Addr
  c_NoBlock : Addr
  c_NoKnot : Addr
  c_Blocks : Addr
  t_MOST_SIZE : Tok
  t_MOST_SHARE : Tok
  t_MOST_KNOTS : Tok
structure Txt (K : PySem.W.Frag) (mg : Str → Option Value) (A : Adr) : Prop where
  F_heights_along : Fun K "heights_along" "heights_along" s_heights_along A.f_heights_along A.d_heights_along
  g_heights_along : mg "heights_along" = some (.ref A.f_heights_along)
  s_heights_along : Binds K A.d_heights_along ["height", "text"] []
  F_heights_in : Fun K "heights_in" "heights_in" s_heights_in A.f_heights_in A.d_heights_in
  g_heights_in : mg "heights_in" = some (.ref A.f_heights_in)
  s_heights_in : Binds K A.d_heights_in ["book", "blocks", "number"] []
  F_lowest : Fun K "lowest" "lowest" s_lowest A.f_lowest A.d_lowest
  g_lowest : mg "lowest" = some (.ref A.f_lowest)
  s_lowest : Binds K A.d_lowest ["heights"] []
  F_knots_ahead : Fun K "knots_ahead" "knots_ahead" s_knots_ahead A.f_knots_ahead A.d_knots_ahead
  g_knots_ahead : mg "knots_ahead" = some (.ref A.f_knots_ahead)
  s_knots_ahead : Binds K A.d_knots_ahead ["place", "height"] []
  F_bit_at : Fun K "bit_at" "bit_at" s_bit_at A.f_bit_at A.d_bit_at
  g_bit_at : mg "bit_at" = some (.ref A.f_bit_at)
  s_bit_at : Binds K A.d_bit_at ["blocks", "place"] []
  F_height_at : Fun K "height_at" "height_at" s_height_at A.f_height_at A.d_height_at
  g_height_at : mg "height_at" = some (.ref A.f_height_at)
  s_height_at : Binds K A.d_height_at ["book", "blocks", "place"] []
  F_spot_of : Fun K "spot_of" "spot_of" s_spot_of A.f_spot_of A.d_spot_of
  g_spot_of : mg "spot_of" = some (.ref A.f_spot_of)
  s_spot_of : Binds K A.d_spot_of ["book", "blocks", "knot"] []
  F_knot_back : Fun K "knot_back" "knot_back" s_knot_back A.f_knot_back A.d_knot_back
  g_knot_back : mg "knot_back" = some (.ref A.f_knot_back)
  s_knot_back : Binds K A.d_knot_back ["book", "blocks", "place", "height"] []
  F_end_of : Fun K "end_of" "end_of" s_end_of A.f_end_of A.d_end_of
  g_end_of : mg "end_of" = some (.ref A.f_end_of)
  s_end_of : Binds K A.d_end_of ["book", "blocks", "place", "depth"] []
  F_lows_between : Fun K "lows_between" "lows_between" s_lows_between A.f_lows_between A.d_lows_between
  g_lows_between : mg "lows_between" = some (.ref A.f_lows_between)
  s_lows_between : Binds K A.d_lows_between ["book", "blocks", "first", "end"] []
  F_places_behind : Fun K "places_behind" "places_behind" s_places_behind A.f_places_behind A.d_places_behind
  g_places_behind : mg "places_behind" = some (.ref A.f_places_behind)
  s_places_behind : Binds K A.d_places_behind ["book", "blocks", "number", "first", "height"] []
  F_block_of_knot : Fun K "_block_of_knot" "_block_of_knot" s_block_of_knot A.f_block_of_knot A.d_block_of_knot
  g_block_of_knot : mg "_block_of_knot" = some (.ref A.f_block_of_knot)
  s_block_of_knot : Binds K A.d_block_of_knot ["book", "size", "knot"] []
  F_block_back : Fun K "_block_back" "_block_back" s_block_back A.f_block_back A.d_block_back
  g_block_back : mg "_block_back" = some (.ref A.f_block_back)
  s_block_back : Binds K A.d_block_back ["book", "number", "height"] []
  F_block_on : Fun K "_block_on" "_block_on" s_block_on A.f_block_on A.d_block_on
  g_block_on : mg "_block_on" = some (.ref A.f_block_on)
  s_block_on : Binds K A.d_block_on ["book", "number", "height"] []
  F_is_whole : Fun K "is_whole" "is_whole" s_is_whole A.f_is_whole A.d_is_whole
  g_is_whole : mg "is_whole" = some (.ref A.f_is_whole)
  s_is_whole : Binds K A.d_is_whole ["thing"] []
  F_is_whole_from : Fun K "is_whole_from" "is_whole_from" s_is_whole_from A.f_is_whole_from A.d_is_whole_from
  g_is_whole_from : mg "is_whole_from" = some (.ref A.f_is_whole_from)
  s_is_whole_from : Binds K A.d_is_whole_from ["least", "most", "thing"] []
  F_place_of : Fun K "place_of" "place_of" s_place_of A.f_place_of A.d_place_of
  g_place_of : mg "place_of" = some (.ref A.f_place_of)
  s_place_of : Binds K A.d_place_of ["book", "blocks", "knot"] []
  F_depth_of : Fun K "depth_of" "depth_of" s_depth_of A.f_depth_of A.d_depth_of
  g_depth_of : mg "depth_of" = some (.ref A.f_depth_of)
  s_depth_of : Binds K A.d_depth_of ["book", "blocks", "knot"] []
  F_knot_at : Fun K "knot_at" "knot_at" s_knot_at A.f_knot_at A.d_knot_at
  g_knot_at : mg "knot_at" = some (.ref A.f_knot_at)
  s_knot_at : Binds K A.d_knot_at ["book", "blocks", "place"] []
  F_above : Fun K "above" "above" s_above A.f_above A.d_above
  g_above : mg "above" = some (.ref A.f_above)
  s_above : Binds K A.d_above ["book", "blocks", "knot"] []
  F_beneath : Fun K "beneath" "beneath" s_beneath A.f_beneath A.d_beneath
  g_beneath : mg "beneath" = some (.ref A.f_beneath)
  s_beneath : Binds K A.d_beneath ["book", "blocks", "knot"] []
  F_beside : Fun K "beside" "beside" s_beside A.f_beside A.d_beside
  g_beside : mg "beside" = some (.ref A.f_beside)
  s_beside : Binds K A.d_beside ["book", "blocks", "knot"] []
  F_kids : Fun K "kids" "kids" s_kids A.f_kids A.d_kids
  g_kids : mg "kids" = some (.ref A.f_kids)
  s_kids : Binds K A.d_kids ["book", "blocks", "knot"] []
  F_kid : Fun K "kid" "kid" s_kid A.f_kid A.d_kid
  g_kid : mg "kid" = some (.ref A.f_kid)
  s_kid : Binds K A.d_kid ["book", "blocks", "knot", "number"] []
  F_elder : Fun K "elder" "elder" s_elder A.f_elder A.d_elder
  g_elder : mg "elder" = some (.ref A.f_elder)
  s_elder : Binds K A.d_elder ["book", "blocks", "one", "other"] []
  F_look_at_knot : Fun K "_look_at_knot" "_look_at_knot" s_look_at_knot A.f_look_at_knot A.d_look_at_knot
  g_look_at_knot : mg "_look_at_knot" = some (.ref A.f_look_at_knot)
  s_look_at_knot : Binds K A.d_look_at_knot ["blocks", "knot"] []
  F_gaps_of : Fun K "_gaps_of" "_gaps_of" s_gaps_of A.f_gaps_of A.d_gaps_of
  g_gaps_of : mg "_gaps_of" = some (.ref A.f_gaps_of)
  s_gaps_of : Binds K A.d_gaps_of ["book", "blocks", "place", "depth"] []
  F_many_kids : Fun K "_many_kids" "_many_kids" s_many_kids A.f_many_kids A.d_many_kids
  g_many_kids : mg "_many_kids" = some (.ref A.f_many_kids)
  s_many_kids : Binds K A.d_many_kids ["gaps"] []
  F_find_gap : Fun K "_find_gap" "_find_gap" s_find_gap A.f_find_gap A.d_find_gap
  g_find_gap : mg "_find_gap" = some (.ref A.f_find_gap)
  s_find_gap : Binds K A.d_find_gap ["gaps", "ahead"] []
  F_Blocks___init__ : Fun K "__init__" "Blocks.__init__" s_Blocks___init__ A.f_Blocks___init__ A.d_Blocks___init__
  s_Blocks___init__ : Binds K A.d_Blocks___init__ ["self", "bits", "size"] []
  F_Blocks_many : Fun K "many" "Blocks.many" s_Blocks_many A.f_Blocks_many A.d_Blocks_many
  m_Blocks_many : Meth K A.c_Blocks "many" A.f_Blocks_many
  s_Blocks_many : Binds K A.d_Blocks_many ["self"] []
  F_Blocks_part : Fun K "part" "Blocks.part" s_Blocks_part A.f_Blocks_part A.d_Blocks_part
  m_Blocks_part : Meth K A.c_Blocks "part" A.f_Blocks_part
  s_Blocks_part : Binds K A.d_Blocks_part ["self", "number"] []
  F_Blocks_asked : Fun K "asked" "Blocks.asked" s_Blocks_asked A.f_Blocks_asked A.d_Blocks_asked
  m_Blocks_asked : Meth K A.c_Blocks "asked" A.f_Blocks_asked
  s_Blocks_asked : Binds K A.d_Blocks_asked ["self"] []
  F_book_of : Fun K "book_of" "book_of" s_book_of A.f_book_of A.d_book_of
  g_book_of : mg "book_of" = some (.ref A.f_book_of)
  s_book_of : Binds K A.d_book_of ["bits", "size"] []
  F_width_of : Fun K "width_of" "width_of" s_width_of A.f_width_of A.d_width_of
  g_width_of : mg "width_of" = some (.ref A.f_width_of)
  s_width_of : Binds K A.d_width_of ["length"] []
  F_size_for : Fun K "size_for" "size_for" s_size_for A.f_size_for A.d_size_for
  g_size_for : mg "size_for" = some (.ref A.f_size_for)
  s_size_for : Binds K A.d_size_for ["length", "share"] []
  F_pressed : Fun K "pressed" "pressed" s_pressed A.f_pressed A.d_pressed
  g_pressed : mg "pressed" = some (.ref A.f_pressed)
  s_pressed : Binds K A.d_pressed ["parents"] []
  F_plain : Fun K "plain" "plain" s_plain A.f_plain A.d_plain
  g_plain : mg "plain" = some (.ref A.f_plain)
  s_plain : Binds K A.d_plain ["bits"] []
  F_bits_of : Fun K "_bits_of" "_bits_of" s_bits_of A.f_bits_of A.d_bits_of
  g_bits_of : mg "_bits_of" = some (.ref A.f_bits_of)
  s_bits_of : Binds K A.d_bits_of ["parents"] []
  F_parents_of : Fun K "_parents_of" "_parents_of" s_parents_of A.f_parents_of A.d_parents_of
  g_parents_of : mg "_parents_of" = some (.ref A.f_parents_of)
  s_parents_of : Binds K A.d_parents_of ["bits"] []
  F_law_cell_at : Fun K "_law_cell_at" "_law_cell_at" s_law_cell_at A.f_law_cell_at A.d_law_cell_at
  g_law_cell_at : mg "_law_cell_at" = some (.ref A.f_law_cell_at)
  s_law_cell_at : Binds K A.d_law_cell_at ["_law_script", "_law_k"] []
  F_law_whole : Fun K "_law_whole" "_law_whole" s_law_whole A.f_law_whole A.d_law_whole
  g_law_whole : mg "_law_whole" = some (.ref A.f_law_whole)
  s_law_whole : Binds K A.d_law_whole ["_law_found"] []
  F_law_parents : Fun K "_law_parents" "_law_parents" s_law_parents A.f_law_parents A.d_law_parents
  g_law_parents : mg "_law_parents" = some (.ref A.f_law_parents)
  s_law_parents : Binds K A.d_law_parents ["_law_script"] []
  F_law_size : Fun K "_law_size" "_law_size" s_law_size A.f_law_size A.d_law_size
  g_law_size : mg "_law_size" = some (.ref A.f_law_size)
  s_law_size : Binds K A.d_law_size ["_law_script", "_law_bits"] []
  F_law_call : Fun K "_law_call" "_law_call" s_law_call A.f_law_call A.d_law_call
  g_law_call : mg "_law_call" = some (.ref A.f_law_call)
  s_law_call : Binds K A.d_law_call ["_law_way", "_law_book", "_law_blocks", "_law_one", "_law_other"] []
  F_law_line : Fun K "_law_line" "_law_line" s_law_line A.f_law_line A.d_law_line
  g_law_line : mg "_law_line" = some (.ref A.f_law_line)
  s_law_line : Binds K A.d_law_line ["_law_parents_here", "_law_knot"] []
  F_law_kids : Fun K "_law_kids" "_law_kids" s_law_kids A.f_law_kids A.d_law_kids
  g_law_kids : mg "_law_kids" = some (.ref A.f_law_kids)
  s_law_kids : Binds K A.d_law_kids ["_law_parents_here", "_law_knot"] []
  F_law_walk : Fun K "_law_walk" "_law_walk" s_law_walk A.f_law_walk A.d_law_walk
  g_law_walk : mg "_law_walk" = some (.ref A.f_law_walk)
  s_law_walk : Binds K A.d_law_walk ["_law_parents_here"] []
  F_law_due : Fun K "_law_due" "_law_due" s_law_due A.f_law_due A.d_law_due
  g_law_due : mg "_law_due" = some (.ref A.f_law_due)
  s_law_due : Binds K A.d_law_due ["_law_way", "_law_parents_here", "_law_walk_here", "_law_one", "_law_other"] []
  F_law : Fun K "law" "law" s_law A.f_law A.d_law
  g_law : mg "law" = some (.ref A.f_law)
  s_law : Binds K A.d_law ["_law_script"] []
  b_bool : mg "bool" = none
  b_divmod : mg "divmod" = none
  b_int : mg "int" = none
  b_isinstance : mg "isinstance" = none
  b_len : mg "len" = none
  b_list : mg "list" = none
  b_max : mg "max" = none
  b_min : mg "min" = none
  b_range : mg "range" = none
  b_str : mg "str" = none
  b_sum : mg "sum" = none
  c_MOST_SIZE : mg "MOST_SIZE" = some (.int 4000 A.t_MOST_SIZE)
  c_MOST_SHARE : mg "MOST_SHARE" = some (.int 100 A.t_MOST_SHARE)
  c_MOST_KNOTS : mg "MOST_KNOTS" = some (.int 2000 A.t_MOST_KNOTS)
  g_Blocks : mg "Blocks" = some (.ref A.c_Blocks)
  cl_Blocks : Cls K A.c_Blocks
  mk_Blocks : Mk K A.c_Blocks A.f_Blocks___init__
  n_Blocks_length : NoAttr K A.c_Blocks "length"
  n_Blocks_size : NoAttr K A.c_Blocks "size"
  n_Blocks__parts : NoAttr K A.c_Blocks "_parts"
  n_Blocks__told : NoAttr K A.c_Blocks "_told"
  g_KnotError : mg "KnotError" = some (.ref A.c_KnotError)
  x_KnotError : PySem.W.excIn K A.c_KnotError [.type "ValueError", .type "Exception", .type "BaseException", .type "object"] "ValueError.__new__" = true
  k_KnotError : PySem.W.keepIn K (.ref A.c_KnotError) = true
  e_KnotError : PySem.W.subIn K (.ref A.c_KnotError) (.type "BaseException") = some true
  t_KnotError : PySem.W.typeIn K (.ref A.c_KnotError) = some (.type "type")
  g_NoTree : mg "NoTree" = some (.ref A.c_NoTree)
  x_NoTree : PySem.W.excIn K A.c_NoTree [.type "ValueError", .type "Exception", .type "BaseException", .type "object"] "ValueError.__new__" = true
  k_NoTree : PySem.W.keepIn K (.ref A.c_NoTree) = true
  e_NoTree : PySem.W.subIn K (.ref A.c_NoTree) (.type "BaseException") = some true
  t_NoTree : PySem.W.typeIn K (.ref A.c_NoTree) = some (.type "type")
  g_NoSize : mg "NoSize" = some (.ref A.c_NoSize)
  x_NoSize : PySem.W.excIn K A.c_NoSize [.type "ValueError", .type "Exception", .type "BaseException", .type "object"] "ValueError.__new__" = true
  k_NoSize : PySem.W.keepIn K (.ref A.c_NoSize) = true
  e_NoSize : PySem.W.subIn K (.ref A.c_NoSize) (.type "BaseException") = some true
  t_NoSize : PySem.W.typeIn K (.ref A.c_NoSize) = some (.type "type")
  g_NoBlock : mg "NoBlock" = some (.ref A.c_NoBlock)
  x_NoBlock : PySem.W.excIn K A.c_NoBlock [.type "ValueError", .type "Exception", .type "BaseException", .type "object"] "ValueError.__new__" = true
  k_NoBlock : PySem.W.keepIn K (.ref A.c_NoBlock) = true
  e_NoBlock : PySem.W.subIn K (.ref A.c_NoBlock) (.type "BaseException") = some true
  t_NoBlock : PySem.W.typeIn K (.ref A.c_NoBlock) = some (.type "type")
  g_NoKnot : mg "NoKnot" = some (.ref A.c_NoKnot)
  x_NoKnot : PySem.W.excIn K A.c_NoKnot [.type "ValueError", .type "Exception", .type "BaseException", .type "object"] "ValueError.__new__" = true
  k_NoKnot : PySem.W.keepIn K (.ref A.c_NoKnot) = true
  e_NoKnot : PySem.W.subIn K (.ref A.c_NoKnot) (.type "BaseException") = some true
  t_NoKnot : PySem.W.typeIn K (.ref A.c_NoKnot) = some (.type "type")
section
variable {P : Program} {w : World} {K : PySem.W.Frag} {mg : Str → Option Value} {base : Heap} {A : Adr}
theorem sc_law_cell_at : FnScope ["_law_script", "_law_k"] ["_law_script", "_law_k"] (defScope s_law_cell_at) := ⟨rfl, rfl, rfl, by decide +kernel, rfl, by decide +kernel, by decide +kernel⟩
theorem ok_law_cell_at (T : Txt K mg A) : FnOk P w K mg base CX0 1 A.f_law_cell_at A.d_law_cell_at ["_law_script", "_law_k"] (spCel K) := by
  refine T.F_law_cell_at.ok sc_law_cell_at (fun vs H Q E h => ?_) (fun cdv A' outer s H vs Q E hr h => ?_)
  · obtain ⟨a, ns, k, rfl, _⟩ := h
    rfl
  · obtain ⟨a, ns, k, rfl, hS, q⟩ := h
    refine ⟨_, (pss_cons (ps_if (pt_cmpR op_lt (pv 1) (pe_callB call_len_seq (by rfl) T.b_len PySem.boot_len (pa_cons (pv 0) pa_nil)) (nomark _)) (pss_one (ps_ret (pe_op op_mod (pe_op op_add (pe_op op_add (pe_op op_mul (pe_ix ix_list (pv 0) (pv 1) (fun _ _ => rfl)) pe_int) (pe_op op_mul pe_int (pv 1))) pe_int) pe_int))) pss_nil) (pss_one (ps_ret (pe_op op_mod (pe_op op_mul pe_int (pv 1)) pe_int)))), ?_⟩
    refine q_when (et_test (ev_op (ev_var rfl) (ev_len (ev_var rfl) hS) rv_I0)) (fun hb H1 e1 => ?_) (fun hb H1 e1 => ?_)
    · have hk : k < ns.length := by
        have z := of_decide_eq_true hb
        rw [List.length_map] at z
        omega
      have hx : (ns.map V.int)[k]? = some (.int (ns.getD k 0)) := by
        rw [List.getElem?_map, List.getElem?_eq_getElem hk, List.getD_eq_getElem?_getD, List.getElem?_eq_getElem hk]
        rfl
      have hS1 := ex_l e1 hS
      refine s_ret (ev_op (ev_op (ev_op (ev_op (ev_op (ev_var rfl) (ev_var rfl) (rv_ixL hS1 (atI_nat hx))) ev_c (rv_I (.inr ⟨by decide, by decide⟩))) (ev_op ev_c (ev_var rfl) (rv_I (.inl ⟨by decide, by decide⟩))) rv_I0) ev_c rv_I0) ev_c (rv_I (by decide))) fun H2 e2 => ?_
      have z := q H2 (e1.trans e2)
      unfold cell at z
      rw [if_pos hk] at z
      exact z
    · have hk : ¬ k < ns.length := by
        have z := of_decide_eq_false hb
        rw [List.length_map] at z
        omega
      refine s_ret (ev_op (ev_op ev_c (ev_var rfl) (rv_I (.inl ⟨by decide, by decide⟩))) ev_c (rv_I (by decide))) fun H2 e2 => ?_
      have z := q H2 (e1.trans e2)
      unfold cell at z
      rw [if_neg hk] at z
      exact z

theorem sc_law_parents : FnScope ["_law_script", "_law_many", "_law_shape", "_law_parents_here", "_law_way", "_law_k", "_law_cell", "_law_up"] ["_law_script"] (defScope s_law_parents) := ⟨rfl, rfl, rfl, by decide +kernel, rfl, by decide +kernel, by decide +kernel⟩
theorem ok_law_parents (T : Txt K mg A) : FnOk P w K mg base CX0 2 A.f_law_parents A.d_law_parents ["_law_script"] (spParents K) := by
  refine T.F_law_parents.ok sc_law_parents (fun vs H Q E h => ?_) (fun cdv A' outer s H vs Q E hr h => ?_)
  · obtain ⟨a, ns, rfl, _⟩ := h
    rfl
  · obtain ⟨a, ns, rfl, hS, q⟩ := h
    refine ⟨_, (pss_cons (ps_set (i := 1) sc_law_parents.nd rfl (Or.inl rfl) (pe_op op_add pe_int (pe_op op_mod (pe_call (ok_law_cell_at T) (hr.mono (by decide)) (by rfl) T.g_law_cell_at T.F_law_cell_at.kp T.s_law_cell_at .nil pass0 (pa_cons (pv 0) (pa_cons pe_int pa_nil))) pe_int))) (pss_cut (ps_if (pt_cmpR op_eq (pe_op op_mod (pe_call (ok_law_cell_at T) (hr.mono (by decide)) (by rfl) T.g_law_cell_at T.F_law_cell_at.kp T.s_law_cell_at .nil pass0 (pa_cons (pv 0) (pa_cons pe_int pa_nil))) pe_int) pe_int (nomark _)) (pss_one (ps_set (i := 1) sc_law_parents.nd rfl (Or.inl rfl) (pe_op op_add pe_int (pe_op op_mod (pe_call (ok_law_cell_at T) (hr.mono (by decide)) (by rfl) T.g_law_cell_at T.F_law_cell_at.kp T.s_law_cell_at .nil pass0 (pa_cons (pv 0) (pa_cons pe_int pa_nil))) pe_int)))) pss_nil) (pss_cons (ps_set (i := 2) sc_law_parents.nd rfl (Or.inl rfl) (pe_op op_mod (pe_op op_fdiv (pe_call (ok_law_cell_at T) (hr.mono (by decide)) (by rfl) T.g_law_cell_at T.F_law_cell_at.kp T.s_law_cell_at .nil pass0 (pa_cons (pv 0) (pa_cons pe_int pa_nil))) pe_int) pe_int)) (pss_cons (ps_set (i := 3) sc_law_parents.nd rfl (Or.inl rfl) (pe_lst (pa_cons pe_non pa_nil))) (pss_cons (ps_set (i := 4) sc_law_parents.nd rfl (Or.inl rfl) (pe_lst (pa_cons pe_int pa_nil))) (pss_cons (ps_for PassesOwn.never rfl (pi_range2 (by rfl) T.b_range (pa_cons pe_int (pa_cons (pv 1) pa_nil))) (pg_name (i := 5) sc_law_parents.nd rfl (Or.inl rfl)) (pss_cons (ps_set (i := 6) sc_law_parents.nd rfl (Or.inl rfl) (pe_op op_add (pe_call (ok_law_cell_at T) (hr.mono (by decide)) (by rfl) T.g_law_cell_at T.F_law_cell_at.kp T.s_law_cell_at .nil pass0 (pa_cons (pv 0) (pa_cons (pe_op op_add pe_int (pe_op op_mod (pv 5) pe_int)) pa_nil))) (pe_op op_mul (pe_op op_mul pe_int (pv 5)) (pe_op op_add pe_int (pe_op op_fdiv (pv 5) pe_int))))) (pss_cons (ps_set (i := 7) sc_law_parents.nd rfl (Or.inl rfl) (pe_ix ix_list (pe_lst (pa_cons (pe_op op_mod (pv 6) pe_int) (pa_cons (pe_op op_mod (pv 6) pe_int) (pa_cons pe_int (pa_cons (pe_op op_sub (pe_callB call_len_seq (by rfl) T.b_len PySem.boot_len (pa_cons (pv 4) pa_nil)) pe_int) (pa_cons (pe_op op_mod (pv 6) (pe_callB call_len_seq (by rfl) T.b_len PySem.boot_len (pa_cons (pv 4) pa_nil))) (pa_cons (pe_op op_mul (pe_op op_fdiv (pe_op op_mod (pv 6) pe_int) pe_int) pe_int) pa_nil))))))) (pv 2) (fun _ _ => rfl))) (pss_cons (ps_set (i := 4) sc_law_parents.nd rfl (Or.inl rfl) (pe_slice sl_list (pv 4) po_none (po_some (pe_op op_sub (pe_callB call_len_seq (by rfl) T.b_len PySem.boot_len (pa_cons (pv 4) pa_nil)) (pe_callB (call_min2 rfl) (by rfl) T.b_min (by decide +kernel) (pa_cons (pv 7) (pa_cons (pe_op op_sub (pe_callB call_len_seq (by rfl) T.b_len PySem.boot_len (pa_cons (pv 4) pa_nil)) pe_int) pa_nil))))))) (pss_cons (ps_expr (pe_bm PySem.F.plainAttrs_list PySem.F.slot_list_append PySem.F.type_list_append mt_append (pv 3) (pa_cons (pe_ix ix_list (pv 4) (pe_un un_neg pe_int) (fun _ _ => rfl)) pa_nil))) (pss_one (ps_expr (pe_bm PySem.F.plainAttrs_list PySem.F.slot_list_append PySem.F.type_list_append mt_append (pv 4) (pa_cons (pv 5) pa_nil))))))))) (pss_one (ps_ret (pv 3))))))))), ?_⟩
    have g0 := cell_ge ns 0
    have g1 := cell_ge ns 1
    -- how many
    refine q_asg (ev_op ev_c (ev_op (ev_call (ea_cons (ev_var rfl) (ea_cons ev_c ea_nil)) (sv_cell 0 rfl hS)) ev_c (rv_I (by decide))) rv_I0) fun H1 e1 => ?_
    have hS1 := ex_l e1 hS
    refine q_cut (M := fun σ H2 => ∃ m : Int, 1 ≤ m ∧ m ≤ 160 ∧ Ex H H2 ∧ σ = [some (.ref a), some (.int m), none, none, none, none, none, none]) ?_ ?_
    · refine s_when (et_test (ev_op (ev_op (ev_call (ea_cons (ev_var rfl) (ea_cons ev_c ea_nil)) (sv_cell 1 rfl hS1)) ev_c (rv_I (by decide))) ev_c (rv_eq rfl))) (fun hb H2 e2 => ?_) (fun hb H2 e2 => ?_)
      · refine s_asg (ev_op ev_c (ev_op (ev_call (ea_cons (ev_var rfl) (ea_cons ev_c ea_nil)) (sv_cell 0 rfl (ex_l e2 hS1))) ev_c (rv_I (by decide))) rv_I0) fun H3 e3 => ?_
        exact ⟨_, by omega, by omega, (e1.trans e2).trans e3, rfl⟩
      · exact ⟨_, by omega, by omega, e1.trans e2, rfl⟩
    rintro σ H2 ⟨m, hm1, hm2, e2, rfl⟩
    have hS2 := ex_l e2 hS
    -- the shape
    refine q_asg (ev_op (ev_op (ev_call (ea_cons (ev_var rfl) (ea_cons ev_c ea_nil)) (sv_cell 1 rfl hS2)) ev_c (rv_I ⟨by decide, by decide⟩)) ev_c (rv_I (by decide))) fun H3 e3 => ?_
    have e03 := e2.trans e3
    have hS3 := ex_l e03 hS
    generalize hsh : cell ns 1 / 3 % 6 = sh
    have hs0 : 0 ≤ sh := by omega
    have hs1 : sh < 6 := by omega
    refine q_asgL (el_lst (ea_cons ev_c ea_nil) (by simp)) fun pp H4 np e4 h4 => ?_
    have e04 := e03.trans e4
    refine q_asgL (el_lst (ea_cons ev_c ea_nil) (by simp)) fun pw H5 nw e5 h5 => ?_
    have e05 := e04.trans e5
    have npw : pp ≠ pw := ne_of_none h4 nw
    have np0 : H pp = none := fresh_back e03 np
    have nw0 : H pw = none := fresh_back e04 nw
    -- the loop
    refine q_forR2 (ea_cons ev_c (ea_cons (ev_var rfl) ea_nil)) ⟨by omega, by omega, by omega, by omega⟩
      (fun (i : Nat) (σ' : L2.St) (H' : Hp) => ∃ (P : List Int) (pw : Addr) (y5 y6 y7 : Option V), P.length = i ∧ Good P ∧ Ex H H' ∧ Own H H' pp (pV (par P)) ∧ Own H H' pw (stk (run P).st) ∧ pp ≠ pw ∧
        σ' = [some (.ref a), some (.int m), some (.int sh), some (.ref pp), some (.ref pw), y5, y6, y7]) ?_ ?_ ?_
    · intro H6 e6
      exact ⟨[], pw, none, none, none, rfl, good_nil, e05.trans e6, ⟨np0, e6 _ _ (e5 _ _ h4)⟩, ⟨nw0, e6 _ _ h5⟩, npw, rfl⟩
    · rintro i σ' H6 hi ⟨P, pw, y5, y6, y7, hl, hg, e6, ho, hw, npw, rfl⟩
      have hS6 := ex_l e6 hS
      have hlen := stk_len (run P).st
      have hpos := run_pos P
      have hle := st_le P
      refine q_asg (ev_op (ev_call (ea_cons (ev_var rfl) (ea_cons (ev_op ev_c (ev_op (ev_var rfl) ev_c (rv_I (by decide))) rv_I0) ea_nil)) (sv_cell (2 + (1 + i) % 23) (by omega) hS6)) (ev_op (ev_op ev_c (ev_var rfl) (rv_I (.inl ⟨by decide, by decide⟩))) (ev_op ev_c (ev_op (ev_var rfl) ev_c (rv_I ⟨by decide, by decide⟩)) rv_I0) (rv_I (.inr ⟨by omega, by omega⟩))) rv_I0) fun H7 e7 => ?_
      generalize cell ns (2 + (1 + i) % 23) + 7919 * (1 + (i : Int)) * (1 + (1 + (i : Int)) / 23) = c
      have hw7 := hw.ex e7
      have ho7 := ho.ex e7
      obtain ⟨u, hu0, hu⟩ := atI_six (a0 := c % 3) (a1 := c % 2) (a2 := 0) (a3 := ((stk (run P).st).length : Int) - 1) (a4 := c % ((stk (run P).st).length : Int)) (a5 := c % 7 / 5 * 9)
        (by omega) (by omega) (by omega) (by omega) (Int.emod_nonneg _ (by omega)) (by omega) hs0 hs1
      refine q_asg (ev_opL1 (el_lst (ea_cons (ev_op (ev_var rfl) ev_c (rv_I (by decide))) (ea_cons (ev_op (ev_var rfl) ev_c (rv_I (by decide))) (ea_cons ev_c (ea_cons (ev_op (ev_len (ev_var rfl) hw7.sq) ev_c rv_I0) (ea_cons (ev_op (ev_var rfl) (ev_len (ev_var rfl) hw7.sq) (rv_I (by omega))) (ea_cons (ev_op (ev_op (ev_op (ev_var rfl) ev_c (rv_I (by decide))) ev_c (rv_I ⟨by decide, by decide⟩)) ev_c (rv_I (.inr ⟨by decide, by decide⟩))) ea_nil)))))) (by simp)) (fun _ e1 => Ev.mono e1 (ev_var rfl)) (fun _ _ hp e1 => rv_ixL (sq_of hp) hu)) fun H8 e8 => ?_
      have hw8 := hw7.ex e8
      have ho8 := ho7.ex e8
      refine q_asgL (el_sl (ev_var rfl) eo_none (eo_some (ev_op (ev_len (ev_var rfl) hw8.sq) (ev_min2 (ev_var rfl) (ev_op (ev_len (ev_var rfl) hw8.sq) ev_c rv_I0)) rv_I0)) hw8.sq) fun pv' H9 nv e9 h9 => ?_
      obtain ⟨j, hj, ej⟩ : ∃ j : Nat, j < (run P).st.length ∧ ((stk (run P).st).length : Int) - min u (((stk (run P).st).length : Int) - 1) = (((run P).st.length - j : Nat) : Int) :=
        ⟨(min u ((run P).st.length - 1)).toNat, by omega, by omega⟩
      rw [stk_cut _ j ej] at h9
      have ho9 := ho8.ex e9
      have e69 := ((e6.trans e7).trans e8).trans e9
      have hv9 : Own H H9 pv' (stk ((run P).st.drop j)) := ⟨fresh_back ((e6.trans e7).trans e8) nv, h9⟩
      have npv : pp ≠ pv' := ho8.ne nv
      obtain ⟨p, hp⟩ : ∃ p, (run P).st[j]? = some p := ⟨_, List.getElem?_eq_getElem hj⟩
      have hd : (run P).st.drop j = p :: (run P).st.drop (j + 1) := by
        obtain ⟨h1, h2⟩ := List.getElem?_eq_some_iff.mp hp
        rw [List.drop_eq_getElem_cons h1, h2]
      refine q_app ho9.at_ (ev_var rfl) (ev_op (ev_var rfl) (ev_un ev_c ru_neg) (rv_ixL hv9.sq (by rw [hd]; exact stk_last _ _))) (by rw [pV_len, par_len]; omega) fun H10 e10 => ?_
      have hv10 : Own H (upd H10 pp (.lst (pV (par P) ++ [.int p]))) pv' (stk ((run P).st.drop j)) := (hv9.ex e10).off npv.symm
      refine s_app hv10.at_ (ev_var rfl) (ev_var rfl) (by rw [stk_len, List.length_drop]; omega) fun H11 e11 => ?_
      have ho10 : Own H (upd H10 pp (.lst (pV (par P) ++ [.int p]))) pp (pV (par P) ++ [.int p]) := ho.put
      have hm : p ∈ (run P).st := List.mem_of_getElem? hp
      have er : run (P ++ [p]) = ⟨(run P).k :: (run P).st.drop j, (run P).bs ++ List.replicate j false ++ [true], (run P).k + 1⟩ := by rw [run_app, adv_place (fall_run _) hp]
      refine ⟨P ++ [p], pv', _, _, _, by rw [List.length_append, hl]; rfl, hg.app hm, ?_, ?_, ?_, npv, rfl⟩
      · exact Ex.mut (((e69.trans e10).mut ho.nw).trans e11) hv9.nw
      · rw [par_app, pV_app]
        exact (ho10.ex e11).off npv
      · rw [er, stk_cons, run_k, hl]
        have z : Own H (upd H11 pv' (.lst (stk ((run P).st.drop j) ++ [.int (1 + (i : Int))]))) pv' (stk ((run P).st.drop j) ++ [.int (1 + (i : Int))]) := hv9.put
        rw [Int.add_comm] at z
        rw [Int.add_comm (i : Int) 1]
        rw [Int.add_comm] at z
        exact z
    · rintro σ' H6 ⟨P, pw, y5, y6, y7, hl, hg, e6, ho, hw, npw, rfl⟩
      refine s_ret (ev_var rfl) fun H7 e7 => ?_
      exact q P hg (by omega) pp H7 np0 (e6.trans e7) (e7 _ _ ho.at_)

theorem sc_is_whole : FnScope ["thing"] ["thing"] (defScope s_is_whole) := ⟨rfl, rfl, rfl, by decide +kernel, rfl, by decide +kernel, by decide +kernel⟩
theorem ok_is_whole (T : Txt K mg A) : FnOk P w K mg base CX0 1 A.f_is_whole A.d_is_whole ["thing"] (spWhole K) := by
  refine T.F_is_whole.ok sc_is_whole (fun vs H Q E h => ?_) (fun cdv A' outer s H vs Q E hr h => ?_)
  · obtain ⟨x, rfl, _⟩ := h
    rfl
  · obtain ⟨x, rfl, ⟨tv, b1, b2, h1, h2, h3, h4⟩, q⟩ := h
    refine ⟨_, (pss_one (ps_ret (pe_and (pe_callB call_isi (by rfl) T.b_isinstance (by decide +kernel) (pa_cons (pv 0) (pa_cons (pe_bltn (v := .ty "int") (by rfl) T.b_int (by decide +kernel) rfl) pa_nil))) (pe_one (pe_not (pe_callB call_isi (by rfl) T.b_isinstance (by decide +kernel) (pa_cons (pv 0) (pa_cons (pe_bltn (v := .ty "bool") (by rfl) T.b_bool (by decide +kernel) rfl) pa_nil)))))))), ?_⟩
    refine s_ret (ev_andV (ev_isi (ev_var rfl) ev_c (.ty _) h1 h2) (fun hb => (ev_notV (ev_isi (ev_var rfl) ev_c (.ty _) h1 h3)))) fun H2 e2 => ?_
    rw [h4]
    exact q H2 e2

theorem sc_bits_of : FnScope ["parents", "pieces", "pending", "knot", "parent"] ["parents"] (defScope s_bits_of) := ⟨rfl, rfl, rfl, by decide +kernel, rfl, by decide +kernel, by decide +kernel⟩
theorem ok_bits_of (T : Txt K mg A) : FnOk P w K mg base CX0 2 A.f_bits_of A.d_bits_of ["parents"] (spBitsOf K) := by
  refine T.F_bits_of.ok sc_bits_of (fun vs H Q E h => ?_) (fun cdv A' outer s H vs Q E hr h => ?_)
  · obtain ⟨x, r, rfl, _⟩ := h
    rfl
  · obtain ⟨x, r, rfl, hT, q⟩ := h
    refine ⟨_, (pss_cons (ps_if (PW.pt (pw_or (pt_not (pt_val (pe_callB call_isi (by rfl) T.b_isinstance (by decide +kernel) (pa_cons (pv 0) (pa_cons (pe_bltn (v := .ty "list") (by rfl) T.b_list (by decide +kernel) rfl) pa_nil))))) (pw_or1 (pt_not (pt_chain op_le op_le pe_int (pe_callB call_len_seq (by rfl) T.b_len PySem.boot_len (pa_cons (pv 0) pa_nil)) (pe_glob (v := .int 2000) (by rfl) T.c_MOST_KNOTS ⟨_, rfl⟩)))))) (pss_one (ps_ret pe_non)) pss_nil) (pss_cons (ps_if (pt_cmpR op_notN (pe_ix ix_list (pv 0) pe_int (fun _ _ => rfl)) pe_non (nomark _)) (pss_one (ps_ret pe_non)) pss_nil) (pss_cons (ps_set (i := 1) sc_bits_of.nd rfl (Or.inl rfl) (pe_lst (pa_cons pe_str pa_nil))) (pss_cons (ps_set (i := 2) sc_bits_of.nd rfl (Or.inl rfl) (pe_lst (pa_cons pe_int pa_nil))) (pss_cons (ps_for PassesOwn.never rfl (pi_range2 (by rfl) T.b_range (pa_cons pe_int (pa_cons (pe_callB call_len_seq (by rfl) T.b_len PySem.boot_len (pa_cons (pv 0) pa_nil)) pa_nil))) (pg_name (i := 3) sc_bits_of.nd rfl (Or.inl rfl)) (pss_cons (ps_set (i := 4) sc_bits_of.nd rfl (Or.inl rfl) (pe_ix ix_list (pv 0) (pv 3) (fun _ _ => rfl))) (pss_cons (ps_if (pt_not (pt_val (pe_call (ok_is_whole T) (hr.mono (by decide)) (by rfl) T.g_is_whole T.F_is_whole.kp T.s_is_whole .nil pass0 (pa_cons (pv 4) pa_nil)))) (pss_one (ps_ret pe_non)) pss_nil) (pss_cons (ps_while PassesOwn.never (PW.pt (pw_and (pt_truth (pv 2) (by intro _; rfl)) (pw_and1 (pt_cmpR op_ne (pe_ix ix_list (pv 2) (pe_un un_neg pe_int) (fun _ _ => rfl)) (pv 4) (nomark _))))) (pss_cons (ps_expr (pe_bm0 PySem.F.plainAttrs_list PySem.F.slot_list_pop PySem.F.type_list_pop mt_pop (pv 2))) (pss_one (ps_expr (pe_bm PySem.F.plainAttrs_list PySem.F.slot_list_append PySem.F.type_list_append mt_append (pv 1) (pa_cons pe_str pa_nil)))))) (pss_cons (ps_if (pt_not (pt_truth (pv 2) (by intro _; rfl))) (pss_one (ps_ret pe_non)) pss_nil) (pss_cons (ps_expr (pe_bm PySem.F.plainAttrs_list PySem.F.slot_list_append PySem.F.type_list_append mt_append (pv 2) (pa_cons (pv 3) pa_nil))) (pss_one (ps_expr (pe_bm PySem.F.plainAttrs_list PySem.F.slot_list_append PySem.F.type_list_append mt_append (pv 1) (pa_cons pe_str pa_nil)))))))))) (pss_cons (ps_expr (pe_bm PySem.F.plainAttrs_list PySem.F.slot_list_append PySem.F.type_list_append mt_append (pv 1) (pa_cons (pe_op op_mulS pe_str (pe_callB call_len_seq (by rfl) T.b_len PySem.boot_len (pa_cons (pv 2) pa_nil))) pa_nil))) (pss_one (ps_ret (pe_join pe_str (pv 1)))))))))), ?_⟩
    rcases hT with ⟨a, xs, rfl, ha, hl, hk, rfl⟩ | ⟨tv, ht1, ht2, rfl⟩
    · refine q_when (et_or (et_not (et_B (ev_isi (ev_var rfl) ev_c (.ty _) (TyX.base (TyOf.lst ha)) (kit_ty (by decide +kernel : kitB "list" "list" = some true))))) (fun hb => (et_not (et_test (ev_chain ev_c (ev_len (ev_var rfl) (sq_of ha)) rv_I0 (fun hb => ev_c) (fun hb => rv_I0)))))) (fun hb H1 e1 => ?_) (fun hb H1 e1 => ?_)
      · rw [no_size (xs := xs) (fun z => by
          have h1 : decide ((1 : Int) ≤ (xs.length : Int)) = true := decide_eq_true (by omega)
          have h2 : decide ((xs.length : Int) ≤ 2000) = true := decide_eq_true (by omega)
          have hb' : (!true || !(decide ((1 : Int) ≤ (xs.length : Int)) && decide ((xs.length : Int) ≤ 2000))) = true := hb
          rw [h1, h2] at hb'
          cases hb')] at q
        exact s_ret ev_c fun H2 e2 => q H2 (e1.trans e2)
      have hb' : (!true || !(decide ((1 : Int) ≤ (xs.length : Int)) && decide ((xs.length : Int) ≤ 2000))) = false := hb
      have hn : 1 ≤ xs.length ∧ xs.length ≤ 2000 := by
        simp at hb'
        omega
      clear hb hb'
      have ha1 := e1 _ _ ha
      obtain ⟨y0, hy0⟩ : ∃ y, xs[0]? = some y := ⟨_, List.getElem?_eq_getElem (by omega)⟩
      refine q_when (et_test (ev_op (ev_op (ev_var rfl) ev_c (rv_ixL (sq_of ha1) (atI_nat (j := 0) hy0))) ev_c rv_notN)) (fun hb H2 e2 => ?_) (fun hb H2 e2 => ?_)
      · rw [no_first hy0 (fun z => by
          have hb' : (!decide (y0 = V.non)) = true := hb
          rw [z, decide_eq_true rfl] at hb'
          cases hb')] at q
        exact s_ret ev_c fun H3 e3 => q H3 ((e1.trans e2).trans e3)
      have hy : y0 = .non := by
        have hb' : (!decide (y0 = V.non)) = false := hb
        simpa using hb'
      subst hy
      clear hb
      have e02 := e1.trans e2
      refine q_asgL (el_lst (ea_cons ev_c ea_nil) (by simp)) fun pc H3 nc e3 h3 => ?_
      refine q_asgL (el_lst (ea_cons ev_c ea_nil) (by simp)) fun pd H4 nd' e4 h4 => ?_
      have e04 := (e02.trans e3).trans e4
      have ncd : pc ≠ pd := ne_of_none h3 nd'
      have hln : (xs.length : Int) ≤ 2000 := by omega
      refine q_forR2 (ea_cons ev_c (ea_cons (ev_len (ev_var rfl) (sq_of (e04 _ _ ha))) ea_nil)) ⟨by omega, by omega, by omega, by omega⟩
        (fun (i : Nat) (σ' : L2.St) (H' : Hp) => ∃ (P : List Int) (y3 y4 : Option V), Pre xs i P ∧ Ex H H' ∧ Pcs H H' pc (run P).bs ∧ Own H H' pd (stk (run P).st) ∧ σ' = [some (.ref a), some (.ref pc), some (.ref pd), y3, y4]) ?_ ?_ ?_
      · intro H5 e5
        refine ⟨[], none, none, ⟨?_, rfl, good_nil⟩, e04.trans e5, ⟨["1"], ⟨fresh_back e02 nc, e5 _ _ (e4 _ _ h3)⟩, by rw [txt_1, catS_one, txt_cps]; rfl, Nat.le_refl _⟩, ⟨fresh_back (e02.trans e3) nd', e5 _ _ h4⟩, rfl⟩
        rw [take_more hy0]
        rfl
      · rintro i σ' H5 hi ⟨P, y3, y4, hP, e5, hpc, hpd, rfl⟩
        have hli : i + 1 < xs.length := by omega
        have hPl := hP.ln
        have hsum := sum_run P
        obtain ⟨y, hy⟩ : ∃ y, xs[i + 1]? = some y := ⟨_, List.getElem?_eq_getElem hli⟩
        have hat : atI xs (1 + (i : Int)) = some y := by
          rw [show (1 : Int) + (i : Int) = ((i + 1 : Nat) : Int) by omega]
          exact atI_nat hy
        refine q_asg (ev_op (ev_var rfl) (ev_var rfl) (rv_ixL (sq_of (e5 _ _ ha)) hat)) fun H6 e6 => ?_
        have e06 := e5.trans e6
        have hkd : Kd K H6 y := (hk y (List.mem_of_getElem? hy)).ex e06
        refine q_when (et_not (et_B (ev_call (ea_cons (ev_var rfl) ea_nil) (sv_whole hkd)))) (fun hb H7 e7 => ?_) (fun hb H7 e7 => ?_)
        · rw [hP.no hy (by simpa using hb)] at q
          exact s_ret ev_c fun H8 e8 => q H8 ((e06.trans e7).trans e8)
        obtain ⟨p, rfl⟩ : ∃ p, y = .int p := by
          have hb' : isInt y = true := by simpa using hb
          cases y with
          | int p => exact ⟨p, rfl⟩
          | _ => cases hb'
        clear hb hkd hat
        obtain ⟨J, hJl, hJ, hJe⟩ := pop_to (run P).st p
        have e07 := e06.trans e7
        refine q_while (fun (m : Nat) (σ2 : L2.St) (H8 : Hp) => ∃ j, j ≤ J ∧ m = J - j ∧ Ex H H8 ∧ Pcs H H8 pc ((run P).bs ++ List.replicate j false) ∧ Own H H8 pd (stk ((run P).st.drop j)) ∧
          σ2 = [some (.ref a), some (.ref pc), some (.ref pd), some (.int (1 + (i : Int))), some (.int p)]) J ?_ ?_
        · refine ⟨0, Nat.zero_le _, rfl, e07, ?_, (hpd.ex e6).ex e7, rfl⟩
          rw [List.replicate_zero, List.append_nil]
          exact (hpc.ex e6).ex e7
        · rintro m σ2 H8 ⟨j, hj, rfl, e8, hpc8, hpd8, rfl⟩
          refine ⟨decide (j < J), ?_, fun hb H9 e9 => ?_, fun hb H9 e9 => ?_⟩
          · by_cases hjl : j < (run P).st.length
            · obtain ⟨qq, hq⟩ : ∃ qq, (run P).st[j]? = some qq := ⟨_, List.getElem?_eq_getElem hjl⟩
              rw [drop_cons hq] at hpd8
              refine et_is (et_and (et_truth (ev_var rfl) (tru_l hpd8.sq)) (fun hb => (et_test (ev_op (ev_op (ev_var rfl) (ev_un ev_c ru_neg) (rv_ixL hpd8.sq (stk_last _ _))) (ev_var rfl) (rv_ne rfl))))) ?_
              have e1' : (!(stk (qq :: (run P).st.drop (j + 1))).isEmpty) = true := by rw [stk_emp]; rfl
              show ((!(stk (qq :: (run P).st.drop (j + 1))).isEmpty) && !decide (V.int qq = V.int p)) = decide (j < J)
              rw [e1', Bool.true_and]
              by_cases hjJ : j < J
              · obtain ⟨q2, hq2, hqp⟩ := hJ j hjJ
                rw [hq] at hq2
                cases hq2
                rw [decide_eq_true hjJ, decide_eq_false (fun e => hqp (V.int.inj e))]
                rfl
              · have ej : j = J := by omega
                subst ej
                rcases hJe with ⟨hJe, _⟩ | hJe
                · omega
                · rw [hq] at hJe
                  cases hJe
                  rw [decide_eq_false hjJ, decide_eq_true rfl]
                  rfl
            · have hd : (run P).st.drop j = [] := List.drop_eq_nil_of_le (by omega)
              rw [hd] at hpd8
              rw [decide_eq_false (show ¬ j < J by omega)]
              exact et_is (et_and (et_truth (ev_var rfl) (tru_l hpd8.sq)) (b := true) (fun hb => nomatch hb)) rfl
          · have hjJ : j < J := of_decide_eq_true hb
            obtain ⟨qq, hq, hqp⟩ := hJ j hjJ
            rw [drop_cons hq] at hpd8
            refine ⟨_, fun σ3 H6 h => h, ?_⟩
            have hpd9 := hpd8.ex e9
            refine q_pop hpd9.at_ (ev_var rfl) (stk_top _ _) fun H10 e10 => ?_
            rw [stk_pop]
            obtain ⟨ys, ho, hc, hyl⟩ := ((hpc8.ex e9).ex e10).off (b := pd) (o := .lst (stk ((run P).st.drop (j + 1)))) ncd
            have hyl2 := hyl
            rw [List.length_append, List.length_replicate] at hyl2
            refine s_app ho.at_ (ev_var rfl) ev_c (by rw [List.length_map]; omega) fun H11 e11 => ?_
            refine ⟨J - (j + 1), by omega, j + 1, hjJ, rfl, ?_, ?_, ?_, rfl⟩
            · exact (((((e8.trans e9).trans e10).mut hpd.nw)).trans e11).mut ho.nw
            · rw [List.replicate_succ', ← List.append_assoc, txt_0]
              exact pcs_add ho.nw hc hyl (Nat.le_refl _)
            · have z : Own H (upd H10 pd (.lst (stk ((run P).st.drop (j + 1))))) pd (stk ((run P).st.drop (j + 1))) := hpd9.put
              exact (z.ex e11).off ncd.symm
          · have ej : j = J := by
              have z := of_decide_eq_false hb
              omega
            subst ej
            have hpc9 := hpc8.ex e9
            have hpd9 := hpd8.ex e9
            have e09 := e8.trans e9
            refine q_when (et_not (et_truth (ev_var rfl) (tru_l hpd9.sq))) (fun hb2 H10 e10 => ?_) (fun hb2 H10 e10 => ?_)
            · have hem : ((run P).st.drop j).isEmpty = true := by
                have z : (!!(stk ((run P).st.drop j)).isEmpty) = true := hb2
                rw [stk_emp] at z
                simpa using z
              rcases hJe with ⟨_, hno⟩ | hJe
              · rw [hP.off hy hno] at q
                exact s_ret ev_c fun H11 e11 => q H11 ((e09.trans e10).trans e11)
              · rw [drop_cons hJe] at hem
                cases hem
            have hJp : (run P).st[j]? = some p := by
              rcases hJe with ⟨hJe, _⟩ | hJe
              · have z : (!!(stk ((run P).st.drop j)).isEmpty) = false := hb2
                rw [stk_emp, List.drop_eq_nil_of_le (by omega)] at z
                cases z
              · exact hJe
            have hpc10 := hpc9.ex e10
            have hpd10 := hpd9.ex e10
            refine q_app hpd10.at_ (ev_var rfl) (ev_var rfl) (by rw [stk_len, List.length_drop]; omega) fun H11 e11 => ?_
            obtain ⟨ys, ho, hc, hyl⟩ := (hpc10.ex e11).off (b := pd) (o := .lst (stk ((run P).st.drop j) ++ [.int (1 + (i : Int))])) ncd
            have hyl2 := hyl
            rw [List.length_append, List.length_replicate] at hyl2
            refine s_app ho.at_ (ev_var rfl) ev_c (by rw [List.length_map]; omega) fun H12 e12 => ?_
            have er : run (P ++ [p]) = ⟨(run P).k :: (run P).st.drop j, (run P).bs ++ List.replicate j false ++ [true], (run P).k + 1⟩ := by rw [run_app, adv_place (fall_run _) hJp]
            refine ⟨P ++ [p], some (.int (1 + (i : Int))), some (.int p), hP.more hy (List.mem_of_getElem? hJp), ?_, ?_, ?_, rfl⟩
            · exact (((((e09.trans e10).trans e11).mut hpd.nw)).trans e12).mut ho.nw
            · rw [er, txt_1]
              exact pcs_add ho.nw hc hyl (Nat.le_refl _)
            · rw [er, stk_cons, run_k, hPl, Int.add_comm]
              have z : Own H (upd H11 pd (.lst (stk ((run P).st.drop j) ++ [.int (1 + (i : Int))]))) pd (stk ((run P).st.drop j) ++ [.int (1 + (i : Int))]) := hpd10.put
              exact (z.ex e12).off ncd.symm
      · rintro σ' H5 ⟨P, y3, y4, hP, e5, hpc, hpd, rfl⟩
        have en : ((xs.length : Int) - 1).toNat = xs.length - 1 := by omega
        rw [en] at hP
        have hsum := sum_run P
        have hPl := hP.ln
        rw [hP.all (by omega) hn.2] at q
        obtain ⟨ys, ho, hc, hyl⟩ := hpc
        refine q_app ho.at_ (ev_var rfl) (ev_op ev_c (ev_len (ev_var rfl) hpd.sq) (rv_mulS (⟨by omega, by rw [stk_len]; omega⟩))) (by rw [List.length_map]; omega) fun H6 e6 => ?_
        rw [stk_len, Int.toNat_natCast]
        have hpf : Own H (upd H6 pc (.lst (ys.map V.str ++ [.str (txt (List.replicate (run P).st.length false))]))) pc ((ys ++ [txt (List.replicate (run P).st.length false)]).map V.str) := ⟨ho.nw, by rw [upd_same, List.map_append]; rfl⟩
        have hcf : catS (ys ++ [txt (List.replicate (run P).st.length false)]) = codes (full P) := by
          rw [catS_app, hc, catS_one, txt_cps, ← codes_app]
          rfl
        have hel : (Str.ofString "").length = 0 := by decide +kernel
        refine s_ret (ev_join ev_c (ev_var rfl) hpf.sq (by rw [catS_sum, hcf, codes_len, full_len, hel]; omega)) fun H7 e7 => ?_
        rw [join_cat, hcf]
        exact q H7 (((e5.trans e6).mut ho.nw).trans e7)
    · refine q_when (b := true) (et_is (et_or (et_not (et_B (ev_isi (ev_var rfl) ev_c (.ty _) ht1 ht2))) (b := true) (fun hb => nomatch hb)) rfl) (fun hb H1 e1 => ?_) (fun hb => nomatch hb)
      exact s_ret ev_c fun H2 e2 => q H2 (e1.trans e2)

theorem sc_pressed : FnScope ["parents", "bits"] ["parents"] (defScope s_pressed) := ⟨rfl, rfl, rfl, by decide +kernel, rfl, by decide +kernel, by decide +kernel⟩
theorem ok_pressed (T : Txt K mg A) : FnOk P w K mg base (L2.CX P w) 3 A.f_pressed A.d_pressed ["parents"] (spPressed K A.c_NoTree) := by
  refine T.F_pressed.okX sc_pressed (fun vs H Q E h => ?_) (fun cdv A' outer s H vs Q E hr h => ?_)
  · obtain ⟨x, r, rfl, _⟩ := h
    rfl
  · obtain ⟨x, r, rfl, hT, qs, qn⟩ := h
    refine ⟨_, (pss_cons (ps_set (i := 1) sc_pressed.nd rfl (Or.inl rfl) (pe_call (ok_bits_of T) (hr.mono (by decide)) (by rfl) T.g_bits_of T.F_bits_of.kp T.s_bits_of .nil pass0 (pa_cons (pv 0) pa_nil))) (pss_cons (ps_if (pt_cmpR op_isN (pv 1) pe_non (nomark _)) (pss_one (ps_raise rfl (takes_of rfl rfl rfl rfl) (pmk_own PySem.F.excBase_ValueError T.x_NoTree T.g_NoTree T.k_NoTree (raises_own T.e_NoTree T.t_NoTree) (by exact rfl)))) pss_nil) (pss_one (ps_ret (pv 1))))), ?_⟩
    refine q_asg (ev_call (ea_cons (ev_var rfl) ea_nil) (sv_bitsOf hT)) fun H1 e1 => ?_
    cases r with
    | none =>
      refine q_when (b := true) (et_test (ev_op (ev_var rfl) ev_c rv_isN)) (fun hb H2 e2 => ?_) (fun hb => nomatch hb)
      exact qn rfl H2 (e1.trans e2)
    | some bs =>
      refine q_when (b := false) (et_is (et_test (ev_op (ev_var rfl) ev_c rv_isN)) rfl) (fun hb => nomatch hb) (fun hb H2 e2 => ?_)
      exact s_ret (ev_var rfl) fun H3 e3 => qs bs rfl H3 ((e1.trans e2).trans e3)

theorem sc_law_size : FnScope ["_law_script", "_law_bits", "_law_cell"] ["_law_script", "_law_bits"] (defScope s_law_size) := ⟨rfl, rfl, rfl, by decide +kernel, rfl, by decide +kernel, by decide +kernel⟩
theorem ok_law_size (T : Txt K mg A) : FnOk P w K mg base CX0 2 A.f_law_size A.d_law_size ["_law_script", "_law_bits"] (spSize K) := by
  refine T.F_law_size.ok sc_law_size (fun vs H Q E h => ?_) (fun cdv A' outer s H vs Q E hr h => ?_)
  · obtain ⟨a, ns, L, rfl, _⟩ := h
    rfl
  · obtain ⟨a, ns, L, rfl, hS, hl, q⟩ := h
    refine ⟨_, (pss_cons (ps_set (i := 2) sc_law_size.nd rfl (Or.inl rfl) (pe_call (ok_law_cell_at T) (hr.mono (by decide)) (by rfl) T.g_law_cell_at T.F_law_cell_at.kp T.s_law_cell_at .nil pass0 (pa_cons (pv 0) (pa_cons pe_int pa_nil)))) (pss_cons (ps_if (pt_cmpR op_eq (pe_op op_mod (pv 2) pe_int) pe_int (nomark _)) (pss_one (ps_ret (pe_op op_add pe_int (pe_op op_mod (pe_op op_fdiv (pv 2) pe_int) pe_int)))) pss_nil) (pss_cons (ps_if (pt_cmpR op_eq (pe_op op_mod (pv 2) pe_int) pe_int (nomark _)) (pss_one (ps_ret (pe_op op_add pe_int (pe_op op_mod (pe_op op_fdiv (pv 2) pe_int) pe_int)))) pss_nil) (pss_one (ps_ret (pe_op op_add pe_int (pe_op op_mod (pe_op op_fdiv (pv 2) pe_int) (pe_callB (call_max2 rfl) (by rfl) T.b_max (by decide +kernel) (pa_cons pe_int (pa_cons (pe_op op_fdiv (pe_callB call_len_str (by rfl) T.b_len PySem.boot_len (pa_cons (pv 1) pa_nil)) pe_int) pa_nil)))))))))), ?_⟩
    have g26 := cell_ge ns 26
    have hzl : (txt L).length = L.length := txt_len L
    refine q_asg (ev_call (ea_cons (ev_var rfl) (ea_cons ev_c ea_nil)) (sv_cell 26 rfl hS)) fun H1 e1 => ?_
    generalize cell ns 26 = c at g26 ⊢
    have fin : ∀ (i : Int) H', 1 ≤ i → i ≤ 1000 → Ex H H' → Q (.int i) H' := fun i H' h1 h2 e => by
      have z := q i.toNat H' (by omega) (by omega) e
      rw [Int.toNat_of_nonneg (by omega)] at z
      exact z
    refine q_when (et_test (ev_op (ev_op (ev_var rfl) ev_c (rv_I (by decide))) ev_c (rv_eq rfl))) (fun hb H2 e2 => ?_) (fun hb H2 e2 => ?_)
    · exact s_ret (ev_op ev_c (ev_op (ev_op (ev_var rfl) ev_c (rv_I ⟨by decide, by decide⟩)) ev_c (rv_I (by decide))) rv_I0) fun H3 e3 => fin _ H3 (by omega) (by omega) ((e1.trans e2).trans e3)
    refine q_when (et_test (ev_op (ev_op (ev_var rfl) ev_c (rv_I (by decide))) ev_c (rv_eq rfl))) (fun hb H3 e3 => ?_) (fun hb H3 e3 => ?_)
    · exact s_ret (ev_op ev_c (ev_op (ev_op (ev_var rfl) ev_c (rv_I ⟨by decide, by decide⟩)) ev_c (rv_I (by decide))) rv_I0) fun H4 e4 => fin _ H4 (by omega) (by omega) (((e1.trans e2).trans e3).trans e4)
    have hm : 0 < max (1 : Int) (((txt L).length : Int) / 3) := by omega
    have hm2 : max (1 : Int) (((txt L).length : Int) / 3) ≤ 999 := by omega
    have hmo := Int.emod_nonneg (c / 5) (show max (1 : Int) (((txt L).length : Int) / 3) ≠ 0 by omega)
    have hmo2 := Int.emod_lt_of_pos (c / 5) hm
    refine s_ret (ev_op ev_c (ev_op (ev_op (ev_var rfl) ev_c (rv_I ⟨by decide, by decide⟩)) (ev_Max2 ev_c (ev_op (ev_lenS (ev_var rfl) (by omega)) ev_c (rv_I ⟨by decide, by decide⟩))) (rv_I hm)) rv_I0) fun H4 e4 => fin _ H4 (by omega) (by omega) (((e1.trans e2).trans e3).trans e4)

theorem sc_is_whole_from : FnScope ["least", "most", "thing"] ["least", "most", "thing"] (defScope s_is_whole_from) := ⟨rfl, rfl, rfl, by decide +kernel, rfl, by decide +kernel, by decide +kernel⟩
theorem ok_is_whole_from (T : Txt K mg A) : FnOk P w K mg base CX0 2 A.f_is_whole_from A.d_is_whole_from ["least", "most", "thing"] (spWF K) := by
  refine T.F_is_whole_from.ok sc_is_whole_from (fun vs H Q E h => ?_) (fun cdv A' outer s H vs Q E hr h => ?_)
  · obtain ⟨a, b, v, rfl, _⟩ := h
    rfl
  · obtain ⟨a, b, v, rfl, hk, q1, q2⟩ := h
    refine ⟨_, (pss_one (ps_ret (pe_and (pe_call (ok_is_whole T) (hr.mono (by decide)) (by rfl) T.g_is_whole T.F_is_whole.kp T.s_is_whole .nil pass0 (pa_cons (pv 2) pa_nil)) (pe_one (pe_chain op_le op_le (pv 0) (pv 2) (pv 1)))))), ?_⟩
    cases v with
    | int i => exact s_ret (ev_andV (ev_call (ea_cons (ev_var rfl) ea_nil) (sv_whole hk)) (fun hb => (ev_chain (ev_var rfl) (ev_var rfl) rv_I0 (fun hb => (ev_var rfl)) (fun hb => rv_I0)))) fun H1 e1 => q1 i rfl H1 e1
    | _ => exact s_ret (ev_andV (b := true) (ev_call (ea_cons (ev_var rfl) ea_nil) (sv_whole hk)) (fun hb => nomatch hb)) fun H1 e1 => q2 rfl H1 e1

theorem sc_Blocks___init__ : FnScope ["self", "bits", "size", "first"] ["self", "bits", "size"] (defScope s_Blocks___init__) := ⟨rfl, rfl, rfl, by decide +kernel, rfl, by decide +kernel, by decide +kernel⟩
theorem ok_Blocks___init__ (T : Txt K mg A) : FnOk P w K mg base (L2.CX P w) 3 A.f_Blocks___init__ A.d_Blocks___init__ ["self", "bits", "size"] (spInit K A.c_Blocks A.c_NoSize) := by
  refine T.F_Blocks___init__.okX sc_Blocks___init__ (fun vs H Q E h => ?_) (fun cdv A' outer s H vs Q E hr h => ?_)
  · obtain ⟨x, dx, z, v, rfl, _⟩ := h
    rfl
  · obtain ⟨x, dx, z, v, rfl, hx, hz1, hz2, hk, q, qn⟩ := h
    refine ⟨_, (pss_cons (ps_if (pt_not (pt_val (pe_call (ok_is_whole_from T) (hr.mono (by decide)) (by rfl) T.g_is_whole_from T.F_is_whole_from.kp T.s_is_whole_from .nil pass0 (pa_cons pe_int (pa_cons (pe_glob (v := .int 4000) (by rfl) T.c_MOST_SIZE ⟨_, rfl⟩) (pa_cons (pv 2) pa_nil)))))) (pss_one (ps_raise rfl (takes_of rfl rfl rfl rfl) (pmk_own PySem.F.excBase_ValueError T.x_NoSize T.g_NoSize T.k_NoSize (raises_own T.e_NoSize T.t_NoSize) (by exact rfl)))) pss_nil) (pss_cons (ps_fld (pv 0) (pe_callB call_len_str (by rfl) T.b_len PySem.boot_len (pa_cons (pv 1) pa_nil)) rfl) (pss_cons (ps_fld (pv 0) (pv 2) rfl) (pss_cons (ps_fld (pv 0) (pe_lc (own := [("first", 3)]) (g := gName 3) (tt := tYes) rfl sc_Blocks___init__.nd (pi_range3 (by rfl) T.b_range (pa_cons pe_int (pa_cons (pe_callB call_len_str (by rfl) T.b_len PySem.boot_len (pa_cons (pv 1) pa_nil)) (pa_cons (pv 2) pa_nil)))) (blkOk_by (N := ["self", "bits", "size", "first"]) (sc := defScope s_Blocks___init__) (by decide +kernel)) (fun _ _ _ _ _ => pg_name (i := 3) sc_Blocks___init__.nd rfl (Or.inl rfl)) (fun _ _ _ _ _ => pts_nil) (fun _ _ _ _ _ => (pe_slice sl_str (pv 1) (po_some (pv 3)) (po_some (pe_op op_add (pv 3) (pv 2)))))) rfl) (pss_one (ps_fld (pv 0) pe_dnewK rfl)))))), ?_⟩
    refine q_when (et_not (et_B (ev_call (ea_cons ev_c (ea_cons ev_c (ea_cons (ev_var rfl) ea_nil))) (sv_wf hk)))) (fun hb H1 e1 => ?_) (fun hb H1 e1 => ?_)
    · exact qn (by simpa using hb) H1 e1
    obtain ⟨n, rfl, hn1, hn2⟩ : ∃ n : Nat, v = .int (n : Int) ∧ 1 ≤ n ∧ n ≤ 4000 := by
      have hb' : inR 1 4000 v = true := by simpa using hb
      cases v with
      | int i =>
        have h2 : (decide (1 ≤ i) && decide (i ≤ 4000)) = true := hb'
        rw [Bool.and_eq_true, decide_eq_true_eq, decide_eq_true_eq] at h2
        exact ⟨i.toNat, by rw [Int.toNat_of_nonneg (by omega)], by omega, by omega⟩
      | _ => cases hb'
    clear hb
    refine q_fld (ev_lenS (ev_var rfl) (by omega)) (ev_var rfl) (e1 _ _ hx) T.cl_Blocks T.n_Blocks_length (by decide) fun H2 e2 => ?_
    have l1 : ∀ v1 : V, (putF "length" v1 ([] : List (Str × V))).length < 2 := fun v1 => putF_lt (by decide)
    have l2 : ∀ v1 v2 : V, (putF "size" v2 (putF "length" v1 ([] : List (Str × V)))).length < 3 := fun v1 v2 => putF_lt (l1 v1)
    have l3 : ∀ v1 v2 v3 : V, (putF "_parts" v3 (putF "size" v2 (putF "length" v1 ([] : List (Str × V))))).length < 4 := fun v1 v2 v3 => putF_lt (l2 v1 v2)
    refine q_fld (ev_var rfl) (ev_var rfl) upd_same T.cl_Blocks T.n_Blocks_size (Nat.lt_trans (l1 _) (by decide)) fun H3 e3 => ?_
    refine q_fldL (el_lcR3 (fun i => .str (cutAt z n i)) (ea_cons ev_c (ea_cons (ev_lenS (ev_var rfl) (by omega)) (ea_cons (ev_var rfl) ea_nil))) (rg_cut hz1 (by omega) hn1 (by omega)) (Nat.le_trans (cnt_le _ _ hn1) (by omega)) (fun x => rfl) (fun i H1 e hi => ev_is (ev_slS (ev_var rfl) (eo_some (ev_var rfl)) (eo_some (ev_op (ev_var rfl) (ev_var rfl) rv_I0)) (by omega)) (by rw [Int.zero_add]; rfl)))
      (ev_var rfl) upd_same T.cl_Blocks T.n_Blocks__parts (Nat.lt_trans (l2 _ _) (by decide)) fun pp H4 np e4 h4 => ?_
    refine s_fldD (ev_var rfl) upd_same T.cl_Blocks T.n_Blocks__told (Nat.lt_trans (l3 _ _ _) (by decide)) fun td H5 nt e5 h5 => ?_
    have npx : pp ≠ x := fun z' => by rw [z', upd_same] at np; cases np
    have ntx : td ≠ x := fun z' => by rw [z', upd_same] at nt; cases nt
    have h4' : (upd H4 x (.ins A.c_Blocks dx (putF "_parts" (.ref pp) (putF "size" (.int (n : Int)) (putF "length" (.int (z.length : Int)) []))))) pp = some (.lst (parts z n)) := by rw [upd_ne npx]; exact h4
    refine q n rfl hn1 hn2 td _ ?_ ?_ ?_
    · rw [upd_ne ntx] at nt
      have n3 := fresh_back e4 nt
      rw [upd_ne ntx] at n3
      have n2 := fresh_back e3 n3
      rw [upd_ne ntx] at n2
      exact fresh_back e1 (fresh_back e2 n2)
    · intro F hF e
      exact ((((((((e.trans e1).trans e2).mut hF).trans e3).mut hF).trans e4).mut hF).trans e5).mut hF
    · refine ⟨⟨dx, pp, upd_same, ?_⟩, ?_⟩
      · rw [upd_ne npx]
        exact e5 _ _ h4'
      · rw [upd_ne ntx]
        exact h5

theorem sc_Blocks_many : FnScope ["self"] ["self"] (defScope s_Blocks_many) := ⟨rfl, rfl, rfl, by decide +kernel, rfl, by decide +kernel, by decide +kernel⟩
theorem ok_Blocks_many (T : Txt K mg A) : FnOk P w K mg base CX0 1 A.f_Blocks_many A.d_Blocks_many ["self"] (spMany A.c_Blocks) := by
  refine T.F_Blocks_many.ok sc_Blocks_many (fun vs H Q E h => ?_) (fun cdv A' outer s H vs Q E hr h => ?_)
  · obtain ⟨x, td, z, n, ks, rfl, _⟩ := h
    rfl
  · obtain ⟨x, td, z, n, ks, rfl, ⟨⟨dx, pp, h1, h2⟩, h3⟩, q⟩ := h
    refine ⟨_, (pss_one (ps_ret (pe_callB call_len_seq (by rfl) T.b_len PySem.boot_len (pa_cons (pe_fld (pv 0) rfl) pa_nil)))), ?_⟩
    refine s_ret (ev_len (ev_fld (ev_var rfl) h1 T.cl_Blocks T.n_Blocks__parts bf_parts) (sq_of h2)) fun H1 e1 => ?_
    rw [parts_len]
    exact q H1 e1

theorem sc_heights_along : FnScope ["height", "text", "heights", "bit"] ["height", "text"] (defScope s_heights_along) := ⟨rfl, rfl, rfl, by decide +kernel, rfl, by decide +kernel, by decide +kernel⟩
theorem ok_heights_along (T : Txt K mg A) : FnOk P w K mg base CX0 1 A.f_heights_along A.d_heights_along ["height", "text"] spAlong := by
  refine T.F_heights_along.ok sc_heights_along (fun vs H Q E h => ?_) (fun cdv A' outer s H vs Q E hr h => ?_)
  · obtain ⟨h, bs, rfl, _⟩ := h
    rfl
  · obtain ⟨h, bs, rfl, hl, q⟩ := h
    refine ⟨_, (pss_cons (ps_set (i := 2) sc_heights_along.nd rfl (Or.inl rfl) (pe_lst (pa_cons (pv 0) pa_nil))) (pss_cons (ps_for PassesOwn.never rfl (pi_str (pv 1)) (pg_name (i := 3) sc_heights_along.nd rfl (Or.inl rfl)) (pss_cons (ps_aug (i := 0) sc_heights_along.nd rfl (Or.inl rfl) (pe_ifExp (pt_cmpR op_eq (pv 3) pe_str (nomark _)) pe_int (pe_un un_neg pe_int)) ip_add) (pss_one (ps_expr (pe_bm PySem.F.plainAttrs_list PySem.F.slot_list_append PySem.F.type_list_append mt_append (pv 2) (pa_cons (pv 0) pa_nil)))))) (pss_one (ps_ret (pv 2))))), ?_⟩
    refine q_asgL (el_lst (ea_cons (ev_var rfl) ea_nil) (by simp)) fun p H1 np e1 h1 => ?_
    refine q_forS (ev_var rfl) (fun (i : Nat) (σ' : L2.St) (H' : Hp) => ∃ y2 : Option V, i ≤ bs.length ∧ Ex H H' ∧ Own H H' p (((List.range (i + 1)).map fun i => h + ht bs i).map V.int) ∧ σ' = [some (.int (h + ht bs i)), some (.str (txt bs)), some (.ref p), y2]) ?_ ?_ ?_
    · intro H2 e2
      refine ⟨none, Nat.zero_le _, e1.trans e2, ⟨np, ?_⟩, ?_⟩
      · rw [e2 _ _ h1]
        show _ = some (HO.lst [V.int (h + ht bs 0)])
        rw [ht_0, Int.add_zero]
      · rw [ht_0, Int.add_zero]
        rfl
    · rintro i c σ' H2 hc ⟨y2, hi, e2, ho, rfl⟩
      rw [txt_cps] at hc
      obtain ⟨b, hb, rfl⟩ : ∃ b, bs[i]? = some b ∧ c = code b := by
        unfold codes at hc
        rw [List.getElem?_map] at hc
        cases e : bs[i]? with
        | none => rw [e] at hc; cases hc
        | some b => rw [e] at hc; exact ⟨b, rfl, (Option.some.inj hc).symm⟩
      have hil := (List.getElem?_eq_some_iff.mp hb).1
      have hs := ht_succ hb
      refine q_aug rfl (b := if b then 1 else -1) ?_ fun H3 e3 => ?_
      · cases b with
        | true => exact ev_if (b := true) (et_is (et_test (ev_op (ev_var rfl) ev_c (rv_eq rfl))) (by rw [sign_1]; rfl)) (fun _ => ev_c) (fun hb => nomatch hb)
        | false => exact ev_if (b := false) (et_is (et_test (ev_op (ev_var rfl) ev_c (rv_eq rfl))) (by rw [sign_1]; rfl)) (fun hb => nomatch hb) (fun _ => (ev_un ev_c ru_neg))
      refine s_app (e3 _ _ ho.at_) (ev_var rfl) (ev_var rfl) (by rw [List.length_map, List.length_map, List.length_range]; omega) fun H4 e4 => ?_
      refine ⟨some (.str ⟨#[code b]⟩), hil, ((e2.trans e3).trans e4).mut np, ?_, ?_⟩
      · have z : Own H (upd H4 p (.lst (((List.range (i + 1)).map fun i => h + ht bs i).map V.int ++ [.int (h + ht bs i + if b then 1 else -1)]))) p _ := ho.put
        have e : ((List.range (i + 1 + 1)).map fun i => h + ht bs i).map V.int = ((List.range (i + 1)).map fun i => h + ht bs i).map V.int ++ [V.int (h + ht bs i + if b then 1 else -1)] := by
          rw [List.range_succ (n := i + 1), List.map_append, List.map_append, Int.add_assoc, ← ht_succ hb]
          rfl
        rw [e]
        exact z
      · rw [hs, ← Int.add_assoc]
        rfl
    · rintro σ' H2 ⟨y2, hi, e2, ho, rfl⟩
      refine s_ret (ev_var rfl) fun H3 e3 => ?_
      have h := e3 _ _ ho.at_
      rw [txt_len] at h
      exact q p H3 np (e2.trans e3) h

theorem sc_lowest : FnScope ["heights", "least"] ["heights"] (defScope s_lowest) := ⟨rfl, rfl, rfl, by decide +kernel, rfl, by decide +kernel, by decide +kernel⟩
theorem ok_lowest (T : Txt K mg A) : FnOk P w K mg base CX0 1 A.f_lowest A.d_lowest ["heights"] (spLowest K) := by
  refine T.F_lowest.ok sc_lowest (fun vs H Q E h => ?_) (fun cdv A' outer s H vs Q E hr h => ?_)
  · obtain ⟨a, ns, rfl, _⟩ := h
    rfl
  · obtain ⟨a, ns, rfl, hS, hn, q⟩ := h
    refine ⟨_, (pss_cons (ps_set (i := 1) sc_lowest.nd rfl (Or.inl rfl) (pe_callB (cr_min rfl) (by rfl) T.b_min (by decide +kernel) (pa_cons (pv 0) pa_nil))) (pss_one (ps_ret (pe_tup (pa_cons (pv 1) (pa_cons (pe_bm PySem.F.plainAttrs_list PySem.F.slot_list_count PySem.F.type_list_count mt_lcount (pv 0) (pa_cons (pv 1) pa_nil)) pa_nil)))))), ?_⟩
    refine q_asg (ev_minL (ev_var rfl) hS hn) fun H1 e1 => ?_
    refine s_retU (eu_tup (ea_cons (ev_var rfl) (ea_cons (ev_count (ev_var rfl) (ex_l e1 hS) (ev_var rfl)) ea_nil)) (by show 2 ≤ 100000; decide)) fun p H2 np e2 h2 => ?_
    exact q p H2 (fresh_back e1 np) (e1.trans e2) h2

theorem sc_Blocks_part : FnScope ["self", "number"] ["self", "number"] (defScope s_Blocks_part) := ⟨rfl, rfl, rfl, by decide +kernel, rfl, by decide +kernel, by decide +kernel⟩
theorem ok_Blocks_part (T : Txt K mg A) : FnOk P w K mg base (L2.CX P w) 3 A.f_Blocks_part A.d_Blocks_part ["self", "number"] (spPart K A.c_Blocks A.c_NoBlock) := by
  refine T.F_Blocks_part.okX sc_Blocks_part (fun vs H Q E h => ?_) (fun cdv A' outer s H vs Q E hr h => ?_)
  · obtain ⟨x, td, z, n, ks, v, rfl, _⟩ := h
    rfl
  · obtain ⟨x, td, z, n, ks, v, rfl, hB, hn1, hz1, hz2, hks, hk, q, qn⟩ := h
    obtain ⟨⟨dx, pp, h1, h2⟩, h3⟩ := id hB
    have hu := hu_of hr
    refine ⟨_, (pss_cons (ps_if (pt_not (pt_val (pe_call (ok_is_whole_from T) (hr.mono (by decide)) (by rfl) T.g_is_whole_from T.F_is_whole_from.kp T.s_is_whole_from .nil pass0 (pa_cons pe_int (pa_cons (pe_op op_sub (pe_callB call_len_seq (by rfl) T.b_len PySem.boot_len (pa_cons (pe_fld (pv 0) rfl) pa_nil)) pe_int) (pa_cons (pv 1) pa_nil)))))) (pss_one (ps_raise rfl (takes_of rfl rfl rfl rfl) (pmk_own PySem.F.excBase_ValueError T.x_NoBlock T.g_NoBlock T.k_NoBlock (raises_own T.e_NoBlock T.t_NoBlock) (by exact rfl)))) pss_nil) (pss_cons (ps_dput hu (pe_fld (pv 0) rfl) (pv 1) pe_bl rfl) (pss_one (ps_ret (pe_ix ix_list (pe_fld (pv 0) rfl) (pv 1) (fun _ _ => rfl)))))), ?_⟩
    refine q_when (et_not (et_B (ev_call (ea_cons ev_c (ea_cons (ev_op (ev_len (ev_fld (ev_var rfl) h1 T.cl_Blocks T.n_Blocks__parts bf_parts) (sq_of h2)) ev_c rv_I0) (ea_cons (ev_var rfl) ea_nil))) (sv_wf hk)))) (fun hb H1 e1 => ?_) (fun hb H1 e1 => ?_)
    · rw [parts_len] at hb
      exact qn (by simpa using hb) H1 e1
    rw [parts_len] at hb
    obtain ⟨j, rfl, hj⟩ : ∃ j : Nat, v = .int (j : Int) ∧ j < cnt z.length n := by
      have hb' : inR 0 ((cnt z.length n : Int) - 1) v = true := by simpa using hb
      cases v with
      | int i =>
        have h2 : (decide (0 ≤ i) && decide (i ≤ (cnt z.length n : Int) - 1)) = true := hb'
        rw [Bool.and_eq_true, decide_eq_true_eq, decide_eq_true_eq] at h2
        exact ⟨i.toNat, by rw [Int.toNat_of_nonneg (by omega)], by omega⟩
      | _ => cases hb'
    clear hb
    refine q_dput (k := Sum.inl (j : Int)) ev_c (ev_fld (ev_var rfl) (e1 _ _ h1) T.cl_Blocks T.n_Blocks__told bf_told) (ev_var rfl) (e1 _ _ h3) (by rw [dk_len]; omega) fun H2 e2 => ?_
    rw [dk_put]
    have nxt : x ≠ td := ne_of h1 h3 (by intro z'; cases z')
    have npt : pp ≠ td := ne_of h2 h3 (by intro z'; cases z')
    have g1 : (upd H2 td (.dK (dk (addK ks j)))) x = some (.ins A.c_Blocks dx (bf z.length n pp td)) := by rw [upd_ne nxt]; exact e2 _ _ (e1 _ _ h1)
    have g2 : (upd H2 td (.dK (dk (addK ks j)))) pp = some (.lst (parts z n)) := by rw [upd_ne npt]; exact e2 _ _ (e1 _ _ h2)
    refine s_ret (ev_op (ev_fld (ev_var rfl) g1 T.cl_Blocks T.n_Blocks__parts bf_parts) (ev_var rfl) (rv_ixL (sq_of g2) (atI_nat (parts_at hj)))) fun H3 e3 => ?_
    refine q j rfl hj H3 (fun F hF e => (((e.trans e1).trans e2).mut hF).trans e3) ?_
    exact ⟨⟨dx, pp, e3 _ _ g1, e3 _ _ g2⟩, e3 _ _ upd_same⟩

theorem sc_book_of : FnScope ["bits", "size", "blocks", "book", "height", "number", "heights", "least", "many"] ["bits", "size"] (defScope s_book_of) := ⟨rfl, rfl, rfl, by decide +kernel, rfl, by decide +kernel, by decide +kernel⟩
theorem ok_book_of (T : Txt K mg A) : FnOk P w K mg base (L2.CX P w) 12 A.f_book_of A.d_book_of ["bits", "size"] (spBookOf K A.c_NoSize) := by
  refine T.F_book_of.okX sc_book_of (fun vs H Q E h => ?_) (fun cdv A' outer s H vs Q E hr h => ?_)
  · obtain ⟨P, v, rfl, _⟩ := h
    rfl
  · obtain ⟨P, v, rfl, hg, hple, hv, q, qn⟩ := h
    refine ⟨_, (pss_cons (ps_set (i := 2) sc_book_of.nd rfl (Or.inl rfl) (pe_make T.mk_Blocks (ok_Blocks___init__ T) (hr.mono (by decide)) (by rfl) T.g_Blocks T.s_Blocks___init__ .nil (passes_call (takes_of rfl rfl rfl rfl) (fun _ _ _ _ h => h)) (pa_cons (pv 0) (pa_cons (pv 1) pa_nil)))) (pss_cons (ps_set (i := 3) sc_book_of.nd rfl (Or.inl rfl) (pe_lst pa_nil)) (pss_cons (ps_set (i := 4) sc_book_of.nd rfl (Or.inl rfl) pe_int) (pss_cons (ps_for (passes_of rfl) rfl (pi_range1 (by rfl) T.b_range (pa_cons (pe_meth0 (pv 2) T.cl_Blocks T.m_Blocks_many (ok_Blocks_many T) (hr.mono (by decide)) T.s_Blocks_many .nil pass0) pa_nil)) (pg_name (i := 5) sc_book_of.nd rfl (Or.inl rfl)) (pss_cons (ps_set (i := 6) sc_book_of.nd rfl (Or.inl rfl) (pe_call (ok_heights_along T) (hr.mono (by decide)) (by rfl) T.g_heights_along T.F_heights_along.kp T.s_heights_along .nil pass0 (pa_cons (pv 4) (pa_cons (pe_meth (pv 2) T.cl_Blocks T.m_Blocks_part (ok_Blocks_part T) (hr.mono (by decide)) T.s_Blocks_part .nil (passes_call (takes_of rfl rfl rfl rfl) (fun _ _ _ _ h => h)) (pa_cons (pv 5) pa_nil)) pa_nil)))) (pss_cons (ps_asg (pe_call (ok_lowest T) (hr.mono (by decide)) (by rfl) T.g_lowest T.F_lowest.kp T.s_lowest .nil pass0 (pa_cons (pe_slice sl_list (pv 6) (po_some pe_int) po_none) pa_nil)) (pg_tup rfl (pgs_cons (pg_name (i := 7) sc_book_of.nd rfl (Or.inl rfl)) (pgs_cons (pg_name (i := 8) sc_book_of.nd rfl (Or.inl rfl)) pgs_nil)))) (pss_cons (ps_expr (pe_bm PySem.F.plainAttrs_list PySem.F.slot_list_append PySem.F.type_list_append mt_append (pv 3) (pa_cons (pe_tup (pa_cons (pv 4) (pa_cons (pv 7) (pa_cons (pv 8) pa_nil)))) pa_nil))) (pss_one (ps_set (i := 4) sc_book_of.nd rfl (Or.inl rfl) (pe_ix ix_list (pv 6) (pe_un un_neg pe_int) (fun _ _ => rfl)))))))) (pss_one (ps_ret (pv 3))))))), ?_⟩
    have hfl := full_len P
    have hzl : (txt (full P)).length = (full P).length := txt_len _
    have hz1 : 1 ≤ (txt (full P)).length := by omega
    have hz2 : (txt (full P)).length ≤ 4000 := by omega
    refine q_asgM (ea_cons (ev_var rfl) (ea_cons (ev_var rfl) ea_nil)) fun H1 x dx e1 nx ndx nxd => ?_
    have xo : Ex H1 (upd (upd H1 dx (.own x)) x (.ins A.c_Blocks dx [])) := (Ex.new ndx).trans (Ex.new (by rw [upd_ne nxd.symm]; exact nx))
    refine ⟨x, dx, _, v, rfl, upd_same, hz1, hz2, hv.ex (e1.trans xo), fun n hn hn1 hn2 td H2 ntd0 kp hB => ⟨rfl, ?_⟩, fun ho H2 e2 => qn ho H2 ((e1.trans xo).trans e2)⟩
    have ntd : H1 td = none := fresh_back xo ntd0
    have e12 : Ex H1 H2 := kp H1 nx xo
    have e02 := e1.trans e12
    have htd : H td = none := fresh_back e1 ntd
    subst hn
    have q2 := q n rfl hn1 hn2
    have hcz : 1 ≤ cnt (txt (full P)).length n := cnt_pos _ _ hz1 hn1
    have hcl : cnt (txt (full P)).length n ≤ (txt (full P)).length := cnt_le _ _ hn1
    refine q_asgL (el_lst ea_nil (by decide)) fun pb H3 npb e3 hpb => ?_
    refine q_asg ev_c fun H4 e4 => ?_
    have e04 := (e02.trans e3).trans e4
    have hpbH : H pb = none := fresh_back e02 npb
    have hB4 := (hB.ex e3).ex e4
    obtain ⟨⟨dx4, pp4, g1, g2⟩, g3⟩ := id hB4
    refine q_forR1 (n := ((cnt (txt (full P)).length n : Nat) : Int)) (ea_cons (ev_meth0 (ev_var rfl) g1 (bf_no (by decide +kernel) (by decide +kernel) (by decide +kernel) (by decide +kernel)) (sv_many hB4)) ea_nil) ⟨by omega, by omega⟩
      (fun (i : Nat) (σ' : L2.St) (H' : Hp) => ∃ (qs : List Addr) (ks : List Nat) (y5 y6 y7 y8 : Option V), σ' = [some (.str (txt (full P))), some (.int (n : Int)), some (.ref x), some (.ref pb), some (.int (ht (full P) (min (i * n) (full P).length))), y5, y6, y7, y8] ∧ i ≤ cnt (txt (full P)).length n ∧ Ex H H' ∧
        Bk A.c_Blocks H' x td (txt (full P)) n ks ∧ ks.length ≤ i ∧ H' pb = some (.lst (qs.map V.ref)) ∧ qs.length = i ∧ (∀ (j : Nat) (r : Addr), qs[j]? = some r → H' r = some (.tup (row (full P) n j))) ∧ (∀ r ∈ qs, H r = none)) ?_ ?_ ?_
    · intro H5 e5
      refine ⟨[], [], none, none, none, none, ?_, Nat.zero_le _, e04.trans e5, hB4.ex e5, Nat.le_refl _, e5 _ _ (e4 _ _ hpb), rfl, fun j r hj => (by cases hj), fun r hr => (by cases hr)⟩
      rw [Nat.zero_mul, Nat.min_eq_left (Nat.zero_le _), ht_0]
      rfl
    · rintro i σ' H5 hi ⟨qs, ks, y5, y6, y7, y8, rfl, hi2, e5, hB5, hk5, hl5, hq5, hr5, hf5⟩
      have hic : i < cnt (txt (full P)).length n := by omega
      have hin : i * n < (full P).length := by rw [← hzl]; exact (cnt_iff hn1).mp hic
      rw [Nat.min_eq_left (Nat.le_of_lt hin)]
      obtain ⟨⟨dx5, pp5, t1, t2⟩, t3⟩ := id hB5
      refine q_asgX (e_callX (e_cons (ev_var rfl) fun H6 e6 => e_consX (e_methC (ev_var rfl) (e6 _ _ t1) (bf_no (by decide +kernel) (by decide +kernel) (by decide +kernel) (by decide +kernel)) (ea_cons (ev_var rfl) ea_nil) fun H7 e7 => ?_)))
      refine part_at (hB5.ex (e6.trans e7)) hn1 hz1 hz2 (by omega) hic fun H8 k8 hB8 => e_nil ?_
      rw [cut_txt]
      refine ⟨_, _, rfl, by rw [List.length_take, List.length_drop]; omega, fun p9 H9 np9 e9 h9 => ?_⟩
      rw [along_hsg (Nat.le_of_lt hin)] at h9
      have hsg1 : cutV ((hsg (full P) n i).map V.int) (some 1) none = (seg (full P) n i).map V.int := by
        rw [cutV_drop (v := 1) (m := 1) _ rfl, hsg_tail]
      have hne : 0 < (seg (full P) n i).length := by
        rw [seg_cut, hcut_len]
        omega
      refine q_asgUX (e_callX (e_consL (el_is (el_sl (ev_var rfl) (eo_some ev_c) eo_none (sq_of h9)) hsg1) fun p10 H10 np10 e10 h10 => e_nil ⟨p10, _, rfl, sq_of h10, hne, fun p11 H11 np11 e11 h11 => g_tup2 (st_of h11) ?_⟩))
      have k511 := (k8.back (e6.trans e7)).trans (Kept.of ((e9.trans e10).trans e11))
      have e011 : Ex H H11 := k511 H htd e5
      have hpb11 : H11 pb = some (.lst (qs.map V.ref)) := k511.at_ (ne_of hl5 t3 (by intro z; cases z)) hl5
      have hB11 := ((hB8.ex e9).ex e10).ex e11
      refine q_appU hpb11 (ev_var rfl) (eu_tup (ea_cons (ev_var rfl) (ea_cons (ev_var rfl) (ea_cons (ev_var rfl) ea_nil))) (by show 3 ≤ 100000; decide)) (by rw [List.length_map]; omega) fun p12 H12 np12 e12' h12 => ?_
      have hpb12 := e12' _ _ hpb11
      have hne12 : p12 ≠ pb := fun z => by rw [z, hpb11] at np12; cases np12
      have h9' : upd H12 pb (.lst (qs.map V.ref ++ [.ref p12])) p9 = some (.lst ((hsg (full P) n i).map V.int)) := by
        have hne9 : p9 ≠ pb := fun z => by
          have h8 : H8 pb = some (.lst (qs.map V.ref)) := k8.at_ (ne_of ((e6.trans e7) _ _ hl5) ((e6.trans e7) _ _ t3) (by intro z; cases z)) ((e6.trans e7) _ _ hl5)
          rw [z, h8] at np9
          cases np9
        rw [upd_ne hne9]
        exact ((e10.trans e11).trans e12') _ _ h9
      have hlen : (hsg (full P) n i).length = min (n + 1) ((full P).length + 1 - i * n) := by rw [hsg, hcut_len]
      have hmin : min ((i + 1) * n) (full P).length = i * n + ((hsg (full P) n i).length - 1) := by
        rw [hlen, Nat.succ_mul]
        omega
      have hlast : atI ((hsg (full P) n i).map V.int) (-1) = some (.int (ht (full P) (min ((i + 1) * n) (full P).length))) := by
        have hx : (hsg (full P) n i)[(hsg (full P) n i).length - 1]? = some (ht (full P) (min ((i + 1) * n) (full P).length)) := by
          rw [hmin]
          exact hcut_at (by omega) (by omega)
        have hsp : hsg (full P) n i = (hsg (full P) n i).dropLast ++ [ht (full P) (min ((i + 1) * n) (full P).length)] := by
          have hnn : hsg (full P) n i ≠ [] := fun z => by
            have := congrArg List.length z
            rw [hlen, List.length_nil] at this
            omega
          have h1 := List.dropLast_concat_getLast hnn
          rw [List.getLast_eq_getElem] at h1
          have h2 := (List.getElem?_eq_some_iff.mp hx).2
          rw [h2] at h1
          exact h1.symm
        rw [hsp, List.map_append]
        exact atI_last _ _
      refine s_asg (ev_op (ev_var rfl) (ev_un ev_c ru_neg) (rv_ixL (sq_of h9') hlast)) fun H13 e13 => ?_
      have e013 := ((e011.trans e12').mut hpbH (o := .lst (qs.map V.ref ++ [.ref p12]))).trans e13
      refine ⟨qs ++ [p12], _, _, _, _, _, rfl, by omega, e013, ((hB11.ex e12').off hpb12 (refs_ne_parts hcz)).ex e13, ?_, ?_, by rw [List.length_append, hq5]; rfl, ?_, ?_⟩
      · have := addK_len ks i
        omega
      · refine e13 _ _ ?_
        rw [upd_same, List.map_append]
        rfl
      · intro j r hj
        refine e13 _ _ ?_
        by_cases c : j < qs.length
        · rw [List.getElem?_append_left c] at hj
          have h8 := k511.at_ (ne_of (hr5 j r hj) t3 (by intro z; cases z)) (hr5 j r hj)
          rw [upd_ne (ne_of h8 hpb11 (by intro z; cases z))]
          exact e12' _ _ h8
        · rw [List.getElem?_append_right (by omega)] at hj
          have hj0 : j - qs.length = 0 := by
            have := (List.getElem?_eq_some_iff.mp hj).1
            simp at this
            omega
          rw [hj0] at hj
          have hr : p12 = r := Option.some.inj hj
          subst hr
          rw [upd_ne hne12, h12, show j = i by omega]
          rfl
      · intro r hr
        rcases List.mem_append.mp hr with hr | hr
        · exact hf5 r hr
        · rw [List.mem_singleton.mp hr]
          exact fresh_back e011 np12
    · rintro σ' H5 ⟨qs, ks, y5, y6, y7, y8, rfl, hi2, e5, hB5, hk5, hl5, hq5, hr5, hf5⟩
      refine s_ret (ev_var rfl) fun H6 e6 => ?_
      exact q2 pb qs H6 hpbH (e5.trans e6) ⟨e6 _ _ hl5, by rw [hq5, ← hzl]; omega, fun j r hj => e6 _ _ (hr5 j r hj)⟩ hf5

theorem sc_law_walk : FnScope ["_law_parents_here", "_law_found", "_law_way", "_law_k"] ["_law_parents_here"] (defScope s_law_walk) := ⟨rfl, rfl, rfl, by decide +kernel, rfl, by decide +kernel, by decide +kernel⟩
theorem ok_law_walk (T : Txt K mg A) : FnOk P w K mg base CX0 1 A.f_law_walk A.d_law_walk ["_law_parents_here"] (spKnots K) := by
  refine T.F_law_walk.ok sc_law_walk (fun vs H Q E h => ?_) (fun cdv A' outer s H vs Q E hr h => ?_)
  · obtain ⟨a, P, rfl, _⟩ := h
    rfl
  · obtain ⟨a, P, rfl, hS, hg, hl, q⟩ := h
    refine ⟨_, (pss_cons (ps_set (i := 1) sc_law_walk.nd rfl (Or.inl rfl) (pe_lst pa_nil)) (pss_cons (ps_set (i := 2) sc_law_walk.nd rfl (Or.inl rfl) (pe_lst pa_nil)) (pss_cons (ps_for PassesOwn.never rfl (pi_range1 (by rfl) T.b_range (pa_cons (pe_callB call_len_seq (by rfl) T.b_len PySem.boot_len (pa_cons (pv 0) pa_nil)) pa_nil)) (pg_name (i := 3) sc_law_walk.nd rfl (Or.inl rfl)) (pss_cons (ps_while PassesOwn.never (PW.pt (pw_and (pt_cmpR (op_neD hr.units) (pv 2) (pe_lst pa_nil) (nomark _)) (pw_and1 (pt_cmpR op_ne (pe_ix ix_list (pv 2) (pe_un un_neg pe_int) (fun _ _ => rfl)) (pe_ix ix_list (pv 0) (pv 3) (fun _ _ => rfl)) (nomark _))))) (pss_one (ps_expr (pe_bm PySem.F.plainAttrs_list PySem.F.slot_list_append PySem.F.type_list_append mt_append (pv 1) (pa_cons (pe_bm0 PySem.F.plainAttrs_list PySem.F.slot_list_pop PySem.F.type_list_pop mt_pop (pv 2)) pa_nil))))) (pss_cons (ps_expr (pe_bm PySem.F.plainAttrs_list PySem.F.slot_list_append PySem.F.type_list_append mt_append (pv 2) (pa_cons (pv 3) pa_nil))) (pss_one (ps_expr (pe_bm PySem.F.plainAttrs_list PySem.F.slot_list_append PySem.F.type_list_append mt_append (pv 1) (pa_cons (pv 3) pa_nil))))))) (pss_one (ps_ret (pe_op op_cat (pv 1) (pe_revL (pv 2)))))))), ?_⟩
    have hpl : (pV (par P)).length = P.length + 1 := by rw [pV_len, par_len]
    refine q_asgL (el_lst ea_nil (by decide)) fun pf H1 nf e1 h1 => ?_
    refine q_asgL (el_lst ea_nil (by decide)) fun pw H2 nw e2 h2 => ?_
    have e02 := e1.trans e2
    have nfw : pf ≠ pw := ne_of_none h1 nw
    refine q_forR1 (ea_cons (ev_len (ev_var rfl) (ex_l e02 hS)) ea_nil) ⟨by omega, by omega⟩
      (fun (i : Nat) (σ' : L2.St) (H' : Hp) => ∃ (y3 : Option V), i ≤ P.length + 1 ∧ Ex H H' ∧ Own H H' pf (kats (full P) (rb P i).length) ∧ Own H H' pw (stk (rs P i)) ∧ σ' = [some (.ref a), some (.ref pf), some (.ref pw), y3]) ?_ ?_ ?_
    · intro H3 e3
      exact ⟨none, Nat.zero_le _, e02.trans e3, ⟨nf, e3 _ _ (e2 _ _ h1)⟩, ⟨fresh_back e1 nw, e3 _ _ h2⟩, rfl⟩
    · rintro i σ' H3 hi ⟨y3, hi1, e3, hf, hw, rfl⟩
      have hip : i ≤ P.length := by omega
      obtain ⟨J, p, hJ, hJl, hJe, hx, ers, erb⟩ := bits_turn hg (i := i) hip
      obtain ⟨t1, t2, t3, t4⟩ := turn_bits hg hip erb
      have hsk := sk_rb hg hi1
      have hbl := rb_le (P := P) hi1
      refine q_while (fun (m : Nat) (σ2 : L2.St) (H4 : Hp) => ∃ j, j ≤ J ∧ m = J - j ∧ Ex H H4 ∧ Own H H4 pf (kats (full P) ((rb P i).length + j)) ∧ Own H H4 pw (stk ((rs P i).drop j)) ∧ σ2 = [some (.ref a), some (.ref pf), some (.ref pw), some (.int (i : Int))]) J ?_ ?_
      · exact ⟨0, Nat.zero_le _, rfl, e3, hf, hw, rfl⟩
      · rintro m σ2 H4 ⟨j, hj, rfl, e4, hf4, hw4, rfl⟩
        have hS4 := ex_l e4 hS
        have hskj : sk (full P) ((rb P i).length + j) = (rs P i).drop j := by rw [sk_zeros j (fun l hl => t1 l (by omega)), hsk]
        refine ⟨decide (j < J), ?_, fun hb H5 e5 => ?_, fun hb H5 e5 => ?_⟩
        · by_cases hjl : j < (rs P i).length
          · obtain ⟨qq, hq⟩ : ∃ qq, (rs P i)[j]? = some qq := ⟨_, List.getElem?_eq_getElem hjl⟩
            rw [drop_cons hq] at hw4
            have hne : rs P i ≠ [] := fun z => by rw [z] at hq; simp at hq
            refine et_is (et_and (et_test (ev_opL (ev_var rfl) (el_lst ea_nil (by decide)) (fun _ _ hp e1 => rv_neNil (ex_l e1 hw4.sq) (sq_of hp)))) (fun hb => (et_test (ev_op (ev_op (ev_var rfl) (ev_un ev_c ru_neg) (rv_ixL hw4.sq (stk_last _ _))) (ev_op (ev_var rfl) (ev_var rfl) (rv_ixL hS4 (atI_nat (hx hne)))) (rv_ne rfl))))) ?_
            show (true && !decide (V.int qq = V.int p)) = decide (j < J)
            rw [Bool.true_and]
            by_cases hjJ : j < J
            · obtain ⟨q2, hq2, hqp⟩ := hJ j hjJ
              rw [hq] at hq2
              cases hq2
              rw [decide_eq_true hjJ, decide_eq_false (fun e => hqp (V.int.inj e))]
              rfl
            · have ej : j = J := by omega
              subst ej
              rcases hJe with hJe | hJe
              · omega
              · rw [hq] at hJe
                cases hJe
                rw [decide_eq_false hjJ, decide_eq_true rfl]
                rfl
          · have hd : (rs P i).drop j = [] := List.drop_eq_nil_of_le (by omega)
            rw [hd] at hw4
            rw [decide_eq_false (show ¬ j < J by omega)]
            exact et_is (et_and (et_test (ev_opL (ev_var rfl) (el_lst ea_nil (by decide)) (fun _ _ hp e1 => rv_neNil (ex_l e1 hw4.sq) (sq_of hp)))) (b := true) (fun hb => nomatch hb)) rfl
        · have hjJ : j < J := of_decide_eq_true hb
          obtain ⟨qq, hq, hqp⟩ := hJ j hjJ
          rw [drop_cons hq] at hw4 hskj
          refine ⟨_, fun σ3 H6 h => h, ?_⟩
          have hw5 := hw4.ex e5
          have hf5 := hf4.ex e5
          have hkat : kat (full P) ((rb P i).length + j) = qq := by
            unfold kat
            rw [t1 j hjJ, if_neg (by intro z; cases z), hskj]
            rfl
          refine s_appX (ev_var rfl) hf5.at_ fun H6 e6 => ⟨_, rfl, Or.inl ⟨rfl, _, (hw5.ex e6).sq⟩, pw, _, _, rfl, rfl, (hw5.ex e6).at_, stk_top _ _, ?_⟩
          rw [stk_pop]
          have hf6 := (hf5.ex e6).off (b := pw) (o := .lst (stk ((rs P i).drop (j + 1)))) nfw
          refine ⟨pf, _, _, rfl, rfl, hf6.at_, sz_lt (by rw [kats_len]; omega), ?_⟩
          refine ⟨J - (j + 1), by omega, j + 1, hjJ, rfl, ?_, ?_, ?_, rfl⟩
          · exact (((e4.trans e5).trans e6).mut hw.nw).mut hf.nw
          · rw [← Nat.add_assoc, kats_succ, hkat]
            exact hf6.put
          · have z : Own H (upd H6 pw (.lst (stk ((rs P i).drop (j + 1))))) pw (stk ((rs P i).drop (j + 1))) := hw5.put
            exact z.off nfw.symm
        · have ej : j = J := by
            have z := of_decide_eq_false hb
            omega
          subst ej
          have hw5 := hw4.ex e5
          have hf5 := hf4.ex e5
          have hkat : kat (full P) ((rb P i).length + j) = (i : Int) := by
            unfold kat
            rw [t2, if_pos rfl, t3, ones_pl hg hip]
          refine q_app hw5.at_ (ev_var rfl) (ev_var rfl) (by rw [stk_len, List.length_drop]; omega) fun H6 e6 => ?_
          have hf6 := (hf5.ex e6).off (b := pw) (o := .lst (stk ((rs P i).drop j) ++ [.int (i : Int)])) nfw
          refine s_app hf6.at_ (ev_var rfl) (ev_var rfl) (by rw [kats_len]; omega) fun H7 e7 => ?_
          refine ⟨some (.int (i : Int)), by omega, ((((e4.trans e5).trans e6).mut hw.nw).trans e7).mut hf.nw, ?_, ?_, rfl⟩
          · rw [t4, kats_succ, hkat]
            exact hf6.put
          · rw [ers, stk_cons]
            have z : Own H (upd H6 pw (.lst (stk ((rs P i).drop j) ++ [.int (i : Int)]))) pw _ := hw5.put
            exact (z.ex e7).off nfw.symm
    · rintro σ' H3 ⟨y3, hi1, e3, hf, hw, rfl⟩
      have en : ((pV (par P)).length : Int).toNat = P.length + 1 := by omega
      rw [en] at hf hw
      have hbl := rb_le (P := P) (Nat.le_refl (P.length + 1))
      refine s_retL (el_catL1 (ev_var rfl) hf.at_ (el_revL (ev_var rfl) hw.sq) (by rw [kats_len, List.length_reverse, stk_len]; omega)) fun p H4 np e4 h4 => ?_
      refine q p H4 (fresh_back e3 np) (e3.trans e4) ?_
      rw [h4]
      have hs : rs P (P.length + 1) = (run P).st := by show (run (P.take P.length)).st = _; rw [List.take_length]
      have hb : rb P (P.length + 1) = (run P).bs := by show (run (P.take P.length)).bs = _; rw [List.take_length]
      rw [hs, hb]
      have hz : ∀ j, j < (run P).st.length → (full P)[(run P).bs.length + j]? = some false := fun j hj => by
        unfold full
        rw [List.getElem?_append_right (Nat.le_add_right _ _), Nat.add_sub_cancel_left, List.getElem?_replicate, if_pos hj]
      have hsk : sk (full P) (run P).bs.length = (run P).st := by
        have := sk_bs hg (i := P.length) (Nat.le_refl _)
        rw [List.take_length] at this
        exact this
      have key : ∀ m, m ≤ (run P).st.length → kats (full P) ((run P).bs.length + m) = kats (full P) (run P).bs.length ++ ((run P).st.take m).map V.int := by
        intro m
        induction m with
        | zero => intro _; simp
        | succ m ih =>
          intro hm
          obtain ⟨v, hv⟩ : ∃ v, (run P).st[m]? = some v := ⟨_, List.getElem?_eq_getElem (by omega)⟩
          rw [← Nat.add_assoc, kats_succ, ih (by omega), take_more hv, List.map_append, List.append_assoc]
          have hk : kat (full P) ((run P).bs.length + m) = v := by
            unfold kat
            rw [hz m (by omega), if_neg (by intro z; cases z), sk_zeros m (fun l hl => hz l (by omega)), hsk, drop_cons hv]
            rfl
          rw [hk]
          rfl
      have hfl : (full P).length = (run P).bs.length + (run P).st.length := by unfold full; rw [List.length_append, List.length_replicate]
      rw [hfl, key _ (Nat.le_refl _), List.take_length]
      unfold stk
      rw [← List.map_reverse, List.reverse_reverse]

theorem sc_parents_of : FnScope ["bits", "parents", "pending", "bit", "knot"] ["bits"] (defScope s_parents_of) := ⟨rfl, rfl, rfl, by decide +kernel, rfl, by decide +kernel, by decide +kernel⟩
theorem ok_parents_of (T : Txt K mg A) : FnOk P w K mg base CX0 1 A.f_parents_of A.d_parents_of ["bits"] (spParentsOf K) := by
  refine T.F_parents_of.ok sc_parents_of (fun vs H Q E h => ?_) (fun cdv A' outer s H vs Q E hr h => ?_)
  · obtain ⟨x, r, rfl, _⟩ := h
    rfl
  · obtain ⟨x, r, rfl, hT, qn, qs⟩ := h
    refine ⟨_, (pss_cons (ps_if (PW.pt (pw_or (pt_not (pt_val (pe_callB call_isi (by rfl) T.b_isinstance (by decide +kernel) (pa_cons (pv 0) (pa_cons (pe_bltn (v := .ty "str") (by rfl) T.b_str (by decide +kernel) rfl) pa_nil))))) (pw_or1 (pt_not (pt_chain op_le op_le pe_int (pe_callB call_len_str (by rfl) T.b_len PySem.boot_len (pa_cons (pv 0) pa_nil)) (pe_op op_mul pe_int (pe_glob (v := .int 2000) (by rfl) T.c_MOST_KNOTS ⟨_, rfl⟩))))))) (pss_one (ps_ret pe_non)) pss_nil) (pss_cons (ps_set (i := 1) sc_parents_of.nd rfl (Or.inl rfl) (pe_lst pa_nil)) (pss_cons (ps_set (i := 2) sc_parents_of.nd rfl (Or.inl rfl) (pe_lst pa_nil)) (pss_cons (ps_for PassesOwn.never rfl (pi_str (pv 0)) (pg_name (i := 3) sc_parents_of.nd rfl (Or.inl rfl)) (pss_cons (ps_if (PW.pt (pw_and (pt_truth (pv 1) (by intro _; rfl)) (pw_and1 (pt_not (pt_truth (pv 2) (by intro _; rfl)))))) (pss_one (ps_ret pe_non)) pss_nil) (pss_one (ps_if (pt_cmpR op_eq (pv 3) pe_str (nomark _)) (pss_cons (ps_set (i := 4) sc_parents_of.nd rfl (Or.inl rfl) (pe_callB call_len_seq (by rfl) T.b_len PySem.boot_len (pa_cons (pv 1) pa_nil))) (pss_cons (ps_expr (pe_bm PySem.F.plainAttrs_list PySem.F.slot_list_append PySem.F.type_list_append mt_append (pv 1) (pa_cons (pe_ifExp (pt_truth (pv 2) (by intro _; rfl)) (pe_ix ix_list (pv 2) (pe_un un_neg pe_int) (fun _ _ => rfl)) pe_non) pa_nil))) (pss_one (ps_expr (pe_bm PySem.F.plainAttrs_list PySem.F.slot_list_append PySem.F.type_list_append mt_append (pv 2) (pa_cons (pv 4) pa_nil)))))) (pss_one (ps_if (PW.pt (pw_and (pt_cmpR op_eq (pv 3) pe_str (nomark _)) (pw_and1 (pt_truth (pv 2) (by intro _; rfl))))) (pss_one (ps_expr (pe_bm0 PySem.F.plainAttrs_list PySem.F.slot_list_pop PySem.F.type_list_pop mt_pop (pv 2)))) (pss_one (ps_ret pe_non)))))))) (pss_cons (ps_if (pt_truth (pv 2) (by intro _; rfl)) (pss_one (ps_ret pe_non)) pss_nil) (pss_one (ps_ret (pv 1)))))))), ?_⟩
    rcases hT with ⟨z, rfl, hz, rfl⟩ | ⟨tv, ht1, ht2, rfl⟩
    · have hzl : z.length = z.cps.toList.length := rfl
      refine q_when (et_or (et_not (et_B (ev_isi (ev_var rfl) ev_c (.ty _) (TyX.base (TyOf.str z)) (kit_ty (by decide +kernel : kitB "str" "str" = some true))))) (fun hb => (et_not (et_test (ev_chain ev_c (ev_lenS (ev_var rfl) (by omega)) rv_I0 (fun hb => (ev_op ev_c ev_c (rv_I (.inl ⟨by decide, by decide⟩)))) (fun hb => rv_I0)))))) (fun hb H1 e1 => ?_) (fun hb H1 e1 => ?_)
      · have qn' := qn (readM_no (fun z' => by
          have h1 : decide ((1 : Int) ≤ (z.length : Int)) = true := decide_eq_true (by omega)
          have h2 : decide ((z.length : Int) ≤ 2 * 2000) = true := decide_eq_true (by omega)
          have hb' : (!true || !(decide ((1 : Int) ≤ (z.length : Int)) && decide ((z.length : Int) ≤ 2 * 2000))) = true := hb
          rw [h1, h2] at hb'
          cases hb'))
        exact s_ret ev_c fun H2 e2 => qn' H2 (e1.trans e2)
      have hb' : (!true || !(decide ((1 : Int) ≤ (z.length : Int)) && decide ((z.length : Int) ≤ 2 * 2000))) = false := hb
      have hn : 1 ≤ z.cps.toList.length ∧ z.cps.toList.length ≤ 4000 := by
        simp at hb'
        omega
      clear hb hb'
      rw [readM_go hn] at qn qs
      refine q_asgL (el_lst ea_nil (by decide)) fun pp H2 np e2 h2 => ?_
      refine q_asgL (el_lst ea_nil (by decide)) fun pd H3 nd' e3 h3 => ?_
      have e03 := (e1.trans e2).trans e3
      have npd : pp ≠ pd := ne_of_none h2 nd'
      refine q_forS (ev_var rfl)
        (fun (i : Nat) (σ' : L2.St) (H' : Hp) => ∃ (ps : List (Option Int)) (st : List Int) (y3 y4 : Option V), readGo [] [] z.cps.toList = readGo ps st (z.cps.toList.drop i) ∧ ps.length ≤ i ∧ st.length ≤ i ∧
          Ex H H' ∧ Own H H' pp (pV ps) ∧ Own H H' pd (stk st) ∧ σ' = [some (.str z), some (.ref pp), some (.ref pd), y3, y4]) ?_ ?_ ?_
      · intro H4 e4
        exact ⟨[], [], none, none, rfl, Nat.le_refl _, Nat.le_refl _, e03.trans e4, ⟨fresh_back e1 np, e4 _ _ (e3 _ _ h2)⟩, ⟨fresh_back (e1.trans e2) nd', e4 _ _ h3⟩, rfl⟩
      · rintro i c σ' H4 hc ⟨ps, st, y3, y4, hre, hpl, hsl, e4, hpp, hpd, rfl⟩
        have hil : i < z.cps.toList.length := (List.getElem?_eq_some_iff.mp hc).1
        have hdr : z.cps.toList.drop i = c :: z.cps.toList.drop (i + 1) := by
          obtain ⟨h1, h2⟩ := List.getElem?_eq_some_iff.mp hc
          rw [List.drop_eq_getElem_cons h1, h2]
        rw [hdr] at hre
        refine q_when (et_and (et_truth (ev_var rfl) (tru_l hpp.sq)) (fun hb => (et_not (et_truth (ev_var rfl) (tru_l hpd.sq))))) (fun hb H5 e5 => ?_) (fun hb H5 e5 => ?_)
        · have hb' : ((!(pV ps).isEmpty) && !!(stk st).isEmpty) = true := hb
          rw [pV_emp, stk_emp] at hb'
          have qn' := qn (by rw [hre]; exact readGo_bad (by cases ps <;> cases st <;> first | (simp at hb'; done) | simp))
          exact s_ret ev_c fun H6 e6 => qn' H6 ((e4.trans e5).trans e6)
        have hok : ¬ (ps ≠ [] ∧ st = []) := by
          have hb' : ((!(pV ps).isEmpty) && !!(stk st).isEmpty) = false := hb
          rw [pV_emp, stk_emp] at hb'
          rintro ⟨h1, h2⟩
          subst h2
          cases ps with
          | nil => exact h1 rfl
          | cons a b => cases hb'
        clear hb
        have e05 := e4.trans e5
        have hpp5 := hpp.ex e5
        have hpd5 := hpd.ex e5
        refine s_if (et_test (ev_op (ev_var rfl) ev_c (rv_eq rfl))) (fun hb H6 e6 => ?_) (fun hb H6 e6 => ?_)
        · have hc1 : c = 49 := by
            have hb' : decide (V.str ⟨#[c]⟩ = V.str (Str.ofString "1")) = true := hb
            rw [sign_1] at hb'
            exact of_decide_eq_true hb'
          subst hc1
          rw [read_one _ _ _ hok] at hre
          have hpp6 := hpp5.ex e6
          have hpd6 := hpd5.ex e6
          refine q_asg (ev_len (ev_var rfl) hpp6.sq) fun H7 e7 => ?_
          have hpp7 := hpp6.ex e7
          have hpd7 := hpd6.ex e7
          refine q_app (v := oV st.head?) hpp7.at_ (ev_var rfl) ?_ (by rw [pV_len]; omega) fun H8 e8 => ?_
          · cases st with
            | nil => exact ev_if (et_truth (ev_var rfl) (tru_l hpd7.sq)) (fun hb => nomatch hb) (fun hb => ev_c)
            | cons a st =>
              refine ev_if (et_truth (ev_var rfl) (tru_l hpd7.sq)) (fun hb => (ev_op (ev_var rfl) (ev_un ev_c ru_neg) (rv_ixL hpd7.sq (stk_last _ _)))) (fun hb => ?_)
              have hb' : (!(stk (a :: st)).isEmpty) = false := hb
              rw [stk_emp] at hb'
              cases hb'
          · have hpd8 := (hpd7.ex e8).off (b := pp) (o := .lst (pV ps ++ [oV st.head?])) npd.symm
            refine s_app hpd8.at_ (ev_var rfl) (ev_var rfl) (by rw [stk_len]; omega) fun H9 e9 => ?_
            refine ⟨ps ++ [st.head?], (ps.length : Int) :: st, some (.str ⟨#[49]⟩), some (.int (ps.length : Int)), hre, by rw [List.length_append]; exact Nat.succ_le_succ hpl, Nat.succ_le_succ hsl, ?_, ?_, ?_, ?_⟩
            · exact (((((e05.trans e6).trans e7).trans e8).mut hpp.nw).trans e9).mut hpd.nw
            · have z1 : Own H (upd H8 pp (.lst (pV ps ++ [oV st.head?]))) pp (pV ps ++ [oV st.head?]) := hpp.put
              rw [pV_app']
              exact (z1.ex e9).off npd
            · rw [stk_cons, ← pV_len ps]
              exact hpd.put
            · rw [← pV_len ps]; rfl
        · have hc1 : c ≠ 49 := by
            have hb' : decide (V.str ⟨#[c]⟩ = V.str (Str.ofString "1")) = false := hb
            rw [sign_1] at hb'
            exact of_decide_eq_false hb'
          have hpp6 := hpp5.ex e6
          have hpd6 := hpd5.ex e6
          refine s_if (et_and (et_test (ev_op (ev_var rfl) ev_c (rv_eq rfl))) (fun hb => (et_truth (ev_var rfl) (tru_l hpd6.sq)))) (fun hb2 H7 e7 => ?_) (fun hb2 H7 e7 => ?_)
          · have hb' : (decide (V.str ⟨#[c]⟩ = V.str (Str.ofString "0")) && !(stk st).isEmpty) = true := hb2
            rw [sign_0, stk_emp, Bool.and_eq_true] at hb'
            have hc0 := of_decide_eq_true hb'.1
            subst hc0
            cases st with
            | nil => cases hb'.2
            | cons a st =>
              rw [readGo_0 hok (List.cons_ne_nil _ _)] at hre
              have hpd7 := hpd6.ex e7
              refine s_pop hpd7.at_ (ev_var rfl) (stk_top _ _) fun H8 e8 => ?_
              rw [stk_pop]
              refine ⟨ps, st, some (.str ⟨#[48]⟩), y4, hre, Nat.le_succ_of_le hpl, Nat.le_succ_of_le (Nat.le_of_succ_le hsl), ?_, ((hpp6.ex e7).ex e8).off npd, hpd.put, rfl⟩
              exact ((((e05.trans e6).trans e7).trans e8)).mut hpd.nw
          · have hb' : (decide (V.str ⟨#[c]⟩ = V.str (Str.ofString "0")) && !(stk st).isEmpty) = false := hb2
            rw [sign_0, stk_emp] at hb'
            have qn' := qn (by
              rw [hre]
              refine readGo_no hc1 ?_
              rintro ⟨h1, h2⟩
              rw [decide_eq_true h1] at hb'
              cases st with
              | nil => exact h2 rfl
              | cons a b => cases hb')
            exact s_ret ev_c fun H8 e8 => qn' H8 (((e05.trans e6).trans e7).trans e8)
      · rintro σ' H4 ⟨ps, st, y3, y4, hre, hpl, hsl, e4, hpp, hpd, rfl⟩
        rw [List.drop_eq_nil_of_le (show z.cps.toList.length ≤ z.length from Nat.le_refl _)] at hre
        refine q_when (et_truth (ev_var rfl) (tru_l hpd.sq)) (fun hb H5 e5 => ?_) (fun hb H5 e5 => ?_)
        · have hb' : (!(stk st).isEmpty) = true := hb
          rw [stk_emp] at hb'
          have qn' := qn (by
            rw [hre]
            show (if st = [] then some ps else none) = none
            rw [if_neg (fun z' => by rw [z'] at hb'; cases hb')])
          exact s_ret ev_c fun H6 e6 => qn' H6 ((e4.trans e5).trans e6)
        · have hb' : (!(stk st).isEmpty) = false := hb
          rw [stk_emp] at hb'
          have hst : st = [] := by
            cases st with
            | nil => rfl
            | cons a b => cases hb'
          have qs' := qs ps (by
            rw [hre, hst]
            rfl)
          refine s_ret (ev_var rfl) fun H6 e6 => ?_
          exact qs' pp H6 hpp.nw ((e4.trans e5).trans e6) (e6 _ _ (e5 _ _ hpp.at_))
    · refine q_when (b := true) (et_is (et_or (et_not (et_B (ev_isi (ev_var rfl) ev_c (.ty _) ht1 ht2))) (b := true) (fun hb => nomatch hb)) rfl) (fun hb H1 e1 => ?_) (fun hb => nomatch hb)
      exact s_ret ev_c fun H2 e2 => qn rfl H2 (e1.trans e2)

theorem sc_plain : FnScope ["bits", "parents"] ["bits"] (defScope s_plain) := ⟨rfl, rfl, rfl, by decide +kernel, rfl, by decide +kernel, by decide +kernel⟩
theorem ok_plain (T : Txt K mg A) : FnOk P w K mg base (L2.CX P w) 3 A.f_plain A.d_plain ["bits"] (spPlain K A.c_NoTree) := by
  refine T.F_plain.okX sc_plain (fun vs H Q E h => ?_) (fun cdv A' outer s H vs Q E hr h => ?_)
  · obtain ⟨x, r, rfl, _⟩ := h
    rfl
  · obtain ⟨x, r, rfl, hT, qn, qs⟩ := h
    refine ⟨_, (pss_cons (ps_set (i := 1) sc_plain.nd rfl (Or.inl rfl) (pe_call (ok_parents_of T) (hr.mono (by decide)) (by rfl) T.g_parents_of T.F_parents_of.kp T.s_parents_of .nil pass0 (pa_cons (pv 0) pa_nil))) (pss_cons (ps_if (pt_cmpR op_isN (pv 1) pe_non (nomark _)) (pss_one (ps_raise rfl (takes_of rfl rfl rfl rfl) (pmk_own PySem.F.excBase_ValueError T.x_NoTree T.g_NoTree T.k_NoTree (raises_own T.e_NoTree T.t_NoTree) (by exact rfl)))) pss_nil) (pss_one (ps_ret (pv 1))))), ?_⟩
    refine q_asgC (ea_cons (ev_var rfl) ea_nil) fun H1 e1 => ⟨x, r, rfl, hT.ex e1, fun hr H2 e2 => ?_, fun ps hps p H2 np e2 h2 => ?_⟩
    · refine q_when (b := true) (et_test (ev_op (ev_var rfl) ev_c rv_isN)) (fun hb H3 e3 => ?_) (fun hb => nomatch hb)
      exact qn hr H3 ((e1.trans e2).trans e3)
    · refine q_when (b := false) (et_is (et_test (ev_op (ev_var rfl) ev_c rv_isN)) rfl) (fun hb => nomatch hb) (fun hb H3 e3 => ?_)
      exact s_ret (ev_var rfl) fun H4 e4 => qs ps hps p H4 (fresh_back e1 np) (((e1.trans e2).trans e3).trans e4) (e4 _ _ (e3 _ _ h2))

theorem sc_width_of : FnScope ["length"] ["length"] (defScope s_width_of) := ⟨rfl, rfl, rfl, by decide +kernel, rfl, by decide +kernel, by decide +kernel⟩
theorem ok_width_of (T : Txt K mg A) : FnOk P w K mg base CX0 2 A.f_width_of A.d_width_of ["length"] spWidth := by
  refine T.F_width_of.ok sc_width_of (fun vs H Q E h => ?_) (fun cdv A' outer s H vs Q E hr h => ?_)
  · obtain ⟨n, rfl, _⟩ := h
    rfl
  · obtain ⟨n, rfl, hn1, hn2, q⟩ := h
    refine ⟨_, (pss_one (ps_ret (pe_bits (pv 0)))), ?_⟩
    refine s_ret (ev_bits (ev_var rfl)) fun H1 e1 => ?_
    rw [bits_wid hn1]
    exact q H1 e1

theorem sc_size_for : FnScope ["length", "share"] ["length", "share"] (defScope s_size_for) := ⟨rfl, rfl, rfl, by decide +kernel, rfl, by decide +kernel, by decide +kernel⟩
theorem ok_size_for (T : Txt K mg A) : FnOk P w K mg base (L2.CX P w) 12 A.f_size_for A.d_size_for ["length", "share"] (spSizeFor K A.c_NoSize) := by
  refine T.F_size_for.okX sc_size_for (fun vs H Q E h => ?_) (fun cdv A' outer s H vs Q E hr h => ?_)
  · obtain ⟨l, v, rfl, _⟩ := h
    rfl
  · obtain ⟨l, v, rfl, hl1, hl2, hv, q, qn⟩ := h
    refine ⟨_, (pss_cons (ps_if (pt_not (pt_val (pe_call (ok_is_whole_from T) (hr.mono (by decide)) (by rfl) T.g_is_whole_from T.F_is_whole_from.kp T.s_is_whole_from .nil pass0 (pa_cons pe_int (pa_cons (pe_glob (v := .int 100) (by rfl) T.c_MOST_SHARE ⟨_, rfl⟩) (pa_cons (pv 1) pa_nil)))))) (pss_one (ps_raise rfl (takes_of rfl rfl rfl rfl) (pmk_own PySem.F.excBase_ValueError T.x_NoSize T.g_NoSize T.k_NoSize (raises_own T.e_NoSize T.t_NoSize) (by exact rfl)))) pss_nil) (pss_one (ps_ret (pe_callB (call_min2 rfl) (by rfl) T.b_min (by decide +kernel) (pa_cons (pe_op op_mul (pe_op op_mul pe_int (pe_call (ok_width_of T) (hr.mono (by decide)) (by rfl) T.g_width_of T.F_width_of.kp T.s_width_of .nil pass0 (pa_cons (pv 0) pa_nil))) (pv 1)) (pa_cons (pe_glob (v := .int 4000) (by rfl) T.c_MOST_SIZE ⟨_, rfl⟩) pa_nil)))))), ?_⟩
    refine q_when (et_not (et_B (ev_call (ea_cons ev_c (ea_cons ev_c (ea_cons (ev_var rfl) ea_nil))) (sv_wf hv)))) (fun hb H1 e1 => ?_) (fun hb H1 e1 => ?_)
    · exact qn (by simpa using hb) H1 e1
    obtain ⟨s, rfl, hs1, hs2⟩ : ∃ s : Nat, v = .int (s : Int) ∧ 1 ≤ s ∧ s ≤ 100 := by
      have hb' : inR 1 100 v = true := by simpa using hb
      cases v with
      | int i =>
        have h2 : (decide (1 ≤ i) && decide (i ≤ 100)) = true := hb'
        rw [Bool.and_eq_true, decide_eq_true_eq, decide_eq_true_eq] at h2
        exact ⟨i.toNat, by rw [Int.toNat_of_nonneg (by omega)], by omega, by omega⟩
      | _ => cases hb'
    have hw := wid_12 hl1 hl2
    refine s_ret (ev_min2 (ev_op (ev_op ev_c (ev_call (ea_cons (ev_var rfl) ea_nil) (sv_widthOf hl1 hl2)) (rv_I (.inl ⟨by decide, by decide⟩))) (ev_var rfl) (rv_I (.inr ⟨by omega, by omega⟩))) ev_c) fun H2 e2 => ?_
    have hle : 3 * wid l * s ≤ 3 * 12 * 100 := Nat.mul_le_mul (Nat.mul_le_mul_left _ hw) hs2
    have e9 : min (3 * (wid l : Int) * (s : Int)) 4000 = ((3 * wid l * s : Nat) : Int) := by
      rw [show (3 * (wid l : Int) * (s : Int)) = ((3 * wid l * s : Nat) : Int) by rw [Int.natCast_mul, Int.natCast_mul]; rfl]
      omega
    rw [e9]
    exact q s rfl hs1 hs2 H2 (e1.trans e2)

theorem sc_law_line : FnScope ["_law_parents_here", "_law_knot", "_law_line_here"] ["_law_parents_here", "_law_knot"] (defScope s_law_line) := ⟨rfl, rfl, rfl, by decide +kernel, rfl, by decide +kernel, by decide +kernel⟩
theorem ok_law_line (T : Txt K mg A) : FnOk P w K mg base CX0 1 A.f_law_line A.d_law_line ["_law_parents_here", "_law_knot"] (spLine K) := by
  refine T.F_law_line.ok sc_law_line (fun vs H Q E h => ?_) (fun cdv A' outer s H vs Q E hr h => ?_)
  · obtain ⟨a, P, k, rfl, _⟩ := h
    rfl
  · obtain ⟨a, P, k, rfl, hS, hg, hk, hl, q⟩ := h
    refine ⟨_, (pss_cons (ps_set (i := 2) sc_law_line.nd rfl (Or.inl rfl) (pe_lst (pa_cons (pv 1) pa_nil))) (pss_cons (ps_while PassesOwn.never (pt_cmpR op_notN (pe_ix ix_list (pv 0) (pe_ix ix_list (pv 2) (pe_un un_neg pe_int) (fun _ _ => rfl)) (fun _ _ => rfl)) pe_non (nomark _)) (pss_one (ps_expr (pe_bm PySem.F.plainAttrs_list PySem.F.slot_list_append PySem.F.type_list_append mt_append (pv 2) (pa_cons (pe_ix ix_list (pv 0) (pe_ix ix_list (pv 2) (pe_un un_neg pe_int) (fun _ _ => rfl)) (fun _ _ => rfl)) pa_nil))))) (pss_one (ps_ret (pv 2))))), ?_⟩
    have hlp := line_len_pos P k
    have hll : (line P k).length ≤ 2 * (P.length + 1) := by
      have h := st_le (P.take k)
      have h3 : (P.take k).length ≤ P.length := by rw [List.length_take]; omega
      show (run (P.take k)).st.length ≤ _
      omega
    refine q_asgL (el_lst (ea_cons (ev_var rfl) ea_nil) (by simp)) fun p H1 np e1 h1 => ?_
    refine q_while (fun (m : Nat) (σ2 : L2.St) (H4 : Hp) => ∃ (j : Nat), j < (line P k).length ∧ m = (line P k).length - j ∧ Ex H H4 ∧ Own H H4 p (((line P k).take (j + 1)).map V.int) ∧ σ2 = [some (.ref a), some (.int (k : Int)), some (.ref p)]) (line P k).length ?_ ?_
    · refine ⟨0, hlp, rfl, e1, ⟨np, ?_⟩, rfl⟩
      rw [h1, take_more (line_head hk)]
      rfl
    · rintro m σ2 H4 ⟨j, hj, rfl, e4, ho, rfl⟩
      have hS4 := ex_l e4 hS
      obtain ⟨v, hv⟩ : ∃ v, (line P k)[j]? = some v := ⟨_, List.getElem?_eq_getElem hj⟩
      obtain ⟨h1, h2, h3⟩ := line_next hg hk hv
      have hlast : atI (((line P k).take (j + 1)).map V.int) (-1) = some (.int v) := by
        rw [take_more hv, List.map_append]
        exact atI_last _ _
      have hat : atI (pV (par P)) v = some (oV ((line P k)[j + 1]?)) := by
        rw [show v = ((v.toNat : Nat) : Int) by omega]
        exact par_at_some h3
      refine ⟨_, (et_test (ev_op (ev_op (ev_var rfl) (ev_op (ev_var rfl) (ev_un ev_c ru_neg) (rv_ixL ho.sq hlast)) (rv_ixL hS4 hat)) ev_c rv_notN)), fun hb H5 e5 => ?_, fun hb H5 e5 => ?_⟩
      · obtain ⟨v2, hv2⟩ : ∃ v2, (line P k)[j + 1]? = some v2 := by
          cases e : (line P k)[j + 1]? with
          | none => rw [e] at hb; cases hb
          | some v2 => exact ⟨v2, rfl⟩
        rw [hv2] at hat
        refine ⟨_, fun σ3 H6 h => h, ?_⟩
        have hj2 := (List.getElem?_eq_some_iff.mp hv2).1
        have ho5 := ho.ex e5
        refine s_app ho5.at_ (ev_var rfl) (ev_op (ev_var rfl) (ev_op (ev_var rfl) (ev_un ev_c ru_neg) (rv_ixL ho5.sq hlast)) (rv_ixL (ex_l e5 hS4) hat)) (by rw [List.length_map, List.length_take]; omega) fun H6 e6 => ?_
        refine ⟨(line P k).length - (j + 1), by omega, j + 1, hj2, rfl, ((e4.trans e5).trans e6).mut np, ?_, rfl⟩
        rw [take_more hv2, List.map_append]
        exact ho5.put
      · have hn : (line P k)[j + 1]? = none := by
          cases e : (line P k)[j + 1]? with
          | none => rfl
          | some v2 => rw [e] at hb; cases hb
        refine s_ret (ev_var rfl) fun H6 e6 => ?_
        have h := e6 _ _ (e5 _ _ ho.at_)
        rw [List.take_of_length_le (List.getElem?_eq_none_iff.mp hn)] at h
        exact q p H6 np ((e4.trans e5).trans e6) h

theorem sc_law_kids : FnScope ["_law_parents_here", "_law_knot", "_law_k"] ["_law_parents_here", "_law_knot"] (defScope s_law_kids) := ⟨rfl, rfl, rfl, by decide +kernel, rfl, by decide +kernel, by decide +kernel⟩
theorem ok_law_kids (T : Txt K mg A) : FnOk P w K mg base CX0 1 A.f_law_kids A.d_law_kids ["_law_parents_here", "_law_knot"] (spKids K) := by
  refine T.F_law_kids.ok sc_law_kids (fun vs H Q E h => ?_) (fun cdv A' outer s H vs Q E hr h => ?_)
  · obtain ⟨a, P, k, rfl, _⟩ := h
    rfl
  · obtain ⟨a, P, k, rfl, hS, hk, hl, q⟩ := h
    refine ⟨_, (pss_one (ps_ret (pe_lc (own := [("_law_k", 2)]) (g := gName 2) rfl sc_law_kids.nd (pi_range1 (by rfl) T.b_range (pa_cons (pe_callB call_len_seq (by rfl) T.b_len PySem.boot_len (pa_cons (pv 0) pa_nil)) pa_nil)) (blkOk_by (N := ["_law_parents_here", "_law_knot", "_law_k"]) (sc := defScope s_law_kids) (by decide +kernel)) (fun _ _ _ _ _ => pg_name (i := 2) sc_law_kids.nd rfl (Or.inl rfl)) (fun _ _ _ _ _ => pts_one (PW.pt (pw_and (pt_cmpR op_eq (pe_ix (show IxR _ (rIxL K) from ix_list) (pv 0) (pv 2) (fun _ _ => rfl)) (pv 1) (nomark _)) (pw_and1 (pt_cmpR op_notN (pe_ix (show IxR _ (rIxL K) from ix_list) (pv 0) (pv 2) (fun _ _ => rfl)) pe_non (nomark _)))))) (fun _ _ _ _ _ => (pv 2))))), ?_⟩
    have hpl : (pV (par P)).length = P.length + 1 := by rw [pV_len, par_len]
    refine s_retL (el_lcR1 (fun i => decide ((par P)[i]? = some (some (k : Int)))) (fun i => V.int (i : Int)) (ea_cons (ev_len (ev_var rfl) hS) ea_nil) (by omega) (fun x => rfl) (fun i H1 e hi => ?_) (fun i H1 e hi _ => (ev_var rfl))) fun p H1 np e1 h1 => ?_
    · obtain ⟨x, hx⟩ : ∃ x, (par P)[i]? = some x := ⟨_, List.getElem?_eq_getElem (by rw [par_len]; omega)⟩
      have hat := par_at_some hx
      have hS1 := ex_l e hS
      rw [hx]
      cases x with
      | none => exact et_is (et_and (et_test (ev_op (ev_op (ev_var rfl) (ev_var rfl) (rv_ixL hS1 hat)) (ev_var rfl) (rv_eq rfl))) (fun hb => (et_test (ev_op (ev_op (ev_var rfl) (ev_var rfl) (rv_ixL hS1 hat)) ev_c rv_notN)))) (by simp [oV])
      | some v => exact et_is (et_and (et_test (ev_op (ev_op (ev_var rfl) (ev_var rfl) (rv_ixL hS1 hat)) (ev_var rfl) (rv_eq rfl))) (fun hb => (et_test (ev_op (ev_op (ev_var rfl) (ev_var rfl) (rv_ixL hS1 hat)) ev_c rv_notN)))) (by simp [oV])
    · refine q p H1 np e1 ?_
      rw [h1, hpl]
      rfl

theorem sc_law_due : FnScope ["_law_way", "_law_parents_here", "_law_walk_here", "_law_one", "_law_other", "_law_line_here", "_law_k"] ["_law_way", "_law_parents_here", "_law_walk_here", "_law_one", "_law_other"] (defScope s_law_due) := ⟨rfl, rfl, rfl, by decide +kernel, rfl, by decide +kernel, by decide +kernel⟩
theorem ok_law_due (T : Txt K mg A) : FnOk P w K mg base CX0 2 A.f_law_due A.d_law_due ["_law_way", "_law_parents_here", "_law_walk_here", "_law_one", "_law_other"] (spDue K) := by
  refine T.F_law_due.ok sc_law_due (fun vs H Q E h => ?_) (fun cdv A' outer s H vs Q E hr h => ?_)
  · obtain ⟨way, a, c, P, k, m, rfl, _⟩ := h
    rfl
  · obtain ⟨way, a, c, P, k, m, rfl, hw, hS, hC, hg, hl, hk, hm, q⟩ := h
    refine ⟨_, (pss_cons (ps_if (pt_cmpR op_eq (pv 0) pe_int (nomark _)) (pss_one (ps_ret (pe_bm PySem.F.plainAttrs_list PySem.F.slot_list_index PySem.F.type_list_index mt_index (pv 2) (pa_cons (pv 3) pa_nil)))) pss_nil) (pss_cons (ps_if (pt_cmpR op_eq (pv 0) pe_int (nomark _)) (pss_one (ps_ret (pe_op op_sub (pe_callB call_len_seq (by rfl) T.b_len PySem.boot_len (pa_cons (pe_call (ok_law_line T) (hr.mono (by decide)) (by rfl) T.g_law_line T.F_law_line.kp T.s_law_line .nil pass0 (pa_cons (pv 1) (pa_cons (pv 3) pa_nil))) pa_nil)) pe_int))) pss_nil) (pss_cons (ps_if (pt_cmpR op_eq (pv 0) pe_int (nomark _)) (pss_one (ps_ret (pe_ix ix_list (pv 2) (pv 3) (fun _ _ => rfl)))) pss_nil) (pss_cons (ps_if (pt_cmpR op_eq (pv 0) pe_int (nomark _)) (pss_one (ps_ret (pe_ix ix_list (pv 1) (pv 3) (fun _ _ => rfl)))) pss_nil) (pss_cons (ps_if (pt_cmpR op_eq (pv 0) pe_int (nomark _)) (pss_one (ps_ret (pe_op op_sub (pe_callB call_len_seq (by rfl) T.b_len PySem.boot_len (pa_cons (pe_lc (own := [("_law_k", 6)]) (g := gName 6) rfl sc_law_due.nd (pi_range1 (by rfl) T.b_range (pa_cons (pe_callB call_len_seq (by rfl) T.b_len PySem.boot_len (pa_cons (pv 1) pa_nil)) pa_nil)) (blkOk_by (N := ["_law_way", "_law_parents_here", "_law_walk_here", "_law_one", "_law_other", "_law_line_here", "_law_k"]) (sc := defScope s_law_due) (by decide +kernel)) (fun _ _ _ _ _ => pg_name (i := 6) sc_law_due.nd rfl (Or.inl rfl)) (fun _ _ _ _ _ => pts_one (pt_cmpR (show OpR _ _ (rIn K false) from op_in_seq) (pv 3) (pe_call (ok_law_line T) (hr.mono (by decide)) (by rfl) T.g_law_line T.F_law_line.kp T.s_law_line .nil pass0 (pa_cons (pv 1) (pa_cons (pv 6) pa_nil))) (by rfl))) (fun _ _ _ _ _ => (pv 6))) pa_nil)) pe_int))) pss_nil) (pss_cons (ps_if (pt_cmpR op_eq (pv 0) pe_int (nomark _)) (pss_one (ps_ret (pe_ix ix_list (pe_op op_cat (pe_lc (own := [("_law_k", 6)]) (g := gName 6) rfl sc_law_due.nd (pi_range2 (by rfl) T.b_range (pa_cons (pe_op op_add (pv 3) pe_int) (pa_cons (pe_callB call_len_seq (by rfl) T.b_len PySem.boot_len (pa_cons (pv 1) pa_nil)) pa_nil))) (blkOk_by (N := ["_law_way", "_law_parents_here", "_law_walk_here", "_law_one", "_law_other", "_law_line_here", "_law_k"]) (sc := defScope s_law_due) (by decide +kernel)) (fun _ _ _ _ _ => pg_name (i := 6) sc_law_due.nd rfl (Or.inl rfl)) (fun _ _ _ _ _ => pts_one (pt_cmpR op_eq (pe_ix (show IxR _ (rIxL K) from ix_list) (pv 1) (pv 6) (fun _ _ => rfl)) (pe_ix (show IxR _ (rIxL K) from ix_list) (pv 1) (pv 3) (fun _ _ => rfl)) (nomark _))) (fun _ _ _ _ _ => (pv 6))) (pe_lst (pa_cons pe_non pa_nil))) pe_int (fun _ _ => rfl)))) pss_nil) (pss_cons (ps_if (pt_cmpR op_eq (pv 0) pe_int (nomark _)) (pss_one (ps_ret (pe_callB call_len_seq (by rfl) T.b_len PySem.boot_len (pa_cons (pe_call (ok_law_kids T) (hr.mono (by decide)) (by rfl) T.g_law_kids T.F_law_kids.kp T.s_law_kids .nil pass0 (pa_cons (pv 1) (pa_cons (pv 3) pa_nil))) pa_nil)))) pss_nil) (pss_cons (ps_if (pt_cmpR op_eq (pv 0) pe_int (nomark _)) (pss_one (ps_ret (pe_ix ix_list (pe_op op_cat (pe_call (ok_law_kids T) (hr.mono (by decide)) (by rfl) T.g_law_kids T.F_law_kids.kp T.s_law_kids .nil pass0 (pa_cons (pv 1) (pa_cons (pv 3) pa_nil))) (pe_op op_rep (pe_lst (pa_cons pe_non pa_nil)) (pe_op op_add (pv 4) pe_int))) (pv 4) (fun _ _ => rfl)))) pss_nil) (pss_cons (ps_set (i := 5) sc_law_due.nd rfl (Or.inr rfl) (pe_call (ok_law_line T) (hr.mono (by decide)) (by rfl) T.g_law_line T.F_law_line.kp T.s_law_line .nil pass0 (pa_cons (pv 1) (pa_cons (pv 4) pa_nil)))) (pss_one (ps_ret (pe_ix ix_list (pe_lc (own := [("_law_k", 6)]) (g := gName 6) rfl sc_law_due.nd (pi_list (pe_call (ok_law_line T) (hr.mono (by decide)) (by rfl) T.g_law_line T.F_law_line.kp T.s_law_line .nil pass0 (pa_cons (pv 1) (pa_cons (pv 3) pa_nil)))) (blkOk_by (N := ["_law_way", "_law_parents_here", "_law_walk_here", "_law_one", "_law_other", "_law_line_here", "_law_k"]) (sc := defScope s_law_due) (by decide +kernel)) (fun _ _ _ _ _ => pg_name (i := 6) sc_law_due.nd rfl (Or.inl rfl)) (fun _ _ _ _ _ => pts_one (pt_cmpR (show OpR _ _ (rIn K false) from op_in_seq) (pv 6) (pv 5) (by rfl))) (fun _ _ _ _ _ => (pv 6))) pe_int (fun _ _ => rfl))))))))))))), ?_⟩
    have hfl : (full P).length = 2 * (P.length + 1) := full_len P
    have hpl : (pV (par P)).length = P.length + 1 := by rw [pV_len, par_len]
    have hcs : way = 0 ∨ way = 1 ∨ way = 2 ∨ way = 3 ∨ way = 4 ∨ way = 5 ∨ way = 6 ∨ way = 7 ∨ way = 8 := by omega
    have hk2 : way ≠ 2 → k ≤ P.length := fun h => by
      unfold topW at hk
      rw [if_neg h] at hk
      omega
    rcases hcs with rfl | rfl | rfl | rfl | rfl | rfl | rfl | rfl | rfl
    · refine q_when (b := true) (et_test (ev_op (ev_var rfl) ev_c (rv_eq rfl))) (fun _ H0 e0 => ?_) (fun hb => nomatch hb)
      have eh := e0
      have hS1 := ex_l eh hS
      have hC1 := ex_l eh hC
      have hkP := hk2 (by decide)
      have hat : (kats (full P) (full P).length)[pl P k]? = some (V.int (k : Int)) := by
        unfold kats
        rw [List.getElem?_map, List.getElem?_range (pl_lt hg hkP), Option.map_some, kat_pl hg hkP]
      refine s_ret (ev_index (ev_var rfl) hC1 (ev_var rfl) rfl ?_ hat (by show ((k : Int) == (k : Int)) = true; exact beq_self_eq_true _) (fun j z hj hz => ?_)) fun H' e' => q H' (eh.trans e')
      · unfold kats
        rw [List.all_map, List.all_eq_true]
        intro j _
        rfl
      · unfold kats at hz
        rw [List.getElem?_map, List.getElem?_range (by have := pl_lt hg hkP; omega), Option.map_some] at hz
        have e9 := (Option.some.inj hz).symm
        subst e9
        have h9 := kat_before hg hkP hj
        show (kat (full P) j == (k : Int)) = false
        rw [beq_eq_false_iff_ne]
        omega
    · refine q_when (b := false) (et_test (ev_op (ev_var rfl) ev_c (rv_eq rfl))) (fun hb => nomatch hb) (fun _ H0 e0 => ?_)
      refine q_when (b := true) (et_test (ev_op (ev_var rfl) ev_c (rv_eq rfl))) (fun _ H1 e1 => ?_) (fun hb => nomatch hb)
      have eh := (e0.trans e1)
      have hS1 := ex_l eh hS
      have hC1 := ex_l eh hC
      have hlp := line_len_pos P k
      refine s_ret (ev_op (ev_lenN (el_call (ea_cons (ev_var rfl) (ea_cons (ev_var rfl) ea_nil)) (sl_line hS1 hg (hk2 (by decide)) (by omega)))) ev_c rv_I0) fun H' e' => ?_
      have z := q H' (eh.trans e')
      rw [List.length_map]
      rw [show ((line P k).length : Int) - 1 = (dep P k : Int) by unfold dep; omega]
      exact z
    · refine q_when (b := false) (et_test (ev_op (ev_var rfl) ev_c (rv_eq rfl))) (fun hb => nomatch hb) (fun _ H0 e0 => ?_)
      refine q_when (b := false) (et_test (ev_op (ev_var rfl) ev_c (rv_eq rfl))) (fun hb => nomatch hb) (fun _ H1 e1 => ?_)
      refine q_when (b := true) (et_test (ev_op (ev_var rfl) ev_c (rv_eq rfl))) (fun _ H2 e2 => ?_) (fun hb => nomatch hb)
      have eh := ((e0.trans e1).trans e2)
      have hS1 := ex_l eh hS
      have hC1 := ex_l eh hC
      exact s_ret (ev_op (ev_var rfl) (ev_var rfl) (rv_ixL hC1 (kats_at (by exact hk)))) fun H' e' => q H' (eh.trans e')
    · refine q_when (b := false) (et_test (ev_op (ev_var rfl) ev_c (rv_eq rfl))) (fun hb => nomatch hb) (fun _ H0 e0 => ?_)
      refine q_when (b := false) (et_test (ev_op (ev_var rfl) ev_c (rv_eq rfl))) (fun hb => nomatch hb) (fun _ H1 e1 => ?_)
      refine q_when (b := false) (et_test (ev_op (ev_var rfl) ev_c (rv_eq rfl))) (fun hb => nomatch hb) (fun _ H2 e2 => ?_)
      refine q_when (b := true) (et_test (ev_op (ev_var rfl) ev_c (rv_eq rfl))) (fun _ H3 e3 => ?_) (fun hb => nomatch hb)
      have eh := (((e0.trans e1).trans e2).trans e3)
      have hS1 := ex_l eh hS
      have hC1 := ex_l eh hC
      obtain ⟨xp, hx⟩ : ∃ x, (par P)[k]? = some x := ⟨_, List.getElem?_eq_getElem (by rw [par_len]; have := hk2 (by decide); omega)⟩
      have hab : aAbove P k = oV xp := by unfold aAbove; rw [hx]; rfl
      have z : ∀ H', Ex H H' → Q (aAbove P k) H' := q
      rw [hab] at z
      exact s_ret (ev_op (ev_var rfl) (ev_var rfl) (rv_ixL hS1 (par_at_some hx))) fun H' e' => z H' (eh.trans e')
    · refine q_when (b := false) (et_test (ev_op (ev_var rfl) ev_c (rv_eq rfl))) (fun hb => nomatch hb) (fun _ H0 e0 => ?_)
      refine q_when (b := false) (et_test (ev_op (ev_var rfl) ev_c (rv_eq rfl))) (fun hb => nomatch hb) (fun _ H1 e1 => ?_)
      refine q_when (b := false) (et_test (ev_op (ev_var rfl) ev_c (rv_eq rfl))) (fun hb => nomatch hb) (fun _ H2 e2 => ?_)
      refine q_when (b := false) (et_test (ev_op (ev_var rfl) ev_c (rv_eq rfl))) (fun hb => nomatch hb) (fun _ H3 e3 => ?_)
      refine q_when (b := true) (et_test (ev_op (ev_var rfl) ev_c (rv_eq rfl))) (fun _ H4 e4 => ?_) (fun hb => nomatch hb)
      have eh := ((((e0.trans e1).trans e2).trans e3).trans e4)
      have hS1 := ex_l eh hS
      have hC1 := ex_l eh hC
      have hkP := hk2 (by decide)
      refine s_ret (ev_op (ev_lenN (el_lcR1 (fun i => decide ((k : Int) ∈ line P i)) (fun i => V.int (i : Int)) (ea_cons (ev_len (ev_var rfl) hS1) ea_nil) (by omega) (fun x => rfl) (fun i H1' e1' hi => ?_) (fun i H1' e1' hi _ => (ev_var rfl)))) ev_c rv_I0) fun H' e' => ?_
      · exact et_is (et_test (ev_opL (ev_var rfl) (el_call (ea_cons (ev_var rfl) (ea_cons (ev_var rfl) ea_nil)) (sl_line (ex_l e1' hS1) hg (by omega) (by omega))) (fun _ _ hp e1 => rv_isL (sq_of hp) rfl (flat_mapI _)))) (inV_mapI _ _)
      · have z := q H' (eh.trans e')
        have hb : (given ((pV (par P)).length : Int).toNat (fun i => decide ((k : Int) ∈ line P i)) (fun i => V.int (i : Int))).length = (benL P k (P.length + 1)).length := by
          rw [given_filt, Int.toNat_natCast, hpl]
          rfl
        have h1 : 1 ≤ (benL P k (P.length + 1)).length := List.length_pos_of_mem (mem_benL.mpr ⟨by omega, line_self hkP⟩)
        rw [hb, show ((benL P k (P.length + 1)).length : Int) - 1 = (ben P k : Int) by unfold ben; omega]
        exact z
    · refine q_when (b := false) (et_test (ev_op (ev_var rfl) ev_c (rv_eq rfl))) (fun hb => nomatch hb) (fun _ H0 e0 => ?_)
      refine q_when (b := false) (et_test (ev_op (ev_var rfl) ev_c (rv_eq rfl))) (fun hb => nomatch hb) (fun _ H1 e1 => ?_)
      refine q_when (b := false) (et_test (ev_op (ev_var rfl) ev_c (rv_eq rfl))) (fun hb => nomatch hb) (fun _ H2 e2 => ?_)
      refine q_when (b := false) (et_test (ev_op (ev_var rfl) ev_c (rv_eq rfl))) (fun hb => nomatch hb) (fun _ H3 e3 => ?_)
      refine q_when (b := false) (et_test (ev_op (ev_var rfl) ev_c (rv_eq rfl))) (fun hb => nomatch hb) (fun _ H4 e4 => ?_)
      refine q_when (b := true) (et_test (ev_op (ev_var rfl) ev_c (rv_eq rfl))) (fun _ H5 e5 => ?_) (fun hb => nomatch hb)
      have eh := (((((e0.trans e1).trans e2).trans e3).trans e4).trans e5)
      have hS1 := ex_l eh hS
      have hC1 := ex_l eh hC
      have hkP := hk2 (by decide)
      obtain ⟨xp, hx⟩ : ∃ x, (par P)[k]? = some x := ⟨_, List.getElem?_eq_getElem (by rw [par_len]; omega)⟩
      have hatk := par_at_some hx
      have hat : atI (given (((pV (par P)).length : Int) - ((k : Int) + 1)).toNat (fun i => decide ((par P)[k + 1 + i]? = (par P)[k]?)) (fun i => V.int ((k : Int) + 1 + (i : Int))) ++ [V.non]) 0 = some (aBeside P k) := by
        have hh := given_head (((pV (par P)).length : Int) - ((k : Int) + 1)).toNat (fun i => decide ((par P)[k + 1 + i]? = (par P)[k]?)) (fun i => V.int ((k : Int) + 1 + (i : Int)))
        generalize given (((pV (par P)).length : Int) - ((k : Int) + 1)).toNat (fun i => decide ((par P)[k + 1 + i]? = (par P)[k]?)) (fun i => V.int ((k : Int) + 1 + (i : Int))) = gl at hh ⊢
        rw [show (((pV (par P)).length : Int) - ((k : Int) + 1)).toNat = P.length - k by omega] at hh
        have hb := bes_shift (P := P) (k := k) _ rfl
        refine atI_nat (j := 0) ?_
        unfold aBeside
        rw [hb]
        cases eo : (List.range (P.length - k)).find? (fun i => decide ((par P)[k + 1 + i]? = (par P)[k]?)) with
        | none =>
          rw [eo] at hh
          cases gl with
          | nil => rfl
          | cons _ _ => cases hh
        | some i =>
          rw [eo] at hh
          cases gl with
          | nil => cases hh
          | cons y r =>
            have hy : y = V.int ((k : Int) + 1 + (i : Int)) := Option.some.inj hh
            rw [hy]
            show some (V.int ((k : Int) + 1 + (i : Int))) = some (V.int ((k + 1 + i : Nat) : Int))
            rw [show (k : Int) + 1 + (i : Int) = ((k + 1 + i : Nat) : Int) by omega]
      refine s_ret (ev_opL1 (el_catLL (el_lcR2 (fun i => decide ((par P)[k + 1 + i]? = (par P)[k]?)) (fun i => V.int ((k : Int) + 1 + (i : Int))) (ea_cons (ev_op (ev_var rfl) ev_c rv_I0) (ea_cons (ev_len (ev_var rfl) hS1) ea_nil)) ⟨by omega, by omega, by omega, by omega⟩ (fun x => rfl) (fun i H1' e1' hi => ?_) (fun i H1' e1' hi _ => (ev_var rfl))) (el_lst (ea_cons ev_c ea_nil) (by simp)) ?_) (fun _ e1' => Ev.mono e1' ev_c) (fun _ _ hp e1' => rv_ixL (sq_of hp) hat)) fun H' e' => q H' (eh.trans e')
      · have hiP : k + 1 + i ≤ P.length := by omega
        have hS2 := ex_l e1' hS1
        obtain ⟨pr, hpr, hpe⟩ := par_lt hg (k := k + 1 + i) (by omega) hiP
        have hat2 : atI (pV (par P)) ((k : Int) + 1 + (i : Int)) = some (.int (pr : Int)) := by
          rw [show (k : Int) + 1 + (i : Int) = ((k + 1 + i : Nat) : Int) by omega]
          exact par_at_some hpe
        rw [hpe, hx]
        cases xp with
        | none => exact et_is (et_test (ev_op (ev_op (ev_var rfl) (ev_var rfl) (rv_ixL hS2 hat2)) (ev_op (ev_var rfl) (ev_var rfl) (rv_ixL hS2 hatk)) (rv_eq rfl))) (by simp [oV])
        | some pv => exact et_is (et_test (ev_op (ev_op (ev_var rfl) (ev_var rfl) (rv_ixL hS2 hat2)) (ev_op (ev_var rfl) (ev_var rfl) (rv_ixL hS2 hatk)) (rv_eq rfl))) (by simp [oV])
      · rw [given_filt]
        have := List.length_filter_le (fun i => decide ((par P)[k + 1 + i]? = (par P)[k]?)) (List.range (((pV (par P)).length : Int) - ((k : Int) + 1)).toNat)
        rw [List.length_range] at this
        show _ + 1 ≤ 100000
        omega
    · refine q_when (b := false) (et_test (ev_op (ev_var rfl) ev_c (rv_eq rfl))) (fun hb => nomatch hb) (fun _ H0 e0 => ?_)
      refine q_when (b := false) (et_test (ev_op (ev_var rfl) ev_c (rv_eq rfl))) (fun hb => nomatch hb) (fun _ H1 e1 => ?_)
      refine q_when (b := false) (et_test (ev_op (ev_var rfl) ev_c (rv_eq rfl))) (fun hb => nomatch hb) (fun _ H2 e2 => ?_)
      refine q_when (b := false) (et_test (ev_op (ev_var rfl) ev_c (rv_eq rfl))) (fun hb => nomatch hb) (fun _ H3 e3 => ?_)
      refine q_when (b := false) (et_test (ev_op (ev_var rfl) ev_c (rv_eq rfl))) (fun hb => nomatch hb) (fun _ H4 e4 => ?_)
      refine q_when (b := false) (et_test (ev_op (ev_var rfl) ev_c (rv_eq rfl))) (fun hb => nomatch hb) (fun _ H5 e5 => ?_)
      refine q_when (b := true) (et_test (ev_op (ev_var rfl) ev_c (rv_eq rfl))) (fun _ H6 e6 => ?_) (fun hb => nomatch hb)
      have eh := ((((((e0.trans e1).trans e2).trans e3).trans e4).trans e5).trans e6)
      have hS1 := ex_l eh hS
      have hC1 := ex_l eh hC
      refine s_ret (ev_lenN (el_call (ea_cons (ev_var rfl) (ea_cons (ev_var rfl) ea_nil)) (sl_kids hS1 (hk2 (by decide)) (by omega)))) fun H' e' => ?_
      rw [nints_len]
      exact q H' (eh.trans e')
    · refine q_when (b := false) (et_test (ev_op (ev_var rfl) ev_c (rv_eq rfl))) (fun hb => nomatch hb) (fun _ H0 e0 => ?_)
      refine q_when (b := false) (et_test (ev_op (ev_var rfl) ev_c (rv_eq rfl))) (fun hb => nomatch hb) (fun _ H1 e1 => ?_)
      refine q_when (b := false) (et_test (ev_op (ev_var rfl) ev_c (rv_eq rfl))) (fun hb => nomatch hb) (fun _ H2 e2 => ?_)
      refine q_when (b := false) (et_test (ev_op (ev_var rfl) ev_c (rv_eq rfl))) (fun hb => nomatch hb) (fun _ H3 e3 => ?_)
      refine q_when (b := false) (et_test (ev_op (ev_var rfl) ev_c (rv_eq rfl))) (fun hb => nomatch hb) (fun _ H4 e4 => ?_)
      refine q_when (b := false) (et_test (ev_op (ev_var rfl) ev_c (rv_eq rfl))) (fun hb => nomatch hb) (fun _ H5 e5 => ?_)
      refine q_when (b := false) (et_test (ev_op (ev_var rfl) ev_c (rv_eq rfl))) (fun hb => nomatch hb) (fun _ H6 e6 => ?_)
      refine q_when (b := true) (et_test (ev_op (ev_var rfl) ev_c (rv_eq rfl))) (fun _ H7 e7 => ?_) (fun hb => nomatch hb)
      have eh := (((((((e0.trans e1).trans e2).trans e3).trans e4).trans e5).trans e6).trans e7)
      have hS1 := ex_l eh hS
      have hC1 := ex_l eh hC
      have hdl := kidsOf_len P k
      have hat : atI (nints (kidsOf P k) ++ List.replicate ((m : Int) + 1).toNat V.non) (m : Int) = some (aKid P k m) := by
        refine atI_nat ?_
        by_cases h : m < (kidsOf P k).length
        · obtain ⟨v, h1, h2⟩ := kid_some h
          rw [h1, List.getElem?_append_left (by rw [nints_len]; exact h)]
          unfold nints
          rw [List.getElem?_map, h2]
          rfl
        · rw [kid_none (by omega), List.getElem?_append_right (by rw [nints_len]; omega), List.getElem?_replicate, if_pos (by omega)]
      refine s_ret (ev_opL1 (el_catLL (el_call (ea_cons (ev_var rfl) (ea_cons (ev_var rfl) ea_nil)) (sl_kids hS1 (hk2 (by decide)) (by omega))) (el_rep (el_lst (ea_cons ev_c ea_nil) (by simp)) (fun _ e1' => (ev_op (ev_var rfl) ev_c rv_I0)) ⟨by omega, by omega⟩) (by rw [nints_len, List.length_replicate]; omega)) (fun _ e1' => (ev_var rfl)) (fun _ _ hp e1' => rv_ixL (sq_of hp) hat)) fun H' e' => q H' (eh.trans e')
    · refine q_when (b := false) (et_test (ev_op (ev_var rfl) ev_c (rv_eq rfl))) (fun hb => nomatch hb) (fun _ H0 e0 => ?_)
      refine q_when (b := false) (et_test (ev_op (ev_var rfl) ev_c (rv_eq rfl))) (fun hb => nomatch hb) (fun _ H1 e1 => ?_)
      refine q_when (b := false) (et_test (ev_op (ev_var rfl) ev_c (rv_eq rfl))) (fun hb => nomatch hb) (fun _ H2 e2 => ?_)
      refine q_when (b := false) (et_test (ev_op (ev_var rfl) ev_c (rv_eq rfl))) (fun hb => nomatch hb) (fun _ H3 e3 => ?_)
      refine q_when (b := false) (et_test (ev_op (ev_var rfl) ev_c (rv_eq rfl))) (fun hb => nomatch hb) (fun _ H4 e4 => ?_)
      refine q_when (b := false) (et_test (ev_op (ev_var rfl) ev_c (rv_eq rfl))) (fun hb => nomatch hb) (fun _ H5 e5 => ?_)
      refine q_when (b := false) (et_test (ev_op (ev_var rfl) ev_c (rv_eq rfl))) (fun hb => nomatch hb) (fun _ H6 e6 => ?_)
      refine q_when (b := false) (et_test (ev_op (ev_var rfl) ev_c (rv_eq rfl))) (fun hb => nomatch hb) (fun _ H7 e7 => ?_)
      have eh := (((((((e0.trans e1).trans e2).trans e3).trans e4).trans e5).trans e6).trans e7)
      have hS1 := ex_l eh hS
      have hC1 := ex_l eh hC
      have hkP := hk2 (by decide)
      refine q_asgL (el_call (ea_cons (ev_var rfl) (ea_cons (ev_var rfl) ea_nil)) (sl_line hS1 hg hm (by omega))) fun pl8 H8 npl8 e8 h8 => ?_
      have hS8 := ex_l e8 hS1
      have hll : (line P k).length ≤ 2 * (P.length + 1) := by
        have h := st_le (P.take k)
        have h3 : (P.take k).length ≤ P.length := by rw [List.length_take]; omega
        show (run (P.take k)).st.length ≤ _
        omega
      have hat : atI (given ((line P k).map V.int).length (fun i => match (line P k)[i]? with | some q => decide (q ∈ line P m) | none => false) (fun i => V.int (match (line P k)[i]? with | some q => q | none => 0))) 0 = some (aElder P k m) := by
        refine atI_nat (j := 0) ?_
        rw [given_head, List.length_map, find_range, eld_some hg]
        rfl
      refine s_ret (ev_opL1 (el_lcNL (fun i => match (line P k)[i]? with | some q => decide (q ∈ line P m) | none => false) (fun i => V.int (match (line P k)[i]? with | some q => q | none => 0)) (el_call (ea_cons (ev_var rfl) (ea_cons (ev_var rfl) ea_nil)) (sl_line hS8 hg hkP (by omega))) (by rw [List.length_map]; omega) (fun x => rfl) (fun i xv H1' e1' hx => ?_) (fun i xv H1' e1' hx _ => ?_)) (fun _ e1' => Ev.mono e1' ev_c) (fun _ _ hp e1' => rv_ixL (sq_of hp) hat)) fun H' e' => q H' ((eh.trans e8).trans e')
      · rw [List.getElem?_map] at hx
        cases e9 : (line P k)[i]? with
        | none => rw [e9] at hx; cases hx
        | some v9 =>
          rw [e9] at hx
          have e10 := (Option.some.inj hx).symm
          subst e10
          exact et_is (et_test (ev_op (ev_var rfl) (ev_var rfl) (rv_isL (sq_of (e1' _ _ h8)) rfl (flat_mapI _)))) (inV_mapI _ _)
      · rw [List.getElem?_map] at hx
        cases e9 : (line P k)[i]? with
        | none => rw [e9] at hx; cases hx
        | some v9 =>
          rw [e9] at hx
          have e10 := (Option.some.inj hx).symm
          subst e10
          exact (ev_var rfl)

theorem sc_look_at_knot : FnScope ["blocks", "knot"] ["blocks", "knot"] (defScope s_look_at_knot) := ⟨rfl, rfl, rfl, by decide +kernel, rfl, by decide +kernel, by decide +kernel⟩
theorem ok_look_at_knot (T : Txt K mg A) : FnOk P w K mg base (L2.CX P w) 3 A.f_look_at_knot A.d_look_at_knot ["blocks", "knot"] (spLook K A.c_Blocks A.c_NoKnot) := by
  refine T.F_look_at_knot.okX sc_look_at_knot (fun vs H Q E h => ?_) (fun cdv A' outer s H vs Q E hr h => ?_)
  · obtain ⟨x, td, z, n, ks, m, v, rfl, _⟩ := h
    rfl
  · obtain ⟨x, td, z, n, ks, m, v, rfl, hB, hz, hm, hk, q, qn⟩ := h
    obtain ⟨⟨dx, pp, h1, h2⟩, h3⟩ := id hB
    refine ⟨_, (pss_one (ps_if (pt_not (pt_val (pe_call (ok_is_whole_from T) (hr.mono (by decide)) (by rfl) T.g_is_whole_from T.F_is_whole_from.kp T.s_is_whole_from .nil pass0 (pa_cons pe_int (pa_cons (pe_op op_sub (pe_op op_fdiv (pe_fld (pv 0) rfl) pe_int) pe_int) (pa_cons (pv 1) pa_nil)))))) (pss_one (ps_raise rfl (takes_of rfl rfl rfl rfl) (pmk_own PySem.F.excBase_ValueError T.x_NoKnot T.g_NoKnot T.k_NoKnot (raises_own T.e_NoKnot T.t_NoKnot) (by exact rfl)))) pss_nil)), ?_⟩
    have hlen : (z.length : Int) / 2 - 1 = (m : Int) - 1 := by omega
    refine s_when (et_not (et_B (ev_call (ea_cons ev_c (ea_cons (ev_op (ev_op (ev_fld (ev_var rfl) h1 T.cl_Blocks T.n_Blocks_length bf_length) ev_c (rv_I ⟨by decide, by decide⟩)) ev_c rv_I0) (ea_cons (ev_var rfl) ea_nil))) (sv_wf hk)))) (fun hb H1 e1 => ?_) (fun hb H1 e1 => ?_)
    · rw [hlen] at hb
      exact qn (by simpa using hb) H1 e1
    · rw [hlen] at hb
      obtain ⟨j, rfl, hj⟩ : ∃ j : Nat, v = .int (j : Int) ∧ j < m := by
        have hb' : inR 0 ((m : Int) - 1) v = true := by simpa using hb
        cases v with
        | int i =>
          have h2 : (decide (0 ≤ i) && decide (i ≤ (m : Int) - 1)) = true := hb'
          rw [Bool.and_eq_true, decide_eq_true_eq, decide_eq_true_eq] at h2
          exact ⟨i.toNat, by rw [Int.toNat_of_nonneg (by omega)], by omega⟩
        | _ => cases hb'
      exact q j rfl hj H1 e1

theorem sc_knots_ahead : FnScope ["place", "height"] ["place", "height"] (defScope s_knots_ahead) := ⟨rfl, rfl, rfl, by decide +kernel, rfl, by decide +kernel, by decide +kernel⟩
theorem ok_knots_ahead (T : Txt K mg A) : FnOk P w K mg base CX0 1 A.f_knots_ahead A.d_knots_ahead ["place", "height"] spAhead := by
  refine T.F_knots_ahead.ok sc_knots_ahead (fun vs H Q E h => ?_) (fun cdv A' outer s H vs Q E hr h => ?_)
  · obtain ⟨a, h, rfl, _⟩ := h
    rfl
  · obtain ⟨a, h, rfl, q⟩ := h
    refine ⟨_, (pss_one (ps_ret (pe_op op_fdiv (pe_op op_add (pv 0) (pv 1)) pe_int))), ?_⟩
    exact s_ret (ev_op (ev_op (ev_var rfl) (ev_var rfl) rv_I0) ev_c (rv_I ⟨by decide, by decide⟩)) fun H1 e1 => q H1 e1

theorem sc_heights_in : FnScope ["book", "blocks", "number"] ["book", "blocks", "number"] (defScope s_heights_in) := ⟨rfl, rfl, rfl, by decide +kernel, rfl, by decide +kernel, by decide +kernel⟩
theorem ok_heights_in (T : Txt K mg A) : FnOk P w K mg base CX0 4 A.f_heights_in A.d_heights_in ["book", "blocks", "number"] (spHin A.c_Blocks) := by
  refine T.F_heights_in.ok sc_heights_in (fun vs H Q E h => ?_) (fun cdv A' outer s H vs Q E hr h => ?_)
  · obtain ⟨b, x, td, qs, P, z, n, ks, j, rfl, _⟩ := h
    rfl
  · obtain ⟨b, x, td, qs, P, z, n, ks, j, rfl, hG, hj, hc, q⟩ := h
    refine ⟨_, (pss_one (ps_ret (pe_call (ok_heights_along T) (hr.mono (by decide)) (by rfl) T.g_heights_along T.F_heights_along.kp T.s_heights_along .nil pass0 (pa_cons (pe_ix ix_tup (pe_ix ix_list (pv 0) (pv 2) (fun _ _ => rfl)) pe_int (fun _ _ => rfl)) (pa_cons (pe_meth (pv 1) T.cl_Blocks T.m_Blocks_part (ok_Blocks_part T) (hr.mono (by decide)) T.s_Blocks_part .nil passL (pa_cons (pv 2) pa_nil)) pa_nil))))), ?_⟩
    have hn1 := hG.n1
    obtain ⟨hfl, hzl, hz2⟩ := hG.fl
    obtain ⟨⟨dx, pp, h1, h2⟩, h3⟩ := id hG.bk
    have hjc : j < cnt z.length n := (cnt_iff hn1).mpr (by rw [hG.zl]; exact hj)
    obtain ⟨r, hr0⟩ : ∃ r, qs[j]? = some r := ⟨_, List.getElem?_eq_getElem (by rw [hG.bok.ln, ← hG.zl]; exact hjc)⟩
    have hrow := hG.bok.rw_ j r hr0
    have hat : atI (qs.map V.ref) (j : Int) = some (.ref r) := atI_nat (by rw [List.getElem?_map, hr0]; rfl)
    refine s_retX (e_callX (e_cons (ev_op (ev_op (ev_var rfl) (ev_var rfl) (rv_ixL (sq_of hG.bok.ls) hat)) ev_c (rv_ixT (st_of hrow) (rfl))) fun H1 e1 => e_consX (e_methC (ev_var rfl) (e1 _ _ h1) (bf_no (by decide +kernel) (by decide +kernel) (by decide +kernel) (by decide +kernel)) (ea_cons (ev_var rfl) ea_nil) fun H2 e2 => ?_)))
    refine part_at (hG.bk.ex (e1.trans e2)) hn1 (by omega) (by omega) hG.kl hjc fun H3 k3 hB3 => e_nil ?_
    rw [hc, cut_txt]
    refine ⟨_, _, rfl, ?_, fun p H4 np e4 h4 => ?_⟩
    · rw [List.length_take, List.length_drop]
      omega
    rw [along_hsg (Nat.le_of_lt hj)] at h4
    exact q p H4 (fresh_back (e1.trans e2) (k3.fresh hB3.dc np)) ((k3.back (e1.trans e2)).trans (Kept.of e4)) (hB3.ex e4) h4

theorem sc_block_back : FnScope ["book", "number", "height"] ["book", "number", "height"] (defScope s_block_back) := ⟨rfl, rfl, rfl, by decide +kernel, rfl, by decide +kernel, by decide +kernel⟩
theorem ok_block_back (T : Txt K mg A) : FnOk P w K mg base CX0 1 A.f_block_back A.d_block_back ["book", "number", "height"] spBlkBack := by
  refine T.F_block_back.ok sc_block_back (fun vs H Q E h => ?_) (fun cdv A' outer s H vs Q E hr h => ?_)
  · obtain ⟨b, qs, L, n, p, bb, v, rfl, _⟩ := h
    rfl
  · obtain ⟨b, qs, L, n, p, bb, v, rfl, hB, hn1, hL, hp, hI, hne, q⟩ := h
    refine ⟨_, (pss_cons (ps_aug (i := 1) sc_block_back.nd rfl (Or.inl rfl) pe_int ip_sub) (pss_cons (ps_while PassesOwn.never (pt_cmpR op_gt (pe_callB (call_min2 rfl) (by rfl) T.b_min (by decide +kernel) (pa_cons (pe_ix ix_tup (pe_ix ix_list (pv 0) (pv 1) (fun _ _ => rfl)) pe_int (fun _ _ => rfl)) (pa_cons (pe_ix ix_tup (pe_ix ix_list (pv 0) (pv 1) (fun _ _ => rfl)) pe_int (fun _ _ => rfl)) pa_nil))) (pv 2) (nomark _)) (pss_one (ps_aug (i := 1) sc_block_back.nd rfl (Or.inl rfl) pe_int ip_sub))) (pss_one (ps_ret (pv 1))))), ?_⟩
    have hle : bb / n ≤ p / n := Nat.div_le_div_right hI.1
    have hpb := div_blk (n := n) hp
    have hz1 := Nat.zero_le (bb / n)
    have hz2 := Nat.zero_le (p / n)
    refine q_aug rfl ev_c fun H1 e1 => ?_
    refine q_while (fun (m : Nat) (σ' : L2.St) (H' : Hp) => ∃ (j : Nat), σ' = [some (.ref b), some (.int (j : Int)), some (.int v)] ∧ Ex H H' ∧ bb / n ≤ j ∧ j < p / n ∧ m = j - bb / n) (p / n - 1 - bb / n) ?_ ?_
    · refine ⟨p / n - 1, ?_, e1, by omega, by omega, rfl⟩
      show [_, some (V.int (((p / n : Nat) : Int) - 1)), _] = _
      rw [show ((p / n : Nat) : Int) - 1 = ((p / n - 1 : Nat) : Int) by omega]
    · rintro m σ' H2 ⟨j, rfl, e2, h1, h2, h3⟩
      have hjn : j * n ≤ p / n * n := Nat.mul_le_mul_right _ (by omega)
      obtain ⟨r, hat, hrow⟩ := hB.at_ (j := j) hn1 (by omega)
      refine ⟨decide (min (ht L (j * n)) (lmin (seg L n j)) > v), (et_test (ev_op (ev_min2 (ev_op (ev_op (ev_var rfl) (ev_var rfl) (rv_ixL (sq_of (e2 _ _ hB.ls)) hat)) ev_c (rv_ixT (st_of (e2 _ _ hrow)) rfl)) (ev_op (ev_op (ev_var rfl) (ev_var rfl) (rv_ixL (sq_of (e2 _ _ hB.ls)) hat)) ev_c (rv_ixT (st_of (e2 _ _ hrow)) rfl))) (ev_var rfl) rv_I0)), fun hb H3 e3 => ?_, fun hb H3 e3 => ?_⟩
      · have hb' := of_decide_eq_true hb
        have hj : bb / n ≠ j := fun z => by
          have := bk_hit hn1 hp hI
          rw [z] at this
          omega
        refine ⟨fun σ2 H2 => ∃ m' < m, ∃ (j : Nat), σ2 = [some (.ref b), some (.int (j : Int)), some (.int v)] ∧ Ex H H2 ∧ bb / n ≤ j ∧ j < p / n ∧ m' = j - bb / n, fun σ2 H2 h => h, ?_⟩
        refine s_aug rfl ev_c fun H4 e4 => ⟨j - 1 - bb / n, by omega, j - 1, ?_, (e2.trans e3).trans e4, by omega, by omega, rfl⟩
        show [_, some (V.int ((j : Int) - 1)), _] = _
        rw [show (j : Int) - 1 = ((j - 1 : Nat) : Int) by omega]
      · have hb' := of_decide_eq_false hb
        have hj : bb / n = j := by
          by_cases c : bb / n = j
          · exact c
          · exact absurd (Int.not_lt.mp hb') (bk_over hn1 hp hI (m := j) (by omega) h2)
        refine s_ret (ev_var rfl) fun H4 e4 => ?_
        rw [← hj]
        exact q H4 ((e2.trans e3).trans e4)

theorem sc_knot_back : FnScope ["book", "blocks", "place", "height", "number", "at", "heights", "step"] ["book", "blocks", "place", "height"] (defScope s_knot_back) := ⟨rfl, rfl, rfl, by decide +kernel, rfl, by decide +kernel, by decide +kernel⟩
theorem ok_knot_back (T : Txt K mg A) : FnOk P w K mg base CX0 6 A.f_knot_back A.d_knot_back ["book", "blocks", "place", "height"] (spBack A.c_Blocks) := by
  refine T.F_knot_back.ok sc_knot_back (fun vs H Q E h => ?_) (fun cdv A' outer s H vs Q E hr h => ?_)
  · obtain ⟨b, x, td, qs, P, z, n, ks, p, bb, v, rfl, _⟩ := h
    rfl
  · obtain ⟨b, x, td, qs, P, z, n, ks, p, bb, v, rfl, hG, hp, hI, hS, q⟩ := h
    refine ⟨_, (pss_cons (ps_asg (pe_callB call_divmod (by rfl) T.b_divmod (by decide +kernel) (pa_cons (pv 2) (pa_cons (pe_fld (pv 1) rfl) pa_nil))) (pg_tup rfl (pgs_cons (pg_name (i := 4) sc_knot_back.nd rfl (Or.inl rfl)) (pgs_cons (pg_name (i := 5) sc_knot_back.nd rfl (Or.inl rfl)) pgs_nil)))) (pss_cons (ps_set (i := 6) sc_knot_back.nd rfl (Or.inl rfl) (pe_slice sl_list (pe_call (ok_heights_in T) (hr.mono (by decide)) (by rfl) T.g_heights_in T.F_heights_in.kp T.s_heights_in .nil pass0 (pa_cons (pv 0) (pa_cons (pv 1) (pa_cons (pv 4) pa_nil)))) po_none (po_some (pe_op op_add (pv 5) pe_int)))) (pss_cut (ps_if (pt_cmpR op_notIn_seq (pv 3) (pv 6) (by rfl)) (pss_cons (ps_set (i := 4) sc_knot_back.nd rfl (Or.inl rfl) (pe_call (ok_block_back T) (hr.mono (by decide)) (by rfl) T.g_block_back T.F_block_back.kp T.s_block_back .nil pass0 (pa_cons (pv 0) (pa_cons (pv 4) (pa_cons (pv 3) pa_nil))))) (pss_one (ps_set (i := 6) sc_knot_back.nd rfl (Or.inl rfl) (pe_call (ok_heights_in T) (hr.mono (by decide)) (by rfl) T.g_heights_in T.F_heights_in.kp T.s_heights_in .nil pass0 (pa_cons (pv 0) (pa_cons (pv 1) (pa_cons (pv 4) pa_nil))))))) pss_nil) (pss_cons (ps_set (i := 7) sc_knot_back.nd rfl (Or.inl rfl) (pe_op op_sub (pe_op op_sub (pe_callB call_len_seq (by rfl) T.b_len PySem.boot_len (pa_cons (pv 6) pa_nil)) pe_int) (pe_bm PySem.F.plainAttrs_list PySem.F.slot_list_index PySem.F.type_list_index mt_index (pe_revL (pv 6)) (pa_cons (pv 3) pa_nil)))) (pss_one (ps_ret (pe_call (ok_knots_ahead T) (hr.mono (by decide)) (by rfl) T.g_knots_ahead T.F_knots_ahead.kp T.s_knots_ahead .nil pass0 (pa_cons (pe_op op_add (pe_op op_mul (pv 4) (pe_fld (pv 1) rfl)) (pv 7)) (pa_cons (pv 3) pa_nil))))))))), ?_⟩
    have hn1 := hG.n1
    have hn2 := hG.n2
    obtain ⟨hfl, hzl, hz2⟩ := hG.fl
    obtain ⟨⟨dx, pp, h1, h2⟩, h3⟩ := id hG.bk
    have hple := hG.le
    have hmp := Nat.mod_lt p (show n > 0 by omega)
    have hkl := hG.kl
    have hdb := div_at bb n
    have hin := bk_in hn1 hp hI
    have hbp := div_blk (n := n) (Nat.lt_of_le_of_lt hI.1 hp)
    refine q_divmod (ea_cons (ev_var rfl) (ea_cons (ev_fld (ev_var rfl) h1 T.cl_Blocks T.n_Blocks_size bf_size) ea_nil)) hn1 hn2 fun H1 e1 => ?_
    refine q_asgX (e_slC (ea_cons (ev_var rfl) (ea_cons (ev_var rfl) (ea_cons (ev_var rfl) ea_nil))) fun H2 e2 => ⟨b, x, td, qs, P, z, n, ks, p / n, rfl, (hG.ex (e1.trans e2)).up (by omega), div_blk hp, hS _ List.mem_cons_self, fun p3 H3 np3 k3 hB3 h3' => ?_⟩)
    refine sl_at (sq_of h3') eo_none (eo_some (ev_op (ev_var rfl) ev_c rv_I0)) fun hp4 H4 np4 e4 h4 => ?_
    rw [cutV_take (m := p % n + 1) _ (show ((p % n : Nat) : Int) + 1 = ((p % n + 1 : Nat) : Int) by omega), hsg, hcut_take (by omega)] at h4
    have k04 := (k3.back (e1.trans e2)).trans (Kept.of e4)
    have hB4 := hB3.ex e4
    have hl1 := addK_len ks (p / n)
    have hG4 := hG.step k04 hB4 (m' := 8991) (by omega)
    refine q_cut (M := fun (σ' : L2.St) (H' : Hp) => ∃ (hq : Addr) (ns : List Int) (i : Nat) (y5 : Option V), σ' = [some (.ref b), some (.ref x), some (.int (p : Int)), some (.int v), some (.int ((bb / n : Nat) : Int)), y5, some (.ref hq), none] ∧ Kept td H H' ∧ Bk A.c_Blocks H' x td z n (asks ks [p / n, bb / n]) ∧ H' hq = some (.lst (ns.map V.int)) ∧ ns[i]? = some v ∧ (∀ j, i < j → ns[j]? ≠ some v) ∧ bb / n * n + i = bb) ?_ ?_
    · refine s_when (et_test (ev_op (ev_var rfl) (ev_var rfl) (rv_niL (sq_of h4) rfl (flat_mapI _)))) (fun hb H5 e5 => ?_) (fun hb H5 e5 => ?_)
      · rw [inV_mapI] at hb
        have hv : v ∉ hcut (full P) (p / n * n) (p % n + 1) := by simpa using hb
        have hne : bb / n ≠ p / n := fun z => hv (List.mem_of_getElem? (hin.1 z).1)
        have hG5 := hG4.ex e5
        refine q_asg (ev_call (ea_cons (ev_var rfl) (ea_cons (ev_var rfl) (ea_cons (ev_var rfl) ea_nil))) (sv_blkBack hG5.bok hn1 (by omega) hp hI hne)) fun H6 e6 => ?_
        refine s_asgC (ea_cons (ev_var rfl) (ea_cons (ev_var rfl) (ea_cons (ev_var rfl) ea_nil))) fun H7 e7 => ⟨b, x, td, qs, P, z, n, addK ks (p / n), bb / n, rfl, (hG5.ex (e6.trans e7)).up (by omega), hbp, hS _ (List.mem_cons_of_mem _ List.mem_cons_self), fun p8 H8 np8 k8 hB8 h8 => ?_⟩
        obtain ⟨t1, t2⟩ := bk_there hn1 hp hI hne
        exact ⟨p8, _, bb % n, _, rfl, k04.trans (k8.back (e5.trans (e6.trans e7))), hB8, h8, t1, t2, hdb⟩
      · rw [inV_mapI] at hb
        have hv : v ∈ hcut (full P) (p / n * n) (p % n + 1) := by simpa using hb
        have heq : bb / n = p / n := by
          by_cases c : bb / n = p / n
          · exact c
          · exact absurd hv (hin.2 c)
        obtain ⟨t1, t2⟩ := hin.1 heq
        refine ⟨hp4, _, bb % n, some (.int ((p % n : Nat) : Int)), ?_, k04.trans (Kept.of e5), ?_, e5 _ _ h4, t1, t2, hdb⟩
        · rw [heq]
          rfl
        · rw [heq]
          show Bk _ _ _ _ _ _ (addK (addK ks (p / n)) (p / n))
          rw [addK_again]
          exact hB4.ex e5
    · rintro σ' H5 ⟨hq, ns, i, y5, rfl, k5, hB5, h5, t1, t2, t3⟩
      have hni := (List.getElem?_eq_some_iff.mp t1).1
      obtain ⟨r1, r2⟩ := rev_at t1 t2
      obtain ⟨⟨dx5, pp5, g1, g2⟩, g3⟩ := id hB5
      refine q_asg (ev_op (ev_op (ev_len (ev_var rfl) (sq_of h5)) ev_c rv_I0) (ev_indexN (el_revI (ev_var rfl) (sq_of h5)) (fun _ e1 => Ev.mono e1 (ev_var rfl)) r1 r2) rv_I0) fun H6 e6 => ?_
      have hst : ((ns.map V.int).length : Int) - 1 - ((ns.length - 1 - i : Nat) : Int) = (i : Int) := by
        rw [List.length_map]
        omega
      rw [hst]
      refine s_ret (ev_call (ea_cons (ev_op (ev_op (ev_var rfl) (ev_fld (ev_var rfl) (e6 _ _ g1) T.cl_Blocks T.n_Blocks_size bf_size) (rv_I (.inr ⟨by omega, by omega⟩))) (ev_var rfl) rv_I0) (ea_cons (ev_var rfl) ea_nil)) sv_ahead) fun H7 e7 => ?_
      have hlast : (((bb / n : Nat) : Int) * (n : Int) + (i : Int) + v) / 2 = (ones (full P) bb : Int) := by
        have hm : ((bb / n : Nat) : Int) * (n : Int) = ((bb / n * n : Nat) : Int) := by rw [Int.natCast_mul]
        have ha := ahead_ones (L := full P) (j := bb) (by have := hI.1; omega)
        rw [hI.2.1] at ha
        rw [hm, ← ha]
        congr 2
        omega
      rw [hlast]
      exact q H7 (k5.trans (Kept.of (e6.trans e7))) (hB5.ex (e6.trans e7))

theorem sc_block_of_knot : FnScope ["book", "size", "knot", "low", "high", "middle"] ["book", "size", "knot"] (defScope s_block_of_knot) := ⟨rfl, rfl, rfl, by decide +kernel, rfl, by decide +kernel, by decide +kernel⟩
theorem ok_block_of_knot (T : Txt K mg A) : FnOk P w K mg base CX0 2 A.f_block_of_knot A.d_block_of_knot ["book", "size", "knot"] spBlk := by
  refine T.F_block_of_knot.ok sc_block_of_knot (fun vs H Q E h => ?_) (fun cdv A' outer s H vs Q E hr h => ?_)
  · obtain ⟨b, qs, P, n, k, rfl, _⟩ := h
    rfl
  · obtain ⟨b, qs, P, n, k, rfl, hB, hg, hl, hn1, hn2, hk, q⟩ := h
    refine ⟨_, (pss_cons (ps_set (i := 3) sc_block_of_knot.nd rfl (Or.inl rfl) pe_int) (pss_cons (ps_set (i := 4) sc_block_of_knot.nd rfl (Or.inl rfl) (pe_callB call_len_seq (by rfl) T.b_len PySem.boot_len (pa_cons (pv 0) pa_nil))) (pss_cons (ps_while PassesOwn.never (pt_cmpR op_gt (pe_op op_sub (pv 4) (pv 3)) pe_int (nomark _)) (pss_cons (ps_set (i := 5) sc_block_of_knot.nd rfl (Or.inl rfl) (pe_op op_fdiv (pe_op op_add (pv 3) (pv 4)) pe_int)) (pss_one (ps_if (pt_cmpR op_gt (pe_call (ok_knots_ahead T) (hr.mono (by decide)) (by rfl) T.g_knots_ahead T.F_knots_ahead.kp T.s_knots_ahead .nil pass0 (pa_cons (pe_op op_mul (pv 5) (pv 1)) (pa_cons (pe_ix ix_tup (pe_ix ix_list (pv 0) (pv 5) (fun _ _ => rfl)) pe_int (fun _ _ => rfl)) pa_nil))) (pv 2) (nomark _)) (pss_one (ps_set (i := 4) sc_block_of_knot.nd rfl (Or.inl rfl) (pv 5))) (pss_one (ps_set (i := 3) sc_block_of_knot.nd rfl (Or.inl rfl) (pv 5))))))) (pss_one (ps_ret (pv 3)))))), ?_⟩
    have hfl := full_len P
    have hcl : cnt (full P).length n ≤ (full P).length := cnt_le _ _ hn1
    have hcp := cnt_pos (full P).length n (by omega) hn1
    have hco := cnt_over (l := (full P).length) hn1
    have hqs : (qs.map V.ref).length = cnt (full P).length n := by rw [List.length_map, hB.ln]
    refine q_asg ev_c fun H1 e1 => ?_
    refine q_asg (ev_len (ev_var rfl) (sq_of (e1 _ _ hB.ls))) fun H2 e2 => ?_
    rw [hqs]
    have e02 := e1.trans e2
    refine q_while (fun (m : Nat) (σ' : L2.St) (H' : Hp) => ∃ (lo hi : Nat) (y : Option V), σ' = [some (.ref b), some (.int (n : Int)), some (.int (k : Int)), some (.int (lo : Int)), some (.int (hi : Int)), y] ∧ Ex H H' ∧ lo < hi ∧ hi ≤ cnt (full P).length n ∧ m = hi - lo ∧ ones (full P) (lo * n) ≤ k ∧ (hi = cnt (full P).length n ∨ k < ones (full P) (hi * n))) (cnt (full P).length n) ?_ ?_
    · exact ⟨0, cnt (full P).length n, none, rfl, e02, hcp, Nat.le_refl _, by omega, by rw [Nat.zero_mul, ones_0]; omega, .inl rfl⟩
    · rintro m σ' H3 ⟨lo, hi, y, rfl, e3, h1, h2, h3, h4, h5⟩
      refine ⟨decide ((hi : Int) - (lo : Int) > 1), (et_test (ev_op (ev_op (ev_var rfl) (ev_var rfl) rv_I0) ev_c rv_I0)), fun hb H4 e4 => ?_, fun hb H4 e4 => ?_⟩
      · have hb' := of_decide_eq_true hb
        have hm : ((lo : Int) + (hi : Int)) / 2 = (((lo + hi) / 2 : Nat) : Int) := by omega
        have hml : (lo + hi) / 2 < cnt (full P).length n := by omega
        obtain ⟨r, hat, hrow⟩ := hB.at_ (j := (lo + hi) / 2) hn1 ((cnt_iff hn1).mp hml)
        refine ⟨fun σ2 H2 => ∃ m' < m, ∃ (lo hi : Nat) (y : Option V), σ2 = [some (.ref b), some (.int (n : Int)), some (.int (k : Int)), some (.int (lo : Int)), some (.int (hi : Int)), y] ∧ Ex H H2 ∧ lo < hi ∧ hi ≤ cnt (full P).length n ∧ m' = hi - lo ∧ ones (full P) (lo * n) ≤ k ∧ (hi = cnt (full P).length n ∨ k < ones (full P) (hi * n)), fun σ2 H2 h => h, ?_⟩
        refine q_asg (ev_op (ev_op (ev_var rfl) (ev_var rfl) rv_I0) ev_c (rv_I ⟨by decide, by decide⟩)) fun H5 e5 => ?_
        rw [hm]
        have e05 := (e3.trans e4).trans e5
        have hlt := (cnt_iff hn1).mp hml
        have hmn : (((lo + hi) / 2 : Nat) : Int) * (n : Int) = (((lo + hi) / 2 * n : Nat) : Int) := by rw [Int.natCast_mul]
        have hao := ahead_ones (L := full P) (j := (lo + hi) / 2 * n) (by omega)
        refine s_if (b := decide ((ones (full P) ((lo + hi) / 2 * n) : Int) > (k : Int))) (et_is (et_test (ev_op (ev_call (ea_cons (ev_op (ev_var rfl) (ev_var rfl) (rv_I (.inr ⟨by omega, by omega⟩))) (ea_cons (ev_op (ev_op (ev_var rfl) (ev_var rfl) (rv_ixL (sq_of (e05 _ _ hB.ls)) hat)) ev_c (rv_ixT (st_of (e05 _ _ hrow)) rfl)) ea_nil)) sv_ahead) (ev_var rfl) rv_I0)) ?_) (fun hc H6 e6 => ?_) (fun hc H6 e6 => ?_)
        · rw [hmn, hao]
        · have hc' := of_decide_eq_true hc
          exact s_asg (ev_var rfl) fun H7 e7 => ⟨(lo + hi) / 2 - lo, by omega, lo, (lo + hi) / 2, _, rfl, (e05.trans e6).trans e7, by omega, by omega, rfl, h4, .inr (by omega)⟩
        · have hc' := of_decide_eq_false hc
          exact s_asg (ev_var rfl) fun H7 e7 => ⟨hi - (lo + hi) / 2, by omega, (lo + hi) / 2, hi, _, rfl, (e05.trans e6).trans e7, by omega, h2, rfl, by omega, h5⟩
      · have hb' := of_decide_eq_false hb
        have hhi : hi = lo + 1 := by omega
        refine s_ret (ev_var rfl) fun H5 e5 => ?_
        have hd := blk_of hg hk hn1 h4 (h5.elim (fun z => .inl (by rw [← Nat.succ_mul]; show _ ≤ (lo + 1) * n; rw [← hhi, z]; exact hco)) (fun z => .inr (by rw [← Nat.succ_mul]; show k < ones (full P) ((lo + 1) * n); rw [← hhi]; exact z)))
        rw [← hd]
        exact q H5 ((e3.trans e4).trans e5)

theorem sc_spot_of : FnScope ["book", "blocks", "knot", "number", "first", "text", "at", "_", "place"] ["book", "blocks", "knot"] (defScope s_spot_of) := ⟨rfl, rfl, rfl, by decide +kernel, rfl, by decide +kernel, by decide +kernel⟩
theorem ok_spot_of (T : Txt K mg A) : FnOk P w K mg base CX0 5 A.f_spot_of A.d_spot_of ["book", "blocks", "knot"] (spSpot A.c_Blocks) := by
  refine T.F_spot_of.ok sc_spot_of (fun vs H Q E h => ?_) (fun cdv A' outer s H vs Q E hr h => ?_)
  · obtain ⟨b, x, td, qs, P, z, n, ks, k, rfl, _⟩ := h
    rfl
  · obtain ⟨b, x, td, qs, P, z, n, ks, k, rfl, hG, hk, hc, q⟩ := h
    refine ⟨_, (pss_cons (ps_set (i := 3) sc_spot_of.nd rfl (Or.inl rfl) (pe_call (ok_block_of_knot T) (hr.mono (by decide)) (by rfl) T.g_block_of_knot T.F_block_of_knot.kp T.s_block_of_knot .nil pass0 (pa_cons (pv 0) (pa_cons (pe_fld (pv 1) rfl) (pa_cons (pv 2) pa_nil))))) (pss_cons (ps_set (i := 4) sc_spot_of.nd rfl (Or.inl rfl) (pe_op op_mul (pv 3) (pe_fld (pv 1) rfl))) (pss_cons (ps_set (i := 5) sc_spot_of.nd rfl (Or.inl rfl) (pe_meth (pv 1) T.cl_Blocks T.m_Blocks_part (ok_Blocks_part T) (hr.mono (by decide)) T.s_Blocks_part .nil passL (pa_cons (pv 3) pa_nil))) (pss_cons (ps_set (i := 6) sc_spot_of.nd rfl (Or.inl rfl) (pe_bm PySem.F.plainAttrs_str PySem.F.slot_str_find PySem.F.type_str_find mt_find (pv 5) (pa_cons pe_str pa_nil))) (pss_cons (ps_for PassesOwn.never rfl (pi_range1 (by rfl) T.b_range (pa_cons (pe_op op_sub (pv 2) (pe_call (ok_knots_ahead T) (hr.mono (by decide)) (by rfl) T.g_knots_ahead T.F_knots_ahead.kp T.s_knots_ahead .nil pass0 (pa_cons (pv 4) (pa_cons (pe_ix ix_tup (pe_ix ix_list (pv 0) (pv 3) (fun _ _ => rfl)) pe_int (fun _ _ => rfl)) pa_nil)))) pa_nil)) (pg_name (i := 7) sc_spot_of.nd rfl (Or.inl rfl)) (pss_one (ps_set (i := 6) sc_spot_of.nd rfl (Or.inl rfl) (pe_bm PySem.F.plainAttrs_str PySem.F.slot_str_find PySem.F.type_str_find mt_find3 (pv 5) (pa_cons pe_str (pa_cons (pe_op op_add (pv 6) pe_int) pa_nil)))))) (pss_cons (ps_set (i := 8) sc_spot_of.nd rfl (Or.inl rfl) (pe_op op_add (pv 4) (pv 6))) (pss_one (ps_ret (pe_tup (pa_cons (pv 8) (pa_cons (pe_op op_sub (pe_op op_mul pe_int (pv 2)) (pv 8)) pa_nil))))))))))), ?_⟩
    have hn1 := hG.n1
    have hn2 := hG.n2
    have hg := hG.gd
    obtain ⟨hfl, hzl, hz2⟩ := hG.fl
    obtain ⟨⟨dx, pp, h1, h2⟩, h3⟩ := id hG.bk
    have hpl := pl_lt hg hk
    have hjc : pl P k / n < cnt z.length n := (cnt_iff hn1).mpr (by rw [hG.zl]; exact div_blk hpl)
    have hple := hG.le
    refine q_asg (ev_call (ea_cons (ev_var rfl) (ea_cons (ev_fld (ev_var rfl) h1 T.cl_Blocks T.n_Blocks_size bf_size) (ea_cons (ev_var rfl) ea_nil))) (sv_blk hG.bok hg hG.le hn1 hn2 hk)) fun H1 e1 => ?_
    refine q_asg (ev_op (ev_var rfl) (ev_fld (ev_var rfl) (e1 _ _ h1) T.cl_Blocks T.n_Blocks_size bf_size) (rv_I (.inr ⟨by omega, by omega⟩))) fun H2 e2 => ?_
    have e02 := e1.trans e2
    have hfst : ((pl P k / n : Nat) : Int) * (n : Int) = ((pl P k / n * n : Nat) : Int) := by rw [Int.natCast_mul]
    rw [hfst]
    refine q_asgX (e_methC (ev_var rfl) (e02 _ _ h1) (bf_no (by decide +kernel) (by decide +kernel) (by decide +kernel) (by decide +kernel)) (ea_cons (ev_var rfl) ea_nil) fun H3 e3 => ?_)
    refine part_at (hG.bk.ex (e02.trans e3)) hn1 (by omega) (by omega) hG.kl hjc fun H4 k4 hB4 => ?_
    have e03 := e02.trans e3
    rw [hc, cut_txt]
    have hbk := (hG.bok.ex e03).kept k4 (hG.bk.ex e03).dc
    -- the places of the ones
    obtain ⟨a, ha⟩ : ∃ a, a = pl P k / n * n := ⟨_, rfl⟩
    have hda := div_at (pl P k) n
    have hmo := Nat.mod_lt (pl P k) (show n > 0 by omega)
    have hab := div_blk (n := n) hpl
    obtain ⟨r, hat, hrow⟩ := hbk.at_ (j := pl P k / n) hn1 hab
    have hao := ahead_ones (L := full P) (j := pl P k / n * n) (by omega)
    rw [← ha] at hda hab hao
    obtain ⟨o, ho⟩ : ∃ o, o = ones (full P) a := ⟨_, rfl⟩
    have hok : o ≤ k := by
      have := ones_mono (full P) (show a ≤ pl P k by omega)
      rw [ones_pl hg hk] at this
      omega
    rw [← ho] at hao
    have hge : ∀ c, o ≤ c → c ≤ k → a ≤ pl P c ∧ pl P c ≤ pl P k := by
      intro c c1 c2
      constructor
      · apply Nat.le_of_not_lt
        intro z
        have := (pl_lt_iff hg (show c ≤ P.length by omega)).mp z
        omega
      · by_cases z : c = k
        · rw [z]; exact Nat.le_refl _
        · exact Nat.le_of_lt (pl_mono hg (by omega) hk (by omega))
    have hbit : ∀ i, a + i ≤ pl P k → (((full P).drop (pl P k / n * n)).take n)[i]? = (full P)[a + i]? := by
      intro i hi
      rw [List.getElem?_take, if_pos (by omega), List.getElem?_drop, ← ha]
    have hone : ∀ c, o ≤ c → c ≤ k → (((full P).drop (pl P k / n * n)).take n)[pl P c - a]? = some true := by
      intro c c1 c2
      obtain ⟨g1, g2⟩ := hge c c1 c2
      rw [hbit _ (by omega), show a + (pl P c - a) = pl P c by omega]
      exact full_pl hg (by omega)
    refine q_asg (ev_find (ev_var rfl) ev_c) fun H5 e5 => ?_
    rw [find_1 (hone o (Nat.le_refl _) hok) (fun i hi => by
      obtain ⟨g1, g2⟩ := hge o (Nat.le_refl _) hok
      rw [hbit i (by omega)]
      exact no_one hg (q := o) (s := a) (by omega) ho.symm (by omega) (by omega))]
    have hcount : (k : Int) - ((pl P k / n * n : Nat) + ht (full P) (pl P k / n * n)) / 2 = ((k - o : Nat) : Int) := by
      rw [← ha, hao]
      omega
    refine q_forR1 (n := ((k - o : Nat) : Int)) (ea_is (ea_cons (ev_op (ev_var rfl) (ev_call (ea_cons (ev_var rfl) (ea_cons (ev_op (ev_op (ev_var rfl) (ev_var rfl) (rv_ixL (sq_of (e5 _ _ hbk.ls)) hat)) ev_c (rv_ixT (st_of (e5 _ _ hrow)) rfl)) ea_nil)) sv_ahead) rv_I0) ea_nil) (by rw [hcount])) ⟨by omega, by omega⟩ (fun (i : Nat) (σ' : L2.St) (H' : Hp) => ∃ y7 : Option V, i ≤ k - o ∧ Ex H4 H' ∧ σ' = [some (.ref b), some (.ref x), some (.int (k : Int)), some (.int ((pl P k / n : Nat) : Int)), some (.int ((pl P k / n * n : Nat) : Int)), some (.str (txt (((full P).drop (pl P k / n * n)).take n))), some (.int ((pl P (o + i) - a : Nat) : Int)), y7, none]) ?_ ?_ ?_
    · intro H6 e6
      exact ⟨none, Nat.zero_le _, e5.trans e6, rfl⟩
    · rintro i σ' H6 hi ⟨y7, hi2, e6, rfl⟩
      have hi3 : o + i < k := by omega
      refine s_asg (ev_find3 (ev_var rfl) ev_c (ev_op (ev_var rfl) ev_c rv_I0)) fun H7 e7 => ⟨some (.int (i : Int)), by omega, e6.trans e7, ?_⟩
      obtain ⟨g1, g2⟩ := hge (o + i) (by omega) (by omega)
      obtain ⟨g3, g4⟩ := hge (o + i + 1) (by omega) (by omega)
      have hm := pl_mono hg (k := o + i) (l := o + i + 1) (by omega) (by omega) (by omega)
      rw [find_3 (s := pl P (o + i) - a + 1) (j := pl P (o + i + 1) - a) (by omega) (by omega) (hone (o + i + 1) (by omega) (by omega)) (fun m m1 m2 => by
        rw [hbit m (by omega)]
        exact no_one hg (q := o + i + 1) (s := pl P (o + i) + 1) (by omega) (ones_pl1 hg (by omega)) (by omega) (by omega))]
      rfl
    · rintro σ' H6 ⟨y7, hi2, e6, rfl⟩
      refine q_asg (ev_op (ev_var rfl) (ev_var rfl) rv_I0) fun H7 e7 => ?_
      have hko : o + ((k - o : Nat) : Int).toNat = k := by omega
      refine s_retU (eu_tup (ea_cons (ev_var rfl) (ea_cons (ev_op (ev_op ev_c (ev_var rfl) (rv_I (.inl ⟨by decide, by decide⟩))) (ev_var rfl) rv_I0) ea_nil)) (by show 2 ≤ 100000; decide)) fun p H8 np e8 h8 => ?_
      rw [hko] at h8
      have hpp : ((pl P k / n * n : Nat) : Int) + ((pl P k - a : Nat) : Int) = (pl P k : Int) := by
        rw [← ha]
        omega
      have hht : 2 * (k : Int) - (pl P k : Int) = ht (full P) (pl P k) := by
        unfold ht
        rw [ones_pl hg hk, Nat.min_eq_left (by omega)]
      rw [hpp, hht] at h8
      exact q p H8 (fresh_back e03 (k4.fresh hB4.dc (fresh_back (e6.trans e7) np))) ((k4.back e03).trans (Kept.of ((e6.trans e7).trans e8))) (hB4.ex ((e6.trans e7).trans e8)) h8

theorem sc_lows_between : FnScope ["book", "blocks", "first", "end", "size", "rows", "number", "start", "least", "many", "behind"] ["book", "blocks", "first", "end"] (defScope s_lows_between) := ⟨rfl, rfl, rfl, by decide +kernel, rfl, by decide +kernel, by decide +kernel⟩
theorem ok_lows_between (T : Txt K mg A) : FnOk P w K mg base CX0 6 A.f_lows_between A.d_lows_between ["book", "blocks", "first", "end"] (spLows A.c_Blocks) := by
  refine T.F_lows_between.ok sc_lows_between (fun vs H Q E h => ?_) (fun cdv A' outer s H vs Q E hr h => ?_)
  · obtain ⟨b, x, td, qs, P, z, n, ks, f, e, rfl, _⟩ := h
    rfl
  · obtain ⟨b, x, td, qs, P, z, n, ks, f, e, rfl, hG, hfe, he, hS, q⟩ := h
    refine ⟨_, (pss_cons (ps_set (i := 4) sc_lows_between.nd rfl (Or.inl rfl) (pe_fld (pv 1) rfl)) (pss_cons (ps_set (i := 5) sc_lows_between.nd rfl (Or.inl rfl) (pe_lst pa_nil)) (pss_cons (ps_for PassesOwn.never rfl (pi_range2 (by rfl) T.b_range (pa_cons (pe_op op_fdiv (pv 2) (pv 4)) (pa_cons (pe_op op_add (pe_op op_fdiv (pe_op op_sub (pv 3) pe_int) (pv 4)) pe_int) pa_nil))) (pg_name (i := 6) sc_lows_between.nd rfl (Or.inl rfl)) (pss_cons (ps_set (i := 7) sc_lows_between.nd rfl (Or.inl rfl) (pe_op op_mul (pv 6) (pv 4))) (pss_cut (ps_if (PW.pt (pw_and (pt_cmpR op_le (pv 2) (pv 7) (nomark _)) (pw_and1 (pt_cmpR op_le (pe_op op_add (pv 7) (pv 4)) (pv 3) (nomark _))))) (pss_one (ps_asg (pe_slice sl_tup (pe_ix ix_list (pv 0) (pv 6) (fun _ _ => rfl)) (po_some pe_int) po_none) (pg_tup rfl (pgs_cons (pg_name (i := 8) sc_lows_between.nd rfl (Or.inl rfl)) (pgs_cons (pg_name (i := 9) sc_lows_between.nd rfl (Or.inl rfl)) pgs_nil))))) (pss_cons (ps_set (i := 10) sc_lows_between.nd rfl (Or.inl rfl) (pe_slice sl_list (pe_call (ok_heights_in T) (hr.mono (by decide)) (by rfl) T.g_heights_in T.F_heights_in.kp T.s_heights_in .nil pass0 (pa_cons (pv 0) (pa_cons (pv 1) (pa_cons (pv 6) pa_nil)))) (po_some pe_int) po_none)) (pss_one (ps_asg (pe_call (ok_lowest T) (hr.mono (by decide)) (by rfl) T.g_lowest T.F_lowest.kp T.s_lowest .nil pass0 (pa_cons (pe_slice sl_list (pv 10) (po_some (pe_callB (call_max2 rfl) (by rfl) T.b_max (by decide +kernel) (pa_cons (pe_op op_sub (pv 2) (pv 7)) (pa_cons pe_int pa_nil)))) (po_some (pe_op op_sub (pv 3) (pv 7)))) pa_nil)) (pg_tup rfl (pgs_cons (pg_name (i := 8) sc_lows_between.nd rfl (Or.inl rfl)) (pgs_cons (pg_name (i := 9) sc_lows_between.nd rfl (Or.inl rfl)) pgs_nil))))))) (pss_one (ps_expr (pe_bm PySem.F.plainAttrs_list PySem.F.slot_list_append PySem.F.type_list_append mt_append (pv 5) (pa_cons (pe_tup (pa_cons (pv 6) (pa_cons (pv 8) (pa_cons (pv 9) pa_nil)))) pa_nil))))))) (pss_one (ps_ret (pv 5)))))), ?_⟩
    have hn1 := hG.n1
    have hn2 := hG.n2
    obtain ⟨hfl, hzl, hz2⟩ := hG.fl
    obtain ⟨⟨dx, pp, h1, h2⟩, h3⟩ := id hG.bk
    have hple := hG.le
    have hkl := hG.kl
    have hcz : 1 ≤ cnt z.length n := cnt_pos _ _ (by omega) hn1
    obtain ⟨hll, hla⟩ := lows_list (n := n) (f := f) (e := e) hn1 hfe
    have hrn : (rowsN n f e).length = (e - 1) / n + 1 - f / n := by unfold rowsN; rw [List.length_range']
    have hdf : f / n ≤ f := Nat.div_le_self _ _
    have hde : (e - 1) / n ≤ e - 1 := Nat.div_le_self _ _
    have hdd : f / n ≤ (e - 1) / n := Nat.div_le_div_right (by omega)
    have hvs : [V.int ((f : Int) / (n : Int)), V.int (((e : Int) - 1) / (n : Int) + 1)] = [V.int ((f / n : Nat) : Int), V.int (((e - 1) / n + 1 : Nat) : Int)] := by
      rw [show (e : Int) - 1 = ((e - 1 : Nat) : Int) by omega, ← Int.natCast_ediv, ← Int.natCast_ediv]
      rfl
    have hz0 := Nat.zero_le (f / n)
    have b1 : f / n ≤ 400 := by omega
    have b2 : (e - 1) / n ≤ 400 := by omega
    have hbb : ∀ a c : Nat, a ≤ 400 → c ≤ 400 → (0 ≤ (a : Int) ∧ (a : Int) ≤ 100000 ∧ -100000 ≤ ((c + 1 : Nat) : Int) ∧ ((c + 1 : Nat) : Int) ≤ 100000) := by intros; omega
    refine q_asg (ev_fld (ev_var rfl) h1 T.cl_Blocks T.n_Blocks_size bf_size) fun H1 e1 => ?_
    refine q_asgL (el_lst ea_nil (by decide)) fun pr H2 npr e2 hpr => ?_
    have e02 := e1.trans e2
    have hprH : H pr = none := fresh_back e1 npr
    refine q_forR2 (lo := ((f / n : Nat) : Int)) (n := (((e - 1) / n + 1 : Nat) : Int)) (ea_is (ea_cons (ev_op (ev_var rfl) (ev_var rfl) (rv_I ⟨by omega, by omega⟩)) (ea_cons (ev_op (ev_op (ev_op (ev_var rfl) ev_c rv_I0) (ev_var rfl) (rv_I ⟨by omega, by omega⟩)) ev_c rv_I0) ea_nil)) hvs) (hbb _ _ b1 b2)
      (fun (i : Nat) (σ' : L2.St) (H' : Hp) => ∃ (rs : List Addr) (y6 y7 y8 y9 y10 : Option V), σ' = [some (.ref b), some (.ref x), some (.int (f : Int)), some (.int (e : Int)), some (.int (n : Int)), some (.ref pr), y6, y7, y8, y9, y10] ∧ i ≤ (e - 1) / n + 1 - f / n ∧ Kept td H H' ∧
        Bk A.c_Blocks H' x td z n (asks ks ((List.range' (f / n) i).filter (nc n f e))) ∧ H' pr = some (.lst (rs.map V.ref)) ∧ Rws H' rs (full P) n f e i) ?_ ?_ ?_
    · intro H3 e3
      exact ⟨[], none, none, none, none, none, rfl, Nat.zero_le _, Kept.of (e02.trans e3), hG.bk.ex (e02.trans e3), e3 _ _ hpr, rfl, fun i q hq => by cases hq⟩
    · rintro i σ' H3 hi ⟨rs, y6, y7, y8, y9, y10, rfl, hi2, k3, hB3, hl3, hr3⟩
      have hm1 : f / n ≤ f / n + i := Nat.le_add_right _ _
      have hm2 : f / n + i ≤ (e - 1) / n := by omega
      obtain ⟨m, hm⟩ : ∃ m, m = f / n + i := ⟨_, rfl⟩
      rw [← hm] at hm1 hm2
      have hmi : ((f / n : Nat) : Int) + (i : Int) = (m : Int) := by omega
      rw [hmi]
      have hlt := blk_lt hn1 (by omega) hm2
      have hgt := blk_gt hn1 hm1
      obtain ⟨w1, w2, w3⟩ := lw_ne (L := full P) hn1 hfe he hm1 hm2
      have hsub : ((List.range' (f / n) i).filter (nc n f e)).length ≤ 2 := by
        refine Nat.le_trans ?_ hll
        unfold rowsN
        have := List.range'_append_1 (s := f / n) (m := i) (n := (e - 1) / n + 1 - f / n - i)
        rw [show i + ((e - 1) / n + 1 - f / n - i) = (e - 1) / n + 1 - f / n by omega] at this
        rw [← this, List.filter_append, List.length_append]
        omega
      have hal := asks_len ((List.range' (f / n) i).filter (nc n f e)) ks
      have hG3 := hG.step k3 hB3 (m' := 8990) (by omega)
      have hbok3 := hG3.bok
      obtain ⟨r, hat, hrow⟩ := hbok3.at_ (j := m) hn1 (by omega)
      have hsucc : (List.range' (f / n) (i + 1)).filter (nc n f e) = (List.range' (f / n) i).filter (nc n f e) ++ (if nc n f e m = true then [m] else []) := by
        rw [List.range'_1_concat, List.filter_append, ← hm]
        simp only [List.filter_cons, List.filter_nil]
      refine q_asg (ev_op (ev_var rfl) (ev_var rfl) (rv_I (.inr ⟨by omega, by omega⟩))) fun H4 e4 => ?_
      have hst : (m : Int) * (n : Int) = ((m * n : Nat) : Int) := by rw [Int.natCast_mul]
      rw [hst]
      have hG4 := hG3.ex e4
      refine q_cut (M := fun (σ' : L2.St) (H' : Hp) => ∃ y10 : Option V, σ' = [some (.ref b), some (.ref x), some (.int (f : Int)), some (.int (e : Int)), some (.int (n : Int)), some (.ref pr), some (.int (m : Int)), some (.int ((m * n : Nat) : Int)), some (.int (lmin (lw (full P) n f e m))), some (.int (((lw (full P) n f e m).count (lmin (lw (full P) n f e m)) : Nat) : Int)), y10] ∧ Kept td H H' ∧
        Bk A.c_Blocks H' x td z n (asks ks ((List.range' (f / n) (i + 1)).filter (nc n f e))) ∧ H' pr = some (.lst (rs.map V.ref)) ∧ Rws H' rs (full P) n f e i) ?_ ?_
      · have hcv : (decide ((f : Int) ≤ ((m * n : Nat) : Int)) && decide (((m * n : Nat) : Int) + (n : Int) ≤ (e : Int))) = !nc n f e m := by
          unfold nc
          rw [Bool.not_not]
          congr 1
          · rw [decide_eq_decide]; omega
          · rw [decide_eq_decide]; omega
        refine s_if (b := !nc n f e m) (et_is (et_and (et_test (ev_op (ev_var rfl) (ev_var rfl) rv_I0)) (fun hb => (et_test (ev_op (ev_op (ev_var rfl) (ev_var rfl) rv_I0) (ev_var rfl) rv_I0)))) hcv) (fun hb H5 e5 => ?_) (fun hb H5 e5 => ?_)
        · have hnc : nc n f e m = false := by simpa using hb
          have hcov : f ≤ m * n ∧ m * n + n ≤ e := by
            unfold nc at hnc
            simpa using hnc
          have hlw : lw (full P) n f e m = seg (full P) n m := by
            unfold lw
            rw [show max f (m * n) = m * n by omega, show min e (m * n + n) - m * n = n by omega]
            rfl
          have e35 := e4.trans e5
          refine s_unpU2 (y := .int (lmin (seg (full P) n m))) (z := .int (((seg (full P) n m).count (lmin (seg (full P) n m)) : Nat) : Int)) (eu_slT (ev_op (ev_var rfl) (ev_var rfl) (rv_ixL (sq_of (e35 _ _ hbok3.ls)) hat)) (eo_some ev_c) eo_none (st_of (e35 _ _ hrow)) (by rintro ⟨z1, _⟩; exact absurd (show HT.sIx 3 0 (some 1) = 0 from z1) (by decide))) fun H6 e6 => ?_
          have e36 := e35.trans e6
          refine ⟨y10, ?_, k3.trans (Kept.of e36), ?_, e36 _ _ hl3, hr3.1, fun j q hj => e36 _ _ (hr3.2 j q hj)⟩
          · rw [hlw]
            rfl
          · rw [hsucc, hnc, if_neg Bool.false_ne_true, List.append_nil]
            exact hB3.ex e36
        · have hnc : nc n f e m = true := by simpa using hb
          have hmem : m ∈ rdLows n f e := by
            have h9 : m = f / n ∨ m = (e - 1) / n := by
              by_cases c1 : m = f / n
              · exact .inl c1
              · by_cases c2 : m = (e - 1) / n
                · exact .inr c2
                · have := nc_mid (n := n) (f := f) (e := e) (m := m) hn1 (by omega) (by omega)
                  rw [hnc] at this
                  cases this
            unfold rdLows
            exact List.mem_filter.mpr ⟨by rcases h9 with h9 | h9 <;> simp [h9], hnc⟩
          have hG5 := hG4.ex e5
          refine q_asgX (e_slC (ea_cons (ev_var rfl) (ea_cons (ev_var rfl) (ea_cons (ev_var rfl) ea_nil))) fun H6 e6 => ⟨b, x, td, qs, P, z, n, _, m, rfl, (hG5.ex e6).up (by omega), by omega, hS m hmem, fun p7 H7 np7 k7 hB7 h7 => ?_⟩)
          refine sl_at (sq_of h7) (eo_some ev_c) eo_none fun p8 H8 np8 e8 h8 => ?_
          rw [cutV_drop (v := 1) (m := 1) _ rfl, hsg_tail] at h8
          have k48 := (k7.back ((e4.trans e5).trans e6)).trans (Kept.of e8)
          have hsl : cutV ((seg (full P) n m).map V.int) (some (max ((f : Int) - ((m * n : Nat) : Int)) 0)) (some ((e : Int) - ((m * n : Nat) : Int))) = (lw (full P) n f e m).map V.int := by
            rw [cutV_mid (m := f - m * n) (c := e - m * n) _ (by omega) (by omega), seg_cut, hcut_drop, hcut_take']
            unfold lw
            congr 2
            · omega
            · omega
          have hne : 0 < (lw (full P) n f e m).length := by
            unfold lw
            rw [hcut_len]
            omega
          refine s_asgUX (e_callX (e_consL (el_is (el_sl (ev_var rfl) (eo_some (ev_Max2 (ev_op (ev_var rfl) (ev_var rfl) rv_I0) ev_c)) (eo_some (ev_op (ev_var rfl) (ev_var rfl) rv_I0)) (sq_of h8)) hsl) fun p9 H9 np9 e9 h9 => e_nil ⟨p9, _, rfl, sq_of h9, hne, fun p10 H10 np10 e10 h10 => g_tup2 (st_of h10) ?_⟩))
          have e810 := e9.trans e10
          have hpl8 : H8 pr = some (.lst (rs.map V.ref)) := k48.at_ (ne_of hl3 hB3.dc (by intro z; cases z)) hl3
          refine ⟨_, rfl, (k3.trans k48).trans (Kept.of e810), ?_, e810 _ _ hpl8, hr3.1, fun j q hj => e810 _ _ (k48.at_ (ne_of (hr3.2 j q hj) hB3.dc (by intro z; cases z)) (hr3.2 j q hj))⟩
          rw [hsucc, hnc, if_pos rfl, asks_app]
          exact (hB7.ex e8).ex e810
      · rintro σ' H5 ⟨y10', rfl, k5, hB5, hl5, hr5⟩
        refine s_appU hl5 (ev_var rfl) (eu_tup (ea_cons (ev_var rfl) (ea_cons (ev_var rfl) (ea_cons (ev_var rfl) ea_nil))) (by show 3 ≤ 100000; decide)) (by rw [List.length_map, hr5.1]; omega) fun p6 H6 np6 e6 h6 => ?_
        have hne6 : p6 ≠ pr := fun z => by rw [z, hl5] at np6; cases np6
        refine ⟨rs ++ [p6], _, _, _, _, _, rfl, by omega, (k5.trans (Kept.of e6)).mut hprH, (hB5.ex e6).off (e6 _ _ hl5) (refs_ne_parts hcz), ?_, ?_, ?_⟩
        · rw [upd_same, List.map_append]
          rfl
        · rw [List.length_append, hr5.1]
          rfl
        · intro j qa hj
          by_cases c : j < rs.length
          · rw [List.getElem?_append_left c] at hj
            have h9 := hr5.2 j qa hj
            rw [upd_ne (ne_of h9 hl5 (by intro z; cases z))]
            exact e6 _ _ h9
          · rw [List.getElem?_append_right (by omega)] at hj
            have hj0 : j - rs.length = 0 := by
              have := (List.getElem?_eq_some_iff.mp hj).1
              simp at this
              omega
            rw [hj0] at hj
            have hq : p6 = qa := Option.some.inj hj
            subst hq
            rw [upd_ne hne6, h6, show f / n + j = m by have := hr5.1; omega]
            rfl
    · rintro σ' H3 ⟨rs, y6, y7, y8, y9, y10, rfl, hi2, k3, hB3, hl3, hr3⟩
      have hcn : ((((e - 1) / n + 1 : Nat) : Int) - ((f / n : Nat) : Int)).toNat = (e - 1) / n + 1 - f / n := by omega
      rw [hcn] at hB3 hr3
      refine s_ret (ev_var rfl) fun H4 e4 => ?_
      refine q pr rs H4 hprH (k3.trans (Kept.of e4)) ?_ (e4 _ _ hl3) ⟨by rw [hr3.1, hrn], fun j qa hj => e4 _ _ (hr3.2 j qa hj)⟩
      rw [← hla ks]
      exact hB3.ex e4

theorem sc_elder : FnScope ["book", "blocks", "one", "other", "first", "last", "least", "row"] ["book", "blocks", "one", "other"] (defScope s_elder) := ⟨rfl, rfl, rfl, by decide +kernel, rfl, by decide +kernel, by decide +kernel⟩
theorem ok_elder (T : Txt K mg A) : FnOk P w K mg base (L2.CX P w) 12 A.f_elder A.d_elder ["book", "blocks", "one", "other"] (spAnsTwo K A.c_Blocks A.c_NoKnot aElder rdElder) := by
  refine T.F_elder.okX sc_elder (fun vs H Q E h => ?_) (fun cdv A' outer s H vs Q E hr h => ?_)
  · obtain ⟨b, x, td, qs, P, z, n, ks, v, u, rfl, _⟩ := h
    rfl
  · obtain ⟨b, x, td, qs, P, z, n, ks, v, u, rfl, hG0, hv, hu, q, qn⟩ := h
    refine ⟨_, (pss_cons (ps_expr (pe_call (ok_look_at_knot T) (hr.mono (by decide)) (by rfl) T.g_look_at_knot T.F_look_at_knot.kp T.s_look_at_knot .nil (passes_call (takes_of rfl rfl rfl rfl) (fun _ _ _ _ h => h)) (pa_cons (pv 1) (pa_cons (pv 2) pa_nil)))) (pss_cons (ps_expr (pe_call (ok_look_at_knot T) (hr.mono (by decide)) (by rfl) T.g_look_at_knot T.F_look_at_knot.kp T.s_look_at_knot .nil (passes_call (takes_of rfl rfl rfl rfl) (fun _ _ _ _ h => h)) (pa_cons (pv 1) (pa_cons (pv 3) pa_nil)))) (pss_cons (ps_if (pt_cmpR op_eq (pv 2) (pv 3) (nomark _)) (pss_one (ps_ret (pv 2))) pss_nil) (pss_cons (ps_set (i := 4) sc_elder.nd rfl (Or.inl rfl) (pe_ix ix_tup (pe_call (ok_spot_of T) (hr.mono (by decide)) (by rfl) T.g_spot_of T.F_spot_of.kp T.s_spot_of .nil pass0 (pa_cons (pv 0) (pa_cons (pv 1) (pa_cons (pe_callB (call_min2 rfl) (by rfl) T.b_min (by decide +kernel) (pa_cons (pv 2) (pa_cons (pv 3) pa_nil))) pa_nil)))) pe_int (fun _ _ => rfl))) (pss_cons (ps_set (i := 5) sc_elder.nd rfl (Or.inl rfl) (pe_ix ix_tup (pe_call (ok_spot_of T) (hr.mono (by decide)) (by rfl) T.g_spot_of T.F_spot_of.kp T.s_spot_of .nil pass0 (pa_cons (pv 0) (pa_cons (pv 1) (pa_cons (pe_callB (call_max2 rfl) (by rfl) T.b_max (by decide +kernel) (pa_cons (pv 2) (pa_cons (pv 3) pa_nil))) pa_nil)))) pe_int (fun _ _ => rfl))) (pss_cons (ps_set (i := 6) sc_elder.nd rfl (Or.inl rfl) (pe_callB (cr_min rfl) (by rfl) T.b_min (by decide +kernel) (pa_cons (pe_lc (own := [("row", 7)]) (g := gName 7) (tt := tYes) rfl sc_elder.nd (pi_list (pe_call (ok_lows_between T) (hr.mono (by decide)) (by rfl) T.g_lows_between T.F_lows_between.kp T.s_lows_between .nil pass0 (pa_cons (pv 0) (pa_cons (pv 1) (pa_cons (pv 4) (pa_cons (pv 5) pa_nil)))))) (blkOk_by (N := ["book", "blocks", "one", "other", "first", "last", "least", "row"]) (sc := defScope s_elder) (by decide +kernel)) (fun _ _ _ _ _ => pg_name (i := 7) sc_elder.nd rfl (Or.inl rfl)) (fun _ _ _ _ _ => pts_nil) (fun _ _ _ _ _ => (pe_ix (show IxR _ (rIxT K) from ix_tup) (pv 7) pe_int (fun _ _ => rfl)))) pa_nil))) (pss_one (ps_ret (pe_call (ok_knot_back T) (hr.mono (by decide)) (by rfl) T.g_knot_back T.F_knot_back.kp T.s_knot_back .nil pass0 (pa_cons (pv 0) (pa_cons (pv 1) (pa_cons (pv 4) (pa_cons (pe_op op_sub (pv 6) pe_int) pa_nil))))))))))))), ?_⟩
    have hG := hG0.giv
    have hn1 := hG.n1
    have hn2 := hG.n2
    have hg := hG.gd
    obtain ⟨hfl, hzl, hz2⟩ := hG.fl
    have hple := hG.le
    have hkl := hG.kl
    refine q_dropC (ea_cons (ev_var rfl) (ea_cons (ev_var rfl) ea_nil)) fun H1 e1 => ⟨x, td, z, n, ks, P.length + 1, v, rfl, hG.bk.ex e1, hzl, Nat.le_add_left _ _, hv.ex e1, fun k hk hkt H2 e2 => ?_, fun ho H2 e2 => qn (.inl ho) H2 (e1.trans e2)⟩
    have e02 := e1.trans e2
    refine q_dropC (ea_cons (ev_var rfl) (ea_cons (ev_var rfl) ea_nil)) fun H3 e3 => ⟨x, td, z, n, ks, P.length + 1, u, rfl, hG.bk.ex (e02.trans e3), hzl, Nat.le_add_left _ _, hu.ex (e02.trans e3), fun m hm hmt H4 e4 => ?_, fun ho H4 e4 => qn (.inr ho) H4 ((e02.trans e3).trans e4)⟩
    have e04 := (e02.trans e3).trans e4
    subst hk hm
    obtain ⟨hS, q⟩ := q k m rfl rfl hkt hmt
    have hk : k ≤ P.length := by omega
    have hm : m ≤ P.length := by omega
    by_cases c : k = m
    · subst c
      refine q_when (b := true) (et_is (et_test (ev_op (ev_var rfl) (ev_var rfl) (rv_eq rfl))) (by rw [dec_I]; exact decide_eq_true rfl)) (fun _ H5 e5 => ?_) (fun hb => nomatch hb)
      refine s_ret (ev_var rfl) fun H6 e6 => ?_
      have e06 := (e04.trans e5).trans e6
      have h9 := q H6 (Kept.of e06) (by unfold rdElder; rw [if_pos rfl]; exact hG.bk.ex e06)
      unfold aElder at h9
      rw [eld_self hg hk] at h9
      exact h9
    · refine q_when (b := false) (et_is (et_test (ev_op (ev_var rfl) (ev_var rfl) (rv_eq rfl))) (by rw [dec_I]; exact decide_eq_false (by omega))) (fun hb => nomatch hb) (fun _ H5 e5 => ?_)
      have e05 := e04.trans e5
      obtain ⟨lo, hlo⟩ : ∃ lo, lo = min k m := ⟨_, rfl⟩
      obtain ⟨hi, hhi⟩ : ∃ hi, hi = max k m := ⟨_, rfl⟩
      have hlh : lo < hi := by omega
      have hlk : lo ≤ P.length := by omega
      have hik : hi ≤ P.length := by omega
      have held : eld P k m = eld P lo hi := by
        by_cases c2 : k ≤ m
        · rw [hlo, hhi, Nat.min_eq_left c2, Nat.max_eq_right c2]
        · rw [hlo, hhi, Nat.min_eq_right (by omega), Nat.max_eq_left (by omega), eld_comm hg]
      have hrd : rdElder P n k m = [pl P lo / n, pl P hi / n, bkP (full P) (pl P lo) (lowB (full P) (pl P lo) (pl P hi) - 1) / n] := by unfold rdElder; rw [if_neg c, ← hlo, ← hhi]
      rw [hrd] at hS q
      obtain ⟨hI, hel⟩ := bk_eld hg hlk hik hlh
      have hpp := pl_mono hg hlk hik hlh
      have hpl := pl_lt hg hlk
      have hph := pl_lt hg hik
      have hmin : min (k : Int) (m : Int) = (lo : Int) := by omega
      have hmax : max (k : Int) (m : Int) = (hi : Int) := by omega
      -- the first, the last
      refine q_asgX (e_ix (e_callC (ea_is (ea_cons (ev_var rfl) (ea_cons (ev_var rfl) (ea_cons (ev_min2 (ev_var rfl) (ev_var rfl)) ea_nil))) (by rw [hmin])) fun H6 e6 => ⟨b, x, td, qs, P, z, n, ks, lo, rfl, (hG.ex (e05.trans e6)).up (by omega), hlk, hS _ List.mem_cons_self, fun p7 H7 np7 k7 hB7 h7 => ?_⟩))
      refine ⟨p7, _, _, _, rfl, rfl, st_of h7, rfl, ?_⟩
      have k07 := k7.back (e05.trans e6)
      have hal7 := addK_len ks (pl P lo / n)
      have hG7 := hG.step k07 hB7 (m' := 8001) (by omega)
      refine q_asgX (e_ix (e_callC (ea_is (ea_cons (ev_var rfl) (ea_cons (ev_var rfl) (ea_cons (ev_Max2 (ev_var rfl) (ev_var rfl)) ea_nil))) (by rw [hmax])) fun H8 e8 => ⟨b, x, td, qs, P, z, n, _, hi, rfl, (hG7.ex e8).up (by omega), hik, hS _ (List.mem_cons_of_mem _ List.mem_cons_self), fun p9 H9 np9 k9 hB9 h9 => ?_⟩))
      refine ⟨p9, _, _, _, rfl, rfl, st_of h9, rfl, ?_⟩
      have k09 := k07.trans (k9.back e8)
      have hB9' : Bk A.c_Blocks H9 x td z n (asks ks [pl P lo / n, pl P hi / n]) := hB9
      have hal9 : (asks ks [pl P lo / n, pl P hi / n]).length ≤ ks.length + 2 := asks_len [pl P lo / n, pl P hi / n] ks
      have hG9 := hG.step k09 hB9' (m' := 8002) (by omega)
      have hin := rdLows_in (n := n) hn1 hpp
      have hS2 : KB.Same z (full P) n (rdLows n (pl P lo) (pl P hi)) := fun j hj => hS j (by
        rcases List.mem_cons.mp (hin j hj) with h | h
        · rw [h]; exact List.mem_cons_self
        · rw [List.mem_singleton.mp h]; exact List.mem_cons_of_mem _ List.mem_cons_self)
      refine q_asgX (e_cb (e_consX (e_lcC (ea_cons (ev_var rfl) (ea_cons (ev_var rfl) (ea_cons (ev_var rfl) (ea_cons (ev_var rfl) ea_nil)))) fun H10 e10 => ⟨b, x, td, qs, P, z, n, _, pl P lo, pl P hi, rfl, (hG9.ex e10).up (by omega), hpp, Nat.le_of_lt hph, hS2, fun p11 rs H11 np11 k11 hB11 h11 hR11 => ?_⟩)))
      have hask : asks (asks ks [pl P lo / n, pl P hi / n]) (rdLows n (pl P lo) (pl P hi)) = asks ks [pl P lo / n, pl P hi / n] := asks_in _ _ fun j hj => (mem_asks _ _).mpr (.inr (hin j hj))
      rw [hask] at hB11
      have k011 := k09.trans (k11.back e10)
      have hG11 := hG.step k011 hB11 (m' := 8002) (by omega)
      have hrl : rs.length = (rowsN n (pl P lo) (pl P hi)).length := hR11.1
      have hz0 := Nat.zero_le (pl P lo / n)
      have hrn : (rowsN n (pl P lo) (pl P hi)).length = (pl P hi - 1) / n + 1 - pl P lo / n := by unfold rowsN; rw [List.length_range']
      have hdd : pl P lo / n ≤ (pl P hi - 1) / n := Nat.div_le_div_right (by omega)
      have hde : (pl P hi - 1) / n ≤ pl P hi - 1 := Nat.div_le_self _ _
      have hval : given (rs.map V.ref).length (fun _ => true) (fun i => .int (lmin (lw (full P) n (pl P lo) (pl P hi) (pl P lo / n + i)))) = ((rowsN n (pl P lo) (pl P hi)).map fun m => lmin (lw (full P) n (pl P lo) (pl P hi) m)).map V.int := by
        rw [given_all, List.length_map, hrl, hrn]
        unfold rowsN
        rw [List.range'_eq_map_range, List.map_map, List.map_map]
        rfl
      refine (el_is (el_lcL (tl := tC (.ref p11)) (fun _ => true) (fun i => .int (lmin (lw (full P) n (pl P lo) (pl P hi) (pl P lo / n + i)))) ev_c (sq_of h11) (by rw [List.length_map]; omega) (fun _ => rfl) (fun i x9 H9 e9 hx => et_yes) (fun i x9 H12 e12 hx _ => ?_)) hval) H11 (Ex.refl H11) _ fun p13 H13 np13 e13 h13 => ?_
      · rw [List.getElem?_map] at hx
        cases hr9 : rs[i]? with
        | none => rw [hr9] at hx; cases hx
        | some r =>
          rw [hr9] at hx
          cases hx
          exact (ev_op (ev_var rfl) ev_c (rv_ixT (st_of (e12 _ _ (hR11.2 i r hr9))) rfl))
      · refine e_nil ⟨p13, _, rfl, sq_of h13, ?_, fun mm hm1 hm2 => ?_⟩
        · rw [List.length_map, hrn]
          omega
        · rw [lmin_is hm1 hm2, low_rows hn1 hpp (Nat.le_of_lt hph)]
          refine s_retC (ea_cons (ev_var rfl) (ea_cons (ev_var rfl) (ea_cons (ev_var rfl) (ea_cons (ev_op (ev_var rfl) ev_c rv_I0) ea_nil)))) fun H14 e14 => ⟨b, x, td, qs, P, z, n, _, pl P lo, _, _, rfl, (hG11.ex (e13.trans e14)).up (by omega), hpl, hI, fun j hj => hS j (by
            rcases List.mem_cons.mp hj with h | h
            · rw [h]; exact List.mem_cons_self
            · rw [List.mem_singleton.mp h]; exact List.mem_cons_of_mem _ (List.mem_cons_of_mem _ List.mem_cons_self)), fun H15 k15 hB15 => ?_⟩
          have hfin : asks (asks ks [pl P lo / n, pl P hi / n]) [pl P lo / n, bkP (full P) (pl P lo) (lowB (full P) (pl P lo) (pl P hi) - 1) / n] = asks ks [pl P lo / n, pl P hi / n, bkP (full P) (pl P lo) (lowB (full P) (pl P lo) (pl P hi) - 1) / n] := by
            show addK (addK (asks ks [pl P lo / n, pl P hi / n]) (pl P lo / n)) _ = addK (asks ks [pl P lo / n, pl P hi / n]) _
            congr 1
            exact if_pos ((mem_asks _ _).mpr (.inr List.mem_cons_self))
          rw [hfin] at hB15
          have h9' := q H15 (k011.trans (k15.back (e13.trans e14))) hB15
          unfold aElder at h9'
          rw [held, hel] at h9'
          exact h9'

theorem sc_place_of : FnScope ["book", "blocks", "knot"] ["book", "blocks", "knot"] (defScope s_place_of) := ⟨rfl, rfl, rfl, by decide +kernel, rfl, by decide +kernel, by decide +kernel⟩
theorem ok_place_of (T : Txt K mg A) : FnOk P w K mg base (L2.CX P w) 12 A.f_place_of A.d_place_of ["book", "blocks", "knot"] (spAns K A.c_Blocks A.c_NoKnot topK aPlace rdPlace) := by
  refine T.F_place_of.okX sc_place_of (fun vs H Q E h => ?_) (fun cdv A' outer s H vs Q E hr h => ?_)
  · obtain ⟨b, x, td, qs, P, z, n, ks, v, rfl, _⟩ := h
    rfl
  · obtain ⟨b, x, td, qs, P, z, n, ks, v, rfl, hG0, hv, q, qn⟩ := h
    refine ⟨_, (pss_cons (ps_expr (pe_call (ok_look_at_knot T) (hr.mono (by decide)) (by rfl) T.g_look_at_knot T.F_look_at_knot.kp T.s_look_at_knot .nil (passes_call (takes_of rfl rfl rfl rfl) (fun _ _ _ _ h => h)) (pa_cons (pv 1) (pa_cons (pv 2) pa_nil)))) (pss_one (ps_ret (pe_ix ix_tup (pe_call (ok_spot_of T) (hr.mono (by decide)) (by rfl) T.g_spot_of T.F_spot_of.kp T.s_spot_of .nil pass0 (pa_cons (pv 0) (pa_cons (pv 1) (pa_cons (pv 2) pa_nil)))) pe_int (fun _ _ => rfl))))), ?_⟩
    have hG := hG0.giv
    have hn1 := hG.n1
    have hn2 := hG.n2
    have hg := hG.gd
    obtain ⟨hfl, hzl, hz2⟩ := hG.fl
    have hple := hG.le
    have hkl := hG.kl
    refine q_dropC (ea_cons (ev_var rfl) (ea_cons (ev_var rfl) ea_nil)) fun H1 e1 => ⟨x, td, z, n, ks, P.length + 1, v, rfl, hG.bk.ex e1, hzl, Nat.le_add_left _ _, hv.ex e1, fun k hk hkt H2 e2 => ?_, fun ho H2 e2 => qn ho H2 (e1.trans e2)⟩
    subst hk
    obtain ⟨hS, q⟩ := q k rfl hkt
    have hk : k ≤ P.length := by omega
    have e02 := e1.trans e2
    have hpl := pl_lt hg hk
    refine s_retX (e_ix (e_callC (ea_cons (ev_var rfl) (ea_cons (ev_var rfl) (ea_cons (ev_var rfl) ea_nil))) fun H3 e3 => ⟨b, x, td, qs, P, z, n, ks, k, rfl, (hG.ex (e02.trans e3)).up (by omega), hk, hS _ List.mem_cons_self, fun p4 H4 np4 k4 hB4 h4 => ?_⟩))
    refine ev_c H4 (Ex.refl H4) _ fun H5 e5 => ⟨p4, _, _, _, rfl, rfl, st_of (e5 _ _ h4), rfl, ?_⟩
    exact q H5 ((k4.back (e02.trans e3)).trans (Kept.of e5)) (hB4.ex e5)

theorem sc_depth_of : FnScope ["book", "blocks", "knot"] ["book", "blocks", "knot"] (defScope s_depth_of) := ⟨rfl, rfl, rfl, by decide +kernel, rfl, by decide +kernel, by decide +kernel⟩
theorem ok_depth_of (T : Txt K mg A) : FnOk P w K mg base (L2.CX P w) 12 A.f_depth_of A.d_depth_of ["book", "blocks", "knot"] (spAns K A.c_Blocks A.c_NoKnot topK aDepth rdDepth) := by
  refine T.F_depth_of.okX sc_depth_of (fun vs H Q E h => ?_) (fun cdv A' outer s H vs Q E hr h => ?_)
  · obtain ⟨b, x, td, qs, P, z, n, ks, v, rfl, _⟩ := h
    rfl
  · obtain ⟨b, x, td, qs, P, z, n, ks, v, rfl, hG0, hv, q, qn⟩ := h
    refine ⟨_, (pss_cons (ps_expr (pe_call (ok_look_at_knot T) (hr.mono (by decide)) (by rfl) T.g_look_at_knot T.F_look_at_knot.kp T.s_look_at_knot .nil (passes_call (takes_of rfl rfl rfl rfl) (fun _ _ _ _ h => h)) (pa_cons (pv 1) (pa_cons (pv 2) pa_nil)))) (pss_one (ps_ret (pe_ix ix_tup (pe_call (ok_spot_of T) (hr.mono (by decide)) (by rfl) T.g_spot_of T.F_spot_of.kp T.s_spot_of .nil pass0 (pa_cons (pv 0) (pa_cons (pv 1) (pa_cons (pv 2) pa_nil)))) pe_int (fun _ _ => rfl))))), ?_⟩
    have hG := hG0.giv
    have hn1 := hG.n1
    have hn2 := hG.n2
    have hg := hG.gd
    obtain ⟨hfl, hzl, hz2⟩ := hG.fl
    have hple := hG.le
    have hkl := hG.kl
    refine q_dropC (ea_cons (ev_var rfl) (ea_cons (ev_var rfl) ea_nil)) fun H1 e1 => ⟨x, td, z, n, ks, P.length + 1, v, rfl, hG.bk.ex e1, hzl, Nat.le_add_left _ _, hv.ex e1, fun k hk hkt H2 e2 => ?_, fun ho H2 e2 => qn ho H2 (e1.trans e2)⟩
    subst hk
    obtain ⟨hS, q⟩ := q k rfl hkt
    have hk : k ≤ P.length := by omega
    have e02 := e1.trans e2
    have hpl := pl_lt hg hk
    refine s_retX (e_ix (e_callC (ea_cons (ev_var rfl) (ea_cons (ev_var rfl) (ea_cons (ev_var rfl) ea_nil))) fun H3 e3 => ⟨b, x, td, qs, P, z, n, ks, k, rfl, (hG.ex (e02.trans e3)).up (by omega), hk, hS _ List.mem_cons_self, fun p4 H4 np4 k4 hB4 h4 => ?_⟩))
    refine ev_c H4 (Ex.refl H4) _ fun H5 e5 => ⟨p4, _, _, _, rfl, rfl, st_of (e5 _ _ h4), rfl, ?_⟩
    rw [dep_ht hg hk]
    exact q H5 ((k4.back (e02.trans e3)).trans (Kept.of e5)) (hB4.ex e5)

theorem sc_height_at : FnScope ["book", "blocks", "place", "number", "at"] ["book", "blocks", "place"] (defScope s_height_at) := ⟨rfl, rfl, rfl, by decide +kernel, rfl, by decide +kernel, by decide +kernel⟩
theorem ok_height_at (T : Txt K mg A) : FnOk P w K mg base CX0 5 A.f_height_at A.d_height_at ["book", "blocks", "place"] (spHtAt A.c_Blocks) := by
  refine T.F_height_at.ok sc_height_at (fun vs H Q E h => ?_) (fun cdv A' outer s H vs Q E hr h => ?_)
  · obtain ⟨b, x, td, qs, P, z, n, ks, p, rfl, _⟩ := h
    rfl
  · obtain ⟨b, x, td, qs, P, z, n, ks, p, rfl, hG, hp, hc, q⟩ := h
    refine ⟨_, (pss_cons (ps_asg (pe_callB call_divmod (by rfl) T.b_divmod (by decide +kernel) (pa_cons (pv 2) (pa_cons (pe_fld (pv 1) rfl) pa_nil))) (pg_tup rfl (pgs_cons (pg_name (i := 3) sc_height_at.nd rfl (Or.inl rfl)) (pgs_cons (pg_name (i := 4) sc_height_at.nd rfl (Or.inl rfl)) pgs_nil)))) (pss_one (ps_ret (pe_ix ix_list (pe_call (ok_heights_in T) (hr.mono (by decide)) (by rfl) T.g_heights_in T.F_heights_in.kp T.s_heights_in .nil pass0 (pa_cons (pv 0) (pa_cons (pv 1) (pa_cons (pv 3) pa_nil)))) (pv 4) (fun _ _ => rfl))))), ?_⟩
    have hn1 := hG.n1
    have hn2 := hG.n2
    obtain ⟨⟨dx, pp, h1, h2⟩, h3⟩ := id hG.bk
    refine q_divmod (ea_cons (ev_var rfl) (ea_cons (ev_fld (ev_var rfl) h1 T.cl_Blocks T.n_Blocks_size bf_size) ea_nil)) hn1 hn2 fun H1 e1 => ?_
    refine s_retX (e_ix (e_callC (ea_cons (ev_var rfl) (ea_cons (ev_var rfl) (ea_cons (ev_var rfl) ea_nil))) fun H2 e2 => ⟨b, x, td, qs, P, z, n, ks, p / n, rfl, hG.ex (e1.trans e2), div_blk hp, hc, fun p' H3 np k3 hB3 h3' => ?_⟩))
    refine (ev_var rfl) H3 (Ex.refl H3) _ fun H4 e4 => ?_
    refine ⟨p', _, _, _, rfl, rfl, sq_of (e4 _ _ h3'), atI_nat (?_ : _ = some (V.int (ht (full P) p))), ?_⟩
    · have := div_at p n
      have := Nat.mod_lt p (show n > 0 by omega)
      rw [List.getElem?_map, hsg, hcut_at (by omega) (by omega), show p / n * n + p % n = p by omega]
      rfl
    · exact q H4 ((k3.back (e1.trans e2)).trans (Kept.of e4)) (hB3.ex e4)

theorem sc_bit_at : FnScope ["blocks", "place", "number", "at"] ["blocks", "place"] (defScope s_bit_at) := ⟨rfl, rfl, rfl, by decide +kernel, rfl, by decide +kernel, by decide +kernel⟩
theorem ok_bit_at (T : Txt K mg A) : FnOk P w K mg base CX0 4 A.f_bit_at A.d_bit_at ["blocks", "place"] (spBitAt A.c_Blocks) := by
  refine T.F_bit_at.ok sc_bit_at (fun vs H Q E h => ?_) (fun cdv A' outer s H vs Q E hr h => ?_)
  · obtain ⟨b, x, td, qs, P, z, n, ks, p, c, rfl, _⟩ := h
    rfl
  · obtain ⟨b, x, td, qs, P, z, n, ks, p, c, rfl, hG, hp, hc, q⟩ := h
    refine ⟨_, (pss_cons (ps_asg (pe_callB call_divmod (by rfl) T.b_divmod (by decide +kernel) (pa_cons (pv 1) (pa_cons (pe_fld (pv 0) rfl) pa_nil))) (pg_tup rfl (pgs_cons (pg_name (i := 2) sc_bit_at.nd rfl (Or.inl rfl)) (pgs_cons (pg_name (i := 3) sc_bit_at.nd rfl (Or.inl rfl)) pgs_nil)))) (pss_one (ps_ret (pe_ix ix_str (pe_meth (pv 0) T.cl_Blocks T.m_Blocks_part (ok_Blocks_part T) (hr.mono (by decide)) T.s_Blocks_part .nil passL (pa_cons (pv 2) pa_nil)) (pv 3) (fun _ _ => rfl))))), ?_⟩
    have hn1 := hG.n1
    have hn2 := hG.n2
    obtain ⟨hfl, hzl, hz2⟩ := hG.fl
    obtain ⟨⟨dx, pp, h1, h2⟩, h3⟩ := id hG.bk
    have hpl := (List.getElem?_eq_some_iff.mp hp).1
    have hjc : p / n < cnt z.length n := (cnt_iff hn1).mpr (by rw [hG.zl]; exact div_blk hpl)
    refine q_divmod (ea_cons (ev_var rfl) (ea_cons (ev_fld (ev_var rfl) h1 T.cl_Blocks T.n_Blocks_size bf_size) ea_nil)) hn1 hn2 fun H1 e1 => ?_
    refine s_retX (e_ix (e_methC (ev_var rfl) (e1 _ _ h1) (bf_no (by decide +kernel) (by decide +kernel) (by decide +kernel) (by decide +kernel)) (ea_cons (ev_var rfl) ea_nil) fun H2 e2 => ?_))
    refine part_at (hG.bk.ex (e1.trans e2)) hn1 (by omega) (by omega) hG.kl hjc fun H3 k3 hB3 => ?_
    rw [hc, cut_txt]
    refine (ev_var rfl) H3 (Ex.refl H3) _ fun H4 e4 => ?_
    refine ⟨_, _, code c, rfl, rfl, ?_, ?_, ?_⟩
    · rw [txt_len, List.length_take, List.length_drop]
      exact sz_of (by omega)
    · rw [txt_cps]
      refine atI_nat ?_
      have := div_at p n
      have := Nat.mod_lt p (show n > 0 by omega)
      unfold codes
      rw [List.getElem?_map, List.getElem?_take, if_pos (by omega), List.getElem?_drop, show p / n * n + p % n = p by omega, hp]
      rfl
    · exact q H4 ((k3.back (e1.trans e2)).trans (Kept.of e4)) (hB3.ex e4)

theorem sc_knot_at : FnScope ["book", "blocks", "place", "height"] ["book", "blocks", "place"] (defScope s_knot_at) := ⟨rfl, rfl, rfl, by decide +kernel, rfl, by decide +kernel, by decide +kernel⟩
theorem ok_knot_at (T : Txt K mg A) : FnOk P w K mg base (L2.CX P w) 12 A.f_knot_at A.d_knot_at ["book", "blocks", "place"] (spAns K A.c_Blocks A.c_NoKnot topP aKnot rdKnot) := by
  refine T.F_knot_at.okX sc_knot_at (fun vs H Q E h => ?_) (fun cdv A' outer s H vs Q E hr h => ?_)
  · obtain ⟨b, x, td, qs, P, z, n, ks, v, rfl, _⟩ := h
    rfl
  · obtain ⟨b, x, td, qs, P, z, n, ks, v, rfl, hG0, hv, q, qn⟩ := h
    refine ⟨_, (pss_cons (ps_if (pt_not (pt_val (pe_call (ok_is_whole_from T) (hr.mono (by decide)) (by rfl) T.g_is_whole_from T.F_is_whole_from.kp T.s_is_whole_from .nil pass0 (pa_cons pe_int (pa_cons (pe_op op_sub (pe_fld (pv 1) rfl) pe_int) (pa_cons (pv 2) pa_nil)))))) (pss_one (ps_raise rfl (takes_of rfl rfl rfl rfl) (pmk_own PySem.F.excBase_ValueError T.x_NoKnot T.g_NoKnot T.k_NoKnot (raises_own T.e_NoKnot T.t_NoKnot) (by exact rfl)))) pss_nil) (pss_cons (ps_set (i := 3) sc_knot_at.nd rfl (Or.inl rfl) (pe_call (ok_height_at T) (hr.mono (by decide)) (by rfl) T.g_height_at T.F_height_at.kp T.s_height_at .nil pass0 (pa_cons (pv 0) (pa_cons (pv 1) (pa_cons (pv 2) pa_nil))))) (pss_cons (ps_if (pt_cmpR op_eq (pe_call (ok_bit_at T) (hr.mono (by decide)) (by rfl) T.g_bit_at T.F_bit_at.kp T.s_bit_at .nil pass0 (pa_cons (pv 1) (pa_cons (pv 2) pa_nil))) pe_str (nomark _)) (pss_one (ps_ret (pe_call (ok_knots_ahead T) (hr.mono (by decide)) (by rfl) T.g_knots_ahead T.F_knots_ahead.kp T.s_knots_ahead .nil pass0 (pa_cons (pv 2) (pa_cons (pv 3) pa_nil))))) pss_nil) (pss_one (ps_ret (pe_call (ok_knot_back T) (hr.mono (by decide)) (by rfl) T.g_knot_back T.F_knot_back.kp T.s_knot_back .nil pass0 (pa_cons (pv 0) (pa_cons (pv 1) (pa_cons (pv 2) (pa_cons (pe_op op_sub (pv 3) pe_int) pa_nil)))))))))), ?_⟩
    have hG := hG0.giv
    have hn1 := hG.n1
    have hn2 := hG.n2
    have hg := hG.gd
    obtain ⟨hfl, hzl, hz2⟩ := hG.fl
    have hple := hG.le
    have hkl := hG.kl
    obtain ⟨⟨dx, pp, h1, h2⟩, h3⟩ := id hG.bk
    have htop : (z.length : Int) - 1 = (topP P : Int) - 1 := by unfold topP; rw [hG.zl]
    refine q_when (et_not (et_B (ev_call (ea_cons ev_c (ea_cons (ev_op (ev_fld (ev_var rfl) h1 T.cl_Blocks T.n_Blocks_length bf_length) ev_c rv_I0) (ea_cons (ev_var rfl) ea_nil))) (sv_wf hv)))) (fun hb H1 e1 => ?_) (fun hb H1 e1 => ?_)
    · rw [htop] at hb
      exact qn (by simpa using hb) H1 e1
    rw [htop] at hb
    obtain ⟨j, rfl, hj⟩ : ∃ j : Nat, v = .int (j : Int) ∧ j < topP P := by
      have hb' : inR 0 ((topP P : Int) - 1) v = true := by simpa using hb
      cases v with
      | int i =>
        have h2 : (decide (0 ≤ i) && decide (i ≤ (topP P : Int) - 1)) = true := hb'
        rw [Bool.and_eq_true, decide_eq_true_eq, decide_eq_true_eq] at h2
        exact ⟨i.toNat, by rw [Int.toNat_of_nonneg (by omega)], by omega⟩
      | _ => cases hb'
    clear hb
    obtain ⟨hS, q⟩ := q j rfl hj
    have hj : j < (full P).length := hj
    have hs0 : cutAt z n (j / n) = cutAt (txt (full P)) n (j / n) := hS _ (by unfold rdKnot; split <;> exact List.mem_cons_self)
    refine q_asgC (ea_cons (ev_var rfl) (ea_cons (ev_var rfl) (ea_cons (ev_var rfl) ea_nil))) fun H2 e2 => ⟨b, x, td, qs, P, z, n, ks, j, rfl, (hG.ex (e1.trans e2)).up (by omega), hj, hs0, fun H3 k3 hB3 => ?_⟩
    have k03 := k3.back (e1.trans e2)
    have hal3 := addK_len ks (j / n)
    have hG3 := hG.step k03 hB3 (m' := 8001) (by omega)
    obtain ⟨c, hc⟩ : ∃ c, (full P)[j]? = some c := ⟨_, List.getElem?_eq_getElem hj⟩
    refine q_whenX (e_ix (e_callC (ea_cons (ev_var rfl) (ea_cons (ev_var rfl) ea_nil)) fun H4 e4 => ⟨b, x, td, qs, P, z, n, _, j, c, rfl, (hG3.ex e4).up (by omega), hc, hs0, fun H5 k5 hB5 => ?_⟩))
    rw [addK_again] at hB5
    have k05 := k03.trans (k5.back e4)
    have hG5 := hG.step k05 hB5 (m' := 8001) (by omega)
    refine ⟨rfl, _, rfl, ?_⟩
    cases c with
    | true =>
      rw [if_pos (by decide +kernel)]
      refine s_ret (ev_call (ea_cons (ev_var rfl) (ea_cons (ev_var rfl) ea_nil)) sv_ahead) fun H6 e6 => ?_
      rw [ahead_ones (by omega)]
      have h9 := q H6 (k05.trans (Kept.of e6)) (by unfold rdKnot; rw [if_pos hc]; exact hB5.ex e6)
      unfold aKnot at h9
      rw [kat_one hg hc] at h9
      exact h9
    | false =>
      rw [if_neg (by decide +kernel)]
      obtain ⟨hI, hk⟩ := bk_kat hg hj hc
      have hrd : rdKnot P n j = [j / n, bkP (full P) j (ht (full P) j - 1) / n] := by unfold rdKnot; rw [if_neg (by rw [hc]; intro z9; cases z9)]
      rw [hrd] at hS q
      refine s_retC (ea_cons (ev_var rfl) (ea_cons (ev_var rfl) (ea_cons (ev_var rfl) (ea_cons (ev_op (ev_var rfl) ev_c rv_I0) ea_nil)))) fun H6 e6 => ⟨b, x, td, qs, P, z, n, _, j, _, _, rfl, (hG5.ex e6).up (by omega), hj, hI, hS, fun H7 k7 hB7 => ?_⟩
      rw [asks_head] at hB7
      have h9 := q H7 (k05.trans (k7.back e6)) hB7
      unfold aKnot at h9
      rw [hk] at h9
      exact h9

theorem sc_above : FnScope ["book", "blocks", "knot", "place", "depth"] ["book", "blocks", "knot"] (defScope s_above) := ⟨rfl, rfl, rfl, by decide +kernel, rfl, by decide +kernel, by decide +kernel⟩
theorem ok_above (T : Txt K mg A) : FnOk P w K mg base (L2.CX P w) 12 A.f_above A.d_above ["book", "blocks", "knot"] (spAns K A.c_Blocks A.c_NoKnot topK aAbove rdAbove) := by
  refine T.F_above.okX sc_above (fun vs H Q E h => ?_) (fun cdv A' outer s H vs Q E hr h => ?_)
  · obtain ⟨b, x, td, qs, P, z, n, ks, v, rfl, _⟩ := h
    rfl
  · obtain ⟨b, x, td, qs, P, z, n, ks, v, rfl, hG0, hv, q, qn⟩ := h
    refine ⟨_, (pss_cons (ps_expr (pe_call (ok_look_at_knot T) (hr.mono (by decide)) (by rfl) T.g_look_at_knot T.F_look_at_knot.kp T.s_look_at_knot .nil (passes_call (takes_of rfl rfl rfl rfl) (fun _ _ _ _ h => h)) (pa_cons (pv 1) (pa_cons (pv 2) pa_nil)))) (pss_cons (ps_asg (pe_call (ok_spot_of T) (hr.mono (by decide)) (by rfl) T.g_spot_of T.F_spot_of.kp T.s_spot_of .nil pass0 (pa_cons (pv 0) (pa_cons (pv 1) (pa_cons (pv 2) pa_nil)))) (pg_tup rfl (pgs_cons (pg_name (i := 3) sc_above.nd rfl (Or.inl rfl)) (pgs_cons (pg_name (i := 4) sc_above.nd rfl (Or.inl rfl)) pgs_nil)))) (pss_cons (ps_if (pt_cmpR op_eq (pv 4) pe_int (nomark _)) (pss_one (ps_ret pe_non)) pss_nil) (pss_one (ps_ret (pe_call (ok_knot_back T) (hr.mono (by decide)) (by rfl) T.g_knot_back T.F_knot_back.kp T.s_knot_back .nil pass0 (pa_cons (pv 0) (pa_cons (pv 1) (pa_cons (pv 3) (pa_cons (pe_op op_sub (pv 4) pe_int) pa_nil)))))))))), ?_⟩
    have hG := hG0.giv
    have hn1 := hG.n1
    have hn2 := hG.n2
    have hg := hG.gd
    obtain ⟨hfl, hzl, hz2⟩ := hG.fl
    have hple := hG.le
    have hkl := hG.kl
    refine q_dropC (ea_cons (ev_var rfl) (ea_cons (ev_var rfl) ea_nil)) fun H1 e1 => ⟨x, td, z, n, ks, P.length + 1, v, rfl, hG.bk.ex e1, hzl, Nat.le_add_left _ _, hv.ex e1, fun k hk hkt H2 e2 => ?_, fun ho H2 e2 => qn ho H2 (e1.trans e2)⟩
    subst hk
    obtain ⟨hS, q⟩ := q k rfl hkt
    have hk : k ≤ P.length := by omega
    have e02 := e1.trans e2
    have hpl := pl_lt hg hk
    have hs0 : cutAt z n (pl P k / n) = cutAt (txt (full P)) n (pl P k / n) := hS _ (by unfold rdAbove; split <;> exact List.mem_cons_self)
    refine q_asgUX (e_callC (ea_cons (ev_var rfl) (ea_cons (ev_var rfl) (ea_cons (ev_var rfl) ea_nil))) fun H3 e3 => ⟨b, x, td, qs, P, z, n, ks, k, rfl, (hG.ex (e02.trans e3)).up (by omega), hk, hs0, fun p4 H4 np4 k4 hB4 h4 => g_tup2 (st_of h4) ?_⟩)
    have k04 := k4.back (e02.trans e3)
    have hal4 := addK_len ks (pl P k / n)
    have hG4 := hG.step k04 hB4 (m' := 8001) (by omega)
    by_cases k0 : k = 0
    · refine q_when (b := true) (et_is (et_test (ev_op (ev_var rfl) ev_c (rv_eq rfl))) (by rw [dec_I, decide_eq_true ((pl_zero_iff hg hk).mpr k0)])) (fun _ H5 e5 => ?_) (fun hb => nomatch hb)
      refine s_ret ev_c fun H6 e6 => ?_
      have h9 := q H6 (k04.trans (Kept.of (e5.trans e6))) (by unfold rdAbove; rw [if_pos k0]; exact hB4.ex (e5.trans e6))
      rw [k0, aAbove_0] at h9
      exact h9
    · obtain ⟨hI, hpar⟩ := bk_above hg hk k0
      refine q_when (b := false) (et_is (et_test (ev_op (ev_var rfl) ev_c (rv_eq rfl))) (by rw [dec_I, decide_eq_false (fun z9 => k0 ((pl_zero_iff hg hk).mp z9))])) (fun hb => nomatch hb) (fun _ H5 e5 => ?_)
      have hrd : rdAbove P n k = [pl P k / n, bkP (full P) (pl P k) (ht (full P) (pl P k) - 1) / n] := by unfold rdAbove; rw [if_neg k0]
      rw [hrd] at hS q
      refine s_retC (ea_cons (ev_var rfl) (ea_cons (ev_var rfl) (ea_cons (ev_var rfl) (ea_cons (ev_op (ev_var rfl) ev_c rv_I0) ea_nil)))) fun H6 e6 => ⟨b, x, td, qs, P, z, n, _, pl P k, _, _, rfl, (hG4.ex (e5.trans e6)).up (by omega), hpl, hI, hS, fun H7 k7 hB7 => ?_⟩
      rw [asks_head] at hB7
      rw [← aAbove_is hpar]
      exact q H7 (k04.trans (k7.back (e5.trans e6))) hB7

theorem sc_block_on : FnScope ["book", "number", "height"] ["book", "number", "height"] (defScope s_block_on) := ⟨rfl, rfl, rfl, by decide +kernel, rfl, by decide +kernel, by decide +kernel⟩
theorem ok_block_on (T : Txt K mg A) : FnOk P w K mg base CX0 1 A.f_block_on A.d_block_on ["book", "number", "height"] spBlkOn := by
  refine T.F_block_on.ok sc_block_on (fun vs H Q E h => ?_) (fun cdv A' outer s H vs Q E hr h => ?_)
  · obtain ⟨b, qs, L, n, p, e, rfl, _⟩ := h
    rfl
  · obtain ⟨b, qs, L, n, p, e, rfl, hB, hn1, hL, hI, hne, q⟩ := h
    refine ⟨_, (pss_cons (ps_aug (i := 1) sc_block_on.nd rfl (Or.inl rfl) pe_int ip_add) (pss_cons (ps_while PassesOwn.never (pt_cmpR op_gt (pe_ix ix_tup (pe_ix ix_list (pv 0) (pv 1) (fun _ _ => rfl)) pe_int (fun _ _ => rfl)) (pv 2) (nomark _)) (pss_one (ps_aug (i := 1) sc_block_on.nd rfl (Or.inl rfl) pe_int ip_add))) (pss_one (ps_ret (pv 1))))), ?_⟩
    have hle : p / n ≤ e / n := Nat.div_le_div_right (Nat.le_of_lt hI.1)
    have hpb := div_blk (n := n) hI.2.1
    have hz1 := Nat.zero_le (e / n)
    have hz2 := Nat.zero_le (p / n)
    refine q_aug rfl ev_c fun H1 e1 => ?_
    refine q_while (fun (m : Nat) (σ' : L2.St) (H' : Hp) => ∃ (j : Nat), σ' = [some (.ref b), some (.int (j : Int)), some (.int (ht L p))] ∧ Ex H H' ∧ p / n < j ∧ j ≤ e / n ∧ m = e / n - j) (e / n - (p / n + 1)) ?_ ?_
    · exact ⟨p / n + 1, rfl, e1, by omega, by omega, rfl⟩
    · rintro m σ' H2 ⟨j, rfl, e2, h1, h2, h3⟩
      have hjn : j * n ≤ e / n * n := Nat.mul_le_mul_right _ (by omega)
      obtain ⟨r, hat, hrow⟩ := hB.at_ (j := j) hn1 (by omega)
      refine ⟨decide (lmin (seg L n j) > ht L p), (et_test (ev_op (ev_op (ev_op (ev_var rfl) (ev_var rfl) (rv_ixL (sq_of (e2 _ _ hB.ls)) hat)) ev_c (rv_ixT (st_of (e2 _ _ hrow)) rfl)) (ev_var rfl) rv_I0)), fun hb H3 e3 => ?_, fun hb H3 e3 => ?_⟩
      · have hb' := of_decide_eq_true hb
        have hj : e / n ≠ j := fun z => by
          have := en_hit hn1 hI
          rw [z] at this
          omega
        refine ⟨fun σ2 H2 => ∃ m' < m, ∃ (j : Nat), σ2 = [some (.ref b), some (.int (j : Int)), some (.int (ht L p))] ∧ Ex H H2 ∧ p / n < j ∧ j ≤ e / n ∧ m' = e / n - j, fun σ2 H2 h => h, ?_⟩
        exact s_aug rfl ev_c fun H4 e4 => ⟨e / n - (j + 1), by omega, j + 1, rfl, (e2.trans e3).trans e4, by omega, by omega, rfl⟩
      · have hb' := of_decide_eq_false hb
        have hj : e / n = j := by
          by_cases c : e / n = j
          · exact c
          · exact absurd (Int.not_lt.mp hb') (en_over hn1 hI (m := j) h1 (by omega))
        refine s_ret (ev_var rfl) fun H4 e4 => ?_
        rw [← hj]
        exact q H4 ((e2.trans e3).trans e4)

theorem sc_end_of : FnScope ["book", "blocks", "place", "depth", "number", "at", "behind"] ["book", "blocks", "place", "depth"] (defScope s_end_of) := ⟨rfl, rfl, rfl, by decide +kernel, rfl, by decide +kernel, by decide +kernel⟩
theorem ok_end_of (T : Txt K mg A) : FnOk P w K mg base CX0 6 A.f_end_of A.d_end_of ["book", "blocks", "place", "depth"] (spEnd A.c_Blocks) := by
  refine T.F_end_of.ok sc_end_of (fun vs H Q E h => ?_) (fun cdv A' outer s H vs Q E hr h => ?_)
  · obtain ⟨b, x, td, qs, P, z, n, ks, p, e, rfl, _⟩ := h
    rfl
  · obtain ⟨b, x, td, qs, P, z, n, ks, p, e, rfl, hG, hI, hS, q⟩ := h
    refine ⟨_, (pss_cons (ps_asg (pe_callB call_divmod (by rfl) T.b_divmod (by decide +kernel) (pa_cons (pv 2) (pa_cons (pe_fld (pv 1) rfl) pa_nil))) (pg_tup rfl (pgs_cons (pg_name (i := 4) sc_end_of.nd rfl (Or.inl rfl)) (pgs_cons (pg_name (i := 5) sc_end_of.nd rfl (Or.inl rfl)) pgs_nil)))) (pss_cons (ps_set (i := 6) sc_end_of.nd rfl (Or.inl rfl) (pe_slice sl_list (pe_call (ok_heights_in T) (hr.mono (by decide)) (by rfl) T.g_heights_in T.F_heights_in.kp T.s_heights_in .nil pass0 (pa_cons (pv 0) (pa_cons (pv 1) (pa_cons (pv 4) pa_nil)))) (po_some (pe_op op_add (pv 5) pe_int)) po_none)) (pss_cons (ps_if (pt_cmpR op_in_seq (pv 3) (pv 6) (by rfl)) (pss_one (ps_ret (pe_op op_add (pv 2) (pe_bm PySem.F.plainAttrs_list PySem.F.slot_list_index PySem.F.type_list_index mt_index (pv 6) (pa_cons (pv 3) pa_nil))))) pss_nil) (pss_cons (ps_set (i := 4) sc_end_of.nd rfl (Or.inl rfl) (pe_call (ok_block_on T) (hr.mono (by decide)) (by rfl) T.g_block_on T.F_block_on.kp T.s_block_on .nil pass0 (pa_cons (pv 0) (pa_cons (pv 4) (pa_cons (pv 3) pa_nil))))) (pss_cons (ps_set (i := 6) sc_end_of.nd rfl (Or.inl rfl) (pe_slice sl_list (pe_call (ok_heights_in T) (hr.mono (by decide)) (by rfl) T.g_heights_in T.F_heights_in.kp T.s_heights_in .nil pass0 (pa_cons (pv 0) (pa_cons (pv 1) (pa_cons (pv 4) pa_nil)))) (po_some pe_int) po_none)) (pss_one (ps_ret (pe_op op_add (pe_op op_mul (pv 4) (pe_fld (pv 1) rfl)) (pe_bm PySem.F.plainAttrs_list PySem.F.slot_list_index PySem.F.type_list_index mt_index (pv 6) (pa_cons (pv 3) pa_nil)))))))))), ?_⟩
    have hn1 := hG.n1
    have hn2 := hG.n2
    obtain ⟨hfl, hzl, hz2⟩ := hG.fl
    obtain ⟨⟨dx, pp, h1, h2⟩, h3⟩ := id hG.bk
    have hple := hG.le
    have hkl := hG.kl
    have hpe := hI.1
    have hel := hI.2.1
    have hmp := Nat.mod_lt p (show n > 0 by omega)
    have hda := div_at p n
    have hde := div_at e n
    have hin := en_in hn1 hI
    have hbp := div_blk (n := n) hel
    refine q_divmod (ea_cons (ev_var rfl) (ea_cons (ev_fld (ev_var rfl) h1 T.cl_Blocks T.n_Blocks_size bf_size) ea_nil)) hn1 hn2 fun H1 e1 => ?_
    refine q_asgX (e_slC (ea_cons (ev_var rfl) (ea_cons (ev_var rfl) (ea_cons (ev_var rfl) ea_nil))) fun H2 e2 => ⟨b, x, td, qs, P, z, n, ks, p / n, rfl, (hG.ex (e1.trans e2)).up (by omega), div_blk (by omega), hS _ List.mem_cons_self, fun p3 H3 np3 k3 hB3 h3' => ?_⟩)
    refine sl_at (sq_of h3') (eo_some (ev_op (ev_var rfl) ev_c rv_I0)) eo_none fun hp4 H4 np4 e4 h4 => ?_
    rw [cutV_drop (m := p % n + 1) _ (show ((p % n : Nat) : Int) + 1 = ((p % n + 1 : Nat) : Int) by omega), hsg, hcut_drop, show p / n * n + (p % n + 1) = p + 1 by omega, show n + 1 - (p % n + 1) = n - p % n by omega] at h4
    have k04 := (k3.back (e1.trans e2)).trans (Kept.of e4)
    have hB4 := hB3.ex e4
    have hl1 := addK_len ks (p / n)
    have hG4 := hG.step k04 hB4 (m' := 8991) (by omega)
    refine q_when (et_test (ev_op (ev_var rfl) (ev_var rfl) (rv_isL (sq_of h4) rfl (flat_mapI _)))) (fun hb H5 e5 => ?_) (fun hb H5 e5 => ?_)
    · rw [inV_mapI] at hb
      have hv := of_decide_eq_true hb
      have heq : e / n = p / n := by
        by_cases c : e / n = p / n
        · exact c
        · exact absurd hv (hin.2 c)
      obtain ⟨t1, t2⟩ := hin.1 heq
      refine s_ret (ev_op (ev_var rfl) (ev_indexI (ev_var rfl) (sq_of (e5 _ _ h4)) (ev_var rfl) t1 t2) rv_I0) fun H6 e6 => ?_
      rw [show (p : Int) + ((e - p : Nat) : Int) = (e : Int) by omega]
      refine q H6 (k04.trans (Kept.of (e5.trans e6))) ?_
      rw [heq]
      show Bk _ _ _ _ _ _ (addK (addK ks (p / n)) (p / n))
      rw [addK_again]
      exact hB4.ex (e5.trans e6)
    · rw [inV_mapI] at hb
      have hv := of_decide_eq_false hb
      have hne : e / n ≠ p / n := fun c => hv (List.mem_of_getElem? (hin.1 c).1)
      have hG5 := hG4.ex e5
      refine q_asg (ev_call (ea_cons (ev_var rfl) (ea_cons (ev_var rfl) (ea_cons (ev_var rfl) ea_nil))) (sv_blkOn hG5.bok hn1 (by omega) hI hne)) fun H6 e6 => ?_
      refine q_asgX (e_slC (ea_cons (ev_var rfl) (ea_cons (ev_var rfl) (ea_cons (ev_var rfl) ea_nil))) fun H7 e7 => ⟨b, x, td, qs, P, z, n, addK ks (p / n), e / n, rfl, (hG5.ex (e6.trans e7)).up (by omega), hbp, hS _ (List.mem_cons_of_mem _ List.mem_cons_self), fun p8 H8 np8 k8 hB8 h8 => ?_⟩)
      refine sl_at (sq_of h8) (eo_some ev_c) eo_none fun p9 H9 np9 e9 h9 => ?_
      rw [cutV_drop (v := 1) (m := 1) _ rfl, hsg_tail] at h9
      obtain ⟨t1, t2⟩ := en_there hn1 hI hne
      have hB9 := hB8.ex e9
      obtain ⟨⟨dx5, pp5, g1, g2⟩, g3⟩ := id hB9
      refine s_ret (ev_op (ev_op (ev_var rfl) (ev_fld (ev_var rfl) g1 T.cl_Blocks T.n_Blocks_size bf_size) (rv_I (.inr ⟨by omega, by omega⟩))) (ev_indexI (ev_var rfl) (sq_of h9) (ev_var rfl) t1 t2) rv_I0) fun H10 e10 => ?_
      have hlast : ((e / n : Nat) : Int) * (n : Int) + ((e % n : Nat) : Int) = (e : Int) := by
        rw [← Int.natCast_mul]
        omega
      rw [hlast]
      exact q H10 ((k04.trans (k8.back (e5.trans (e6.trans e7)))).trans (Kept.of (e9.trans e10))) (hB9.ex e10)

theorem sc_beneath : FnScope ["book", "blocks", "knot", "place", "depth"] ["book", "blocks", "knot"] (defScope s_beneath) := ⟨rfl, rfl, rfl, by decide +kernel, rfl, by decide +kernel, by decide +kernel⟩
theorem ok_beneath (T : Txt K mg A) : FnOk P w K mg base (L2.CX P w) 12 A.f_beneath A.d_beneath ["book", "blocks", "knot"] (spAns K A.c_Blocks A.c_NoKnot topK aBeneath rdBeneath) := by
  refine T.F_beneath.okX sc_beneath (fun vs H Q E h => ?_) (fun cdv A' outer s H vs Q E hr h => ?_)
  · obtain ⟨b, x, td, qs, P, z, n, ks, v, rfl, _⟩ := h
    rfl
  · obtain ⟨b, x, td, qs, P, z, n, ks, v, rfl, hG0, hv, q, qn⟩ := h
    refine ⟨_, (pss_cons (ps_expr (pe_call (ok_look_at_knot T) (hr.mono (by decide)) (by rfl) T.g_look_at_knot T.F_look_at_knot.kp T.s_look_at_knot .nil (passes_call (takes_of rfl rfl rfl rfl) (fun _ _ _ _ h => h)) (pa_cons (pv 1) (pa_cons (pv 2) pa_nil)))) (pss_cons (ps_asg (pe_call (ok_spot_of T) (hr.mono (by decide)) (by rfl) T.g_spot_of T.F_spot_of.kp T.s_spot_of .nil pass0 (pa_cons (pv 0) (pa_cons (pv 1) (pa_cons (pv 2) pa_nil)))) (pg_tup rfl (pgs_cons (pg_name (i := 3) sc_beneath.nd rfl (Or.inl rfl)) (pgs_cons (pg_name (i := 4) sc_beneath.nd rfl (Or.inl rfl)) pgs_nil)))) (pss_one (ps_ret (pe_op op_fdiv (pe_op op_sub (pe_call (ok_end_of T) (hr.mono (by decide)) (by rfl) T.g_end_of T.F_end_of.kp T.s_end_of .nil pass0 (pa_cons (pv 0) (pa_cons (pv 1) (pa_cons (pv 3) (pa_cons (pv 4) pa_nil))))) (pv 3)) pe_int))))), ?_⟩
    have hG := hG0.giv
    have hn1 := hG.n1
    have hn2 := hG.n2
    have hg := hG.gd
    obtain ⟨hfl, hzl, hz2⟩ := hG.fl
    have hple := hG.le
    have hkl := hG.kl
    refine q_dropC (ea_cons (ev_var rfl) (ea_cons (ev_var rfl) ea_nil)) fun H1 e1 => ⟨x, td, z, n, ks, P.length + 1, v, rfl, hG.bk.ex e1, hzl, Nat.le_add_left _ _, hv.ex e1, fun k hk hkt H2 e2 => ?_, fun ho H2 e2 => qn ho H2 (e1.trans e2)⟩
    subst hk
    obtain ⟨hS, q⟩ := q k rfl hkt
    have hk : k ≤ P.length := by omega
    have e02 := e1.trans e2
    have hpl := pl_lt hg hk
    have hs0 : cutAt z n (pl P k / n) = cutAt (txt (full P)) n (pl P k / n) := hS _ List.mem_cons_self
    refine q_asgUX (e_callC (ea_cons (ev_var rfl) (ea_cons (ev_var rfl) (ea_cons (ev_var rfl) ea_nil))) fun H3 e3 => ⟨b, x, td, qs, P, z, n, ks, k, rfl, (hG.ex (e02.trans e3)).up (by omega), hk, hs0, fun p4 H4 np4 k4 hB4 h4 => g_tup2 (st_of h4) ?_⟩)
    have k04 := k4.back (e02.trans e3)
    have hal4 := addK_len ks (pl P k / n)
    have hG4 := hG.step k04 hB4 (m' := 8001) (by omega)
    have hE := en_pl hg hk
    have hb := ben_at hg hk hE.2.1 hE.1 hE.2.2.1 hE.2.2.2
    refine s_retX (e_ix (e_ix (e_callC (ea_cons (ev_var rfl) (ea_cons (ev_var rfl) (ea_cons (ev_var rfl) (ea_cons (ev_var rfl) ea_nil)))) fun H5 e5 => ⟨b, x, td, qs, P, z, n, _, pl P k, _, rfl, (hG4.ex e5).up (by omega), hE, hS, fun H6 k6 hB6 => ?_⟩)))
    refine ⟨_, rfl, _, _, rfl, rfl, _, _, rfl, rfl, ⟨by decide, by decide⟩, ?_⟩
    rw [asks_head] at hB6
    have hval : ((enP (full P) (pl P k) : Int) - (pl P k : Int)) / 2 = (ben P k : Int) := by omega
    dsimp only
    rw [hval]
    exact q H6 (k04.trans (k6.back e5)) hB6

theorem sc_beside : FnScope ["book", "blocks", "knot", "place", "depth", "following"] ["book", "blocks", "knot"] (defScope s_beside) := ⟨rfl, rfl, rfl, by decide +kernel, rfl, by decide +kernel, by decide +kernel⟩
theorem ok_beside (T : Txt K mg A) : FnOk P w K mg base (L2.CX P w) 12 A.f_beside A.d_beside ["book", "blocks", "knot"] (spAns K A.c_Blocks A.c_NoKnot topK aBeside rdBeside) := by
  refine T.F_beside.okX sc_beside (fun vs H Q E h => ?_) (fun cdv A' outer s H vs Q E hr h => ?_)
  · obtain ⟨b, x, td, qs, P, z, n, ks, v, rfl, _⟩ := h
    rfl
  · obtain ⟨b, x, td, qs, P, z, n, ks, v, rfl, hG0, hv, q, qn⟩ := h
    refine ⟨_, (pss_cons (ps_expr (pe_call (ok_look_at_knot T) (hr.mono (by decide)) (by rfl) T.g_look_at_knot T.F_look_at_knot.kp T.s_look_at_knot .nil (passes_call (takes_of rfl rfl rfl rfl) (fun _ _ _ _ h => h)) (pa_cons (pv 1) (pa_cons (pv 2) pa_nil)))) (pss_cons (ps_asg (pe_call (ok_spot_of T) (hr.mono (by decide)) (by rfl) T.g_spot_of T.F_spot_of.kp T.s_spot_of .nil pass0 (pa_cons (pv 0) (pa_cons (pv 1) (pa_cons (pv 2) pa_nil)))) (pg_tup rfl (pgs_cons (pg_name (i := 3) sc_beside.nd rfl (Or.inl rfl)) (pgs_cons (pg_name (i := 4) sc_beside.nd rfl (Or.inl rfl)) pgs_nil)))) (pss_cons (ps_set (i := 5) sc_beside.nd rfl (Or.inl rfl) (pe_op op_add (pe_call (ok_end_of T) (hr.mono (by decide)) (by rfl) T.g_end_of T.F_end_of.kp T.s_end_of .nil pass0 (pa_cons (pv 0) (pa_cons (pv 1) (pa_cons (pv 3) (pa_cons (pv 4) pa_nil))))) pe_int)) (pss_cons (ps_if (PW.pt (pw_or (pt_cmpR op_eq (pv 5) (pe_fld (pv 1) rfl) (nomark _)) (pw_or1 (pt_cmpR op_eq (pe_call (ok_bit_at T) (hr.mono (by decide)) (by rfl) T.g_bit_at T.F_bit_at.kp T.s_bit_at .nil pass0 (pa_cons (pv 1) (pa_cons (pv 5) pa_nil))) pe_str (nomark _))))) (pss_one (ps_ret pe_non)) pss_nil) (pss_one (ps_ret (pe_call (ok_knots_ahead T) (hr.mono (by decide)) (by rfl) T.g_knots_ahead T.F_knots_ahead.kp T.s_knots_ahead .nil pass0 (pa_cons (pv 5) (pa_cons (pv 4) pa_nil))))))))), ?_⟩
    have hG := hG0.giv
    have hn1 := hG.n1
    have hn2 := hG.n2
    have hg := hG.gd
    obtain ⟨hfl, hzl, hz2⟩ := hG.fl
    have hple := hG.le
    have hkl := hG.kl
    refine q_dropC (ea_cons (ev_var rfl) (ea_cons (ev_var rfl) ea_nil)) fun H1 e1 => ⟨x, td, z, n, ks, P.length + 1, v, rfl, hG.bk.ex e1, hzl, Nat.le_add_left _ _, hv.ex e1, fun k hk hkt H2 e2 => ?_, fun ho H2 e2 => qn ho H2 (e1.trans e2)⟩
    subst hk
    obtain ⟨hS, q⟩ := q k rfl hkt
    have hk : k ≤ P.length := by omega
    have e02 := e1.trans e2
    have hpl := pl_lt hg hk
    have hs0 : cutAt z n (pl P k / n) = cutAt (txt (full P)) n (pl P k / n) := hS _ (by unfold rdBeside; split <;> exact List.mem_cons_self)
    refine q_asgUX (e_callC (ea_cons (ev_var rfl) (ea_cons (ev_var rfl) (ea_cons (ev_var rfl) ea_nil))) fun H3 e3 => ⟨b, x, td, qs, P, z, n, ks, k, rfl, (hG.ex (e02.trans e3)).up (by omega), hk, hs0, fun p4 H4 np4 k4 hB4 h4 => g_tup2 (st_of h4) ?_⟩)
    have k04 := k4.back (e02.trans e3)
    have hal4 := addK_len ks (pl P k / n)
    have hG4 := hG.step k04 hB4 (m' := 8001) (by omega)
    have hE := en_pl hg hk
    have hbs := beside_at hg hk hE.2.1 hE.1 hE.2.2.1 hE.2.2.2
    have hS2 : KB.Same z (full P) n [pl P k / n, enP (full P) (pl P k) / n] := fun j hj => hS j (by
      unfold rdBeside
      split
      · exact hj
      · rcases List.mem_cons.mp hj with h | h
        · rw [h]; exact List.mem_cons_self
        · rw [List.mem_singleton.mp h]; exact List.mem_cons_of_mem _ List.mem_cons_self)
    refine q_asgX (e_ix (e_callC (ea_cons (ev_var rfl) (ea_cons (ev_var rfl) (ea_cons (ev_var rfl) (ea_cons (ev_var rfl) ea_nil)))) fun H5 e5 => ⟨b, x, td, qs, P, z, n, _, pl P k, _, rfl, (hG4.ex e5).up (by omega), hE, hS2, fun H6 k6 hB6 => ?_⟩))
    refine ⟨_, _, rfl, rfl, ?_⟩
    rw [asks_head] at hB6
    have k06 := k04.trans (k6.back e5)
    obtain ⟨⟨dx6, pp6, g1, g2⟩, g3⟩ := id hB6
    have hal6 : (asks ks [pl P k / n, enP (full P) (pl P k) / n]).length ≤ ks.length + 2 := asks_len [pl P k / n, enP (full P) (pl P k) / n] ks
    have hG6 := hG.step k06 hB6 (m' := 8002) (by omega)
    obtain ⟨e, he⟩ : ∃ e, e = enP (full P) (pl P k) := ⟨_, rfl⟩
    have hel := hE.2.1
    have hht := hE.2.2.1
    rw [← he] at hbs hB6 hG6 hel hht ⊢
    dsimp only
    rw [show (e : Int) + 1 = ((e + 1 : Nat) : Int) by omega]
    by_cases c : e + 1 = (full P).length
    · have hnone : bes P k = none := by
        rw [hbs, if_neg]
        rw [c, List.getElem?_eq_none (Nat.le_refl _)]
        intro z9; cases z9
      refine q_or2X ((ev_op (ev_var rfl) (ev_fld (ev_var rfl) g1 T.cl_Blocks T.n_Blocks_length bf_length) (rv_eq rfl)) H6 (Ex.refl H6) _ fun H7 e7 => k_of rfl ?_)
      rw [dec_I, decide_eq_true (by rw [hG.zl]; omega), if_pos rfl, if_pos rfl]
      refine s_ret ev_c fun H8 e8 => ?_
      have h9 := q H8 (k06.trans (Kept.of (e7.trans e8))) (by unfold rdBeside; rw [← he, if_pos c]; exact hB6.ex (e7.trans e8))
      unfold aBeside at h9
      rw [hnone] at h9
      exact h9
    · have hrd : rdBeside P n k = [pl P k / n, e / n, (e + 1) / n] := by unfold rdBeside; rw [← he, if_neg c]
      rw [hrd] at hS q
      obtain ⟨y, hy⟩ : ∃ y, (full P)[e + 1]? = some y := ⟨_, List.getElem?_eq_getElem (by omega)⟩
      refine q_or2X ((ev_op (ev_var rfl) (ev_fld (ev_var rfl) g1 T.cl_Blocks T.n_Blocks_length bf_length) (rv_eq rfl)) H6 (Ex.refl H6) _ fun H7 e7 => k_of rfl ?_)
      rw [dec_I, decide_eq_false (by rw [hG.zl]; omega), if_neg Bool.false_ne_true]
      refine e_ix (e_callC (ea_cons (ev_var rfl) (ea_cons (ev_var rfl) ea_nil)) fun H8 e8 => ⟨b, x, td, qs, P, z, n, _, e + 1, y, rfl, (hG6.ex (e7.trans e8)).up (by omega), hy, hS _ (List.mem_cons_of_mem _ (List.mem_cons_of_mem _ List.mem_cons_self)), fun H9 k9 hB9 => ?_⟩)
      refine ⟨rfl, _, rfl, ?_⟩
      have k09 := k06.trans (k9.back (e7.trans e8))
      have hB9' : Bk A.c_Blocks H9 x td z n (asks ks [pl P k / n, e / n, (e + 1) / n]) := hB9
      cases y with
      | false =>
        rw [if_pos (by decide +kernel)]
        refine s_ret ev_c fun H10 e10 => ?_
        have h9 := q H10 (k09.trans (Kept.of e10)) (hB9'.ex e10)
        unfold aBeside at h9
        rw [hbs, hy, if_neg (by intro z9; cases z9)] at h9
        exact h9
      | true =>
        rw [if_neg (by decide +kernel)]
        refine s_ret (ev_call (ea_cons (ev_var rfl) (ea_cons (ev_var rfl) ea_nil)) sv_ahead) fun H10 e10 => ?_
        have h9 := q H10 (k09.trans (Kept.of e10)) (hB9'.ex e10)
        unfold aBeside at h9
        rw [hbs, hy, if_pos rfl] at h9
        rw [← hht, ahead_ones (by omega)]
        exact h9

theorem sc_many_kids : FnScope ["gaps", "row"] ["gaps"] (defScope s_many_kids) := ⟨rfl, rfl, rfl, by decide +kernel, rfl, by decide +kernel, by decide +kernel⟩
theorem ok_many_kids (T : Txt K mg A) : FnOk P w K mg base CX0 1 A.f_many_kids A.d_many_kids ["gaps"] (spMany' K) := by
  refine T.F_many_kids.ok sc_many_kids (fun vs H Q E h => ?_) (fun cdv A' outer s H vs Q E hr h => ?_)
  · obtain ⟨a, rs, gs, rfl, _⟩ := h
    rfl
  · obtain ⟨a, rs, gs, rfl, hS, hP, hl, q⟩ := h
    refine ⟨_, (pss_one (ps_ret (pe_op op_sub (pe_callB (cr_sum rfl) (by rfl) T.b_sum (by decide +kernel) (pa_cons (pe_lc (own := [("row", 1)]) (g := gName 1) (tt := tYes) rfl sc_many_kids.nd (pi_list (pv 0)) (blkOk_by (N := ["gaps", "row"]) (sc := defScope s_many_kids) (by decide +kernel)) (fun _ _ _ _ _ => pg_name (i := 1) sc_many_kids.nd rfl (Or.inl rfl)) (fun _ _ _ _ _ => pts_nil) (fun _ _ _ _ _ => (pe_ix (show IxR _ (rIxT K) from ix_tup) (pv 1) pe_int (fun _ _ => rfl)))) pa_nil)) pe_int))), ?_⟩
    have hlr := hP.1
    have hval : given (rs.map V.ref).length (fun _ => true) (fun i => .int (((gs[i]?.map (·.2)).getD 0 : Nat) : Int)) = (gs.map fun g => (g.2 : Int)).map V.int := by
      rw [given_all, List.length_map, hlr]
      apply List.ext_getElem?
      intro i
      rw [List.getElem?_map, List.getElem?_map, List.getElem?_map]
      by_cases c : i < gs.length
      · obtain ⟨g, hg⟩ : ∃ g, gs[i]? = some g := ⟨_, List.getElem?_eq_getElem c⟩
        rw [List.getElem?_range c, hg, Option.map_some, hg]
        rfl
      · rw [List.getElem?_eq_none (by rw [List.length_range]; omega), List.getElem?_eq_none (by omega)]
        rfl
    refine s_ret (ev_op (ev_sumN (el_is (el_lcL (fun _ => true) (fun i => .int (((gs[i]?.map (·.2)).getD 0 : Nat) : Int)) (ev_var rfl) hS (by rw [List.length_map]; omega) (fun _ => rfl) (fun i x H1 e1 hx => et_yes) (fun i x H1 e1 hx _ => ?_)) hval)) ev_c rv_I0) fun H1 e1 => ?_
    · rw [List.getElem?_map] at hx
      cases hr9 : rs[i]? with
      | none => rw [hr9] at hx; cases hx
      | some r =>
        rw [hr9] at hx
        cases hx
        have hi := (List.getElem?_eq_some_iff.mp hr9).1
        obtain ⟨g, hg⟩ : ∃ g, gs[i]? = some g := ⟨_, List.getElem?_eq_getElem (by omega)⟩
        rw [hg]
        exact (ev_op (ev_var rfl) ev_c (rv_ixT (st_of (e1 _ _ (hP.2 i r g hr9 hg))) rfl))
    · rw [sum_cast]
      exact q H1 e1

theorem sc_gaps_of : FnScope ["book", "blocks", "place", "depth", "end", "rows", "number", "least", "many"] ["book", "blocks", "place", "depth"] (defScope s_gaps_of) := ⟨rfl, rfl, rfl, by decide +kernel, rfl, by decide +kernel, by decide +kernel⟩
theorem ok_gaps_of (T : Txt K mg A) : FnOk P w K mg base CX0 7 A.f_gaps_of A.d_gaps_of ["book", "blocks", "place", "depth"] (spGaps A.c_Blocks) := by
  refine T.F_gaps_of.ok sc_gaps_of (fun vs H Q E h => ?_) (fun cdv A' outer s H vs Q E hr h => ?_)
  · obtain ⟨b, x, td, qs, P, z, n, ks, p, e, rfl, _⟩ := h
    rfl
  · obtain ⟨b, x, td, qs, P, z, n, ks, p, e, rfl, hG, hI, hS, q⟩ := h
    refine ⟨_, (pss_cons (ps_set (i := 4) sc_gaps_of.nd rfl (Or.inl rfl) (pe_call (ok_end_of T) (hr.mono (by decide)) (by rfl) T.g_end_of T.F_end_of.kp T.s_end_of .nil pass0 (pa_cons (pv 0) (pa_cons (pv 1) (pa_cons (pv 2) (pa_cons (pv 3) pa_nil)))))) (pss_cons (ps_set (i := 5) sc_gaps_of.nd rfl (Or.inl rfl) (pe_call (ok_lows_between T) (hr.mono (by decide)) (by rfl) T.g_lows_between T.F_lows_between.kp T.s_lows_between .nil pass0 (pa_cons (pv 0) (pa_cons (pv 1) (pa_cons (pv 2) (pa_cons (pv 4) pa_nil)))))) (pss_one (ps_ret (pe_lc (own := [("number", 6), ("least", 7), ("many", 8)]) (g := (gTup K 3 (gCons (gName 6) (gCons (gName 7) (gCons (gName 8) gNil))))) rfl sc_gaps_of.nd (pi_list (pv 5)) (blkOk_by (N := ["book", "blocks", "place", "depth", "end", "rows", "number", "least", "many"]) (sc := defScope s_gaps_of) (by decide +kernel)) (fun _ _ _ _ _ => (pg_tup rfl (pgs_cons (pg_name (i := 6) sc_gaps_of.nd rfl (Or.inl rfl)) (pgs_cons (pg_name (i := 7) sc_gaps_of.nd rfl (Or.inl rfl)) (pgs_cons (pg_name (i := 8) sc_gaps_of.nd rfl (Or.inl rfl)) pgs_nil))))) (fun _ _ _ _ _ => pts_one (pt_cmpR op_eq (pv 7) (pe_op op_add (pv 3) pe_int) (nomark _))) (fun _ _ _ _ _ => (pe_tup (pa_cons (pv 6) (pa_cons (pv 8) pa_nil))))))))), ?_⟩
    have hn1 := hG.n1
    have hn2 := hG.n2
    obtain ⟨hfl, hzl, hz2⟩ := hG.fl
    have hple := hG.le
    have hkl := hG.kl
    have hpe := hI.1
    have hel := hI.2.1
    have hdp := div_at p n
    have hde := div_at e n
    have hme := Nat.mod_lt e (show n > 0 by omega)
    have hal := asks_len [p / n, e / n] ks
    have hal2 : (asks ks [p / n, e / n]).length ≤ ks.length + 2 := hal
    -- the blocks of the way are those of the ends
    have hin : ∀ m ∈ rdLows n p e, m ∈ [p / n, e / n] := by
      intro m hm
      unfold rdLows at hm
      obtain ⟨hm1, hm2⟩ := List.mem_filter.mp hm
      rcases List.mem_cons.mp hm1 with h | h
      · rw [h]; exact List.mem_cons_self
      · have h : m = (e - 1) / n := by simpa using h
        by_cases c : (e - 1) / n = e / n
        · rw [h, c]; exact List.mem_cons_of_mem _ List.mem_cons_self
        · by_cases c2 : (e - 1) / n = p / n
          · rw [h, c2]; exact List.mem_cons_self
          · exfalso
            -- the block ahead of the end's is all within
            have h1 : (e - 1) / n ≤ e / n := Nat.div_le_div_right (by omega)
            have h2 : ((e - 1) / n + 1) * n ≤ e / n * n := Nat.mul_le_mul_right _ (by omega)
            rw [Nat.succ_mul] at h2
            have h3 : p / n ≤ (e - 1) / n := Nat.div_le_div_right (by omega)
            have h4 : (p / n + 1) * n ≤ (e - 1) / n * n := Nat.mul_le_mul_right _ (by omega)
            rw [Nat.succ_mul] at h4
            have h5 := blk_gt (f := p) hn1 (Nat.le_refl (p / n))
            rw [h, decide_eq_true (by omega), decide_eq_true (by omega)] at hm2
            exact absurd hm2 (by decide)
    refine q_asgC (ea_cons (ev_var rfl) (ea_cons (ev_var rfl) (ea_cons (ev_var rfl) (ea_cons (ev_var rfl) ea_nil)))) fun H1 e1 => ⟨b, x, td, qs, P, z, n, ks, p, e, rfl, (hG.ex e1).up (by omega), hI, hS, fun H2 k2 hB2 => ?_⟩
    have k02 := k2.back e1
    have hG2 := hG.step k02 hB2 (m' := 8980) (by omega)
    refine q_asgC (ea_cons (ev_var rfl) (ea_cons (ev_var rfl) (ea_cons (ev_var rfl) (ea_cons (ev_var rfl) ea_nil)))) fun H3 e3 => ⟨b, x, td, qs, P, z, n, _, p, e, rfl, hG2.ex e3, hpe, Nat.le_of_lt hel, fun j hj => hS j (hin j hj), fun p4 rs H4 np4 k4 hB4 h4 hR4 => ?_⟩
    have k04 := k02.trans (k4.back e3)
    have hask : asks (asks ks [p / n, e / n]) (rdLows n p e) = asks ks [p / n, e / n] := asks_in _ _ fun j hj => (mem_asks _ _).mpr (.inr (hin j hj))
    rw [hask] at hB4
    have hv : ∀ i, p < i → i ≤ e → ht (full P) p + 1 ≤ ht (full P) i := hI.2.2.2
    have np4' : H p4 = none := k2.fresh hB2.dc (fresh_back e3 np4) |> fresh_back e1
    have hrl := hR4.1
    have hz0 := Nat.zero_le (p / n)
    have hrn : (rowsN n p e).length ≤ 400 := by
      unfold rowsN
      rw [List.length_range']
      have : (e - 1) / n ≤ e - 1 := Nat.div_le_self _ _
      omega
    -- which rows give a pair
    let G : Nat → List (Nat × Nat) := fun i => ((List.range' (p / n) i).filter fun m => decide (lmin (lw (full P) n p e m) = ht (full P) p + 1)).map fun m => (m, (lw (full P) n p e m).count (lmin (lw (full P) n p e m)))
    refine s_retX ?_
    refine ⟨_, rfl, p4, rfl, ⟨_, sq_of h4⟩, fun Dl hD => ?_⟩
    refine lc_list (xs := rs.map V.ref) (fun (i : Nat) (H' : Hp) => ∃ gs : List Addr, Ex H4 H' ∧ H' Dl = some (.lst (gs.map V.ref)) ∧ Prs H' gs (G i)) ⟨[], Ex.new hD, upd_same, rfl, fun i q g hq => by cases hq⟩ (fun i H' _ p' => ?_) (fun i x' H' hi p' => ?_) (fun H' p' => ?_)
    · obtain ⟨gs, g1, g2, g3⟩ := p'
      exact sq_of (g1 _ _ h4)
    · obtain ⟨gs, g1, g2, g3⟩ := p'
      rw [List.getElem?_map] at hi
      cases hr9 : rs[i]? with
      | none => rw [hr9] at hi; cases hi
      | some r =>
        rw [hr9] at hi
        cases hi
        have hrow := g1 _ _ (hR4.2 i r hr9)
        have hir := (List.getElem?_eq_some_iff.mp hr9).1
        refine g_tup3 (st_of hrow) ⟨rfl, ?_⟩
        have hGs : G (i + 1) = G i ++ (if decide (lmin (lw (full P) n p e (p / n + i)) = ht (full P) p + 1) = true then [(p / n + i, (lw (full P) n p e (p / n + i)).count (lmin (lw (full P) n p e (p / n + i))))] else []) := by
          show List.map _ (List.filter _ (List.range' (p / n) (i + 1))) = _
          rw [List.range'_1_concat, List.filter_append, List.map_append]
          congr 1
          by_cases c : lmin (lw (full P) n p e (p / n + i)) = ht (full P) p + 1 <;> simp [c]
        have hgl : gs.length ≤ 400 := by
          rw [g3.1]
          show (List.map _ (List.filter _ _)).length ≤ 400
          rw [List.length_map]
          have := List.length_filter_le (fun m => decide (lmin (lw (full P) n p e m) = ht (full P) p + 1)) (List.range' (p / n) i)
          rw [List.length_range'] at this
          omega
        refine (et_is (et_test (ev_op (ev_var rfl) (ev_op (ev_var rfl) ev_c rv_I0) (rv_eq rfl))) (dec_I _ _)) H' (Ex.refl H') _ fun H5 e5 => ?_
        by_cases c : lmin (lw (full P) n p e (p / n + i)) = ht (full P) p + 1
        · rw [decide_eq_true c, if_pos rfl]
          refine (eu_tup (ea_cons (ev_var rfl) (ea_cons (ev_var rfl) ea_nil)) (by show 2 ≤ 100000; decide)) H5 (Ex.refl H5) _ fun p6 H6 np6 e6 h6 => ?_
          have hl6 := e6 _ _ (e5 _ _ g2)
          have hne6 : p6 ≠ Dl := fun z => by rw [z, e5 _ _ g2] at np6; cases np6
          refine ⟨_, hl6, ?_, gs ++ [p6], ((g1.trans e5).trans e6).mut hD, ?_, ?_⟩
          · rw [List.length_map]
            exact sz_lt (by omega)
          · rw [upd_same, List.map_append]
            rfl
          · rw [hGs, decide_eq_true c, if_pos rfl]
            refine ⟨by rw [List.length_append, List.length_append, g3.1]; rfl, fun j qa ga hj hg' => ?_⟩
            by_cases cj : j < gs.length
            · rw [List.getElem?_append_left cj] at hj
              rw [List.getElem?_append_left (by rw [← g3.1]; exact cj)] at hg'
              have h9 := g3.2 j qa ga hj hg'
              rw [upd_ne (ne_of (e6 _ _ (e5 _ _ h9)) hl6 (by intro z; cases z))]
              exact e6 _ _ (e5 _ _ h9)
            · rw [List.getElem?_append_right (by omega)] at hj
              rw [List.getElem?_append_right (by rw [← g3.1]; omega)] at hg'
              have hj0 : j - gs.length = 0 := by
                have := (List.getElem?_eq_some_iff.mp hj).1
                simp at this
                omega
              rw [hj0] at hj
              rw [← g3.1, hj0] at hg'
              have hq : p6 = qa := Option.some.inj hj
              have hg9 := Option.some.inj hg'
              subst hq
              rw [upd_ne hne6, h6, ← hg9]
        · rw [decide_eq_false c, if_neg Bool.false_ne_true]
          refine ⟨gs, g1.trans e5, e5 _ _ g2, ?_⟩
          rw [hGs, decide_eq_false c, if_neg Bool.false_ne_true, List.append_nil]
          exact g3.ex e5
    · obtain ⟨gs, g1, g2, g3⟩ := p'
      refine q Dl gs H' (k2.fresh hB2.dc (fresh_back e3 (k4.fresh hB4.dc hD)) |> fresh_back e1) (k04.trans (Kept.of g1)) (hB4.ex g1) g2 ?_
      have hlen : (rs.map V.ref).length = (e - 1) / n + 1 - p / n := by
        rw [List.length_map, hrl]
        unfold rowsN
        rw [List.length_range']
      rw [hlen] at g3
      exact g3

theorem sc_kids : FnScope ["book", "blocks", "knot", "place", "depth"] ["book", "blocks", "knot"] (defScope s_kids) := ⟨rfl, rfl, rfl, by decide +kernel, rfl, by decide +kernel, by decide +kernel⟩
theorem ok_kids (T : Txt K mg A) : FnOk P w K mg base (L2.CX P w) 12 A.f_kids A.d_kids ["book", "blocks", "knot"] (spAns K A.c_Blocks A.c_NoKnot topK aKids rdKids) := by
  refine T.F_kids.okX sc_kids (fun vs H Q E h => ?_) (fun cdv A' outer s H vs Q E hr h => ?_)
  · obtain ⟨b, x, td, qs, P, z, n, ks, v, rfl, _⟩ := h
    rfl
  · obtain ⟨b, x, td, qs, P, z, n, ks, v, rfl, hG0, hv, q, qn⟩ := h
    refine ⟨_, (pss_cons (ps_expr (pe_call (ok_look_at_knot T) (hr.mono (by decide)) (by rfl) T.g_look_at_knot T.F_look_at_knot.kp T.s_look_at_knot .nil (passes_call (takes_of rfl rfl rfl rfl) (fun _ _ _ _ h => h)) (pa_cons (pv 1) (pa_cons (pv 2) pa_nil)))) (pss_cons (ps_asg (pe_call (ok_spot_of T) (hr.mono (by decide)) (by rfl) T.g_spot_of T.F_spot_of.kp T.s_spot_of .nil pass0 (pa_cons (pv 0) (pa_cons (pv 1) (pa_cons (pv 2) pa_nil)))) (pg_tup rfl (pgs_cons (pg_name (i := 3) sc_kids.nd rfl (Or.inl rfl)) (pgs_cons (pg_name (i := 4) sc_kids.nd rfl (Or.inl rfl)) pgs_nil)))) (pss_one (ps_ret (pe_call (ok_many_kids T) (hr.mono (by decide)) (by rfl) T.g_many_kids T.F_many_kids.kp T.s_many_kids .nil pass0 (pa_cons (pe_call (ok_gaps_of T) (hr.mono (by decide)) (by rfl) T.g_gaps_of T.F_gaps_of.kp T.s_gaps_of .nil pass0 (pa_cons (pv 0) (pa_cons (pv 1) (pa_cons (pv 3) (pa_cons (pv 4) pa_nil))))) pa_nil)))))), ?_⟩
    have hG := hG0.giv
    have hn1 := hG.n1
    have hn2 := hG.n2
    have hg := hG.gd
    obtain ⟨hfl, hzl, hz2⟩ := hG.fl
    have hple := hG.le
    have hkl := hG.kl
    refine q_dropC (ea_cons (ev_var rfl) (ea_cons (ev_var rfl) ea_nil)) fun H1 e1 => ⟨x, td, z, n, ks, P.length + 1, v, rfl, hG.bk.ex e1, hzl, Nat.le_add_left _ _, hv.ex e1, fun k hk hkt H2 e2 => ?_, fun ho H2 e2 => qn ho H2 (e1.trans e2)⟩
    subst hk
    obtain ⟨hS, q⟩ := q k rfl hkt
    have hk : k ≤ P.length := by omega
    have e02 := e1.trans e2
    have hpl := pl_lt hg hk
    have hs0 : cutAt z n (pl P k / n) = cutAt (txt (full P)) n (pl P k / n) := hS _ List.mem_cons_self
    refine q_asgUX (e_callC (ea_cons (ev_var rfl) (ea_cons (ev_var rfl) (ea_cons (ev_var rfl) ea_nil))) fun H3 e3 => ⟨b, x, td, qs, P, z, n, ks, k, rfl, (hG.ex (e02.trans e3)).up (by omega), hk, hs0, fun p4 H4 np4 k4 hB4 h4 => g_tup2 (st_of h4) ?_⟩)
    have k04 := k4.back (e02.trans e3)
    have hal4 := addK_len ks (pl P k / n)
    have hG4 := hG.step k04 hB4 (m' := 8001) (by omega)
    have hE := en_pl hg hk
    obtain ⟨hk1, hk2⟩ := kids_gp hg hk hE
    have hgs := gaps_sum (L := full P) (n := n) (v := ht (full P) (pl P k) + 1) hn1 hE.1 (Nat.le_of_lt hE.2.1) (fun i i1 i2 => hE.2.2.2 i i1 i2)
    have hgl := gaps_le (L := full P) (n := n) (v := ht (full P) (pl P k) + 1) hE.1
    have hel := hE.2.1
    refine s_retX (e_callX (e_consX (e_callC (ea_cons (ev_var rfl) (ea_cons (ev_var rfl) (ea_cons (ev_var rfl) (ea_cons (ev_var rfl) ea_nil)))) fun H5 e5 => ⟨b, x, td, qs, P, z, n, _, pl P k, _, rfl, (hG4.ex e5).up (by omega), hE, hS, fun a rs H6 na k6 hB6 h6 hP6 => e_nil ⟨a, rs, _, rfl, sq_of h6, hP6, by omega, fun H7 e7 => ?_⟩⟩)))
    rw [asks_head] at hB6
    rw [hgs, hk2]
    have h9 := q H7 (k04.trans ((k6.back e5).trans (Kept.of e7))) (hB6.ex e7)
    unfold aKids kidsOf at h9
    rw [show (((kidL P k (P.length + 1)).length + 1 : Nat) : Int) - 1 = ((kidL P k (P.length + 1)).length : Int) by omega]
    exact h9

theorem sc_find_gap : FnScope ["gaps", "ahead", "at"] ["gaps", "ahead"] (defScope s_find_gap) := ⟨rfl, rfl, rfl, by decide +kernel, rfl, by decide +kernel, by decide +kernel⟩
theorem ok_find_gap (T : Txt K mg A) : FnOk P w K mg base CX0 1 A.f_find_gap A.d_find_gap ["gaps", "ahead"] (spFind K) := by
  refine T.F_find_gap.ok sc_find_gap (fun vs H Q E h => ?_) (fun cdv A' outer s H vs Q E hr h => ?_)
  · obtain ⟨a, rs, gs, m, rfl, _⟩ := h
    rfl
  · obtain ⟨a, rs, gs, m, rfl, hS, hP, hm, q⟩ := h
    refine ⟨_, (pss_cons (ps_set (i := 2) sc_find_gap.nd rfl (Or.inl rfl) pe_int) (pss_cons (ps_while PassesOwn.never (pt_cmpR op_ge (pv 1) (pe_ix ix_tup (pe_ix ix_list (pv 0) (pv 2) (fun _ _ => rfl)) pe_int (fun _ _ => rfl)) (nomark _)) (pss_cons (ps_aug (i := 1) sc_find_gap.nd rfl (Or.inl rfl) (pe_ix ix_tup (pe_ix ix_list (pv 0) (pv 2) (fun _ _ => rfl)) pe_int (fun _ _ => rfl)) ip_sub) (pss_one (ps_aug (i := 2) sc_find_gap.nd rfl (Or.inl rfl) pe_int ip_add)))) (pss_one (ps_ret (pe_tup (pa_cons (pe_ix ix_tup (pe_ix ix_list (pv 0) (pv 2) (fun _ _ => rfl)) pe_int (fun _ _ => rfl)) (pa_cons (pv 1) pa_nil))))))), ?_⟩
    refine q_asg ev_c fun H1 e1 => ?_
    refine q_while (fun (l : Nat) (σ' : L2.St) (H' : Hp) => ∃ (i r : Nat), σ' = [some (.ref a), some (.int (r : Int)), some (.int (i : Int))] ∧ Ex H H' ∧ l = gs.length - i ∧ r < ((gs.drop i).map (·.2)).sum ∧ fg gs m = fg (gs.drop i) r) gs.length ?_ ?_
    · exact ⟨0, m, rfl, e1, by omega, hm, rfl⟩
    · rintro l σ' H2 ⟨i, r, rfl, e2, h1, h2, h3⟩
      have hi : i < gs.length := by
        apply Nat.lt_of_not_le
        intro z
        rw [List.drop_eq_nil_of_le z] at h2
        exact absurd h2 (Nat.not_lt_zero _)
      obtain ⟨g, hg⟩ : ∃ g, gs[i]? = some g := ⟨_, List.getElem?_eq_getElem hi⟩
      obtain ⟨s9, hs9⟩ : ∃ s9, rs[i]? = some s9 := ⟨_, List.getElem?_eq_getElem (by rw [hP.1]; exact hi)⟩
      have hat : atI (rs.map V.ref) (i : Int) = some (.ref s9) := atI_nat (by rw [List.getElem?_map, hs9]; rfl)
      have hd : gs.drop i = g :: gs.drop (i + 1) := by
        rw [List.drop_eq_getElem_cons hi]
        congr 1
        exact (List.getElem?_eq_some_iff.mp hg).2
      rw [hd, List.map_cons, List.sum_cons] at h2
      rw [hd] at h3
      obtain ⟨gb, gc⟩ := g
      have hrow := hP.2 i s9 (gb, gc) hs9 hg
      refine ⟨decide ((r : Int) ≥ (gc : Int)), (et_test (ev_op (ev_var rfl) (ev_op (ev_op (ev_var rfl) (ev_var rfl) (rv_ixL (ex_l e2 hS) hat)) ev_c (rv_ixT (st_of (e2 _ _ hrow)) rfl)) rv_I0)), fun hb H3 e3 => ?_, fun hb H3 e3 => ?_⟩
      · have hb' := of_decide_eq_true hb
        have e23 := e2.trans e3
        refine ⟨fun σ2 H2 => ∃ l' < l, ∃ (i r : Nat), σ2 = [some (.ref a), some (.int (r : Int)), some (.int (i : Int))] ∧ Ex H H2 ∧ l' = gs.length - i ∧ r < ((gs.drop i).map (·.2)).sum ∧ fg gs m = fg (gs.drop i) r, fun σ2 H2 h => h, ?_⟩
        refine q_aug rfl (ev_op (ev_op (ev_var rfl) (ev_var rfl) (rv_ixL (ex_l e23 hS) hat)) ev_c (rv_ixT (st_of (e23 _ _ hrow)) rfl)) fun H4 e4 => ?_
        refine s_aug rfl ev_c fun H5 e5 => ⟨gs.length - (i + 1), by omega, i + 1, r - gc, ?_, (e23.trans e4).trans e5, rfl, by omega, ?_⟩
        · show [some (V.ref a), some (V.int ((r : Int) - (gc : Int))), some (V.int ((i : Int) + 1))] = _
          rw [show (r : Int) - (gc : Int) = ((r - gc : Nat) : Int) by omega]
          rfl
        · rw [h3]
          show (if r < gc then (gb, r) else fg (gs.drop (i + 1)) (r - gc)) = _
          rw [if_neg (by omega)]
      · have hb' := of_decide_eq_false hb
        have e23 := e2.trans e3
        refine s_retU (eu_tup (ea_cons (ev_op (ev_op (ev_var rfl) (ev_var rfl) (rv_ixL (ex_l e23 hS) hat)) ev_c (rv_ixT (st_of (e23 _ _ hrow)) rfl)) (ea_cons (ev_var rfl) ea_nil)) (by show 2 ≤ 100000; decide)) fun p H4 np e4 h4 => ?_
        have hfg : fg gs m = (gb, r) := by
          rw [h3]
          show (if r < gc then (gb, r) else fg (gs.drop (i + 1)) (r - gc)) = _
          rw [if_pos (by omega)]
        refine q p H4 (fresh_back e23 np) (e23.trans e4) ?_
        rw [hfg]
        exact h4

theorem sc_places_behind : FnScope ["book", "blocks", "number", "first", "height", "start", "heights", "steps", "step"] ["book", "blocks", "number", "first", "height"] (defScope s_places_behind) := ⟨rfl, rfl, rfl, by decide +kernel, rfl, by decide +kernel, by decide +kernel⟩
theorem ok_places_behind (T : Txt K mg A) : FnOk P w K mg base CX0 6 A.f_places_behind A.d_places_behind ["book", "blocks", "number", "first", "height"] (spPB A.c_Blocks) := by
  refine T.F_places_behind.ok sc_places_behind (fun vs H Q E h => ?_) (fun cdv A' outer s H vs Q E hr h => ?_)
  · obtain ⟨b, x, td, qs, P, z, n, ks, m, f, v, rfl, _⟩ := h
    rfl
  · obtain ⟨b, x, td, qs, P, z, n, ks, m, f, v, rfl, hG, hm, hf, hc, q⟩ := h
    refine ⟨_, (pss_cons (ps_set (i := 5) sc_places_behind.nd rfl (Or.inr rfl) (pe_op op_mul (pv 2) (pe_fld (pv 1) rfl))) (pss_cons (ps_set (i := 6) sc_places_behind.nd rfl (Or.inr rfl) (pe_call (ok_heights_in T) (hr.mono (by decide)) (by rfl) T.g_heights_in T.F_heights_in.kp T.s_heights_in .nil pass0 (pa_cons (pv 0) (pa_cons (pv 1) (pa_cons (pv 2) pa_nil))))) (pss_cons (ps_set (i := 7) sc_places_behind.nd rfl (Or.inl rfl) (pe_callTy cr_range2 (by rfl) T.b_range (by decide +kernel) (pa_cons (pe_op op_add (pe_callB (call_max2 rfl) (by rfl) T.b_max (by decide +kernel) (pa_cons (pe_op op_sub (pv 3) (pv 5)) (pa_cons pe_int pa_nil))) pe_int) (pa_cons (pe_callB call_len_seq (by rfl) T.b_len PySem.boot_len (pa_cons (pv 6) pa_nil)) pa_nil)))) (pss_one (ps_ret (pe_lc (own := [("step", 8)]) (g := gName 8) rfl sc_places_behind.nd (pi_rng (pv 7)) (blkOk_by (N := ["book", "blocks", "number", "first", "height", "start", "heights", "steps", "step"]) (sc := defScope s_places_behind) (by decide +kernel)) (fun _ _ _ _ _ => pg_name (i := 8) sc_places_behind.nd rfl (Or.inl rfl)) (fun _ _ _ _ _ => pts_one (pt_cmpR op_eq (pe_ix (show IxR _ (rIxL K) from ix_list) (pv 6) (pv 8) (fun _ _ => rfl)) (pv 4) (nomark _))) (fun _ _ _ _ _ => (pe_op op_add (pv 5) (pv 8))))))))), ?_⟩
    have hn1 := hG.n1
    have hn2 := hG.n2
    obtain ⟨hfl, hzl, hz2⟩ := hG.fl
    obtain ⟨⟨dx, pp, h1, h2⟩, h3⟩ := id hG.bk
    have hple := hG.le
    refine q_asg (ev_op (ev_var rfl) (ev_fld (ev_var rfl) h1 T.cl_Blocks T.n_Blocks_size bf_size) (rv_I (.inr ⟨by omega, by omega⟩))) fun H1 e1 => ?_
    rw [show (m : Int) * (n : Int) = ((m * n : Nat) : Int) by rw [Int.natCast_mul]]
    refine q_asgC (ea_cons (ev_var rfl) (ea_cons (ev_var rfl) (ea_cons (ev_var rfl) ea_nil))) fun H2 e2 => ⟨b, x, td, qs, P, z, n, ks, m, rfl, hG.ex (e1.trans e2), hm, hc, fun p3 H3 np3 k3 hB3 h3' => ?_⟩
    have hln : ((hsg (full P) n m).map V.int).length = min (n + 1) ((full P).length + 1 - m * n) := by rw [List.length_map, hsg, hcut_len]
    refine q_asgRng (lo := ((f - m * n + 1 : Nat) : Int)) (hi := ((min (n + 1) ((full P).length + 1 - m * n) : Nat) : Int)) (ea_is (ea_cons (ev_op (ev_Max2 (ev_op (ev_var rfl) (ev_var rfl) rv_I0) ev_c) ev_c rv_I0) (ea_cons (ev_len (ev_var rfl) (sq_of h3')) ea_nil)) (by
      rw [hln, show max ((f : Int) - ((m * n : Nat) : Int)) 0 + 1 = ((f - m * n + 1 : Nat) : Int) by omega])) fun p4 H4 np4 e4 h4 => ?_
    have hh4 := e4 _ _ h3'
    refine s_retL (el_lcO (fun i => decide (V.int (ht (full P) (max f (m * n) + 1 + i)) = V.int v)) (fun i => .int ((max f (m * n) + 1 + i : Nat) : Int)) (ev_var rfl) h4 ⟨by omega, by omega, by omega, by omega⟩ (fun _ => rfl) (fun i H5 e5 hi => ?_) (fun i H5 e5 hi _ => ?_)) fun p5 H5 np5 e5 h5 => ?_
    · have hat : atI ((hsg (full P) n m).map V.int) (((f - m * n + 1 : Nat) : Int) + (i : Int)) = some (.int (ht (full P) (max f (m * n) + 1 + i))) := by
        rw [show ((f - m * n + 1 : Nat) : Int) + (i : Int) = ((f - m * n + 1 + i : Nat) : Int) by omega]
        refine atI_nat ?_
        rw [List.getElem?_map, hsg, hcut_at (by omega) (by omega), show m * n + (f - m * n + 1 + i) = max f (m * n) + 1 + i by omega]
        rfl
      exact (et_test (ev_op (ev_op (ev_var rfl) (ev_var rfl) (rv_ixL (sq_of (e5 _ _ hh4)) hat)) (ev_var rfl) (rv_eq rfl)))
    · refine ev_is (ev_op (ev_var rfl) (ev_var rfl) rv_I0) ?_
      congr 1
      omega
    · have hcount : (((min (n + 1) ((full P).length + 1 - m * n) : Nat) : Int) - ((f - m * n + 1 : Nat) : Int)).toNat = (min (m * n + n) (full P).length + 1) - (max f (m * n) + 1) := by omega
      rw [hcount, gp_given _ (fun _ => rfl)] at h5
      exact q p5 H5 (fresh_back (e1.trans e2) (k3.fresh hB3.dc (fresh_back e4 np5))) ((k3.back (e1.trans e2)).trans (Kept.of (e4.trans e5))) (hB3.ex (e4.trans e5)) h5

theorem sc_kid : FnScope ["book", "blocks", "knot", "number", "place", "depth", "gaps", "block", "ahead", "places"] ["book", "blocks", "knot", "number"] (defScope s_kid) := ⟨rfl, rfl, rfl, by decide +kernel, rfl, by decide +kernel, by decide +kernel⟩
theorem ok_kid (T : Txt K mg A) : FnOk P w K mg base (L2.CX P w) 12 A.f_kid A.d_kid ["book", "blocks", "knot", "number"] (spAnsKid K A.c_Blocks A.c_NoKnot aKid rdKid) := by
  refine T.F_kid.okX sc_kid (fun vs H Q E h => ?_) (fun cdv A' outer s H vs Q E hr h => ?_)
  · obtain ⟨b, x, td, qs, P, z, n, ks, v, m, rfl, _⟩ := h
    rfl
  · obtain ⟨b, x, td, qs, P, z, n, ks, v, m, rfl, hG0, hv, q, qn⟩ := h
    refine ⟨_, (pss_cons (ps_expr (pe_call (ok_look_at_knot T) (hr.mono (by decide)) (by rfl) T.g_look_at_knot T.F_look_at_knot.kp T.s_look_at_knot .nil (passes_call (takes_of rfl rfl rfl rfl) (fun _ _ _ _ h => h)) (pa_cons (pv 1) (pa_cons (pv 2) pa_nil)))) (pss_cons (ps_asg (pe_call (ok_spot_of T) (hr.mono (by decide)) (by rfl) T.g_spot_of T.F_spot_of.kp T.s_spot_of .nil pass0 (pa_cons (pv 0) (pa_cons (pv 1) (pa_cons (pv 2) pa_nil)))) (pg_tup rfl (pgs_cons (pg_name (i := 4) sc_kid.nd rfl (Or.inl rfl)) (pgs_cons (pg_name (i := 5) sc_kid.nd rfl (Or.inl rfl)) pgs_nil)))) (pss_cons (ps_set (i := 6) sc_kid.nd rfl (Or.inl rfl) (pe_call (ok_gaps_of T) (hr.mono (by decide)) (by rfl) T.g_gaps_of T.F_gaps_of.kp T.s_gaps_of .nil pass0 (pa_cons (pv 0) (pa_cons (pv 1) (pa_cons (pv 4) (pa_cons (pv 5) pa_nil)))))) (pss_cons (ps_if (pt_not (pt_chain op_le op_lt pe_int (pv 3) (pe_call (ok_many_kids T) (hr.mono (by decide)) (by rfl) T.g_many_kids T.F_many_kids.kp T.s_many_kids .nil pass0 (pa_cons (pv 6) pa_nil)))) (pss_one (ps_ret pe_non)) pss_nil) (pss_cons (ps_asg (pe_call (ok_find_gap T) (hr.mono (by decide)) (by rfl) T.g_find_gap T.F_find_gap.kp T.s_find_gap .nil pass0 (pa_cons (pv 6) (pa_cons (pv 3) pa_nil))) (pg_tup rfl (pgs_cons (pg_name (i := 7) sc_kid.nd rfl (Or.inl rfl)) (pgs_cons (pg_name (i := 8) sc_kid.nd rfl (Or.inl rfl)) pgs_nil)))) (pss_cons (ps_set (i := 9) sc_kid.nd rfl (Or.inl rfl) (pe_call (ok_places_behind T) (hr.mono (by decide)) (by rfl) T.g_places_behind T.F_places_behind.kp T.s_places_behind .nil pass0 (pa_cons (pv 0) (pa_cons (pv 1) (pa_cons (pv 7) (pa_cons (pv 4) (pa_cons (pe_op op_add (pv 5) pe_int) pa_nil))))))) (pss_one (ps_ret (pe_call (ok_knots_ahead T) (hr.mono (by decide)) (by rfl) T.g_knots_ahead T.F_knots_ahead.kp T.s_knots_ahead .nil pass0 (pa_cons (pe_ix ix_list (pv 9) (pv 8) (fun _ _ => rfl)) (pa_cons (pe_op op_add (pv 5) pe_int) pa_nil))))))))))), ?_⟩
    have hG := hG0.giv
    have hn1 := hG.n1
    have hn2 := hG.n2
    have hg := hG.gd
    obtain ⟨hfl, hzl, hz2⟩ := hG.fl
    have hple := hG.le
    have hkl := hG.kl
    refine q_dropC (ea_cons (ev_var rfl) (ea_cons (ev_var rfl) ea_nil)) fun H1 e1 => ⟨x, td, z, n, ks, P.length + 1, v, rfl, hG.bk.ex e1, hzl, Nat.le_add_left _ _, hv.ex e1, fun k hk hkt H2 e2 => ?_, fun ho H2 e2 => qn ho H2 (e1.trans e2)⟩
    subst hk
    obtain ⟨hS, q⟩ := q k rfl hkt
    have hk : k ≤ P.length := by omega
    have e02 := e1.trans e2
    have hpl := pl_lt hg hk
    have hs0 : cutAt z n (pl P k / n) = cutAt (txt (full P)) n (pl P k / n) := hS _ (by unfold rdKid; split <;> exact List.mem_cons_self)
    refine q_asgUX (e_callC (ea_cons (ev_var rfl) (ea_cons (ev_var rfl) (ea_cons (ev_var rfl) ea_nil))) fun H3 e3 => ⟨b, x, td, qs, P, z, n, ks, k, rfl, (hG.ex (e02.trans e3)).up (by omega), hk, hs0, fun p4 H4 np4 k4 hB4 h4 => g_tup2 (st_of h4) ?_⟩)
    have k04 := k4.back (e02.trans e3)
    have hal4 := addK_len ks (pl P k / n)
    have hG4 := hG.step k04 hB4 (m' := 8001) (by omega)
    have hE := en_pl hg hk
    have hS2 : KB.Same z (full P) n [pl P k / n, enP (full P) (pl P k) / n] := fun j hj => hS j (by
      unfold rdKid
      split
      · rcases List.mem_cons.mp hj with h | h
        · rw [h]; exact List.mem_cons_self
        · rw [List.mem_singleton.mp h]; exact List.mem_cons_of_mem _ List.mem_cons_self
      · exact hj)
    obtain ⟨hk1, hk2⟩ := kids_gp hg hk hE
    have hgs := gaps_sum (L := full P) (n := n) (v := ht (full P) (pl P k) + 1) hn1 hE.1 (Nat.le_of_lt hE.2.1) (fun i i1 i2 => hE.2.2.2 i i1 i2)
    have hgl := gaps_le (L := full P) (n := n) (v := ht (full P) (pl P k) + 1) hE.1
    have hel := hE.2.1
    refine q_asgC (ea_cons (ev_var rfl) (ea_cons (ev_var rfl) (ea_cons (ev_var rfl) (ea_cons (ev_var rfl) ea_nil)))) fun H5 e5 => ⟨b, x, td, qs, P, z, n, _, pl P k, _, rfl, (hG4.ex e5).up (by omega), hE, hS2, fun a rs H6 na k6 hB6 h6 hP6 => ?_⟩
    rw [asks_head] at hB6
    have k06 := k04.trans (k6.back e5)
    have hal6 : (asks ks [pl P k / n, enP (full P) (pl P k) / n]).length ≤ ks.length + 2 := asks_len [pl P k / n, enP (full P) (pl P k) / n] ks
    have hG6 := hG.step k06 hB6 (m' := 8002) (by omega)
    by_cases c : m < (kidL P k (P.length + 1)).length
    · have hrd : rdKid P n k m = [pl P k / n, enP (full P) (pl P k) / n, (fg (gaps (full P) n (pl P k) (enP (full P) (pl P k)) (ht (full P) (pl P k) + 1)) m).1] := by unfold rdKid; rw [if_pos c]
      rw [hrd] at hS q
      refine q_when (b := false) (et_is (et_not (et_test (ev_chain ev_c (ev_var rfl) rv_I0 (fun hb => (ev_call (ea_cons (ev_var rfl) ea_nil) (sv_many' (sq_of h6) hP6 (by omega)))) (fun hb => rv_I0)))) (by
        rw [hgs, hk2, decide_eq_true (by omega), decide_eq_true (by omega)]; rfl)) (fun hb => nomatch hb) (fun _ H7 e7 => ?_)
      obtain ⟨f1, ⟨fc, f2⟩, f3⟩ := fg_flat (gpB (full P) n (pl P k) (enP (full P) (pl P k)) (ht (full P) (pl P k) + 1)) (gaps (full P) n (pl P k) (enP (full P) (pl P k)) (ht (full P) (pl P k) + 1)) m
        (fun g hg9 => (gaps_count hn1 hE.1 (Nat.le_of_lt hel) hg9).1) (by rw [hgs, hk2]; omega)
      obtain ⟨⟨bl, ah⟩, hfg⟩ : ∃ r : Nat × Nat, fg (gaps (full P) n (pl P k) (enP (full P) (pl P k)) (ht (full P) (pl P k) + 1)) m = r := ⟨_, rfl⟩
      rw [hfg] at f1 f2 f3 hS q
      dsimp only at f1 f2 f3 hS q
      obtain ⟨_, f4, f5⟩ := gaps_count hn1 hE.1 (Nat.le_of_lt hel) f2
      dsimp only at f4 f5
      rw [gaps_flat hn1 hE.1 (Nat.le_of_lt hel) (fun i i1 i2 => hE.2.2.2 i i1 i2)] at f3
      obtain ⟨y, y1, y2, y3, y4, y5, y6⟩ := kid_gp hg hk hE c
      rw [y1] at f3
      refine q_asgUX (e_callC (ea_cons (ev_var rfl) (ea_cons (ev_var rfl) ea_nil)) fun H8 e8 => ⟨a, rs, _, m, rfl, sq_of ((e7.trans e8) _ _ h6), hP6.ex (e7.trans e8), by rw [hgs, hk2]; omega, fun p9 H9 np9 e9 h9 => g_tup2 (st_of h9) ?_⟩)
      rw [hfg]
      dsimp only
      have e69 := (e7.trans e8).trans e9
      have hG9 := hG6.ex e69
      have hlt := blk_lt hn1 (show 1 ≤ enP (full P) (pl P k) by omega) f5
      refine q_asgC (ea_cons (ev_var rfl) (ea_cons (ev_var rfl) (ea_cons (ev_var rfl) (ea_cons (ev_var rfl) (ea_cons (ev_op (ev_var rfl) ev_c rv_I0) ea_nil))))) fun H10 e10 => ⟨b, x, td, qs, P, z, n, _, _, pl P k, _, rfl, (hG9.ex e10).up (by omega), by omega, hpl, hS _ (List.mem_cons_of_mem _ (List.mem_cons_of_mem _ List.mem_cons_self)), fun p11 H11 np11 k11 hB11 h11 => ?_⟩
      have hgt := blk_gt hn1 f4
      have hat := nints_at (l := gp (full P) (ht (full P) (pl P k) + 1) (max (pl P k) (bl * n) + 1) (min (bl * n + n) (full P).length + 1)) (i := ah) (v := y) (by
          rw [gp_split (b := min (enP (full P) (pl P k)) (bl * n + n) + 1) (by omega) (by omega), List.getElem?_append_left (show ah < (gp (full P) (ht (full P) (pl P k) + 1) (max (pl P k) (bl * n) + 1) (min (enP (full P) (pl P k)) (bl * n + n) + 1)).length from f1)]
          exact f3.symm)
      refine s_ret (ev_call (ea_cons (ev_op (ev_var rfl) (ev_var rfl) (rv_ixL (sq_of h11) hat)) (ea_cons (ev_op (ev_var rfl) ev_c rv_I0) ea_nil)) sv_ahead) fun H12 e12 => ?_
      have hval : ((y : Int) + (ht (full P) (pl P k) + 1)) / 2 = (ones (full P) y : Int) := by
        rw [← y5]
        exact ahead_ones (by omega)
      rw [hval]
      have h9' := q H12 (k06.trans ((k11.back (e69.trans e10)).trans (Kept.of e12))) (hB11.ex e12)
      unfold aKid kidsOf at h9'
      rw [y2] at h9'
      exact h9'
    · have hrd : rdKid P n k m = [pl P k / n, enP (full P) (pl P k) / n] := by unfold rdKid; rw [if_neg c]
      rw [hrd] at hS q
      refine q_when (b := true) (et_is (et_not (et_test (ev_chain ev_c (ev_var rfl) rv_I0 (fun hb => (ev_call (ea_cons (ev_var rfl) ea_nil) (sv_many' (sq_of h6) hP6 (by omega)))) (fun hb => rv_I0)))) (by
        rw [hgs, hk2, decide_eq_false (show ¬ (m : Int) < ((((kidL P k (P.length + 1)).length + 1 : Nat) : Int) - 1) by omega), Bool.and_false]; rfl)) (fun _ H7 e7 => ?_) (fun hb => nomatch hb)
      refine s_ret ev_c fun H8 e8 => ?_
      have h9' := q H8 (k06.trans (Kept.of (e7.trans e8))) (hB6.ex (e7.trans e8))
      rw [kid_none (by unfold kidsOf; omega)] at h9'
      exact h9'

theorem sc_law_call : FnScope ["_law_way", "_law_book", "_law_blocks", "_law_one", "_law_other"] ["_law_way", "_law_book", "_law_blocks", "_law_one", "_law_other"] (defScope s_law_call) := ⟨rfl, rfl, rfl, by decide +kernel, rfl, by decide +kernel, by decide +kernel⟩
theorem ok_law_call (T : Txt K mg A) : FnOk P w K mg base (L2.CX P w) 13 A.f_law_call A.d_law_call ["_law_way", "_law_book", "_law_blocks", "_law_one", "_law_other"] (spCall K A.c_Blocks A.c_NoKnot) := by
  refine T.F_law_call.okX sc_law_call (fun vs H Q E h => ?_) (fun cdv A' outer s H vs Q E hr h => ?_)
  · obtain ⟨way, b, x, td, qs, P, z, n, ks, v, u, rfl, _⟩ := h
    rfl
  · obtain ⟨way, b, x, td, qs, P, z, n, ks, v, u, rfl, hw, hG, hv, hu, h7, q, qb⟩ := h
    refine ⟨_, (pss_cons (ps_if (pt_cmpR op_eq (pv 0) pe_int (nomark _)) (pss_one (ps_ret (pe_call (ok_place_of T) (hr.mono (by decide)) (by rfl) T.g_place_of T.F_place_of.kp T.s_place_of .nil (passes_call (takes_of rfl rfl rfl rfl) (fun _ _ _ _ h => h)) (pa_cons (pv 1) (pa_cons (pv 2) (pa_cons (pv 3) pa_nil)))))) pss_nil) (pss_cons (ps_if (pt_cmpR op_eq (pv 0) pe_int (nomark _)) (pss_one (ps_ret (pe_call (ok_depth_of T) (hr.mono (by decide)) (by rfl) T.g_depth_of T.F_depth_of.kp T.s_depth_of .nil (passes_call (takes_of rfl rfl rfl rfl) (fun _ _ _ _ h => h)) (pa_cons (pv 1) (pa_cons (pv 2) (pa_cons (pv 3) pa_nil)))))) pss_nil) (pss_cons (ps_if (pt_cmpR op_eq (pv 0) pe_int (nomark _)) (pss_one (ps_ret (pe_call (ok_knot_at T) (hr.mono (by decide)) (by rfl) T.g_knot_at T.F_knot_at.kp T.s_knot_at .nil (passes_call (takes_of rfl rfl rfl rfl) (fun _ _ _ _ h => h)) (pa_cons (pv 1) (pa_cons (pv 2) (pa_cons (pv 3) pa_nil)))))) pss_nil) (pss_cons (ps_if (pt_cmpR op_eq (pv 0) pe_int (nomark _)) (pss_one (ps_ret (pe_call (ok_above T) (hr.mono (by decide)) (by rfl) T.g_above T.F_above.kp T.s_above .nil (passes_call (takes_of rfl rfl rfl rfl) (fun _ _ _ _ h => h)) (pa_cons (pv 1) (pa_cons (pv 2) (pa_cons (pv 3) pa_nil)))))) pss_nil) (pss_cons (ps_if (pt_cmpR op_eq (pv 0) pe_int (nomark _)) (pss_one (ps_ret (pe_call (ok_beneath T) (hr.mono (by decide)) (by rfl) T.g_beneath T.F_beneath.kp T.s_beneath .nil (passes_call (takes_of rfl rfl rfl rfl) (fun _ _ _ _ h => h)) (pa_cons (pv 1) (pa_cons (pv 2) (pa_cons (pv 3) pa_nil)))))) pss_nil) (pss_cons (ps_if (pt_cmpR op_eq (pv 0) pe_int (nomark _)) (pss_one (ps_ret (pe_call (ok_beside T) (hr.mono (by decide)) (by rfl) T.g_beside T.F_beside.kp T.s_beside .nil (passes_call (takes_of rfl rfl rfl rfl) (fun _ _ _ _ h => h)) (pa_cons (pv 1) (pa_cons (pv 2) (pa_cons (pv 3) pa_nil)))))) pss_nil) (pss_cons (ps_if (pt_cmpR op_eq (pv 0) pe_int (nomark _)) (pss_one (ps_ret (pe_call (ok_kids T) (hr.mono (by decide)) (by rfl) T.g_kids T.F_kids.kp T.s_kids .nil (passes_call (takes_of rfl rfl rfl rfl) (fun _ _ _ _ h => h)) (pa_cons (pv 1) (pa_cons (pv 2) (pa_cons (pv 3) pa_nil)))))) pss_nil) (pss_cons (ps_if (pt_cmpR op_eq (pv 0) pe_int (nomark _)) (pss_one (ps_ret (pe_call (ok_kid T) (hr.mono (by decide)) (by rfl) T.g_kid T.F_kid.kp T.s_kid .nil (passes_call (takes_of rfl rfl rfl rfl) (fun _ _ _ _ h => h)) (pa_cons (pv 1) (pa_cons (pv 2) (pa_cons (pv 3) (pa_cons (pv 4) pa_nil))))))) pss_nil) (pss_one (ps_ret (pe_call (ok_elder T) (hr.mono (by decide)) (by rfl) T.g_elder T.F_elder.kp T.s_elder .nil (passes_call (takes_of rfl rfl rfl rfl) (fun _ _ _ _ h => h)) (pa_cons (pv 1) (pa_cons (pv 2) (pa_cons (pv 3) (pa_cons (pv 4) pa_nil))))))))))))))), ?_⟩
    have hcs : way = 0 ∨ way = 1 ∨ way = 2 ∨ way = 3 ∨ way = 4 ∨ way = 5 ∨ way = 6 ∨ way = 7 ∨ way = 8 := by omega
    rcases hcs with rfl | rfl | rfl | rfl | rfl | rfl | rfl | rfl | rfl
    · refine q_when (b := true) (et_test (ev_op (ev_var rfl) ev_c (rv_eq rfl))) (fun _ H0 e0 => ?_) (fun hb => nomatch hb)
      exact s_retC (ea_cons (ev_var rfl) (ea_cons (ev_var rfl) (ea_cons (ev_var rfl) ea_nil))) fun Hc ec => ⟨b, x, td, qs, P, z, n, ks, v, rfl, hG.ex (e0.trans ec), hv.ex (e0.trans ec), fun k hk hk2 => ⟨(q k 0 hk hk2 (by omega) (by omega)).1, fun H' k' hB' => (q k 0 hk hk2 (by omega) (by omega)).2 H' (k'.back (e0.trans ec)) hB'⟩, fun ho H' e' => qb (.inl ho) H' ((e0.trans ec).trans e')⟩
    · refine q_when (b := false) (et_test (ev_op (ev_var rfl) ev_c (rv_eq rfl))) (fun hb => nomatch hb) (fun _ H0 e0 => ?_)
      refine q_when (b := true) (et_test (ev_op (ev_var rfl) ev_c (rv_eq rfl))) (fun _ H1 e1 => ?_) (fun hb => nomatch hb)
      exact s_retC (ea_cons (ev_var rfl) (ea_cons (ev_var rfl) (ea_cons (ev_var rfl) ea_nil))) fun Hc ec => ⟨b, x, td, qs, P, z, n, ks, v, rfl, hG.ex ((e0.trans e1).trans ec), hv.ex ((e0.trans e1).trans ec), fun k hk hk2 => ⟨(q k 0 hk hk2 (by omega) (by omega)).1, fun H' k' hB' => (q k 0 hk hk2 (by omega) (by omega)).2 H' (k'.back ((e0.trans e1).trans ec)) hB'⟩, fun ho H' e' => qb (.inl ho) H' (((e0.trans e1).trans ec).trans e')⟩
    · refine q_when (b := false) (et_test (ev_op (ev_var rfl) ev_c (rv_eq rfl))) (fun hb => nomatch hb) (fun _ H0 e0 => ?_)
      refine q_when (b := false) (et_test (ev_op (ev_var rfl) ev_c (rv_eq rfl))) (fun hb => nomatch hb) (fun _ H1 e1 => ?_)
      refine q_when (b := true) (et_test (ev_op (ev_var rfl) ev_c (rv_eq rfl))) (fun _ H2 e2 => ?_) (fun hb => nomatch hb)
      exact s_retC (ea_cons (ev_var rfl) (ea_cons (ev_var rfl) (ea_cons (ev_var rfl) ea_nil))) fun Hc ec => ⟨b, x, td, qs, P, z, n, ks, v, rfl, hG.ex (((e0.trans e1).trans e2).trans ec), hv.ex (((e0.trans e1).trans e2).trans ec), fun k hk hk2 => ⟨(q k 0 hk hk2 (by omega) (by omega)).1, fun H' k' hB' => (q k 0 hk hk2 (by omega) (by omega)).2 H' (k'.back (((e0.trans e1).trans e2).trans ec)) hB'⟩, fun ho H' e' => qb (.inl ho) H' ((((e0.trans e1).trans e2).trans ec).trans e')⟩
    · refine q_when (b := false) (et_test (ev_op (ev_var rfl) ev_c (rv_eq rfl))) (fun hb => nomatch hb) (fun _ H0 e0 => ?_)
      refine q_when (b := false) (et_test (ev_op (ev_var rfl) ev_c (rv_eq rfl))) (fun hb => nomatch hb) (fun _ H1 e1 => ?_)
      refine q_when (b := false) (et_test (ev_op (ev_var rfl) ev_c (rv_eq rfl))) (fun hb => nomatch hb) (fun _ H2 e2 => ?_)
      refine q_when (b := true) (et_test (ev_op (ev_var rfl) ev_c (rv_eq rfl))) (fun _ H3 e3 => ?_) (fun hb => nomatch hb)
      exact s_retC (ea_cons (ev_var rfl) (ea_cons (ev_var rfl) (ea_cons (ev_var rfl) ea_nil))) fun Hc ec => ⟨b, x, td, qs, P, z, n, ks, v, rfl, hG.ex ((((e0.trans e1).trans e2).trans e3).trans ec), hv.ex ((((e0.trans e1).trans e2).trans e3).trans ec), fun k hk hk2 => ⟨(q k 0 hk hk2 (by omega) (by omega)).1, fun H' k' hB' => (q k 0 hk hk2 (by omega) (by omega)).2 H' (k'.back ((((e0.trans e1).trans e2).trans e3).trans ec)) hB'⟩, fun ho H' e' => qb (.inl ho) H' (((((e0.trans e1).trans e2).trans e3).trans ec).trans e')⟩
    · refine q_when (b := false) (et_test (ev_op (ev_var rfl) ev_c (rv_eq rfl))) (fun hb => nomatch hb) (fun _ H0 e0 => ?_)
      refine q_when (b := false) (et_test (ev_op (ev_var rfl) ev_c (rv_eq rfl))) (fun hb => nomatch hb) (fun _ H1 e1 => ?_)
      refine q_when (b := false) (et_test (ev_op (ev_var rfl) ev_c (rv_eq rfl))) (fun hb => nomatch hb) (fun _ H2 e2 => ?_)
      refine q_when (b := false) (et_test (ev_op (ev_var rfl) ev_c (rv_eq rfl))) (fun hb => nomatch hb) (fun _ H3 e3 => ?_)
      refine q_when (b := true) (et_test (ev_op (ev_var rfl) ev_c (rv_eq rfl))) (fun _ H4 e4 => ?_) (fun hb => nomatch hb)
      exact s_retC (ea_cons (ev_var rfl) (ea_cons (ev_var rfl) (ea_cons (ev_var rfl) ea_nil))) fun Hc ec => ⟨b, x, td, qs, P, z, n, ks, v, rfl, hG.ex (((((e0.trans e1).trans e2).trans e3).trans e4).trans ec), hv.ex (((((e0.trans e1).trans e2).trans e3).trans e4).trans ec), fun k hk hk2 => ⟨(q k 0 hk hk2 (by omega) (by omega)).1, fun H' k' hB' => (q k 0 hk hk2 (by omega) (by omega)).2 H' (k'.back (((((e0.trans e1).trans e2).trans e3).trans e4).trans ec)) hB'⟩, fun ho H' e' => qb (.inl ho) H' ((((((e0.trans e1).trans e2).trans e3).trans e4).trans ec).trans e')⟩
    · refine q_when (b := false) (et_test (ev_op (ev_var rfl) ev_c (rv_eq rfl))) (fun hb => nomatch hb) (fun _ H0 e0 => ?_)
      refine q_when (b := false) (et_test (ev_op (ev_var rfl) ev_c (rv_eq rfl))) (fun hb => nomatch hb) (fun _ H1 e1 => ?_)
      refine q_when (b := false) (et_test (ev_op (ev_var rfl) ev_c (rv_eq rfl))) (fun hb => nomatch hb) (fun _ H2 e2 => ?_)
      refine q_when (b := false) (et_test (ev_op (ev_var rfl) ev_c (rv_eq rfl))) (fun hb => nomatch hb) (fun _ H3 e3 => ?_)
      refine q_when (b := false) (et_test (ev_op (ev_var rfl) ev_c (rv_eq rfl))) (fun hb => nomatch hb) (fun _ H4 e4 => ?_)
      refine q_when (b := true) (et_test (ev_op (ev_var rfl) ev_c (rv_eq rfl))) (fun _ H5 e5 => ?_) (fun hb => nomatch hb)
      exact s_retC (ea_cons (ev_var rfl) (ea_cons (ev_var rfl) (ea_cons (ev_var rfl) ea_nil))) fun Hc ec => ⟨b, x, td, qs, P, z, n, ks, v, rfl, hG.ex ((((((e0.trans e1).trans e2).trans e3).trans e4).trans e5).trans ec), hv.ex ((((((e0.trans e1).trans e2).trans e3).trans e4).trans e5).trans ec), fun k hk hk2 => ⟨(q k 0 hk hk2 (by omega) (by omega)).1, fun H' k' hB' => (q k 0 hk hk2 (by omega) (by omega)).2 H' (k'.back ((((((e0.trans e1).trans e2).trans e3).trans e4).trans e5).trans ec)) hB'⟩, fun ho H' e' => qb (.inl ho) H' (((((((e0.trans e1).trans e2).trans e3).trans e4).trans e5).trans ec).trans e')⟩
    · refine q_when (b := false) (et_test (ev_op (ev_var rfl) ev_c (rv_eq rfl))) (fun hb => nomatch hb) (fun _ H0 e0 => ?_)
      refine q_when (b := false) (et_test (ev_op (ev_var rfl) ev_c (rv_eq rfl))) (fun hb => nomatch hb) (fun _ H1 e1 => ?_)
      refine q_when (b := false) (et_test (ev_op (ev_var rfl) ev_c (rv_eq rfl))) (fun hb => nomatch hb) (fun _ H2 e2 => ?_)
      refine q_when (b := false) (et_test (ev_op (ev_var rfl) ev_c (rv_eq rfl))) (fun hb => nomatch hb) (fun _ H3 e3 => ?_)
      refine q_when (b := false) (et_test (ev_op (ev_var rfl) ev_c (rv_eq rfl))) (fun hb => nomatch hb) (fun _ H4 e4 => ?_)
      refine q_when (b := false) (et_test (ev_op (ev_var rfl) ev_c (rv_eq rfl))) (fun hb => nomatch hb) (fun _ H5 e5 => ?_)
      refine q_when (b := true) (et_test (ev_op (ev_var rfl) ev_c (rv_eq rfl))) (fun _ H6 e6 => ?_) (fun hb => nomatch hb)
      exact s_retC (ea_cons (ev_var rfl) (ea_cons (ev_var rfl) (ea_cons (ev_var rfl) ea_nil))) fun Hc ec => ⟨b, x, td, qs, P, z, n, ks, v, rfl, hG.ex (((((((e0.trans e1).trans e2).trans e3).trans e4).trans e5).trans e6).trans ec), hv.ex (((((((e0.trans e1).trans e2).trans e3).trans e4).trans e5).trans e6).trans ec), fun k hk hk2 => ⟨(q k 0 hk hk2 (by omega) (by omega)).1, fun H' k' hB' => (q k 0 hk hk2 (by omega) (by omega)).2 H' (k'.back (((((((e0.trans e1).trans e2).trans e3).trans e4).trans e5).trans e6).trans ec)) hB'⟩, fun ho H' e' => qb (.inl ho) H' ((((((((e0.trans e1).trans e2).trans e3).trans e4).trans e5).trans e6).trans ec).trans e')⟩
    · refine q_when (b := false) (et_test (ev_op (ev_var rfl) ev_c (rv_eq rfl))) (fun hb => nomatch hb) (fun _ H0 e0 => ?_)
      refine q_when (b := false) (et_test (ev_op (ev_var rfl) ev_c (rv_eq rfl))) (fun hb => nomatch hb) (fun _ H1 e1 => ?_)
      refine q_when (b := false) (et_test (ev_op (ev_var rfl) ev_c (rv_eq rfl))) (fun hb => nomatch hb) (fun _ H2 e2 => ?_)
      refine q_when (b := false) (et_test (ev_op (ev_var rfl) ev_c (rv_eq rfl))) (fun hb => nomatch hb) (fun _ H3 e3 => ?_)
      refine q_when (b := false) (et_test (ev_op (ev_var rfl) ev_c (rv_eq rfl))) (fun hb => nomatch hb) (fun _ H4 e4 => ?_)
      refine q_when (b := false) (et_test (ev_op (ev_var rfl) ev_c (rv_eq rfl))) (fun hb => nomatch hb) (fun _ H5 e5 => ?_)
      refine q_when (b := false) (et_test (ev_op (ev_var rfl) ev_c (rv_eq rfl))) (fun hb => nomatch hb) (fun _ H6 e6 => ?_)
      refine q_when (b := true) (et_test (ev_op (ev_var rfl) ev_c (rv_eq rfl))) (fun _ H7 e7 => ?_) (fun hb => nomatch hb)
      obtain ⟨m, rfl⟩ := h7 rfl
      exact s_retC (ea_cons (ev_var rfl) (ea_cons (ev_var rfl) (ea_cons (ev_var rfl) (ea_cons (ev_var rfl) ea_nil)))) fun Hc ec => ⟨b, x, td, qs, P, z, n, ks, v, m, rfl, hG.ex ((((((((e0.trans e1).trans e2).trans e3).trans e4).trans e5).trans e6).trans e7).trans ec), hv.ex ((((((((e0.trans e1).trans e2).trans e3).trans e4).trans e5).trans e6).trans e7).trans ec), fun k hk hk2 => ⟨(q k m hk hk2 (fun _ => rfl) (by omega)).1, fun H' k' hB' => (q k m hk hk2 (fun _ => rfl) (by omega)).2 H' (k'.back ((((((((e0.trans e1).trans e2).trans e3).trans e4).trans e5).trans e6).trans e7).trans ec)) hB'⟩, fun ho H' e' => qb (.inl ho) H' (((((((((e0.trans e1).trans e2).trans e3).trans e4).trans e5).trans e6).trans e7).trans ec).trans e')⟩
    · refine q_when (b := false) (et_test (ev_op (ev_var rfl) ev_c (rv_eq rfl))) (fun hb => nomatch hb) (fun _ H0 e0 => ?_)
      refine q_when (b := false) (et_test (ev_op (ev_var rfl) ev_c (rv_eq rfl))) (fun hb => nomatch hb) (fun _ H1 e1 => ?_)
      refine q_when (b := false) (et_test (ev_op (ev_var rfl) ev_c (rv_eq rfl))) (fun hb => nomatch hb) (fun _ H2 e2 => ?_)
      refine q_when (b := false) (et_test (ev_op (ev_var rfl) ev_c (rv_eq rfl))) (fun hb => nomatch hb) (fun _ H3 e3 => ?_)
      refine q_when (b := false) (et_test (ev_op (ev_var rfl) ev_c (rv_eq rfl))) (fun hb => nomatch hb) (fun _ H4 e4 => ?_)
      refine q_when (b := false) (et_test (ev_op (ev_var rfl) ev_c (rv_eq rfl))) (fun hb => nomatch hb) (fun _ H5 e5 => ?_)
      refine q_when (b := false) (et_test (ev_op (ev_var rfl) ev_c (rv_eq rfl))) (fun hb => nomatch hb) (fun _ H6 e6 => ?_)
      refine q_when (b := false) (et_test (ev_op (ev_var rfl) ev_c (rv_eq rfl))) (fun hb => nomatch hb) (fun _ H7 e7 => ?_)
      exact s_retC (ea_cons (ev_var rfl) (ea_cons (ev_var rfl) (ea_cons (ev_var rfl) (ea_cons (ev_var rfl) ea_nil)))) fun Hc ec => ⟨b, x, td, qs, P, z, n, ks, v, u, rfl, hG.ex ((((((((e0.trans e1).trans e2).trans e3).trans e4).trans e5).trans e6).trans e7).trans ec), hv.ex ((((((((e0.trans e1).trans e2).trans e3).trans e4).trans e5).trans e6).trans e7).trans ec), hu.ex ((((((((e0.trans e1).trans e2).trans e3).trans e4).trans e5).trans e6).trans e7).trans ec), fun k m hk hm hk2 hm2 => ⟨(q k m hk hk2 (fun _ => hm) (fun _ => hm2)).1, fun H' k' hB' => (q k m hk hk2 (fun _ => hm) (fun _ => hm2)).2 H' (k'.back ((((((((e0.trans e1).trans e2).trans e3).trans e4).trans e5).trans e6).trans e7).trans ec)) hB'⟩, fun ho H' e' => qb (ho.elim .inl (fun h => .inr ⟨rfl, h⟩)) H' (((((((((e0.trans e1).trans e2).trans e3).trans e4).trans e5).trans e6).trans e7).trans ec).trans e')⟩

theorem sc_law_whole : FnScope ["_law_found"] ["_law_found"] (defScope s_law_whole) := ⟨rfl, rfl, rfl, by decide +kernel, rfl, by decide +kernel, by decide +kernel⟩
theorem ok_law_whole (T : Txt K mg A) : FnOk P w K mg base CX0 1 A.f_law_whole A.d_law_whole ["_law_found"] (spWhole K) := by
  refine T.F_law_whole.ok sc_law_whole (fun vs H Q E h => ?_) (fun cdv A' outer s H vs Q E hr h => ?_)
  · obtain ⟨x, rfl, _⟩ := h
    rfl
  · obtain ⟨x, rfl, ⟨tv, b1, b2, h1, h2, h3, h4⟩, q⟩ := h
    refine ⟨_, (pss_one (ps_ret (pe_and (pe_callB call_isi (by rfl) T.b_isinstance (by decide +kernel) (pa_cons (pv 0) (pa_cons (pe_bltn (v := .ty "int") (by rfl) T.b_int (by decide +kernel) rfl) pa_nil))) (pe_one (pe_not (pe_callB call_isi (by rfl) T.b_isinstance (by decide +kernel) (pa_cons (pv 0) (pa_cons (pe_bltn (v := .ty "bool") (by rfl) T.b_bool (by decide +kernel) rfl) pa_nil)))))))), ?_⟩
    refine s_ret (ev_andV (ev_isi (ev_var rfl) ev_c (.ty _) h1 h2) (fun hb => (ev_notV (ev_isi (ev_var rfl) ev_c (.ty _) h1 h3)))) fun H2 e2 => ?_
    rw [h4]
    exact q H2 e2

theorem sc_Blocks_asked : FnScope ["self"] ["self"] (defScope s_Blocks_asked) := ⟨rfl, rfl, rfl, by decide +kernel, rfl, by decide +kernel, by decide +kernel⟩
theorem ok_Blocks_asked (T : Txt K mg A) : FnOk P w K mg base CX0 1 A.f_Blocks_asked A.d_Blocks_asked ["self"] (spAsked A.c_Blocks) := by
  refine T.F_Blocks_asked.ok sc_Blocks_asked (fun vs H Q E h => ?_) (fun cdv A' outer s H vs Q E hr h => ?_)
  · obtain ⟨x, td, z, n, ks, rfl, _⟩ := h
    rfl
  · obtain ⟨x, td, z, n, ks, rfl, ⟨⟨dx, pp, h1, h2⟩, h3⟩, q⟩ := h
    refine ⟨_, (pss_one (ps_ret (pe_callTy (call_list_dK rfl) (by rfl) T.b_list (by decide +kernel) (pa_cons (pe_fld (pv 0) rfl) pa_nil)))), ?_⟩
    refine s_retL (el_listD (ev_fld (ev_var rfl) h1 T.cl_Blocks T.n_Blocks__told bf_told) h3) fun p H1 np e1 hp => ?_
    rw [dk_keys] at hp
    exact q p H1 np e1 hp

theorem sc_law : FnScope ["_law_script", "_law_parents_here", "_law_bits", "_law_size_here", "_law_book", "_law_walk_here", "_law_same", "_law_k", "_law_cell", "_law_way", "_law_one", "_law_other", "_law_due_here", "_law_blocks", "_law_found"] ["_law_script"] (defScope s_law) := ⟨rfl, rfl, rfl, by decide +kernel, rfl, by decide +kernel, by decide +kernel⟩
theorem ok_law (T : Txt K mg A) : FnOk P w K mg base CX0 15 A.f_law A.d_law ["_law_script"] (spLaw K) := by
  refine T.F_law.ok sc_law (fun vs H Q E h => ?_) (fun cdv A' outer s H vs Q E hr h => ?_)
  · obtain ⟨a, ns, rfl, _⟩ := h
    rfl
  · obtain ⟨a, ns, rfl, hS, hlen, q⟩ := h
    refine ⟨_, (pss_cons (ps_set (i := 1) sc_law.nd rfl (Or.inl rfl) (pe_call (ok_law_parents T) (hr.mono (by decide)) (by rfl) T.g_law_parents T.F_law_parents.kp T.s_law_parents .nil pass0 (pa_cons (pv 0) pa_nil))) (pss_cons (ps_set (i := 2) sc_law.nd rfl (Or.inl rfl) (pe_call (ok_pressed T) (hr.mono (by decide)) (by rfl) T.g_pressed T.F_pressed.kp T.s_pressed .nil passL (pa_cons (pv 1) pa_nil))) (pss_cons (ps_if (pt_cmpR (op_neD hr.units) (pe_call (ok_plain T) (hr.mono (by decide)) (by rfl) T.g_plain T.F_plain.kp T.s_plain .nil passL (pa_cons (pv 2) pa_nil)) (pv 1) (nomark _)) (pss_one (ps_ret pe_bl)) pss_nil) (pss_cons (ps_set (i := 3) sc_law.nd rfl (Or.inl rfl) (pe_call (ok_law_size T) (hr.mono (by decide)) (by rfl) T.g_law_size T.F_law_size.kp T.s_law_size .nil pass0 (pa_cons (pv 0) (pa_cons (pv 2) pa_nil)))) (pss_cut (ps_if (pt_cmpR op_eq (pe_op op_mod (pe_call (ok_law_cell_at T) (hr.mono (by decide)) (by rfl) T.g_law_cell_at T.F_law_cell_at.kp T.s_law_cell_at .nil pass0 (pa_cons (pv 0) (pa_cons pe_int pa_nil))) pe_int) pe_int (nomark _)) (pss_one (ps_set (i := 3) sc_law.nd rfl (Or.inl rfl) (pe_call (ok_size_for T) (hr.mono (by decide)) (by rfl) T.g_size_for T.F_size_for.kp T.s_size_for .nil passL (pa_cons (pe_callB call_len_str (by rfl) T.b_len PySem.boot_len (pa_cons (pv 2) pa_nil)) (pa_cons (pe_op op_add pe_int (pe_op op_mod (pe_call (ok_law_cell_at T) (hr.mono (by decide)) (by rfl) T.g_law_cell_at T.F_law_cell_at.kp T.s_law_cell_at .nil pass0 (pa_cons (pv 0) (pa_cons pe_int pa_nil))) pe_int)) pa_nil))))) pss_nil) (pss_cons (ps_set (i := 4) sc_law.nd rfl (Or.inl rfl) (pe_call (ok_book_of T) (hr.mono (by decide)) (by rfl) T.g_book_of T.F_book_of.kp T.s_book_of .nil passL (pa_cons (pv 2) (pa_cons (pv 3) pa_nil)))) (pss_cons (ps_set (i := 5) sc_law.nd rfl (Or.inl rfl) (pe_call (ok_law_walk T) (hr.mono (by decide)) (by rfl) T.g_law_walk T.F_law_walk.kp T.s_law_walk .nil pass0 (pa_cons (pv 1) pa_nil))) (pss_cons (ps_set (i := 6) sc_law.nd rfl (Or.inl rfl) (pe_make T.mk_Blocks (ok_Blocks___init__ T) (hr.mono (by decide)) (by rfl) T.g_Blocks T.s_Blocks___init__ .nil passL (pa_cons (pv 2) (pa_cons (pv 3) pa_nil)))) (pss_cons (ps_for PassesOwn.never rfl (pi_range1 (by rfl) T.b_range (pa_cons pe_int pa_nil)) (pg_name (i := 7) sc_law.nd rfl (Or.inl rfl)) (pss_cons (ps_set (i := 8) sc_law.nd rfl (Or.inl rfl) (pe_call (ok_law_cell_at T) (hr.mono (by decide)) (by rfl) T.g_law_cell_at T.F_law_cell_at.kp T.s_law_cell_at .nil pass0 (pa_cons (pv 0) (pa_cons (pe_op op_add pe_int (pv 7)) pa_nil)))) (pss_cons (ps_set (i := 9) sc_law.nd rfl (Or.inl rfl) (pe_op op_mod (pv 8) pe_int)) (pss_cons (ps_set (i := 10) sc_law.nd rfl (Or.inl rfl) (pe_op op_mod (pe_op op_fdiv (pv 8) pe_int) (pe_ix ix_list (pe_lst (pa_cons (pe_callB call_len_seq (by rfl) T.b_len PySem.boot_len (pa_cons (pv 1) pa_nil)) (pa_cons (pe_callB call_len_str (by rfl) T.b_len PySem.boot_len (pa_cons (pv 2) pa_nil)) pa_nil))) (pe_callTy call_int1 (by rfl) T.b_int (by decide +kernel) (pa_cons (pe_cmpR op_eq (pv 9) pe_int (nomark _)) pa_nil)) (fun _ _ => rfl)))) (pss_cons (ps_set (i := 11) sc_law.nd rfl (Or.inl rfl) (pe_op op_mod (pe_op op_fdiv (pv 8) pe_int) (pe_callB call_len_seq (by rfl) T.b_len PySem.boot_len (pa_cons (pv 1) pa_nil)))) (pss_cut (ps_if (pt_cmpR op_eq (pv 9) pe_int (nomark _)) (pss_one (ps_set (i := 11) sc_law.nd rfl (Or.inl rfl) (pe_op op_mod (pv 11) pe_int))) pss_nil) (pss_cons (ps_set (i := 12) sc_law.nd rfl (Or.inl rfl) (pe_call (ok_law_due T) (hr.mono (by decide)) (by rfl) T.g_law_due T.F_law_due.kp T.s_law_due .nil pass0 (pa_cons (pv 9) (pa_cons (pv 1) (pa_cons (pv 5) (pa_cons (pv 10) (pa_cons (pv 11) pa_nil))))))) (pss_cons (ps_set (i := 13) sc_law.nd rfl (Or.inl rfl) (pe_make T.mk_Blocks (ok_Blocks___init__ T) (hr.mono (by decide)) (by rfl) T.g_Blocks T.s_Blocks___init__ .nil passL (pa_cons (pv 2) (pa_cons (pv 3) pa_nil)))) (pss_cons (ps_set (i := 14) sc_law.nd rfl (Or.inl rfl) (pe_call (ok_law_call T) (hr.mono (by decide)) (by rfl) T.g_law_call T.F_law_call.kp T.s_law_call .nil passL (pa_cons (pv 9) (pa_cons (pv 4) (pa_cons (pv 13) (pa_cons (pv 10) (pa_cons (pv 11) pa_nil))))))) (pss_cons (ps_if (PW.pt (pw_or (pt_cmpR op_ne (pv 14) (pv 12) (nomark _)) (pw_or1 (PW.pt (pw_and (pt_cmpR op_notN (pv 14) pe_non (nomark _)) (pw_and1 (pt_not (pt_val (pe_call (ok_law_whole T) (hr.mono (by decide)) (by rfl) T.g_law_whole T.F_law_whole.kp T.s_law_whole .nil pass0 (pa_cons (pv 14) pa_nil)))))))))) (pss_one (ps_ret pe_bl)) pss_nil) (pss_one (ps_if (PW.pt (pw_or (pt_cmpR op_gt (pe_callB call_len_seq (by rfl) T.b_len PySem.boot_len (pa_cons (pe_meth0 (pv 13) T.cl_Blocks T.m_Blocks_asked (ok_Blocks_asked T) (hr.mono (by decide)) T.s_Blocks_asked .nil pass0) pa_nil)) (pe_ix ix_list (pe_lst (pa_cons pe_int (pa_cons pe_int (pa_cons pe_int (pa_cons pe_int (pa_cons pe_int (pa_cons pe_int (pa_cons pe_int (pa_cons pe_int (pa_cons pe_int pa_nil)))))))))) (pv 9) (fun _ _ => rfl)) (nomark _)) (pw_or1 (pt_cmpR op_ne (pe_call (ok_law_call T) (hr.mono (by decide)) (by rfl) T.g_law_call T.F_law_call.kp T.s_law_call .nil passL (pa_cons (pv 9) (pa_cons (pv 4) (pa_cons (pv 6) (pa_cons (pv 10) (pa_cons (pv 11) pa_nil)))))) (pv 12) (nomark _))))) (pss_one (ps_ret pe_bl)) pss_nil)))))))))))) (pss_one (ps_ret pe_bl))))))))))), ?_⟩
    refine q_asgC (ea_cons (ev_var rfl) ea_nil) fun H1 e1 => ⟨a, ns, rfl, ex_l e1 hS, fun P hg hl p H2 np e2 hp2 => ?_⟩
    have hpl : (pV (par P)).length = P.length + 1 := by rw [pV_len, par_len]
    have hfl : (full P).length = 2 * (P.length + 1) := full_len P
    have hzl : (txt (full P)).length = (full P).length := txt_len _
    have hz1 : 1 ≤ (txt (full P)).length := by omega
    have hz2 : (txt (full P)).length ≤ 4000 := by omega
    have hl2 : P.length < 2000 := by omega
    have e02 := e1.trans e2
    refine q_asg (ev_call (ea_cons (ev_var rfl) ea_nil) (sv_pressed (th_tree hp2 hg hl2))) fun H3 e3 => ?_
    have hp3 := e3 _ _ hp2
    refine q_whenX ((el_call (ea_cons (ev_var rfl) ea_nil) (sl_plain (tx_full hg hl2))) H3 (Ex.refl _) _ fun pq H4 npq e4 h4 => (ev_var rfl) H4 (Ex.refl _) _ fun H5 e5 => rv_neP (sq_of (e5 _ _ h4)) (sq_of ((e4.trans e5) _ _ hp3)) H5 (Ex.refl _) _ fun H6 e6 => k_of rfl ?_)
    rw [decide_eq_true rfl]
    refine iteF ?_
    have e36 := (e4.trans e5).trans e6
    have hp6 := e36 _ _ hp3
    have e06 := (e02.trans e3).trans e36
    refine q_asgC (ea_cons (ev_var rfl) (ea_cons (ev_var rfl) ea_nil)) fun H7 e7 => ⟨a, ns, full P, rfl, ex_l (e06.trans e7) hS, by omega, fun n0 H8 hn01 hn02 e8 => ?_⟩
    have e68 := e7.trans e8
    have e08 := e06.trans e68
    refine q_cut (M := fun σ H' => ∃ n : Nat, 1 ≤ n ∧ n ≤ 4000 ∧ Ex H8 H' ∧ σ = [some (.ref a), some (.ref p), some (.str (txt (full P))), some (.int (n : Int)), none, none, none, none, none, none, none, none, none, none, none]) ?_ ?_
    · refine s_when (et_test (ev_op (ev_op (ev_call (ea_cons (ev_var rfl) (ea_cons ev_c ea_nil)) (sv_cell 1 rfl (ex_l e08 hS))) ev_c (rv_I (by decide))) ev_c (rv_eq rfl))) (fun hb H9 e9 => ?_) (fun hb H9 e9 => ?_)
      · have g26 := cell_ge ns 26
        obtain ⟨s0, hs, hs1, hs2⟩ : ∃ s0 : Nat, 1 + cell ns 26 % 3 = (s0 : Int) ∧ 1 ≤ s0 ∧ s0 ≤ 3 := ⟨(1 + cell ns 26 % 3).toNat, by omega, by omega, by omega⟩
        have ss := sv_size (K := K) (C := A.c_NoSize) (H := H9) (l := (full P).length) (s := s0) (by omega) (by omega) hs1 (by omega)
        rw [← hs, ← hzl] at ss
        refine s_asg (ev_call (ea_cons (ev_lenS (ev_var rfl) (by omega)) (ea_cons (ev_op ev_c (ev_op (ev_call (ea_cons (ev_var rfl) (ea_cons ev_c ea_nil)) (sv_cell 26 rfl (ex_l (e08.trans e9) hS))) ev_c (rv_I (by decide))) rv_I0) ea_nil)) ss) fun H10 e10 => ?_
        have hw := wid_12 (n := (txt (full P)).length) hz1 hz2
        have hwp := wid_pos hz1
        refine ⟨3 * wid (txt (full P)).length * s0, ?_, ?_, e9.trans e10, rfl⟩
        · exact Nat.mul_pos (by omega) (by omega)
        · have : 3 * wid (txt (full P)).length * s0 ≤ 36 * 3 := Nat.mul_le_mul (by omega) hs2
          omega
      · exact ⟨n0, hn01, by omega, e9, rfl⟩
    rintro σ H9 ⟨n, hn1, hn2, e9, rfl⟩
    refine q_asgC (ea_cons (ev_var rfl) (ea_cons (ev_var rfl) ea_nil)) fun H10 e10 => ⟨P, _, rfl, hg, hl, kd_int _, fun n' hn' _ _ pb qs H11 npb e11 hB0 hqs => ?_, fun ho => absurd ho (by
      show ¬ (decide ((1 : Int) ≤ (n : Int)) && decide ((n : Int) ≤ 4000)) = false
      rw [decide_eq_true (by omega), decide_eq_true (by omega)]
      exact Bool.noConfusion)⟩
    have enn : n' = n := by have := V.int.inj hn'; omega
    subst enn
    clear hn'
    have e611 := ((e68.trans e9).trans e10).trans e11
    have hp11 := e611 _ _ hp6
    refine q_asgL (el_call (ea_cons (ev_var rfl) ea_nil) (sl_knots (sq_of hp11) hg hl2)) fun pw H12 npw e12 h12 => ?_
    have hp12 := e12 _ _ hp11
    have hB := hB0.ex e12
    have e012 := (e06.trans e611).trans e12
    refine q_asgM (ea_cons (ev_var rfl) (ea_cons (ev_var rfl) ea_nil)) fun H13 x dx e13 nx ndx nxd => init_at nx ndx nxd hz1 hz2 ⟨by omega, by omega⟩ fun n2 td H14 en hm1 hm2 ntd e14 hK => ⟨rfl, ?_⟩
    have enn2 : n2 = n' := by omega
    subst enn2
    clear hm1 hm2 en
    have htd : H12 td = none := fresh_back e13 ntd
    refine q_forR1 (ea_cons ev_c ea_nil) (by decide) (fun (i : Nat) (σ' : L2.St) (H' : Hp) => ∃ (ks : List Nat) (y7 y8 y9 y10 y11 y12 y13 y14 : Option V), Ex H12 H' ∧ Bk A.c_Blocks H' x td (txt (full P)) n2 ks ∧ ks.length ≤ 3 * i ∧ σ' = [some (.ref a), some (.ref p), some (.str (txt (full P))), some (.int (n2 : Int)), some (.ref pb), some (.ref pw), some (.ref x), y7, y8, y9, y10, y11, y12, y13, y14]) ?_ ?_ ?_
    · intro H' e'
      exact ⟨[], _, _, _, _, _, _, _, _, (e13.trans e14).trans e', hK.ex e', Nat.zero_le _, rfl⟩
    · rintro i σ' H15 hi ⟨ks, y7, y8, y9, y10, y11, y12, y13, y14, e15, hK15, hks, rfl⟩
      have g0 := cell_ge ns (27 + i)
      refine q_asg (ev_call (ea_cons (ev_var rfl) (ea_cons (ev_op ev_c (ev_var rfl) rv_I0) ea_nil)) (sv_cell (27 + i) (by omega) (ex_l (e012.trans e15) hS))) fun H16 e16 => ?_
      generalize cell ns (27 + i) = c at g0 ⊢
      obtain ⟨way, hway, hw9⟩ := mod_nat c (l := 9) (by omega)
      have hw8 : way ≤ 8 := by omega
      refine q_asg (ev_op (ev_var rfl) ev_c (rv_I (by decide))) fun H17 e17 => ?_
      rw [show c % 9 = (way : Int) from hway]
      have e1217 := (e15.trans e16).trans e17
      have htop : 1 ≤ topW way P := by unfold topW; split <;> omega
      have htop2 : topW way P ≤ 4000 := by unfold topW; split <;> omega
      obtain ⟨k, hk, hkt⟩ := mod_nat (c / 9) (l := topW way P) (by omega)
      refine q_asg (ev_op (ev_op (ev_var rfl) ev_c (rv_I ⟨by decide, by decide⟩)) (ev_opL1 (el_lst (ea_cons (ev_len (ev_var rfl) (sq_of (e1217 _ _ hp12))) (ea_cons (ev_lenS (ev_var rfl) (by omega)) ea_nil)) (by simp)) (fun _ e1 => Ev.mono e1 (ev_intB (ev_op (ev_var rfl) ev_c (rv_eq rfl)))) (fun _ _ hp e1 => rv_ixL (sq_of hp) (tops_at way))) (rv_I (by omega))) fun H18 e18 => ?_
      rw [hk]
      have e1218 := e1217.trans e18
      obtain ⟨m0, hm0, hml⟩ := mod_nat (c / 1500) (l := (pV (par P)).length) (by omega)
      refine q_asg (ev_op (ev_op (ev_var rfl) ev_c (rv_I ⟨by decide, by decide⟩)) (ev_len (ev_var rfl) (sq_of (e1218 _ _ hp12))) (rv_I (by omega))) fun H19 e19 => ?_
      rw [hm0]
      have e1219 := e1218.trans e19
      refine q_cut (M := fun σ H' => ∃ m : Nat, m ≤ P.length ∧ Ex H19 H' ∧ σ = [some (.ref a), some (.ref p), some (.str (txt (full P))), some (.int (n2 : Int)), some (.ref pb), some (.ref pw), some (.ref x), some (.int (i : Int)), some (.int c), some (.int (way : Int)), some (.int (k : Int)), some (.int (m : Int)), y12, y13, y14]) ?_ ?_
      · refine s_when (et_test (ev_op (ev_var rfl) ev_c (rv_eq rfl))) (fun hb H20 e20 => ?_) (fun hb H20 e20 => ?_)
        · refine s_asg (ev_op (ev_var rfl) ev_c (rv_I (by decide))) fun H21 e21 => ⟨m0 % 5, by have := Nat.mod_le m0 5; omega, e20.trans e21, ?_⟩
          rw [show (m0 : Int) % 5 = ((m0 % 5 : Nat) : Int) by omega]
          rfl
        · exact ⟨m0, by omega, e20, rfl⟩
      rintro σ H20 ⟨m, hm, e20, rfl⟩
      have e1220 := e1219.trans e20
      refine q_asg (ev_call (ea_cons (ev_var rfl) (ea_cons (ev_var rfl) (ea_cons (ev_var rfl) (ea_cons (ev_var rfl) (ea_cons (ev_var rfl) ea_nil))))) (sv_due hw8 (sq_of (e1220 _ _ hp12)) (sq_of (e1220 _ _ h12)) hg hl hkt hm)) fun H21 e21 => ?_
      have e1221 := e1220.trans e21
      have hK21 := (((((hK15.ex e16).ex e17).ex e18).ex e19).ex e20).ex e21
      refine q_asgM (ea_cons (ev_var rfl) (ea_cons (ev_var rfl) ea_nil)) fun H22 x2 dx2 e22 nx2 ndx2 nxd2 => init_at nx2 ndx2 nxd2 hz1 hz2 ⟨by omega, by omega⟩ fun n3 td2 H23 en2 hm1 hm2 ntd2 e23 hM => ⟨rfl, ?_⟩
      have enn3 : n3 = n2 := by omega
      subst enn3
      clear hm1 hm2 en2
      have e2123 := e22.trans e23
      have e1223 := e1221.trans e2123
      have htd2 : H12 td2 = none := fresh_back (e1221.trans e22) ntd2
      have ntt : td ≠ td2 := ne_of_none (e22 _ _ hK21.dc) ntd2
      have hK23 := hK21.ex e2123
      refine q_asgC (ea_cons (ev_var rfl) (ea_cons (ev_var rfl) (ea_cons (ev_var rfl) (ea_cons (ev_var rfl) (ea_cons (ev_var rfl) ea_nil))))) fun H24 e24 => askCall ⟨hB.ex (e1223.trans e24), hM.ex e24, hg, hl, hn1, hn2, txt_len _, Nat.zero_le _⟩ hw8 hkt (by omega) (same_self _ _ _) fun H25 k25 hM25 => ?_
      have e1225 : Ex H12 H25 := k25 H12 htd2 (e1223.trans e24)
      have hK25 := (hK23.ex e24).but k25 (e24 _ _ hM.dc) ntt
      have l1 := asks0 (rdW_len way P n3 k m)
      obtain ⟨o1, ho1⟩ := fW_oV way P k m
      rw [ho1]
      refine q_when (b := false) ?_ (fun hb => nomatch hb) (fun hb H26 e26 => ?_)
      · cases o1 with
        | none => exact et_is (et_or (et_test (ev_op (ev_var rfl) (ev_var rfl) (rv_ne rfl))) (fun hb => (et_and (et_test (ev_op (ev_var rfl) ev_c rv_notN)) (fun hb => (et_not (et_B (ev_call (ea_cons (ev_var rfl) ea_nil) (sv_whole kd_non)))))))) rfl
        | some v1 =>
          refine et_is (et_or (et_test (ev_op (ev_var rfl) (ev_var rfl) (rv_ne rfl))) (fun hb => (et_and (et_test (ev_op (ev_var rfl) ev_c rv_notN)) (fun hb => (et_not (et_B (ev_call (ea_cons (ev_var rfl) ea_nil) (sv_whole (kd_int _))))))))) ?_
          rw [decide_eq_true rfl]
          rfl
      have e1226 := e1225.trans e26
      have hM26 := hM25.ex e26
      have hK26 := hK25.ex e26
      obtain ⟨⟨dxx, pp, j1, j2⟩, j3⟩ := id hM26
      refine s_or2X ((ev_op (ev_lenN (el_meth0 (ev_var rfl) j1 (bf_no (by decide +kernel) (by decide +kernel) (by decide +kernel) (by decide +kernel)) (sl_asked hM26))) (ev_opL1 (el_lst (ea_cons ev_c (ea_cons ev_c (ea_cons ev_c (ea_cons ev_c (ea_cons ev_c (ea_cons ev_c (ea_cons ev_c (ea_cons ev_c (ea_cons ev_c ea_nil))))))))) (by simp)) (fun _ e1 => Ev.mono e1 (ev_var rfl)) (fun _ _ hp e1 => rv_ixL (sq_of hp) (most_at hw8))) rv_I0) H26 (Ex.refl _) _ fun H27 e27 => k_of rfl ?_)
      rw [List.length_map, decide_eq_false (by omega)]
      have lb := asks_len (rdW way P n3 k m) ks
      have lb2 := rdW_len way P n3 k m
      have lb3 := mostW_3 way
      refine iteF (e_opC (ea_cons (ev_var rfl) (ea_cons (ev_var rfl) (ea_cons (ev_var rfl) (ea_cons (ev_var rfl) (ea_cons (ev_var rfl) ea_nil))))) fun H28 e28 => askCall ⟨hB.ex ((e1226.trans e27).trans e28), (hK26.ex e27).ex e28, hg, hl, hn1, hn2, txt_len _, by omega⟩ hw8 hkt (by omega) (same_self _ _ _) fun H29 k29 hK29 => ?_)
      have e1229 : Ex H12 H29 := k29 H12 htd ((e1226.trans e27).trans e28)
      rw [ho1]
      refine (ev_var rfl) H29 (Ex.refl _) _ fun H30 e30 => ⟨scal_oV _ _, k_of rfl ?_⟩
      rw [decide_eq_true rfl]
      exact iteF ⟨_, _, _, _, _, _, _, _, _, e1229.trans e30, hK29.ex e30, by omega, rfl⟩
    · rintro σ' H15 ⟨ks, y7, y8, y9, y10, y11, y12, y13, y14, e15, hK15, hks, rfl⟩
      exact s_ret ev_c fun H16 e16 => q H16

end
theorem all_mk {l : PySem.W.OpenLaw} {w : World} {K : PySem.W.Frag} {h : Heap} {mg : Str → Option Value} {fa : Addr} {C_Blocks : Addr} {C_NoKnot : Addr} {C_NoBlock : Addr} {C_NoSize : Addr} {C_NoTree : Addr} {C_KnotError : Addr} {f_heights_along : Addr} {od_heights_along an_heights_along : Option Addr} {sl_heights_along : Array (Option Value)} {oc_heights_along kV_heights_along dc_heights_along pm_heights_along cd_heights_along ct_heights_along : Value} {f_heights_in : Addr} {od_heights_in an_heights_in : Option Addr} {sl_heights_in : Array (Option Value)} {oc_heights_in kV_heights_in dc_heights_in pm_heights_in cd_heights_in ct_heights_in : Value} {f_lowest : Addr} {od_lowest an_lowest : Option Addr} {sl_lowest : Array (Option Value)} {oc_lowest kV_lowest dc_lowest pm_lowest cd_lowest ct_lowest : Value} {f_knots_ahead : Addr} {od_knots_ahead an_knots_ahead : Option Addr} {sl_knots_ahead : Array (Option Value)} {oc_knots_ahead kV_knots_ahead dc_knots_ahead pm_knots_ahead cd_knots_ahead ct_knots_ahead : Value} {f_bit_at : Addr} {od_bit_at an_bit_at : Option Addr} {sl_bit_at : Array (Option Value)} {oc_bit_at kV_bit_at dc_bit_at pm_bit_at cd_bit_at ct_bit_at : Value} {f_height_at : Addr} {od_height_at an_height_at : Option Addr} {sl_height_at : Array (Option Value)} {oc_height_at kV_height_at dc_height_at pm_height_at cd_height_at ct_height_at : Value} {f_spot_of : Addr} {od_spot_of an_spot_of : Option Addr} {sl_spot_of : Array (Option Value)} {oc_spot_of kV_spot_of dc_spot_of pm_spot_of cd_spot_of ct_spot_of : Value} {f_knot_back : Addr} {od_knot_back an_knot_back : Option Addr} {sl_knot_back : Array (Option Value)} {oc_knot_back kV_knot_back dc_knot_back pm_knot_back cd_knot_back ct_knot_back : Value} {f_end_of : Addr} {od_end_of an_end_of : Option Addr} {sl_end_of : Array (Option Value)} {oc_end_of kV_end_of dc_end_of pm_end_of cd_end_of ct_end_of : Value} {f_lows_between : Addr} {od_lows_between an_lows_between : Option Addr} {sl_lows_between : Array (Option Value)} {oc_lows_between kV_lows_between dc_lows_between pm_lows_between cd_lows_between ct_lows_between : Value} {f_places_behind : Addr} {od_places_behind an_places_behind : Option Addr} {sl_places_behind : Array (Option Value)} {oc_places_behind kV_places_behind dc_places_behind pm_places_behind cd_places_behind ct_places_behind : Value} {f_block_of_knot : Addr} {od_block_of_knot an_block_of_knot : Option Addr} {sl_block_of_knot : Array (Option Value)} {oc_block_of_knot kV_block_of_knot dc_block_of_knot pm_block_of_knot cd_block_of_knot ct_block_of_knot : Value} {f_block_back : Addr} {od_block_back an_block_back : Option Addr} {sl_block_back : Array (Option Value)} {oc_block_back kV_block_back dc_block_back pm_block_back cd_block_back ct_block_back : Value} {f_block_on : Addr} {od_block_on an_block_on : Option Addr} {sl_block_on : Array (Option Value)} {oc_block_on kV_block_on dc_block_on pm_block_on cd_block_on ct_block_on : Value} {f_is_whole : Addr} {od_is_whole an_is_whole : Option Addr} {sl_is_whole : Array (Option Value)} {oc_is_whole kV_is_whole dc_is_whole pm_is_whole cd_is_whole ct_is_whole : Value} {f_is_whole_from : Addr} {od_is_whole_from an_is_whole_from : Option Addr} {sl_is_whole_from : Array (Option Value)} {oc_is_whole_from kV_is_whole_from dc_is_whole_from pm_is_whole_from cd_is_whole_from ct_is_whole_from : Value} {f_place_of : Addr} {od_place_of an_place_of : Option Addr} {sl_place_of : Array (Option Value)} {oc_place_of kV_place_of dc_place_of pm_place_of cd_place_of ct_place_of : Value} {f_depth_of : Addr} {od_depth_of an_depth_of : Option Addr} {sl_depth_of : Array (Option Value)} {oc_depth_of kV_depth_of dc_depth_of pm_depth_of cd_depth_of ct_depth_of : Value} {f_knot_at : Addr} {od_knot_at an_knot_at : Option Addr} {sl_knot_at : Array (Option Value)} {oc_knot_at kV_knot_at dc_knot_at pm_knot_at cd_knot_at ct_knot_at : Value} {f_above : Addr} {od_above an_above : Option Addr} {sl_above : Array (Option Value)} {oc_above kV_above dc_above pm_above cd_above ct_above : Value} {f_beneath : Addr} {od_beneath an_beneath : Option Addr} {sl_beneath : Array (Option Value)} {oc_beneath kV_beneath dc_beneath pm_beneath cd_beneath ct_beneath : Value} {f_beside : Addr} {od_beside an_beside : Option Addr} {sl_beside : Array (Option Value)} {oc_beside kV_beside dc_beside pm_beside cd_beside ct_beside : Value} {f_kids : Addr} {od_kids an_kids : Option Addr} {sl_kids : Array (Option Value)} {oc_kids kV_kids dc_kids pm_kids cd_kids ct_kids : Value} {f_kid : Addr} {od_kid an_kid : Option Addr} {sl_kid : Array (Option Value)} {oc_kid kV_kid dc_kid pm_kid cd_kid ct_kid : Value} {f_elder : Addr} {od_elder an_elder : Option Addr} {sl_elder : Array (Option Value)} {oc_elder kV_elder dc_elder pm_elder cd_elder ct_elder : Value} {f_look_at_knot : Addr} {od_look_at_knot an_look_at_knot : Option Addr} {sl_look_at_knot : Array (Option Value)} {oc_look_at_knot kV_look_at_knot dc_look_at_knot pm_look_at_knot cd_look_at_knot ct_look_at_knot : Value} {f_gaps_of : Addr} {od_gaps_of an_gaps_of : Option Addr} {sl_gaps_of : Array (Option Value)} {oc_gaps_of kV_gaps_of dc_gaps_of pm_gaps_of cd_gaps_of ct_gaps_of : Value} {f_many_kids : Addr} {od_many_kids an_many_kids : Option Addr} {sl_many_kids : Array (Option Value)} {oc_many_kids kV_many_kids dc_many_kids pm_many_kids cd_many_kids ct_many_kids : Value} {f_find_gap : Addr} {od_find_gap an_find_gap : Option Addr} {sl_find_gap : Array (Option Value)} {oc_find_gap kV_find_gap dc_find_gap pm_find_gap cd_find_gap ct_find_gap : Value} {f_Blocks___init__ : Addr} {od_Blocks___init__ an_Blocks___init__ : Option Addr} {sl_Blocks___init__ : Array (Option Value)} {oc_Blocks___init__ kV_Blocks___init__ dc_Blocks___init__ pm_Blocks___init__ cd_Blocks___init__ ct_Blocks___init__ : Value} {f_Blocks_many : Addr} {od_Blocks_many an_Blocks_many : Option Addr} {sl_Blocks_many : Array (Option Value)} {oc_Blocks_many kV_Blocks_many dc_Blocks_many pm_Blocks_many cd_Blocks_many ct_Blocks_many : Value} {f_Blocks_part : Addr} {od_Blocks_part an_Blocks_part : Option Addr} {sl_Blocks_part : Array (Option Value)} {oc_Blocks_part kV_Blocks_part dc_Blocks_part pm_Blocks_part cd_Blocks_part ct_Blocks_part : Value} {f_Blocks_asked : Addr} {od_Blocks_asked an_Blocks_asked : Option Addr} {sl_Blocks_asked : Array (Option Value)} {oc_Blocks_asked kV_Blocks_asked dc_Blocks_asked pm_Blocks_asked cd_Blocks_asked ct_Blocks_asked : Value} {f_book_of : Addr} {od_book_of an_book_of : Option Addr} {sl_book_of : Array (Option Value)} {oc_book_of kV_book_of dc_book_of pm_book_of cd_book_of ct_book_of : Value} {f_width_of : Addr} {od_width_of an_width_of : Option Addr} {sl_width_of : Array (Option Value)} {oc_width_of kV_width_of dc_width_of pm_width_of cd_width_of ct_width_of : Value} {f_size_for : Addr} {od_size_for an_size_for : Option Addr} {sl_size_for : Array (Option Value)} {oc_size_for kV_size_for dc_size_for pm_size_for cd_size_for ct_size_for : Value} {f_pressed : Addr} {od_pressed an_pressed : Option Addr} {sl_pressed : Array (Option Value)} {oc_pressed kV_pressed dc_pressed pm_pressed cd_pressed ct_pressed : Value} {f_plain : Addr} {od_plain an_plain : Option Addr} {sl_plain : Array (Option Value)} {oc_plain kV_plain dc_plain pm_plain cd_plain ct_plain : Value} {f_bits_of : Addr} {od_bits_of an_bits_of : Option Addr} {sl_bits_of : Array (Option Value)} {oc_bits_of kV_bits_of dc_bits_of pm_bits_of cd_bits_of ct_bits_of : Value} {f_parents_of : Addr} {od_parents_of an_parents_of : Option Addr} {sl_parents_of : Array (Option Value)} {oc_parents_of kV_parents_of dc_parents_of pm_parents_of cd_parents_of ct_parents_of : Value} {f_law_cell_at : Addr} {od_law_cell_at an_law_cell_at : Option Addr} {sl_law_cell_at : Array (Option Value)} {oc_law_cell_at kV_law_cell_at dc_law_cell_at pm_law_cell_at cd_law_cell_at ct_law_cell_at : Value} {f_law_whole : Addr} {od_law_whole an_law_whole : Option Addr} {sl_law_whole : Array (Option Value)} {oc_law_whole kV_law_whole dc_law_whole pm_law_whole cd_law_whole ct_law_whole : Value} {f_law_parents : Addr} {od_law_parents an_law_parents : Option Addr} {sl_law_parents : Array (Option Value)} {oc_law_parents kV_law_parents dc_law_parents pm_law_parents cd_law_parents ct_law_parents : Value} {f_law_size : Addr} {od_law_size an_law_size : Option Addr} {sl_law_size : Array (Option Value)} {oc_law_size kV_law_size dc_law_size pm_law_size cd_law_size ct_law_size : Value} {f_law_call : Addr} {od_law_call an_law_call : Option Addr} {sl_law_call : Array (Option Value)} {oc_law_call kV_law_call dc_law_call pm_law_call cd_law_call ct_law_call : Value} {f_law_line : Addr} {od_law_line an_law_line : Option Addr} {sl_law_line : Array (Option Value)} {oc_law_line kV_law_line dc_law_line pm_law_line cd_law_line ct_law_line : Value} {f_law_kids : Addr} {od_law_kids an_law_kids : Option Addr} {sl_law_kids : Array (Option Value)} {oc_law_kids kV_law_kids dc_law_kids pm_law_kids cd_law_kids ct_law_kids : Value} {f_law_walk : Addr} {od_law_walk an_law_walk : Option Addr} {sl_law_walk : Array (Option Value)} {oc_law_walk kV_law_walk dc_law_walk pm_law_walk cd_law_walk ct_law_walk : Value} {f_law_due : Addr} {od_law_due an_law_due : Option Addr} {sl_law_due : Array (Option Value)} {oc_law_due kV_law_due dc_law_due pm_law_due cd_law_due ct_law_due : Value} {f_law : Addr} {od_law an_law : Option Addr} {sl_law : Array (Option Value)} {oc_law kV_law dc_law pm_law cd_law ct_law : Value} {tk_MOST_SIZE : Tok} {tk_MOST_SHARE : Tok} {tk_MOST_KNOTS : Tok}
    (X : K.In h) (G : h.Ns mainGlobals mg) (hfa : mg "law" = some (.ref fa))
    (a_heights_along : PySem.W.nsIn K mainGlobals "heights_along" = some (some (.ref f_heights_along)))
    (l_heights_along : K.lookup f_heights_along = some ⟨oc_heights_along, od_heights_along, .func (PySem.W.fnOf "heights_along" "heights_along" (defArgs s_heights_along) (defBody s_heights_along) (defScope s_heights_along) .none kV_heights_along dc_heights_along pm_heights_along an_heights_along cd_heights_along ct_heights_along), sl_heights_along⟩) (c_heights_along : PySem.W.codeIn K cd_heights_along "heights_along" = true) (k_heights_along : PySem.W.keepIn K (.ref f_heights_along) = true)
    (a_heights_in : PySem.W.nsIn K mainGlobals "heights_in" = some (some (.ref f_heights_in)))
    (l_heights_in : K.lookup f_heights_in = some ⟨oc_heights_in, od_heights_in, .func (PySem.W.fnOf "heights_in" "heights_in" (defArgs s_heights_in) (defBody s_heights_in) (defScope s_heights_in) .none kV_heights_in dc_heights_in pm_heights_in an_heights_in cd_heights_in ct_heights_in), sl_heights_in⟩) (c_heights_in : PySem.W.codeIn K cd_heights_in "heights_in" = true) (k_heights_in : PySem.W.keepIn K (.ref f_heights_in) = true)
    (a_lowest : PySem.W.nsIn K mainGlobals "lowest" = some (some (.ref f_lowest)))
    (l_lowest : K.lookup f_lowest = some ⟨oc_lowest, od_lowest, .func (PySem.W.fnOf "lowest" "lowest" (defArgs s_lowest) (defBody s_lowest) (defScope s_lowest) .none kV_lowest dc_lowest pm_lowest an_lowest cd_lowest ct_lowest), sl_lowest⟩) (c_lowest : PySem.W.codeIn K cd_lowest "lowest" = true) (k_lowest : PySem.W.keepIn K (.ref f_lowest) = true)
    (a_knots_ahead : PySem.W.nsIn K mainGlobals "knots_ahead" = some (some (.ref f_knots_ahead)))
    (l_knots_ahead : K.lookup f_knots_ahead = some ⟨oc_knots_ahead, od_knots_ahead, .func (PySem.W.fnOf "knots_ahead" "knots_ahead" (defArgs s_knots_ahead) (defBody s_knots_ahead) (defScope s_knots_ahead) .none kV_knots_ahead dc_knots_ahead pm_knots_ahead an_knots_ahead cd_knots_ahead ct_knots_ahead), sl_knots_ahead⟩) (c_knots_ahead : PySem.W.codeIn K cd_knots_ahead "knots_ahead" = true) (k_knots_ahead : PySem.W.keepIn K (.ref f_knots_ahead) = true)
    (a_bit_at : PySem.W.nsIn K mainGlobals "bit_at" = some (some (.ref f_bit_at)))
    (l_bit_at : K.lookup f_bit_at = some ⟨oc_bit_at, od_bit_at, .func (PySem.W.fnOf "bit_at" "bit_at" (defArgs s_bit_at) (defBody s_bit_at) (defScope s_bit_at) .none kV_bit_at dc_bit_at pm_bit_at an_bit_at cd_bit_at ct_bit_at), sl_bit_at⟩) (c_bit_at : PySem.W.codeIn K cd_bit_at "bit_at" = true) (k_bit_at : PySem.W.keepIn K (.ref f_bit_at) = true)
    (a_height_at : PySem.W.nsIn K mainGlobals "height_at" = some (some (.ref f_height_at)))
    (l_height_at : K.lookup f_height_at = some ⟨oc_height_at, od_height_at, .func (PySem.W.fnOf "height_at" "height_at" (defArgs s_height_at) (defBody s_height_at) (defScope s_height_at) .none kV_height_at dc_height_at pm_height_at an_height_at cd_height_at ct_height_at), sl_height_at⟩) (c_height_at : PySem.W.codeIn K cd_height_at "height_at" = true) (k_height_at : PySem.W.keepIn K (.ref f_height_at) = true)
    (a_spot_of : PySem.W.nsIn K mainGlobals "spot_of" = some (some (.ref f_spot_of)))
    (l_spot_of : K.lookup f_spot_of = some ⟨oc_spot_of, od_spot_of, .func (PySem.W.fnOf "spot_of" "spot_of" (defArgs s_spot_of) (defBody s_spot_of) (defScope s_spot_of) .none kV_spot_of dc_spot_of pm_spot_of an_spot_of cd_spot_of ct_spot_of), sl_spot_of⟩) (c_spot_of : PySem.W.codeIn K cd_spot_of "spot_of" = true) (k_spot_of : PySem.W.keepIn K (.ref f_spot_of) = true)
    (a_knot_back : PySem.W.nsIn K mainGlobals "knot_back" = some (some (.ref f_knot_back)))
    (l_knot_back : K.lookup f_knot_back = some ⟨oc_knot_back, od_knot_back, .func (PySem.W.fnOf "knot_back" "knot_back" (defArgs s_knot_back) (defBody s_knot_back) (defScope s_knot_back) .none kV_knot_back dc_knot_back pm_knot_back an_knot_back cd_knot_back ct_knot_back), sl_knot_back⟩) (c_knot_back : PySem.W.codeIn K cd_knot_back "knot_back" = true) (k_knot_back : PySem.W.keepIn K (.ref f_knot_back) = true)
    (a_end_of : PySem.W.nsIn K mainGlobals "end_of" = some (some (.ref f_end_of)))
    (l_end_of : K.lookup f_end_of = some ⟨oc_end_of, od_end_of, .func (PySem.W.fnOf "end_of" "end_of" (defArgs s_end_of) (defBody s_end_of) (defScope s_end_of) .none kV_end_of dc_end_of pm_end_of an_end_of cd_end_of ct_end_of), sl_end_of⟩) (c_end_of : PySem.W.codeIn K cd_end_of "end_of" = true) (k_end_of : PySem.W.keepIn K (.ref f_end_of) = true)
    (a_lows_between : PySem.W.nsIn K mainGlobals "lows_between" = some (some (.ref f_lows_between)))
    (l_lows_between : K.lookup f_lows_between = some ⟨oc_lows_between, od_lows_between, .func (PySem.W.fnOf "lows_between" "lows_between" (defArgs s_lows_between) (defBody s_lows_between) (defScope s_lows_between) .none kV_lows_between dc_lows_between pm_lows_between an_lows_between cd_lows_between ct_lows_between), sl_lows_between⟩) (c_lows_between : PySem.W.codeIn K cd_lows_between "lows_between" = true) (k_lows_between : PySem.W.keepIn K (.ref f_lows_between) = true)
    (a_places_behind : PySem.W.nsIn K mainGlobals "places_behind" = some (some (.ref f_places_behind)))
    (l_places_behind : K.lookup f_places_behind = some ⟨oc_places_behind, od_places_behind, .func (PySem.W.fnOf "places_behind" "places_behind" (defArgs s_places_behind) (defBody s_places_behind) (defScope s_places_behind) .none kV_places_behind dc_places_behind pm_places_behind an_places_behind cd_places_behind ct_places_behind), sl_places_behind⟩) (c_places_behind : PySem.W.codeIn K cd_places_behind "places_behind" = true) (k_places_behind : PySem.W.keepIn K (.ref f_places_behind) = true)
    (a_block_of_knot : PySem.W.nsIn K mainGlobals "_block_of_knot" = some (some (.ref f_block_of_knot)))
    (l_block_of_knot : K.lookup f_block_of_knot = some ⟨oc_block_of_knot, od_block_of_knot, .func (PySem.W.fnOf "_block_of_knot" "_block_of_knot" (defArgs s_block_of_knot) (defBody s_block_of_knot) (defScope s_block_of_knot) .none kV_block_of_knot dc_block_of_knot pm_block_of_knot an_block_of_knot cd_block_of_knot ct_block_of_knot), sl_block_of_knot⟩) (c_block_of_knot : PySem.W.codeIn K cd_block_of_knot "_block_of_knot" = true) (k_block_of_knot : PySem.W.keepIn K (.ref f_block_of_knot) = true)
    (a_block_back : PySem.W.nsIn K mainGlobals "_block_back" = some (some (.ref f_block_back)))
    (l_block_back : K.lookup f_block_back = some ⟨oc_block_back, od_block_back, .func (PySem.W.fnOf "_block_back" "_block_back" (defArgs s_block_back) (defBody s_block_back) (defScope s_block_back) .none kV_block_back dc_block_back pm_block_back an_block_back cd_block_back ct_block_back), sl_block_back⟩) (c_block_back : PySem.W.codeIn K cd_block_back "_block_back" = true) (k_block_back : PySem.W.keepIn K (.ref f_block_back) = true)
    (a_block_on : PySem.W.nsIn K mainGlobals "_block_on" = some (some (.ref f_block_on)))
    (l_block_on : K.lookup f_block_on = some ⟨oc_block_on, od_block_on, .func (PySem.W.fnOf "_block_on" "_block_on" (defArgs s_block_on) (defBody s_block_on) (defScope s_block_on) .none kV_block_on dc_block_on pm_block_on an_block_on cd_block_on ct_block_on), sl_block_on⟩) (c_block_on : PySem.W.codeIn K cd_block_on "_block_on" = true) (k_block_on : PySem.W.keepIn K (.ref f_block_on) = true)
    (a_is_whole : PySem.W.nsIn K mainGlobals "is_whole" = some (some (.ref f_is_whole)))
    (l_is_whole : K.lookup f_is_whole = some ⟨oc_is_whole, od_is_whole, .func (PySem.W.fnOf "is_whole" "is_whole" (defArgs s_is_whole) (defBody s_is_whole) (defScope s_is_whole) .none kV_is_whole dc_is_whole pm_is_whole an_is_whole cd_is_whole ct_is_whole), sl_is_whole⟩) (c_is_whole : PySem.W.codeIn K cd_is_whole "is_whole" = true) (k_is_whole : PySem.W.keepIn K (.ref f_is_whole) = true)
    (a_is_whole_from : PySem.W.nsIn K mainGlobals "is_whole_from" = some (some (.ref f_is_whole_from)))
    (l_is_whole_from : K.lookup f_is_whole_from = some ⟨oc_is_whole_from, od_is_whole_from, .func (PySem.W.fnOf "is_whole_from" "is_whole_from" (defArgs s_is_whole_from) (defBody s_is_whole_from) (defScope s_is_whole_from) .none kV_is_whole_from dc_is_whole_from pm_is_whole_from an_is_whole_from cd_is_whole_from ct_is_whole_from), sl_is_whole_from⟩) (c_is_whole_from : PySem.W.codeIn K cd_is_whole_from "is_whole_from" = true) (k_is_whole_from : PySem.W.keepIn K (.ref f_is_whole_from) = true)
    (a_place_of : PySem.W.nsIn K mainGlobals "place_of" = some (some (.ref f_place_of)))
    (l_place_of : K.lookup f_place_of = some ⟨oc_place_of, od_place_of, .func (PySem.W.fnOf "place_of" "place_of" (defArgs s_place_of) (defBody s_place_of) (defScope s_place_of) .none kV_place_of dc_place_of pm_place_of an_place_of cd_place_of ct_place_of), sl_place_of⟩) (c_place_of : PySem.W.codeIn K cd_place_of "place_of" = true) (k_place_of : PySem.W.keepIn K (.ref f_place_of) = true)
    (a_depth_of : PySem.W.nsIn K mainGlobals "depth_of" = some (some (.ref f_depth_of)))
    (l_depth_of : K.lookup f_depth_of = some ⟨oc_depth_of, od_depth_of, .func (PySem.W.fnOf "depth_of" "depth_of" (defArgs s_depth_of) (defBody s_depth_of) (defScope s_depth_of) .none kV_depth_of dc_depth_of pm_depth_of an_depth_of cd_depth_of ct_depth_of), sl_depth_of⟩) (c_depth_of : PySem.W.codeIn K cd_depth_of "depth_of" = true) (k_depth_of : PySem.W.keepIn K (.ref f_depth_of) = true)
    (a_knot_at : PySem.W.nsIn K mainGlobals "knot_at" = some (some (.ref f_knot_at)))
    (l_knot_at : K.lookup f_knot_at = some ⟨oc_knot_at, od_knot_at, .func (PySem.W.fnOf "knot_at" "knot_at" (defArgs s_knot_at) (defBody s_knot_at) (defScope s_knot_at) .none kV_knot_at dc_knot_at pm_knot_at an_knot_at cd_knot_at ct_knot_at), sl_knot_at⟩) (c_knot_at : PySem.W.codeIn K cd_knot_at "knot_at" = true) (k_knot_at : PySem.W.keepIn K (.ref f_knot_at) = true)
    (a_above : PySem.W.nsIn K mainGlobals "above" = some (some (.ref f_above)))
    (l_above : K.lookup f_above = some ⟨oc_above, od_above, .func (PySem.W.fnOf "above" "above" (defArgs s_above) (defBody s_above) (defScope s_above) .none kV_above dc_above pm_above an_above cd_above ct_above), sl_above⟩) (c_above : PySem.W.codeIn K cd_above "above" = true) (k_above : PySem.W.keepIn K (.ref f_above) = true)
    (a_beneath : PySem.W.nsIn K mainGlobals "beneath" = some (some (.ref f_beneath)))
    (l_beneath : K.lookup f_beneath = some ⟨oc_beneath, od_beneath, .func (PySem.W.fnOf "beneath" "beneath" (defArgs s_beneath) (defBody s_beneath) (defScope s_beneath) .none kV_beneath dc_beneath pm_beneath an_beneath cd_beneath ct_beneath), sl_beneath⟩) (c_beneath : PySem.W.codeIn K cd_beneath "beneath" = true) (k_beneath : PySem.W.keepIn K (.ref f_beneath) = true)
    (a_beside : PySem.W.nsIn K mainGlobals "beside" = some (some (.ref f_beside)))
    (l_beside : K.lookup f_beside = some ⟨oc_beside, od_beside, .func (PySem.W.fnOf "beside" "beside" (defArgs s_beside) (defBody s_beside) (defScope s_beside) .none kV_beside dc_beside pm_beside an_beside cd_beside ct_beside), sl_beside⟩) (c_beside : PySem.W.codeIn K cd_beside "beside" = true) (k_beside : PySem.W.keepIn K (.ref f_beside) = true)
    (a_kids : PySem.W.nsIn K mainGlobals "kids" = some (some (.ref f_kids)))
    (l_kids : K.lookup f_kids = some ⟨oc_kids, od_kids, .func (PySem.W.fnOf "kids" "kids" (defArgs s_kids) (defBody s_kids) (defScope s_kids) .none kV_kids dc_kids pm_kids an_kids cd_kids ct_kids), sl_kids⟩) (c_kids : PySem.W.codeIn K cd_kids "kids" = true) (k_kids : PySem.W.keepIn K (.ref f_kids) = true)
    (a_kid : PySem.W.nsIn K mainGlobals "kid" = some (some (.ref f_kid)))
    (l_kid : K.lookup f_kid = some ⟨oc_kid, od_kid, .func (PySem.W.fnOf "kid" "kid" (defArgs s_kid) (defBody s_kid) (defScope s_kid) .none kV_kid dc_kid pm_kid an_kid cd_kid ct_kid), sl_kid⟩) (c_kid : PySem.W.codeIn K cd_kid "kid" = true) (k_kid : PySem.W.keepIn K (.ref f_kid) = true)
    (a_elder : PySem.W.nsIn K mainGlobals "elder" = some (some (.ref f_elder)))
    (l_elder : K.lookup f_elder = some ⟨oc_elder, od_elder, .func (PySem.W.fnOf "elder" "elder" (defArgs s_elder) (defBody s_elder) (defScope s_elder) .none kV_elder dc_elder pm_elder an_elder cd_elder ct_elder), sl_elder⟩) (c_elder : PySem.W.codeIn K cd_elder "elder" = true) (k_elder : PySem.W.keepIn K (.ref f_elder) = true)
    (a_look_at_knot : PySem.W.nsIn K mainGlobals "_look_at_knot" = some (some (.ref f_look_at_knot)))
    (l_look_at_knot : K.lookup f_look_at_knot = some ⟨oc_look_at_knot, od_look_at_knot, .func (PySem.W.fnOf "_look_at_knot" "_look_at_knot" (defArgs s_look_at_knot) (defBody s_look_at_knot) (defScope s_look_at_knot) .none kV_look_at_knot dc_look_at_knot pm_look_at_knot an_look_at_knot cd_look_at_knot ct_look_at_knot), sl_look_at_knot⟩) (c_look_at_knot : PySem.W.codeIn K cd_look_at_knot "_look_at_knot" = true) (k_look_at_knot : PySem.W.keepIn K (.ref f_look_at_knot) = true)
    (a_gaps_of : PySem.W.nsIn K mainGlobals "_gaps_of" = some (some (.ref f_gaps_of)))
    (l_gaps_of : K.lookup f_gaps_of = some ⟨oc_gaps_of, od_gaps_of, .func (PySem.W.fnOf "_gaps_of" "_gaps_of" (defArgs s_gaps_of) (defBody s_gaps_of) (defScope s_gaps_of) .none kV_gaps_of dc_gaps_of pm_gaps_of an_gaps_of cd_gaps_of ct_gaps_of), sl_gaps_of⟩) (c_gaps_of : PySem.W.codeIn K cd_gaps_of "_gaps_of" = true) (k_gaps_of : PySem.W.keepIn K (.ref f_gaps_of) = true)
    (a_many_kids : PySem.W.nsIn K mainGlobals "_many_kids" = some (some (.ref f_many_kids)))
    (l_many_kids : K.lookup f_many_kids = some ⟨oc_many_kids, od_many_kids, .func (PySem.W.fnOf "_many_kids" "_many_kids" (defArgs s_many_kids) (defBody s_many_kids) (defScope s_many_kids) .none kV_many_kids dc_many_kids pm_many_kids an_many_kids cd_many_kids ct_many_kids), sl_many_kids⟩) (c_many_kids : PySem.W.codeIn K cd_many_kids "_many_kids" = true) (k_many_kids : PySem.W.keepIn K (.ref f_many_kids) = true)
    (a_find_gap : PySem.W.nsIn K mainGlobals "_find_gap" = some (some (.ref f_find_gap)))
    (l_find_gap : K.lookup f_find_gap = some ⟨oc_find_gap, od_find_gap, .func (PySem.W.fnOf "_find_gap" "_find_gap" (defArgs s_find_gap) (defBody s_find_gap) (defScope s_find_gap) .none kV_find_gap dc_find_gap pm_find_gap an_find_gap cd_find_gap ct_find_gap), sl_find_gap⟩) (c_find_gap : PySem.W.codeIn K cd_find_gap "_find_gap" = true) (k_find_gap : PySem.W.keepIn K (.ref f_find_gap) = true)
    (a_Blocks___init__ : PySem.W.findIn K (.ref C_Blocks) "__init__" = some (some (.ref f_Blocks___init__))) (i_Blocks___init__ : PySem.W.isFn K (.ref f_Blocks___init__) = true)
    (l_Blocks___init__ : K.lookup f_Blocks___init__ = some ⟨oc_Blocks___init__, od_Blocks___init__, .func (PySem.W.fnOf "__init__" "Blocks.__init__" (defArgs s_Blocks___init__) (defBody s_Blocks___init__) (defScope s_Blocks___init__) .none kV_Blocks___init__ dc_Blocks___init__ pm_Blocks___init__ an_Blocks___init__ cd_Blocks___init__ ct_Blocks___init__), sl_Blocks___init__⟩) (c_Blocks___init__ : PySem.W.codeIn K cd_Blocks___init__ "Blocks.__init__" = true) (k_Blocks___init__ : PySem.W.keepIn K (.ref f_Blocks___init__) = true)
    (a_Blocks_many : PySem.W.findIn K (.ref C_Blocks) "many" = some (some (.ref f_Blocks_many))) (i_Blocks_many : PySem.W.isFn K (.ref f_Blocks_many) = true)
    (l_Blocks_many : K.lookup f_Blocks_many = some ⟨oc_Blocks_many, od_Blocks_many, .func (PySem.W.fnOf "many" "Blocks.many" (defArgs s_Blocks_many) (defBody s_Blocks_many) (defScope s_Blocks_many) .none kV_Blocks_many dc_Blocks_many pm_Blocks_many an_Blocks_many cd_Blocks_many ct_Blocks_many), sl_Blocks_many⟩) (c_Blocks_many : PySem.W.codeIn K cd_Blocks_many "Blocks.many" = true) (k_Blocks_many : PySem.W.keepIn K (.ref f_Blocks_many) = true)
    (a_Blocks_part : PySem.W.findIn K (.ref C_Blocks) "part" = some (some (.ref f_Blocks_part))) (i_Blocks_part : PySem.W.isFn K (.ref f_Blocks_part) = true)
    (l_Blocks_part : K.lookup f_Blocks_part = some ⟨oc_Blocks_part, od_Blocks_part, .func (PySem.W.fnOf "part" "Blocks.part" (defArgs s_Blocks_part) (defBody s_Blocks_part) (defScope s_Blocks_part) .none kV_Blocks_part dc_Blocks_part pm_Blocks_part an_Blocks_part cd_Blocks_part ct_Blocks_part), sl_Blocks_part⟩) (c_Blocks_part : PySem.W.codeIn K cd_Blocks_part "Blocks.part" = true) (k_Blocks_part : PySem.W.keepIn K (.ref f_Blocks_part) = true)
    (a_Blocks_asked : PySem.W.findIn K (.ref C_Blocks) "asked" = some (some (.ref f_Blocks_asked))) (i_Blocks_asked : PySem.W.isFn K (.ref f_Blocks_asked) = true)
    (l_Blocks_asked : K.lookup f_Blocks_asked = some ⟨oc_Blocks_asked, od_Blocks_asked, .func (PySem.W.fnOf "asked" "Blocks.asked" (defArgs s_Blocks_asked) (defBody s_Blocks_asked) (defScope s_Blocks_asked) .none kV_Blocks_asked dc_Blocks_asked pm_Blocks_asked an_Blocks_asked cd_Blocks_asked ct_Blocks_asked), sl_Blocks_asked⟩) (c_Blocks_asked : PySem.W.codeIn K cd_Blocks_asked "Blocks.asked" = true) (k_Blocks_asked : PySem.W.keepIn K (.ref f_Blocks_asked) = true)
    (a_book_of : PySem.W.nsIn K mainGlobals "book_of" = some (some (.ref f_book_of)))
    (l_book_of : K.lookup f_book_of = some ⟨oc_book_of, od_book_of, .func (PySem.W.fnOf "book_of" "book_of" (defArgs s_book_of) (defBody s_book_of) (defScope s_book_of) .none kV_book_of dc_book_of pm_book_of an_book_of cd_book_of ct_book_of), sl_book_of⟩) (c_book_of : PySem.W.codeIn K cd_book_of "book_of" = true) (k_book_of : PySem.W.keepIn K (.ref f_book_of) = true)
    (a_width_of : PySem.W.nsIn K mainGlobals "width_of" = some (some (.ref f_width_of)))
    (l_width_of : K.lookup f_width_of = some ⟨oc_width_of, od_width_of, .func (PySem.W.fnOf "width_of" "width_of" (defArgs s_width_of) (defBody s_width_of) (defScope s_width_of) .none kV_width_of dc_width_of pm_width_of an_width_of cd_width_of ct_width_of), sl_width_of⟩) (c_width_of : PySem.W.codeIn K cd_width_of "width_of" = true) (k_width_of : PySem.W.keepIn K (.ref f_width_of) = true)
    (a_size_for : PySem.W.nsIn K mainGlobals "size_for" = some (some (.ref f_size_for)))
    (l_size_for : K.lookup f_size_for = some ⟨oc_size_for, od_size_for, .func (PySem.W.fnOf "size_for" "size_for" (defArgs s_size_for) (defBody s_size_for) (defScope s_size_for) .none kV_size_for dc_size_for pm_size_for an_size_for cd_size_for ct_size_for), sl_size_for⟩) (c_size_for : PySem.W.codeIn K cd_size_for "size_for" = true) (k_size_for : PySem.W.keepIn K (.ref f_size_for) = true)
    (a_pressed : PySem.W.nsIn K mainGlobals "pressed" = some (some (.ref f_pressed)))
    (l_pressed : K.lookup f_pressed = some ⟨oc_pressed, od_pressed, .func (PySem.W.fnOf "pressed" "pressed" (defArgs s_pressed) (defBody s_pressed) (defScope s_pressed) .none kV_pressed dc_pressed pm_pressed an_pressed cd_pressed ct_pressed), sl_pressed⟩) (c_pressed : PySem.W.codeIn K cd_pressed "pressed" = true) (k_pressed : PySem.W.keepIn K (.ref f_pressed) = true)
    (a_plain : PySem.W.nsIn K mainGlobals "plain" = some (some (.ref f_plain)))
    (l_plain : K.lookup f_plain = some ⟨oc_plain, od_plain, .func (PySem.W.fnOf "plain" "plain" (defArgs s_plain) (defBody s_plain) (defScope s_plain) .none kV_plain dc_plain pm_plain an_plain cd_plain ct_plain), sl_plain⟩) (c_plain : PySem.W.codeIn K cd_plain "plain" = true) (k_plain : PySem.W.keepIn K (.ref f_plain) = true)
    (a_bits_of : PySem.W.nsIn K mainGlobals "_bits_of" = some (some (.ref f_bits_of)))
    (l_bits_of : K.lookup f_bits_of = some ⟨oc_bits_of, od_bits_of, .func (PySem.W.fnOf "_bits_of" "_bits_of" (defArgs s_bits_of) (defBody s_bits_of) (defScope s_bits_of) .none kV_bits_of dc_bits_of pm_bits_of an_bits_of cd_bits_of ct_bits_of), sl_bits_of⟩) (c_bits_of : PySem.W.codeIn K cd_bits_of "_bits_of" = true) (k_bits_of : PySem.W.keepIn K (.ref f_bits_of) = true)
    (a_parents_of : PySem.W.nsIn K mainGlobals "_parents_of" = some (some (.ref f_parents_of)))
    (l_parents_of : K.lookup f_parents_of = some ⟨oc_parents_of, od_parents_of, .func (PySem.W.fnOf "_parents_of" "_parents_of" (defArgs s_parents_of) (defBody s_parents_of) (defScope s_parents_of) .none kV_parents_of dc_parents_of pm_parents_of an_parents_of cd_parents_of ct_parents_of), sl_parents_of⟩) (c_parents_of : PySem.W.codeIn K cd_parents_of "_parents_of" = true) (k_parents_of : PySem.W.keepIn K (.ref f_parents_of) = true)
    (a_law_cell_at : PySem.W.nsIn K mainGlobals "_law_cell_at" = some (some (.ref f_law_cell_at)))
    (l_law_cell_at : K.lookup f_law_cell_at = some ⟨oc_law_cell_at, od_law_cell_at, .func (PySem.W.fnOf "_law_cell_at" "_law_cell_at" (defArgs s_law_cell_at) (defBody s_law_cell_at) (defScope s_law_cell_at) .none kV_law_cell_at dc_law_cell_at pm_law_cell_at an_law_cell_at cd_law_cell_at ct_law_cell_at), sl_law_cell_at⟩) (c_law_cell_at : PySem.W.codeIn K cd_law_cell_at "_law_cell_at" = true) (k_law_cell_at : PySem.W.keepIn K (.ref f_law_cell_at) = true)
    (a_law_whole : PySem.W.nsIn K mainGlobals "_law_whole" = some (some (.ref f_law_whole)))
    (l_law_whole : K.lookup f_law_whole = some ⟨oc_law_whole, od_law_whole, .func (PySem.W.fnOf "_law_whole" "_law_whole" (defArgs s_law_whole) (defBody s_law_whole) (defScope s_law_whole) .none kV_law_whole dc_law_whole pm_law_whole an_law_whole cd_law_whole ct_law_whole), sl_law_whole⟩) (c_law_whole : PySem.W.codeIn K cd_law_whole "_law_whole" = true) (k_law_whole : PySem.W.keepIn K (.ref f_law_whole) = true)
    (a_law_parents : PySem.W.nsIn K mainGlobals "_law_parents" = some (some (.ref f_law_parents)))
    (l_law_parents : K.lookup f_law_parents = some ⟨oc_law_parents, od_law_parents, .func (PySem.W.fnOf "_law_parents" "_law_parents" (defArgs s_law_parents) (defBody s_law_parents) (defScope s_law_parents) .none kV_law_parents dc_law_parents pm_law_parents an_law_parents cd_law_parents ct_law_parents), sl_law_parents⟩) (c_law_parents : PySem.W.codeIn K cd_law_parents "_law_parents" = true) (k_law_parents : PySem.W.keepIn K (.ref f_law_parents) = true)
    (a_law_size : PySem.W.nsIn K mainGlobals "_law_size" = some (some (.ref f_law_size)))
    (l_law_size : K.lookup f_law_size = some ⟨oc_law_size, od_law_size, .func (PySem.W.fnOf "_law_size" "_law_size" (defArgs s_law_size) (defBody s_law_size) (defScope s_law_size) .none kV_law_size dc_law_size pm_law_size an_law_size cd_law_size ct_law_size), sl_law_size⟩) (c_law_size : PySem.W.codeIn K cd_law_size "_law_size" = true) (k_law_size : PySem.W.keepIn K (.ref f_law_size) = true)
    (a_law_call : PySem.W.nsIn K mainGlobals "_law_call" = some (some (.ref f_law_call)))
    (l_law_call : K.lookup f_law_call = some ⟨oc_law_call, od_law_call, .func (PySem.W.fnOf "_law_call" "_law_call" (defArgs s_law_call) (defBody s_law_call) (defScope s_law_call) .none kV_law_call dc_law_call pm_law_call an_law_call cd_law_call ct_law_call), sl_law_call⟩) (c_law_call : PySem.W.codeIn K cd_law_call "_law_call" = true) (k_law_call : PySem.W.keepIn K (.ref f_law_call) = true)
    (a_law_line : PySem.W.nsIn K mainGlobals "_law_line" = some (some (.ref f_law_line)))
    (l_law_line : K.lookup f_law_line = some ⟨oc_law_line, od_law_line, .func (PySem.W.fnOf "_law_line" "_law_line" (defArgs s_law_line) (defBody s_law_line) (defScope s_law_line) .none kV_law_line dc_law_line pm_law_line an_law_line cd_law_line ct_law_line), sl_law_line⟩) (c_law_line : PySem.W.codeIn K cd_law_line "_law_line" = true) (k_law_line : PySem.W.keepIn K (.ref f_law_line) = true)
    (a_law_kids : PySem.W.nsIn K mainGlobals "_law_kids" = some (some (.ref f_law_kids)))
    (l_law_kids : K.lookup f_law_kids = some ⟨oc_law_kids, od_law_kids, .func (PySem.W.fnOf "_law_kids" "_law_kids" (defArgs s_law_kids) (defBody s_law_kids) (defScope s_law_kids) .none kV_law_kids dc_law_kids pm_law_kids an_law_kids cd_law_kids ct_law_kids), sl_law_kids⟩) (c_law_kids : PySem.W.codeIn K cd_law_kids "_law_kids" = true) (k_law_kids : PySem.W.keepIn K (.ref f_law_kids) = true)
    (a_law_walk : PySem.W.nsIn K mainGlobals "_law_walk" = some (some (.ref f_law_walk)))
    (l_law_walk : K.lookup f_law_walk = some ⟨oc_law_walk, od_law_walk, .func (PySem.W.fnOf "_law_walk" "_law_walk" (defArgs s_law_walk) (defBody s_law_walk) (defScope s_law_walk) .none kV_law_walk dc_law_walk pm_law_walk an_law_walk cd_law_walk ct_law_walk), sl_law_walk⟩) (c_law_walk : PySem.W.codeIn K cd_law_walk "_law_walk" = true) (k_law_walk : PySem.W.keepIn K (.ref f_law_walk) = true)
    (a_law_due : PySem.W.nsIn K mainGlobals "_law_due" = some (some (.ref f_law_due)))
    (l_law_due : K.lookup f_law_due = some ⟨oc_law_due, od_law_due, .func (PySem.W.fnOf "_law_due" "_law_due" (defArgs s_law_due) (defBody s_law_due) (defScope s_law_due) .none kV_law_due dc_law_due pm_law_due an_law_due cd_law_due ct_law_due), sl_law_due⟩) (c_law_due : PySem.W.codeIn K cd_law_due "_law_due" = true) (k_law_due : PySem.W.keepIn K (.ref f_law_due) = true)
    (a_law : PySem.W.nsIn K mainGlobals "law" = some (some (.ref f_law)))
    (l_law : K.lookup f_law = some ⟨oc_law, od_law, .func (PySem.W.fnOf "law" "law" (defArgs s_law) (defBody s_law) (defScope s_law) .none kV_law dc_law pm_law an_law cd_law ct_law), sl_law⟩) (c_law : PySem.W.codeIn K cd_law "law" = true) (k_law : PySem.W.keepIn K (.ref f_law) = true)
    (b_bool : PySem.W.nsIn K mainGlobals "bool" = some none)
    (b_divmod : PySem.W.nsIn K mainGlobals "divmod" = some none)
    (b_int : PySem.W.nsIn K mainGlobals "int" = some none)
    (b_isinstance : PySem.W.nsIn K mainGlobals "isinstance" = some none)
    (b_len : PySem.W.nsIn K mainGlobals "len" = some none)
    (b_list : PySem.W.nsIn K mainGlobals "list" = some none)
    (b_max : PySem.W.nsIn K mainGlobals "max" = some none)
    (b_min : PySem.W.nsIn K mainGlobals "min" = some none)
    (b_range : PySem.W.nsIn K mainGlobals "range" = some none)
    (b_str : PySem.W.nsIn K mainGlobals "str" = some none)
    (b_sum : PySem.W.nsIn K mainGlobals "sum" = some none)
    (n_MOST_SIZE : PySem.W.nsIn K mainGlobals "MOST_SIZE" = some (some (.int 4000 tk_MOST_SIZE)))
    (n_MOST_SHARE : PySem.W.nsIn K mainGlobals "MOST_SHARE" = some (some (.int 100 tk_MOST_SHARE)))
    (n_MOST_KNOTS : PySem.W.nsIn K mainGlobals "MOST_KNOTS" = some (some (.int 2000 tk_MOST_KNOTS)))
    (ac_Blocks : PySem.W.nsIn K mainGlobals "Blocks" = some (some (.ref C_Blocks)))
    (pg_Blocks : PySem.W.plainGet K C_Blocks Str.empty = true)
    (hd_Blocks : PySem.W.hasDictIn K C_Blocks = true)
    (po_Blocks : PySem.W.plainOver K C_Blocks = true)
    (sa_Blocks : PySem.W.findIn K (.ref C_Blocks) "__setattr__" = some (some (.builtin "object.__setattr__")))
    (mk_Blocks : PySem.W.makesIn K C_Blocks = true)
    (ko_Blocks : PySem.W.keepIn K (.ref C_Blocks) = true)
    (na_Blocks_length : PySem.W.findIn K (.ref C_Blocks) "length" = some none)
    (na_Blocks_size : PySem.W.findIn K (.ref C_Blocks) "size" = some none)
    (na_Blocks__parts : PySem.W.findIn K (.ref C_Blocks) "_parts" = some none)
    (na_Blocks__told : PySem.W.findIn K (.ref C_Blocks) "_told" = some none)
    (ac_KnotError : PySem.W.nsIn K mainGlobals "KnotError" = some (some (.ref C_KnotError)))
    (xc_KnotError : PySem.W.excIn K C_KnotError [.type "ValueError", .type "Exception", .type "BaseException", .type "object"] "ValueError.__new__" = true)
    (kc_KnotError : PySem.W.keepIn K (.ref C_KnotError) = true) (ec_KnotError : PySem.W.subIn K (.ref C_KnotError) (.type "BaseException") = some true) (tc_KnotError : PySem.W.typeIn K (.ref C_KnotError) = some (.type "type"))
    (ac_NoTree : PySem.W.nsIn K mainGlobals "NoTree" = some (some (.ref C_NoTree)))
    (xc_NoTree : PySem.W.excIn K C_NoTree [.type "ValueError", .type "Exception", .type "BaseException", .type "object"] "ValueError.__new__" = true)
    (kc_NoTree : PySem.W.keepIn K (.ref C_NoTree) = true) (ec_NoTree : PySem.W.subIn K (.ref C_NoTree) (.type "BaseException") = some true) (tc_NoTree : PySem.W.typeIn K (.ref C_NoTree) = some (.type "type"))
    (ac_NoSize : PySem.W.nsIn K mainGlobals "NoSize" = some (some (.ref C_NoSize)))
    (xc_NoSize : PySem.W.excIn K C_NoSize [.type "ValueError", .type "Exception", .type "BaseException", .type "object"] "ValueError.__new__" = true)
    (kc_NoSize : PySem.W.keepIn K (.ref C_NoSize) = true) (ec_NoSize : PySem.W.subIn K (.ref C_NoSize) (.type "BaseException") = some true) (tc_NoSize : PySem.W.typeIn K (.ref C_NoSize) = some (.type "type"))
    (ac_NoBlock : PySem.W.nsIn K mainGlobals "NoBlock" = some (some (.ref C_NoBlock)))
    (xc_NoBlock : PySem.W.excIn K C_NoBlock [.type "ValueError", .type "Exception", .type "BaseException", .type "object"] "ValueError.__new__" = true)
    (kc_NoBlock : PySem.W.keepIn K (.ref C_NoBlock) = true) (ec_NoBlock : PySem.W.subIn K (.ref C_NoBlock) (.type "BaseException") = some true) (tc_NoBlock : PySem.W.typeIn K (.ref C_NoBlock) = some (.type "type"))
    (ac_NoKnot : PySem.W.nsIn K mainGlobals "NoKnot" = some (some (.ref C_NoKnot)))
    (xc_NoKnot : PySem.W.excIn K C_NoKnot [.type "ValueError", .type "Exception", .type "BaseException", .type "object"] "ValueError.__new__" = true)
    (kc_NoKnot : PySem.W.keepIn K (.ref C_NoKnot) = true) (ec_NoKnot : PySem.W.subIn K (.ref C_NoKnot) (.type "BaseException") = some true) (tc_NoKnot : PySem.W.typeIn K (.ref C_NoKnot) = some (.type "type"))
    : ∃ fd : FuncData, (∀ (s : Shared) (v : Value), BindsTo s fd ⟨[v], []⟩ [("_law_script", v)]) ∧ ∀ base : Heap, K.In base → base.Ns mainGlobals mg → FnOk l.prog w K mg base CX0 15 fa fd ["_law_script"] (spLaw K) := by
  have e := hfa.symm.trans (PySem.W.mg_of X G a_law)
  cases e
  have F_heights_along := fun_mk (st := s_heights_along) l_heights_along c_heights_along k_heights_along
  have bb_heights_along := F_heights_along.binds (ps := ["height", "text"]) fun _ _ _ _ _ _ us hl => match us, hl with | [_, _], _ => rfl
  have F_heights_in := fun_mk (st := s_heights_in) l_heights_in c_heights_in k_heights_in
  have bb_heights_in := F_heights_in.binds (ps := ["book", "blocks", "number"]) fun _ _ _ _ _ _ us hl => match us, hl with | [_, _, _], _ => rfl
  have F_lowest := fun_mk (st := s_lowest) l_lowest c_lowest k_lowest
  have bb_lowest := F_lowest.binds (ps := ["heights"]) fun _ _ _ _ _ _ us hl => match us, hl with | [_], _ => rfl
  have F_knots_ahead := fun_mk (st := s_knots_ahead) l_knots_ahead c_knots_ahead k_knots_ahead
  have bb_knots_ahead := F_knots_ahead.binds (ps := ["place", "height"]) fun _ _ _ _ _ _ us hl => match us, hl with | [_, _], _ => rfl
  have F_bit_at := fun_mk (st := s_bit_at) l_bit_at c_bit_at k_bit_at
  have bb_bit_at := F_bit_at.binds (ps := ["blocks", "place"]) fun _ _ _ _ _ _ us hl => match us, hl with | [_, _], _ => rfl
  have F_height_at := fun_mk (st := s_height_at) l_height_at c_height_at k_height_at
  have bb_height_at := F_height_at.binds (ps := ["book", "blocks", "place"]) fun _ _ _ _ _ _ us hl => match us, hl with | [_, _, _], _ => rfl
  have F_spot_of := fun_mk (st := s_spot_of) l_spot_of c_spot_of k_spot_of
  have bb_spot_of := F_spot_of.binds (ps := ["book", "blocks", "knot"]) fun _ _ _ _ _ _ us hl => match us, hl with | [_, _, _], _ => rfl
  have F_knot_back := fun_mk (st := s_knot_back) l_knot_back c_knot_back k_knot_back
  have bb_knot_back := F_knot_back.binds (ps := ["book", "blocks", "place", "height"]) fun _ _ _ _ _ _ us hl => match us, hl with | [_, _, _, _], _ => rfl
  have F_end_of := fun_mk (st := s_end_of) l_end_of c_end_of k_end_of
  have bb_end_of := F_end_of.binds (ps := ["book", "blocks", "place", "depth"]) fun _ _ _ _ _ _ us hl => match us, hl with | [_, _, _, _], _ => rfl
  have F_lows_between := fun_mk (st := s_lows_between) l_lows_between c_lows_between k_lows_between
  have bb_lows_between := F_lows_between.binds (ps := ["book", "blocks", "first", "end"]) fun _ _ _ _ _ _ us hl => match us, hl with | [_, _, _, _], _ => rfl
  have F_places_behind := fun_mk (st := s_places_behind) l_places_behind c_places_behind k_places_behind
  have bb_places_behind := F_places_behind.binds (ps := ["book", "blocks", "number", "first", "height"]) fun _ _ _ _ _ _ us hl => match us, hl with | [_, _, _, _, _], _ => rfl
  have F_block_of_knot := fun_mk (st := s_block_of_knot) l_block_of_knot c_block_of_knot k_block_of_knot
  have bb_block_of_knot := F_block_of_knot.binds (ps := ["book", "size", "knot"]) fun _ _ _ _ _ _ us hl => match us, hl with | [_, _, _], _ => rfl
  have F_block_back := fun_mk (st := s_block_back) l_block_back c_block_back k_block_back
  have bb_block_back := F_block_back.binds (ps := ["book", "number", "height"]) fun _ _ _ _ _ _ us hl => match us, hl with | [_, _, _], _ => rfl
  have F_block_on := fun_mk (st := s_block_on) l_block_on c_block_on k_block_on
  have bb_block_on := F_block_on.binds (ps := ["book", "number", "height"]) fun _ _ _ _ _ _ us hl => match us, hl with | [_, _, _], _ => rfl
  have F_is_whole := fun_mk (st := s_is_whole) l_is_whole c_is_whole k_is_whole
  have bb_is_whole := F_is_whole.binds (ps := ["thing"]) fun _ _ _ _ _ _ us hl => match us, hl with | [_], _ => rfl
  have F_is_whole_from := fun_mk (st := s_is_whole_from) l_is_whole_from c_is_whole_from k_is_whole_from
  have bb_is_whole_from := F_is_whole_from.binds (ps := ["least", "most", "thing"]) fun _ _ _ _ _ _ us hl => match us, hl with | [_, _, _], _ => rfl
  have F_place_of := fun_mk (st := s_place_of) l_place_of c_place_of k_place_of
  have bb_place_of := F_place_of.binds (ps := ["book", "blocks", "knot"]) fun _ _ _ _ _ _ us hl => match us, hl with | [_, _, _], _ => rfl
  have F_depth_of := fun_mk (st := s_depth_of) l_depth_of c_depth_of k_depth_of
  have bb_depth_of := F_depth_of.binds (ps := ["book", "blocks", "knot"]) fun _ _ _ _ _ _ us hl => match us, hl with | [_, _, _], _ => rfl
  have F_knot_at := fun_mk (st := s_knot_at) l_knot_at c_knot_at k_knot_at
  have bb_knot_at := F_knot_at.binds (ps := ["book", "blocks", "place"]) fun _ _ _ _ _ _ us hl => match us, hl with | [_, _, _], _ => rfl
  have F_above := fun_mk (st := s_above) l_above c_above k_above
  have bb_above := F_above.binds (ps := ["book", "blocks", "knot"]) fun _ _ _ _ _ _ us hl => match us, hl with | [_, _, _], _ => rfl
  have F_beneath := fun_mk (st := s_beneath) l_beneath c_beneath k_beneath
  have bb_beneath := F_beneath.binds (ps := ["book", "blocks", "knot"]) fun _ _ _ _ _ _ us hl => match us, hl with | [_, _, _], _ => rfl
  have F_beside := fun_mk (st := s_beside) l_beside c_beside k_beside
  have bb_beside := F_beside.binds (ps := ["book", "blocks", "knot"]) fun _ _ _ _ _ _ us hl => match us, hl with | [_, _, _], _ => rfl
  have F_kids := fun_mk (st := s_kids) l_kids c_kids k_kids
  have bb_kids := F_kids.binds (ps := ["book", "blocks", "knot"]) fun _ _ _ _ _ _ us hl => match us, hl with | [_, _, _], _ => rfl
  have F_kid := fun_mk (st := s_kid) l_kid c_kid k_kid
  have bb_kid := F_kid.binds (ps := ["book", "blocks", "knot", "number"]) fun _ _ _ _ _ _ us hl => match us, hl with | [_, _, _, _], _ => rfl
  have F_elder := fun_mk (st := s_elder) l_elder c_elder k_elder
  have bb_elder := F_elder.binds (ps := ["book", "blocks", "one", "other"]) fun _ _ _ _ _ _ us hl => match us, hl with | [_, _, _, _], _ => rfl
  have F_look_at_knot := fun_mk (st := s_look_at_knot) l_look_at_knot c_look_at_knot k_look_at_knot
  have bb_look_at_knot := F_look_at_knot.binds (ps := ["blocks", "knot"]) fun _ _ _ _ _ _ us hl => match us, hl with | [_, _], _ => rfl
  have F_gaps_of := fun_mk (st := s_gaps_of) l_gaps_of c_gaps_of k_gaps_of
  have bb_gaps_of := F_gaps_of.binds (ps := ["book", "blocks", "place", "depth"]) fun _ _ _ _ _ _ us hl => match us, hl with | [_, _, _, _], _ => rfl
  have F_many_kids := fun_mk (st := s_many_kids) l_many_kids c_many_kids k_many_kids
  have bb_many_kids := F_many_kids.binds (ps := ["gaps"]) fun _ _ _ _ _ _ us hl => match us, hl with | [_], _ => rfl
  have F_find_gap := fun_mk (st := s_find_gap) l_find_gap c_find_gap k_find_gap
  have bb_find_gap := F_find_gap.binds (ps := ["gaps", "ahead"]) fun _ _ _ _ _ _ us hl => match us, hl with | [_, _], _ => rfl
  have F_Blocks___init__ := fun_mk (st := s_Blocks___init__) l_Blocks___init__ c_Blocks___init__ k_Blocks___init__
  have bb_Blocks___init__ := F_Blocks___init__.binds (ps := ["self", "bits", "size"]) fun _ _ _ _ _ _ us hl => match us, hl with | [_, _, _], _ => rfl
  have F_Blocks_many := fun_mk (st := s_Blocks_many) l_Blocks_many c_Blocks_many k_Blocks_many
  have bb_Blocks_many := F_Blocks_many.binds (ps := ["self"]) fun _ _ _ _ _ _ us hl => match us, hl with | [_], _ => rfl
  have F_Blocks_part := fun_mk (st := s_Blocks_part) l_Blocks_part c_Blocks_part k_Blocks_part
  have bb_Blocks_part := F_Blocks_part.binds (ps := ["self", "number"]) fun _ _ _ _ _ _ us hl => match us, hl with | [_, _], _ => rfl
  have F_Blocks_asked := fun_mk (st := s_Blocks_asked) l_Blocks_asked c_Blocks_asked k_Blocks_asked
  have bb_Blocks_asked := F_Blocks_asked.binds (ps := ["self"]) fun _ _ _ _ _ _ us hl => match us, hl with | [_], _ => rfl
  have F_book_of := fun_mk (st := s_book_of) l_book_of c_book_of k_book_of
  have bb_book_of := F_book_of.binds (ps := ["bits", "size"]) fun _ _ _ _ _ _ us hl => match us, hl with | [_, _], _ => rfl
  have F_width_of := fun_mk (st := s_width_of) l_width_of c_width_of k_width_of
  have bb_width_of := F_width_of.binds (ps := ["length"]) fun _ _ _ _ _ _ us hl => match us, hl with | [_], _ => rfl
  have F_size_for := fun_mk (st := s_size_for) l_size_for c_size_for k_size_for
  have bb_size_for := F_size_for.binds (ps := ["length", "share"]) fun _ _ _ _ _ _ us hl => match us, hl with | [_, _], _ => rfl
  have F_pressed := fun_mk (st := s_pressed) l_pressed c_pressed k_pressed
  have bb_pressed := F_pressed.binds (ps := ["parents"]) fun _ _ _ _ _ _ us hl => match us, hl with | [_], _ => rfl
  have F_plain := fun_mk (st := s_plain) l_plain c_plain k_plain
  have bb_plain := F_plain.binds (ps := ["bits"]) fun _ _ _ _ _ _ us hl => match us, hl with | [_], _ => rfl
  have F_bits_of := fun_mk (st := s_bits_of) l_bits_of c_bits_of k_bits_of
  have bb_bits_of := F_bits_of.binds (ps := ["parents"]) fun _ _ _ _ _ _ us hl => match us, hl with | [_], _ => rfl
  have F_parents_of := fun_mk (st := s_parents_of) l_parents_of c_parents_of k_parents_of
  have bb_parents_of := F_parents_of.binds (ps := ["bits"]) fun _ _ _ _ _ _ us hl => match us, hl with | [_], _ => rfl
  have F_law_cell_at := fun_mk (st := s_law_cell_at) l_law_cell_at c_law_cell_at k_law_cell_at
  have bb_law_cell_at := F_law_cell_at.binds (ps := ["_law_script", "_law_k"]) fun _ _ _ _ _ _ us hl => match us, hl with | [_, _], _ => rfl
  have F_law_whole := fun_mk (st := s_law_whole) l_law_whole c_law_whole k_law_whole
  have bb_law_whole := F_law_whole.binds (ps := ["_law_found"]) fun _ _ _ _ _ _ us hl => match us, hl with | [_], _ => rfl
  have F_law_parents := fun_mk (st := s_law_parents) l_law_parents c_law_parents k_law_parents
  have bb_law_parents := F_law_parents.binds (ps := ["_law_script"]) fun _ _ _ _ _ _ us hl => match us, hl with | [_], _ => rfl
  have F_law_size := fun_mk (st := s_law_size) l_law_size c_law_size k_law_size
  have bb_law_size := F_law_size.binds (ps := ["_law_script", "_law_bits"]) fun _ _ _ _ _ _ us hl => match us, hl with | [_, _], _ => rfl
  have F_law_call := fun_mk (st := s_law_call) l_law_call c_law_call k_law_call
  have bb_law_call := F_law_call.binds (ps := ["_law_way", "_law_book", "_law_blocks", "_law_one", "_law_other"]) fun _ _ _ _ _ _ us hl => match us, hl with | [_, _, _, _, _], _ => rfl
  have F_law_line := fun_mk (st := s_law_line) l_law_line c_law_line k_law_line
  have bb_law_line := F_law_line.binds (ps := ["_law_parents_here", "_law_knot"]) fun _ _ _ _ _ _ us hl => match us, hl with | [_, _], _ => rfl
  have F_law_kids := fun_mk (st := s_law_kids) l_law_kids c_law_kids k_law_kids
  have bb_law_kids := F_law_kids.binds (ps := ["_law_parents_here", "_law_knot"]) fun _ _ _ _ _ _ us hl => match us, hl with | [_, _], _ => rfl
  have F_law_walk := fun_mk (st := s_law_walk) l_law_walk c_law_walk k_law_walk
  have bb_law_walk := F_law_walk.binds (ps := ["_law_parents_here"]) fun _ _ _ _ _ _ us hl => match us, hl with | [_], _ => rfl
  have F_law_due := fun_mk (st := s_law_due) l_law_due c_law_due k_law_due
  have bb_law_due := F_law_due.binds (ps := ["_law_way", "_law_parents_here", "_law_walk_here", "_law_one", "_law_other"]) fun _ _ _ _ _ _ us hl => match us, hl with | [_, _, _, _, _], _ => rfl
  have F_law := fun_mk (st := s_law) l_law c_law k_law
  have bb_law := F_law.binds (ps := ["_law_script"]) fun _ _ _ _ _ _ us hl => match us, hl with | [_], _ => rfl
  let A : Adr := { f_heights_along := f_heights_along, d_heights_along := PySem.W.fnOf "heights_along" "heights_along" (defArgs s_heights_along) (defBody s_heights_along) (defScope s_heights_along) .none kV_heights_along dc_heights_along pm_heights_along an_heights_along cd_heights_along ct_heights_along, f_heights_in := f_heights_in, d_heights_in := PySem.W.fnOf "heights_in" "heights_in" (defArgs s_heights_in) (defBody s_heights_in) (defScope s_heights_in) .none kV_heights_in dc_heights_in pm_heights_in an_heights_in cd_heights_in ct_heights_in, f_lowest := f_lowest, d_lowest := PySem.W.fnOf "lowest" "lowest" (defArgs s_lowest) (defBody s_lowest) (defScope s_lowest) .none kV_lowest dc_lowest pm_lowest an_lowest cd_lowest ct_lowest, f_knots_ahead := f_knots_ahead, d_knots_ahead := PySem.W.fnOf "knots_ahead" "knots_ahead" (defArgs s_knots_ahead) (defBody s_knots_ahead) (defScope s_knots_ahead) .none kV_knots_ahead dc_knots_ahead pm_knots_ahead an_knots_ahead cd_knots_ahead ct_knots_ahead, f_bit_at := f_bit_at, d_bit_at := PySem.W.fnOf "bit_at" "bit_at" (defArgs s_bit_at) (defBody s_bit_at) (defScope s_bit_at) .none kV_bit_at dc_bit_at pm_bit_at an_bit_at cd_bit_at ct_bit_at, f_height_at := f_height_at, d_height_at := PySem.W.fnOf "height_at" "height_at" (defArgs s_height_at) (defBody s_height_at) (defScope s_height_at) .none kV_height_at dc_height_at pm_height_at an_height_at cd_height_at ct_height_at, f_spot_of := f_spot_of, d_spot_of := PySem.W.fnOf "spot_of" "spot_of" (defArgs s_spot_of) (defBody s_spot_of) (defScope s_spot_of) .none kV_spot_of dc_spot_of pm_spot_of an_spot_of cd_spot_of ct_spot_of, f_knot_back := f_knot_back, d_knot_back := PySem.W.fnOf "knot_back" "knot_back" (defArgs s_knot_back) (defBody s_knot_back) (defScope s_knot_back) .none kV_knot_back dc_knot_back pm_knot_back an_knot_back cd_knot_back ct_knot_back, f_end_of := f_end_of, d_end_of := PySem.W.fnOf "end_of" "end_of" (defArgs s_end_of) (defBody s_end_of) (defScope s_end_of) .none kV_end_of dc_end_of pm_end_of an_end_of cd_end_of ct_end_of, f_lows_between := f_lows_between, d_lows_between := PySem.W.fnOf "lows_between" "lows_between" (defArgs s_lows_between) (defBody s_lows_between) (defScope s_lows_between) .none kV_lows_between dc_lows_between pm_lows_between an_lows_between cd_lows_between ct_lows_between, f_places_behind := f_places_behind, d_places_behind := PySem.W.fnOf "places_behind" "places_behind" (defArgs s_places_behind) (defBody s_places_behind) (defScope s_places_behind) .none kV_places_behind dc_places_behind pm_places_behind an_places_behind cd_places_behind ct_places_behind, f_block_of_knot := f_block_of_knot, d_block_of_knot := PySem.W.fnOf "_block_of_knot" "_block_of_knot" (defArgs s_block_of_knot) (defBody s_block_of_knot) (defScope s_block_of_knot) .none kV_block_of_knot dc_block_of_knot pm_block_of_knot an_block_of_knot cd_block_of_knot ct_block_of_knot, f_block_back := f_block_back, d_block_back := PySem.W.fnOf "_block_back" "_block_back" (defArgs s_block_back) (defBody s_block_back) (defScope s_block_back) .none kV_block_back dc_block_back pm_block_back an_block_back cd_block_back ct_block_back, f_block_on := f_block_on, d_block_on := PySem.W.fnOf "_block_on" "_block_on" (defArgs s_block_on) (defBody s_block_on) (defScope s_block_on) .none kV_block_on dc_block_on pm_block_on an_block_on cd_block_on ct_block_on, f_is_whole := f_is_whole, d_is_whole := PySem.W.fnOf "is_whole" "is_whole" (defArgs s_is_whole) (defBody s_is_whole) (defScope s_is_whole) .none kV_is_whole dc_is_whole pm_is_whole an_is_whole cd_is_whole ct_is_whole, f_is_whole_from := f_is_whole_from, d_is_whole_from := PySem.W.fnOf "is_whole_from" "is_whole_from" (defArgs s_is_whole_from) (defBody s_is_whole_from) (defScope s_is_whole_from) .none kV_is_whole_from dc_is_whole_from pm_is_whole_from an_is_whole_from cd_is_whole_from ct_is_whole_from, f_place_of := f_place_of, d_place_of := PySem.W.fnOf "place_of" "place_of" (defArgs s_place_of) (defBody s_place_of) (defScope s_place_of) .none kV_place_of dc_place_of pm_place_of an_place_of cd_place_of ct_place_of, f_depth_of := f_depth_of, d_depth_of := PySem.W.fnOf "depth_of" "depth_of" (defArgs s_depth_of) (defBody s_depth_of) (defScope s_depth_of) .none kV_depth_of dc_depth_of pm_depth_of an_depth_of cd_depth_of ct_depth_of, f_knot_at := f_knot_at, d_knot_at := PySem.W.fnOf "knot_at" "knot_at" (defArgs s_knot_at) (defBody s_knot_at) (defScope s_knot_at) .none kV_knot_at dc_knot_at pm_knot_at an_knot_at cd_knot_at ct_knot_at, f_above := f_above, d_above := PySem.W.fnOf "above" "above" (defArgs s_above) (defBody s_above) (defScope s_above) .none kV_above dc_above pm_above an_above cd_above ct_above, f_beneath := f_beneath, d_beneath := PySem.W.fnOf "beneath" "beneath" (defArgs s_beneath) (defBody s_beneath) (defScope s_beneath) .none kV_beneath dc_beneath pm_beneath an_beneath cd_beneath ct_beneath, f_beside := f_beside, d_beside := PySem.W.fnOf "beside" "beside" (defArgs s_beside) (defBody s_beside) (defScope s_beside) .none kV_beside dc_beside pm_beside an_beside cd_beside ct_beside, f_kids := f_kids, d_kids := PySem.W.fnOf "kids" "kids" (defArgs s_kids) (defBody s_kids) (defScope s_kids) .none kV_kids dc_kids pm_kids an_kids cd_kids ct_kids, f_kid := f_kid, d_kid := PySem.W.fnOf "kid" "kid" (defArgs s_kid) (defBody s_kid) (defScope s_kid) .none kV_kid dc_kid pm_kid an_kid cd_kid ct_kid, f_elder := f_elder, d_elder := PySem.W.fnOf "elder" "elder" (defArgs s_elder) (defBody s_elder) (defScope s_elder) .none kV_elder dc_elder pm_elder an_elder cd_elder ct_elder, f_look_at_knot := f_look_at_knot, d_look_at_knot := PySem.W.fnOf "_look_at_knot" "_look_at_knot" (defArgs s_look_at_knot) (defBody s_look_at_knot) (defScope s_look_at_knot) .none kV_look_at_knot dc_look_at_knot pm_look_at_knot an_look_at_knot cd_look_at_knot ct_look_at_knot, f_gaps_of := f_gaps_of, d_gaps_of := PySem.W.fnOf "_gaps_of" "_gaps_of" (defArgs s_gaps_of) (defBody s_gaps_of) (defScope s_gaps_of) .none kV_gaps_of dc_gaps_of pm_gaps_of an_gaps_of cd_gaps_of ct_gaps_of, f_many_kids := f_many_kids, d_many_kids := PySem.W.fnOf "_many_kids" "_many_kids" (defArgs s_many_kids) (defBody s_many_kids) (defScope s_many_kids) .none kV_many_kids dc_many_kids pm_many_kids an_many_kids cd_many_kids ct_many_kids, f_find_gap := f_find_gap, d_find_gap := PySem.W.fnOf "_find_gap" "_find_gap" (defArgs s_find_gap) (defBody s_find_gap) (defScope s_find_gap) .none kV_find_gap dc_find_gap pm_find_gap an_find_gap cd_find_gap ct_find_gap, f_Blocks___init__ := f_Blocks___init__, d_Blocks___init__ := PySem.W.fnOf "__init__" "Blocks.__init__" (defArgs s_Blocks___init__) (defBody s_Blocks___init__) (defScope s_Blocks___init__) .none kV_Blocks___init__ dc_Blocks___init__ pm_Blocks___init__ an_Blocks___init__ cd_Blocks___init__ ct_Blocks___init__, f_Blocks_many := f_Blocks_many, d_Blocks_many := PySem.W.fnOf "many" "Blocks.many" (defArgs s_Blocks_many) (defBody s_Blocks_many) (defScope s_Blocks_many) .none kV_Blocks_many dc_Blocks_many pm_Blocks_many an_Blocks_many cd_Blocks_many ct_Blocks_many, f_Blocks_part := f_Blocks_part, d_Blocks_part := PySem.W.fnOf "part" "Blocks.part" (defArgs s_Blocks_part) (defBody s_Blocks_part) (defScope s_Blocks_part) .none kV_Blocks_part dc_Blocks_part pm_Blocks_part an_Blocks_part cd_Blocks_part ct_Blocks_part, f_Blocks_asked := f_Blocks_asked, d_Blocks_asked := PySem.W.fnOf "asked" "Blocks.asked" (defArgs s_Blocks_asked) (defBody s_Blocks_asked) (defScope s_Blocks_asked) .none kV_Blocks_asked dc_Blocks_asked pm_Blocks_asked an_Blocks_asked cd_Blocks_asked ct_Blocks_asked, f_book_of := f_book_of, d_book_of := PySem.W.fnOf "book_of" "book_of" (defArgs s_book_of) (defBody s_book_of) (defScope s_book_of) .none kV_book_of dc_book_of pm_book_of an_book_of cd_book_of ct_book_of, f_width_of := f_width_of, d_width_of := PySem.W.fnOf "width_of" "width_of" (defArgs s_width_of) (defBody s_width_of) (defScope s_width_of) .none kV_width_of dc_width_of pm_width_of an_width_of cd_width_of ct_width_of, f_size_for := f_size_for, d_size_for := PySem.W.fnOf "size_for" "size_for" (defArgs s_size_for) (defBody s_size_for) (defScope s_size_for) .none kV_size_for dc_size_for pm_size_for an_size_for cd_size_for ct_size_for, f_pressed := f_pressed, d_pressed := PySem.W.fnOf "pressed" "pressed" (defArgs s_pressed) (defBody s_pressed) (defScope s_pressed) .none kV_pressed dc_pressed pm_pressed an_pressed cd_pressed ct_pressed, f_plain := f_plain, d_plain := PySem.W.fnOf "plain" "plain" (defArgs s_plain) (defBody s_plain) (defScope s_plain) .none kV_plain dc_plain pm_plain an_plain cd_plain ct_plain, f_bits_of := f_bits_of, d_bits_of := PySem.W.fnOf "_bits_of" "_bits_of" (defArgs s_bits_of) (defBody s_bits_of) (defScope s_bits_of) .none kV_bits_of dc_bits_of pm_bits_of an_bits_of cd_bits_of ct_bits_of, f_parents_of := f_parents_of, d_parents_of := PySem.W.fnOf "_parents_of" "_parents_of" (defArgs s_parents_of) (defBody s_parents_of) (defScope s_parents_of) .none kV_parents_of dc_parents_of pm_parents_of an_parents_of cd_parents_of ct_parents_of, f_law_cell_at := f_law_cell_at, d_law_cell_at := PySem.W.fnOf "_law_cell_at" "_law_cell_at" (defArgs s_law_cell_at) (defBody s_law_cell_at) (defScope s_law_cell_at) .none kV_law_cell_at dc_law_cell_at pm_law_cell_at an_law_cell_at cd_law_cell_at ct_law_cell_at, f_law_whole := f_law_whole, d_law_whole := PySem.W.fnOf "_law_whole" "_law_whole" (defArgs s_law_whole) (defBody s_law_whole) (defScope s_law_whole) .none kV_law_whole dc_law_whole pm_law_whole an_law_whole cd_law_whole ct_law_whole, f_law_parents := f_law_parents, d_law_parents := PySem.W.fnOf "_law_parents" "_law_parents" (defArgs s_law_parents) (defBody s_law_parents) (defScope s_law_parents) .none kV_law_parents dc_law_parents pm_law_parents an_law_parents cd_law_parents ct_law_parents, f_law_size := f_law_size, d_law_size := PySem.W.fnOf "_law_size" "_law_size" (defArgs s_law_size) (defBody s_law_size) (defScope s_law_size) .none kV_law_size dc_law_size pm_law_size an_law_size cd_law_size ct_law_size, f_law_call := f_law_call, d_law_call := PySem.W.fnOf "_law_call" "_law_call" (defArgs s_law_call) (defBody s_law_call) (defScope s_law_call) .none kV_law_call dc_law_call pm_law_call an_law_call cd_law_call ct_law_call, f_law_line := f_law_line, d_law_line := PySem.W.fnOf "_law_line" "_law_line" (defArgs s_law_line) (defBody s_law_line) (defScope s_law_line) .none kV_law_line dc_law_line pm_law_line an_law_line cd_law_line ct_law_line, f_law_kids := f_law_kids, d_law_kids := PySem.W.fnOf "_law_kids" "_law_kids" (defArgs s_law_kids) (defBody s_law_kids) (defScope s_law_kids) .none kV_law_kids dc_law_kids pm_law_kids an_law_kids cd_law_kids ct_law_kids, f_law_walk := f_law_walk, d_law_walk := PySem.W.fnOf "_law_walk" "_law_walk" (defArgs s_law_walk) (defBody s_law_walk) (defScope s_law_walk) .none kV_law_walk dc_law_walk pm_law_walk an_law_walk cd_law_walk ct_law_walk, f_law_due := f_law_due, d_law_due := PySem.W.fnOf "_law_due" "_law_due" (defArgs s_law_due) (defBody s_law_due) (defScope s_law_due) .none kV_law_due dc_law_due pm_law_due an_law_due cd_law_due ct_law_due, f_law := fa, d_law := PySem.W.fnOf "law" "law" (defArgs s_law) (defBody s_law) (defScope s_law) .none kV_law dc_law pm_law an_law cd_law ct_law, t_MOST_SIZE := tk_MOST_SIZE, t_MOST_SHARE := tk_MOST_SHARE, t_MOST_KNOTS := tk_MOST_KNOTS, c_KnotError := C_KnotError, c_NoTree := C_NoTree, c_NoSize := C_NoSize, c_NoBlock := C_NoBlock, c_NoKnot := C_NoKnot, c_Blocks := C_Blocks }
  have T : Txt K mg A := { F_heights_along := F_heights_along, s_heights_along := bb_heights_along, g_heights_along := PySem.W.mg_of X G a_heights_along, F_heights_in := F_heights_in, s_heights_in := bb_heights_in, g_heights_in := PySem.W.mg_of X G a_heights_in, F_lowest := F_lowest, s_lowest := bb_lowest, g_lowest := PySem.W.mg_of X G a_lowest, F_knots_ahead := F_knots_ahead, s_knots_ahead := bb_knots_ahead, g_knots_ahead := PySem.W.mg_of X G a_knots_ahead, F_bit_at := F_bit_at, s_bit_at := bb_bit_at, g_bit_at := PySem.W.mg_of X G a_bit_at, F_height_at := F_height_at, s_height_at := bb_height_at, g_height_at := PySem.W.mg_of X G a_height_at, F_spot_of := F_spot_of, s_spot_of := bb_spot_of, g_spot_of := PySem.W.mg_of X G a_spot_of, F_knot_back := F_knot_back, s_knot_back := bb_knot_back, g_knot_back := PySem.W.mg_of X G a_knot_back, F_end_of := F_end_of, s_end_of := bb_end_of, g_end_of := PySem.W.mg_of X G a_end_of, F_lows_between := F_lows_between, s_lows_between := bb_lows_between, g_lows_between := PySem.W.mg_of X G a_lows_between, F_places_behind := F_places_behind, s_places_behind := bb_places_behind, g_places_behind := PySem.W.mg_of X G a_places_behind, F_block_of_knot := F_block_of_knot, s_block_of_knot := bb_block_of_knot, g_block_of_knot := PySem.W.mg_of X G a_block_of_knot, F_block_back := F_block_back, s_block_back := bb_block_back, g_block_back := PySem.W.mg_of X G a_block_back, F_block_on := F_block_on, s_block_on := bb_block_on, g_block_on := PySem.W.mg_of X G a_block_on, F_is_whole := F_is_whole, s_is_whole := bb_is_whole, g_is_whole := PySem.W.mg_of X G a_is_whole, F_is_whole_from := F_is_whole_from, s_is_whole_from := bb_is_whole_from, g_is_whole_from := PySem.W.mg_of X G a_is_whole_from, F_place_of := F_place_of, s_place_of := bb_place_of, g_place_of := PySem.W.mg_of X G a_place_of, F_depth_of := F_depth_of, s_depth_of := bb_depth_of, g_depth_of := PySem.W.mg_of X G a_depth_of, F_knot_at := F_knot_at, s_knot_at := bb_knot_at, g_knot_at := PySem.W.mg_of X G a_knot_at, F_above := F_above, s_above := bb_above, g_above := PySem.W.mg_of X G a_above, F_beneath := F_beneath, s_beneath := bb_beneath, g_beneath := PySem.W.mg_of X G a_beneath, F_beside := F_beside, s_beside := bb_beside, g_beside := PySem.W.mg_of X G a_beside, F_kids := F_kids, s_kids := bb_kids, g_kids := PySem.W.mg_of X G a_kids, F_kid := F_kid, s_kid := bb_kid, g_kid := PySem.W.mg_of X G a_kid, F_elder := F_elder, s_elder := bb_elder, g_elder := PySem.W.mg_of X G a_elder, F_look_at_knot := F_look_at_knot, s_look_at_knot := bb_look_at_knot, g_look_at_knot := PySem.W.mg_of X G a_look_at_knot, F_gaps_of := F_gaps_of, s_gaps_of := bb_gaps_of, g_gaps_of := PySem.W.mg_of X G a_gaps_of, F_many_kids := F_many_kids, s_many_kids := bb_many_kids, g_many_kids := PySem.W.mg_of X G a_many_kids, F_find_gap := F_find_gap, s_find_gap := bb_find_gap, g_find_gap := PySem.W.mg_of X G a_find_gap, F_Blocks___init__ := F_Blocks___init__, s_Blocks___init__ := bb_Blocks___init__, F_Blocks_many := F_Blocks_many, s_Blocks_many := bb_Blocks_many, m_Blocks_many := ⟨a_Blocks_many, i_Blocks_many, k_Blocks_many⟩, F_Blocks_part := F_Blocks_part, s_Blocks_part := bb_Blocks_part, m_Blocks_part := ⟨a_Blocks_part, i_Blocks_part, k_Blocks_part⟩, F_Blocks_asked := F_Blocks_asked, s_Blocks_asked := bb_Blocks_asked, m_Blocks_asked := ⟨a_Blocks_asked, i_Blocks_asked, k_Blocks_asked⟩, F_book_of := F_book_of, s_book_of := bb_book_of, g_book_of := PySem.W.mg_of X G a_book_of, F_width_of := F_width_of, s_width_of := bb_width_of, g_width_of := PySem.W.mg_of X G a_width_of, F_size_for := F_size_for, s_size_for := bb_size_for, g_size_for := PySem.W.mg_of X G a_size_for, F_pressed := F_pressed, s_pressed := bb_pressed, g_pressed := PySem.W.mg_of X G a_pressed, F_plain := F_plain, s_plain := bb_plain, g_plain := PySem.W.mg_of X G a_plain, F_bits_of := F_bits_of, s_bits_of := bb_bits_of, g_bits_of := PySem.W.mg_of X G a_bits_of, F_parents_of := F_parents_of, s_parents_of := bb_parents_of, g_parents_of := PySem.W.mg_of X G a_parents_of, F_law_cell_at := F_law_cell_at, s_law_cell_at := bb_law_cell_at, g_law_cell_at := PySem.W.mg_of X G a_law_cell_at, F_law_whole := F_law_whole, s_law_whole := bb_law_whole, g_law_whole := PySem.W.mg_of X G a_law_whole, F_law_parents := F_law_parents, s_law_parents := bb_law_parents, g_law_parents := PySem.W.mg_of X G a_law_parents, F_law_size := F_law_size, s_law_size := bb_law_size, g_law_size := PySem.W.mg_of X G a_law_size, F_law_call := F_law_call, s_law_call := bb_law_call, g_law_call := PySem.W.mg_of X G a_law_call, F_law_line := F_law_line, s_law_line := bb_law_line, g_law_line := PySem.W.mg_of X G a_law_line, F_law_kids := F_law_kids, s_law_kids := bb_law_kids, g_law_kids := PySem.W.mg_of X G a_law_kids, F_law_walk := F_law_walk, s_law_walk := bb_law_walk, g_law_walk := PySem.W.mg_of X G a_law_walk, F_law_due := F_law_due, s_law_due := bb_law_due, g_law_due := PySem.W.mg_of X G a_law_due, F_law := F_law, s_law := bb_law, g_law := PySem.W.mg_of X G a_law, b_bool := PySem.W.mg_none_of X G b_bool, b_divmod := PySem.W.mg_none_of X G b_divmod, b_int := PySem.W.mg_none_of X G b_int, b_isinstance := PySem.W.mg_none_of X G b_isinstance, b_len := PySem.W.mg_none_of X G b_len, b_list := PySem.W.mg_none_of X G b_list, b_max := PySem.W.mg_none_of X G b_max, b_min := PySem.W.mg_none_of X G b_min, b_range := PySem.W.mg_none_of X G b_range, b_str := PySem.W.mg_none_of X G b_str, b_sum := PySem.W.mg_none_of X G b_sum, c_MOST_SIZE := PySem.W.mg_of X G n_MOST_SIZE, c_MOST_SHARE := PySem.W.mg_of X G n_MOST_SHARE, c_MOST_KNOTS := PySem.W.mg_of X G n_MOST_KNOTS, g_Blocks := PySem.W.mg_of X G ac_Blocks, cl_Blocks := ⟨pg_Blocks, hd_Blocks, po_Blocks, sa_Blocks⟩, mk_Blocks := ⟨mk_Blocks, a_Blocks___init__, i_Blocks___init__, ko_Blocks⟩, n_Blocks_length := na_Blocks_length, n_Blocks_size := na_Blocks_size, n_Blocks__parts := na_Blocks__parts, n_Blocks__told := na_Blocks__told, g_KnotError := PySem.W.mg_of X G ac_KnotError, x_KnotError := xc_KnotError, k_KnotError := kc_KnotError, e_KnotError := ec_KnotError, t_KnotError := tc_KnotError, g_NoTree := PySem.W.mg_of X G ac_NoTree, x_NoTree := xc_NoTree, k_NoTree := kc_NoTree, e_NoTree := ec_NoTree, t_NoTree := tc_NoTree, g_NoSize := PySem.W.mg_of X G ac_NoSize, x_NoSize := xc_NoSize, k_NoSize := kc_NoSize, e_NoSize := ec_NoSize, t_NoSize := tc_NoSize, g_NoBlock := PySem.W.mg_of X G ac_NoBlock, x_NoBlock := xc_NoBlock, k_NoBlock := kc_NoBlock, e_NoBlock := ec_NoBlock, t_NoBlock := tc_NoBlock, g_NoKnot := PySem.W.mg_of X G ac_NoKnot, x_NoKnot := xc_NoKnot, k_NoKnot := kc_NoKnot, e_NoKnot := ec_NoKnot, t_NoKnot := tc_NoKnot }
  exact ⟨A.d_law, fun s v => .of_eq rfl, fun base _ _ => ok_law T⟩
end LW
open PySem PySem.W PyProof.Rows
set_option maxRecDepth 100000 in
set_option maxHeartbeats 0 in
theorem PySem.Challenge.cw_knotbits_k13_whole_plain_tree_holds : PySem.Challenge.rw_knotbits_k13_whole_plain_tree.Holds := by
  w_on; o_law; k_head; (case hw => w_witness2)
  k_fill
  refine L2.walk_of (l := PySem.Challenge.rw_knotbits_k13_whole_plain_tree) (n := 63) (k := 15) (x := "_law_script") (CX := fun _ => L2.CX0) (sp := fun w => KB.spLaw _) rfl (by decide) rfl ⟨rfl, by decide, by decide⟩ (fun w h Y => PySem.W.kIn_of Y) ?F (fun _ _ a ns hl _ hS => ⟨a, ns, rfl, hS, hl, fun _ => rfl⟩) (fun _ _ _ _ _ h => h)
  case F =>
    intro w mg fa h KX G hmg
    refine' LW.all_mk KX G hmg ?a_heights_along ?l_heights_along ?c_heights_along ?k_heights_along ?a_heights_in ?l_heights_in ?c_heights_in ?k_heights_in ?a_lowest ?l_lowest ?c_lowest ?k_lowest ?a_knots_ahead ?l_knots_ahead ?c_knots_ahead ?k_knots_ahead ?a_bit_at ?l_bit_at ?c_bit_at ?k_bit_at ?a_height_at ?l_height_at ?c_height_at ?k_height_at ?a_spot_of ?l_spot_of ?c_spot_of ?k_spot_of ?a_knot_back ?l_knot_back ?c_knot_back ?k_knot_back ?a_end_of ?l_end_of ?c_end_of ?k_end_of ?a_lows_between ?l_lows_between ?c_lows_between ?k_lows_between ?a_places_behind ?l_places_behind ?c_places_behind ?k_places_behind ?a_block_of_knot ?l_block_of_knot ?c_block_of_knot ?k_block_of_knot ?a_block_back ?l_block_back ?c_block_back ?k_block_back ?a_block_on ?l_block_on ?c_block_on ?k_block_on ?a_is_whole ?l_is_whole ?c_is_whole ?k_is_whole ?a_is_whole_from ?l_is_whole_from ?c_is_whole_from ?k_is_whole_from ?a_place_of ?l_place_of ?c_place_of ?k_place_of ?a_depth_of ?l_depth_of ?c_depth_of ?k_depth_of ?a_knot_at ?l_knot_at ?c_knot_at ?k_knot_at ?a_above ?l_above ?c_above ?k_above ?a_beneath ?l_beneath ?c_beneath ?k_beneath ?a_beside ?l_beside ?c_beside ?k_beside ?a_kids ?l_kids ?c_kids ?k_kids ?a_kid ?l_kid ?c_kid ?k_kid ?a_elder ?l_elder ?c_elder ?k_elder ?a_look_at_knot ?l_look_at_knot ?c_look_at_knot ?k_look_at_knot ?a_gaps_of ?l_gaps_of ?c_gaps_of ?k_gaps_of ?a_many_kids ?l_many_kids ?c_many_kids ?k_many_kids ?a_find_gap ?l_find_gap ?c_find_gap ?k_find_gap ?a_Blocks___init__ ?i_Blocks___init__ ?l_Blocks___init__ ?c_Blocks___init__ ?k_Blocks___init__ ?a_Blocks_many ?i_Blocks_many ?l_Blocks_many ?c_Blocks_many ?k_Blocks_many ?a_Blocks_part ?i_Blocks_part ?l_Blocks_part ?c_Blocks_part ?k_Blocks_part ?a_Blocks_asked ?i_Blocks_asked ?l_Blocks_asked ?c_Blocks_asked ?k_Blocks_asked ?a_book_of ?l_book_of ?c_book_of ?k_book_of ?a_width_of ?l_width_of ?c_width_of ?k_width_of ?a_size_for ?l_size_for ?c_size_for ?k_size_for ?a_pressed ?l_pressed ?c_pressed ?k_pressed ?a_plain ?l_plain ?c_plain ?k_plain ?a_bits_of ?l_bits_of ?c_bits_of ?k_bits_of ?a_parents_of ?l_parents_of ?c_parents_of ?k_parents_of ?a_law_cell_at ?l_law_cell_at ?c_law_cell_at ?k_law_cell_at ?a_law_whole ?l_law_whole ?c_law_whole ?k_law_whole ?a_law_parents ?l_law_parents ?c_law_parents ?k_law_parents ?a_law_size ?l_law_size ?c_law_size ?k_law_size ?a_law_call ?l_law_call ?c_law_call ?k_law_call ?a_law_line ?l_law_line ?c_law_line ?k_law_line ?a_law_kids ?l_law_kids ?c_law_kids ?k_law_kids ?a_law_walk ?l_law_walk ?c_law_walk ?k_law_walk ?a_law_due ?l_law_due ?c_law_due ?k_law_due ?a_law ?l_law ?c_law ?k_law ?b_bool ?b_divmod ?b_int ?b_isinstance ?b_len ?b_list ?b_max ?b_min ?b_range ?b_str ?b_sum ?n_MOST_SIZE ?n_MOST_SHARE ?n_MOST_KNOTS ?ac_Blocks ?pg_Blocks ?hd_Blocks ?po_Blocks ?sa_Blocks ?mk_Blocks ?ko_Blocks ?na_Blocks_length ?na_Blocks_size ?na_Blocks__parts ?na_Blocks__told ?ac_KnotError ?xc_KnotError ?kc_KnotError ?ec_KnotError ?tc_KnotError ?ac_NoTree ?xc_NoTree ?kc_NoTree ?ec_NoTree ?tc_NoTree ?ac_NoSize ?xc_NoSize ?kc_NoSize ?ec_NoSize ?tc_NoSize ?ac_NoBlock ?xc_NoBlock ?kc_NoBlock ?ec_NoBlock ?tc_NoBlock ?ac_NoKnot ?xc_NoKnot ?kc_NoKnot ?ec_NoKnot ?tc_NoKnot
    (case ac_Blocks => k_is)
    (case ac_KnotError => k_is)
    (case ac_NoTree => k_is)
    (case ac_NoSize => k_is)
    (case ac_NoBlock => k_is)
    (case ac_NoKnot => k_is)
    (case a_heights_along => k_is)
    (case l_heights_along => k_is)
    (case c_heights_along => k_is)
    (case k_heights_along => k_is)
    (case a_heights_in => k_is)
    (case l_heights_in => k_is)
    (case c_heights_in => k_is)
    (case k_heights_in => k_is)
    (case a_lowest => k_is)
    (case l_lowest => k_is)
    (case c_lowest => k_is)
    (case k_lowest => k_is)
    (case a_knots_ahead => k_is)
    (case l_knots_ahead => k_is)
    (case c_knots_ahead => k_is)
    (case k_knots_ahead => k_is)
    (case a_bit_at => k_is)
    (case l_bit_at => k_is)
    (case c_bit_at => k_is)
    (case k_bit_at => k_is)
    (case a_height_at => k_is)
    (case l_height_at => k_is)
    (case c_height_at => k_is)
    (case k_height_at => k_is)
    (case a_spot_of => k_is)
    (case l_spot_of => k_is)
    (case c_spot_of => k_is)
    (case k_spot_of => k_is)
    (case a_knot_back => k_is)
    (case l_knot_back => k_is)
    (case c_knot_back => k_is)
    (case k_knot_back => k_is)
    (case a_end_of => k_is)
    (case l_end_of => k_is)
    (case c_end_of => k_is)
    (case k_end_of => k_is)
    (case a_lows_between => k_is)
    (case l_lows_between => k_is)
    (case c_lows_between => k_is)
    (case k_lows_between => k_is)
    (case a_places_behind => k_is)
    (case l_places_behind => k_is)
    (case c_places_behind => k_is)
    (case k_places_behind => k_is)
    (case a_block_of_knot => k_is)
    (case l_block_of_knot => k_is)
    (case c_block_of_knot => k_is)
    (case k_block_of_knot => k_is)
    (case a_block_back => k_is)
    (case l_block_back => k_is)
    (case c_block_back => k_is)
    (case k_block_back => k_is)
    (case a_block_on => k_is)
    (case l_block_on => k_is)
    (case c_block_on => k_is)
    (case k_block_on => k_is)
    (case a_is_whole => k_is)
    (case l_is_whole => k_is)
    (case c_is_whole => k_is)
    (case k_is_whole => k_is)
    (case a_is_whole_from => k_is)
    (case l_is_whole_from => k_is)
    (case c_is_whole_from => k_is)
    (case k_is_whole_from => k_is)
    (case a_place_of => k_is)
    (case l_place_of => k_is)
    (case c_place_of => k_is)
    (case k_place_of => k_is)
    (case a_depth_of => k_is)
    (case l_depth_of => k_is)
    (case c_depth_of => k_is)
    (case k_depth_of => k_is)
    (case a_knot_at => k_is)
    (case l_knot_at => k_is)
    (case c_knot_at => k_is)
    (case k_knot_at => k_is)
    (case a_above => k_is)
    (case l_above => k_is)
    (case c_above => k_is)
    (case k_above => k_is)
    (case a_beneath => k_is)
    (case l_beneath => k_is)
    (case c_beneath => k_is)
    (case k_beneath => k_is)
    (case a_beside => k_is)
    (case l_beside => k_is)
    (case c_beside => k_is)
    (case k_beside => k_is)
    (case a_kids => k_is)
    (case l_kids => k_is)
    (case c_kids => k_is)
    (case k_kids => k_is)
    (case a_kid => k_is)
    (case l_kid => k_is)
    (case c_kid => k_is)
    (case k_kid => k_is)
    (case a_elder => k_is)
    (case l_elder => k_is)
    (case c_elder => k_is)
    (case k_elder => k_is)
    (case a_look_at_knot => k_is)
    (case l_look_at_knot => k_is)
    (case c_look_at_knot => k_is)
    (case k_look_at_knot => k_is)
    (case a_gaps_of => k_is)
    (case l_gaps_of => k_is)
    (case c_gaps_of => k_is)
    (case k_gaps_of => k_is)
    (case a_many_kids => k_is)
    (case l_many_kids => k_is)
    (case c_many_kids => k_is)
    (case k_many_kids => k_is)
    (case a_find_gap => k_is)
    (case l_find_gap => k_is)
    (case c_find_gap => k_is)
    (case k_find_gap => k_is)
    (case a_Blocks___init__ => k_is)
    (case i_Blocks___init__ => k_is)
    (case l_Blocks___init__ => k_is)
    (case c_Blocks___init__ => k_is)
    (case k_Blocks___init__ => k_is)
    (case a_Blocks_many => k_is)
    (case i_Blocks_many => k_is)
    (case l_Blocks_many => k_is)
    (case c_Blocks_many => k_is)
    (case k_Blocks_many => k_is)
    (case a_Blocks_part => k_is)
    (case i_Blocks_part => k_is)
    (case l_Blocks_part => k_is)
    (case c_Blocks_part => k_is)
    (case k_Blocks_part => k_is)
    (case a_Blocks_asked => k_is)
    (case i_Blocks_asked => k_is)
    (case l_Blocks_asked => k_is)
    (case c_Blocks_asked => k_is)
    (case k_Blocks_asked => k_is)
    (case a_book_of => k_is)
    (case l_book_of => k_is)
    (case c_book_of => k_is)
    (case k_book_of => k_is)
    (case a_width_of => k_is)
    (case l_width_of => k_is)
    (case c_width_of => k_is)
    (case k_width_of => k_is)
    (case a_size_for => k_is)
    (case l_size_for => k_is)
    (case c_size_for => k_is)
    (case k_size_for => k_is)
    (case a_pressed => k_is)
    (case l_pressed => k_is)
    (case c_pressed => k_is)
    (case k_pressed => k_is)
    (case a_plain => k_is)
    (case l_plain => k_is)
    (case c_plain => k_is)
    (case k_plain => k_is)
    (case a_bits_of => k_is)
    (case l_bits_of => k_is)
    (case c_bits_of => k_is)
    (case k_bits_of => k_is)
    (case a_parents_of => k_is)
    (case l_parents_of => k_is)
    (case c_parents_of => k_is)
    (case k_parents_of => k_is)
    (case a_law_cell_at => k_is)
    (case l_law_cell_at => k_is)
    (case c_law_cell_at => k_is)
    (case k_law_cell_at => k_is)
    (case a_law_whole => k_is)
    (case l_law_whole => k_is)
    (case c_law_whole => k_is)
    (case k_law_whole => k_is)
    (case a_law_parents => k_is)
    (case l_law_parents => k_is)
    (case c_law_parents => k_is)
    (case k_law_parents => k_is)
    (case a_law_size => k_is)
    (case l_law_size => k_is)
    (case c_law_size => k_is)
    (case k_law_size => k_is)
    (case a_law_call => k_is)
    (case l_law_call => k_is)
    (case c_law_call => k_is)
    (case k_law_call => k_is)
    (case a_law_line => k_is)
    (case l_law_line => k_is)
    (case c_law_line => k_is)
    (case k_law_line => k_is)
    (case a_law_kids => k_is)
    (case l_law_kids => k_is)
    (case c_law_kids => k_is)
    (case k_law_kids => k_is)
    (case a_law_walk => k_is)
    (case l_law_walk => k_is)
    (case c_law_walk => k_is)
    (case k_law_walk => k_is)
    (case a_law_due => k_is)
    (case l_law_due => k_is)
    (case c_law_due => k_is)
    (case k_law_due => k_is)
    (case a_law => k_is)
    (case l_law => k_is)
    (case c_law => k_is)
    (case k_law => k_is)
    (case b_bool => k_is)
    (case b_divmod => k_is)
    (case b_int => k_is)
    (case b_isinstance => k_is)
    (case b_len => k_is)
    (case b_list => k_is)
    (case b_max => k_is)
    (case b_min => k_is)
    (case b_range => k_is)
    (case b_str => k_is)
    (case b_sum => k_is)
    (case n_MOST_SIZE => k_is)
    (case n_MOST_SHARE => k_is)
    (case n_MOST_KNOTS => k_is)
    (case pg_Blocks => k_is)
    (case hd_Blocks => k_is)
    (case po_Blocks => k_is)
    (case sa_Blocks => k_is)
    (case mk_Blocks => k_is)
    (case ko_Blocks => k_is)
    (case na_Blocks_length => k_is)
    (case na_Blocks_size => k_is)
    (case na_Blocks__parts => k_is)
    (case na_Blocks__told => k_is)
    (case xc_KnotError => k_exc)
    (case kc_KnotError => k_is)
    (case ec_KnotError => k_is)
    (case tc_KnotError => k_is)
    (case xc_NoTree => k_exc)
    (case kc_NoTree => k_is)
    (case ec_NoTree => k_is)
    (case tc_NoTree => k_is)
    (case xc_NoSize => k_exc)
    (case kc_NoSize => k_is)
    (case ec_NoSize => k_is)
    (case tc_NoSize => k_is)
    (case xc_NoBlock => k_exc)
    (case kc_NoBlock => k_is)
    (case ec_NoBlock => k_is)
    (case tc_NoBlock => k_is)
    (case xc_NoKnot => k_exc)
    (case kc_NoKnot => k_is)
    (case ec_NoKnot => k_is)
    (case tc_NoKnot => k_is)