import PyProof.Rows.All
import Wide.All
import OpenK.AllK
import Wide.FinOn
import HandS.ForMost
import HandS.Evl
import HandS.IsInst
import HandS.Codes
import HandS.Style
import HandS.Exc
import HandS.TryOnly
import HandS.ExcOwn
import HandS.WordsExc
import HandS.ExcIs
import HandS.DictComp
import PySem.Challenge.RW_knotbits_k01_trees_told
set_option Elab.async false
set_option linter.all false
set_option maxRecDepth 100000
set_option maxHeartbeats 8000000

set_option linter.all false
set_option maxRecDepth 100000
/-! Trees told by parents and by bits: plain Lean. A stack is a list, its top first. -/
namespace KB

/-! ### the walk down: stack, bits, next number -/
structure Stt where
  st : List Int
  bs : List Bool
  k : Int

def adv (s : Stt) (p : Int) : Stt :=
  ⟨s.k :: s.st.dropWhile (fun x => x != p), s.bs ++ List.replicate (s.st.takeWhile (fun x => x != p)).length false ++ [true], s.k + 1⟩
def ini : Stt := ⟨[0], [true], 1⟩
def run (P : List Int) : Stt := P.foldl adv ini
/-- each parent stands on the stack when it is named -/
def Good (P : List Int) : Prop := ∀ i p, P[i]? = some p → p ∈ (run (P.take i)).st
def full (P : List Int) : List Bool := (run P).bs ++ List.replicate (run P).st.length false

theorem run_nil : run [] = ini := rfl
theorem run_app (P : List Int) (p : Int) : run (P ++ [p]) = adv (run P) p := by
  unfold run; rw [List.foldl_append]; rfl
theorem take_more {α : Type} {l : List α} {i : Nat} {x : α} (h : l[i]? = some x) : l.take (i + 1) = l.take i ++ [x] := by
  rw [List.take_add_one, h]; rfl
theorem run_more {P : List Int} {i : Nat} {p : Int} (h : P[i]? = some p) : run (P.take (i + 1)) = adv (run (P.take i)) p := by
  rw [take_more h, run_app]

theorem run_k : ∀ P : List Int, (run P).k = (P.length : Int) + 1 := by
  intro P
  generalize hn : P.length = n
  induction n generalizing P with
  | zero =>
    have e : P = [] := List.eq_nil_of_length_eq_zero hn
    subst e; rfl
  | succ n ih =>
    have h := List.dropLast_concat_getLast (l := P) (by intro z; rw [z] at hn; cases hn)
    rw [← h, run_app]
    have e := ih P.dropLast (by rw [List.length_dropLast, hn]; rfl)
    show (run P.dropLast).k + 1 = _
    rw [e]; omega

/-- induction from behind -/
theorem rev_ind {α : Type} {C : List α → Prop} (h0 : C []) (hs : ∀ P p, C P → C (P ++ [p])) (P : List α) : C P := by
  generalize hn : P.length = n
  induction n generalizing P with
  | zero =>
    have e : P = [] := List.eq_nil_of_length_eq_zero hn
    subst e; exact h0
  | succ n ih =>
    have h := List.dropLast_concat_getLast (l := P) (by intro z; rw [z] at hn; cases hn)
    rw [← h]
    exact hs _ _ (ih P.dropLast (by rw [List.length_dropLast, hn]; rfl))

theorem good_nil : Good [] := fun i p h => by simp at h
theorem Good.left {P : List Int} {p : Int} (h : Good (P ++ [p])) : Good P := fun i q e => by
  have hi : i < P.length := (List.getElem?_eq_some_iff.mp e).1
  have e2 : (P ++ [p])[i]? = some q := by rw [List.getElem?_append_left hi]; exact e
  have z := h i q e2
  rw [List.take_append_of_le_length (Nat.le_of_lt hi)] at z
  exact z
theorem Good.last {P : List Int} {p : Int} (h : Good (P ++ [p])) : p ∈ (run P).st := by
  have z := h P.length p (by simp)
  rw [List.take_left'] at z
  · exact z
  · rfl
theorem Good.app {P : List Int} {p : Int} (h : Good P) (hp : p ∈ (run P).st) : Good (P ++ [p]) := fun i q e => by
  by_cases hi : i < P.length
  · rw [List.getElem?_append_left hi] at e
    rw [List.take_append_of_le_length (Nat.le_of_lt hi)]
    exact h i q e
  · have hl := (List.getElem?_eq_some_iff.mp e).1
    rw [List.length_append, List.length_singleton] at hl
    have ei : i = P.length := by omega
    subst ei
    have e2 : p = q := by simpa using e
    subst e2
    rw [List.take_left' rfl]
    exact hp
theorem Good.take {P : List Int} (h : Good P) (n : Nat) : Good (P.take n) := fun i p e => by
  by_cases hi : i < n
  · rw [List.getElem?_take_of_lt hi] at e
    rw [List.take_take, Nat.min_eq_left (Nat.le_of_lt hi)]
    exact h i p e
  · have hl := (List.getElem?_eq_some_iff.mp e).1
    rw [List.length_take] at hl
    omega

theorem dropWhile_suffix (f : Int → Bool) : ∀ l : List Int, ∃ j, j ≤ l.length ∧ l.dropWhile f = l.drop j
  | [] => ⟨0, Nat.le_refl _, rfl⟩
  | a :: l => by
    rw [List.dropWhile_cons]
    by_cases h : f a = true
    · rw [if_pos h]
      obtain ⟨j, h1, h2⟩ := dropWhile_suffix f l
      exact ⟨j + 1, Nat.succ_le_succ h1, h2⟩
    · rw [if_neg h]
      exact ⟨0, Nat.zero_le _, rfl⟩
theorem mem_dropWhile {f : Int → Bool} {l : List Int} {x : Int} (h : x ∈ l.dropWhile f) : x ∈ l := by
  obtain ⟨j, _, e⟩ := dropWhile_suffix f l
  rw [e] at h
  exact List.mem_of_mem_drop h

/-- the stack falls strictly, from below the next number, to nought -/
structure Fall (s : Stt) : Prop where
  pw : s.st.Pairwise (fun a b => b < a)
  lt : ∀ x ∈ s.st, x < s.k
  ge : ∀ x ∈ s.st, 0 ≤ x
theorem fall_ini : Fall ini := ⟨List.pairwise_singleton _ _, fun x h => by
  have e : x = 0 := by simpa [ini] using h
  subst e; show (0 : Int) < 1; decide, fun x h => by
  have e : x = 0 := by simpa [ini] using h
  subst e; exact Int.le_refl _⟩
theorem Fall.adv {s : Stt} (h : Fall s) (hk : 0 ≤ s.k) (p : Int) : Fall (adv s p) := by
  obtain ⟨j, _, e⟩ := dropWhile_suffix (fun x => x != p) s.st
  refine ⟨?_, ?_, ?_⟩
  · show (s.k :: s.st.dropWhile (fun x => x != p)).Pairwise _
    refine List.pairwise_cons.mpr ⟨fun b hb => h.lt b (mem_dropWhile hb), ?_⟩
    rw [e]
    exact h.pw.drop
  · intro x hx
    have hx' : x ∈ s.k :: s.st.dropWhile (fun x => x != p) := hx
    show x < s.k + 1
    rcases List.mem_cons.mp hx' with r | r
    · omega
    · have := h.lt x (mem_dropWhile r); omega
  · intro x hx
    have hx' : x ∈ s.k :: s.st.dropWhile (fun x => x != p) := hx
    rcases List.mem_cons.mp hx' with r | r
    · omega
    · exact h.ge x (mem_dropWhile r)
theorem fall_run (P : List Int) : Fall (run P) := by
  refine rev_ind (C := fun P => Fall (run P)) ?_ ?_ P
  · exact fall_ini
  · intro P p h
    rw [run_app]
    exact h.adv (by rw [run_k]; omega) p
theorem run_ne (P : List Int) : (run P).st ≠ [] := by
  refine rev_ind (C := fun P => (run P).st ≠ []) ?_ ?_ P
  · exact List.cons_ne_nil _ _
  · intro P p _
    rw [run_app]
    exact List.cons_ne_nil _ _
theorem run_pos (P : List Int) : 0 < (run P).st.length := List.length_pos_iff.mpr (run_ne P)

/-! ### dropWhile at a place -/
theorem takeWhile_place : ∀ (l : List Int) (j : Nat) (p : Int), l.Pairwise (fun a b => b < a) → l[j]? = some p → (l.takeWhile (fun x => x != p)).length = j ∧ l.dropWhile (fun x => x != p) = l.drop j
  | [], j, p, _, h => by simp at h
  | a :: l, 0, p, _, h => by
    have e : a = p := by simpa using h
    subst e
    rw [List.takeWhile_cons, List.dropWhile_cons]
    simp
  | a :: l, j + 1, p, hp, h => by
    have h' : l[j]? = some p := by simpa using h
    have hm : p ∈ l := List.mem_of_getElem? h'
    have hlt : p < a := (List.pairwise_cons.mp hp).1 p hm
    have hne : (a != p) = true := by
      rw [bne_iff_ne]; omega
    obtain ⟨h1, h2⟩ := takeWhile_place l j p (List.pairwise_cons.mp hp).2 h'
    rw [List.takeWhile_cons, List.dropWhile_cons, if_pos hne, if_pos hne]
    exact ⟨by rw [List.length_cons, h1], h2⟩
theorem adv_place {s : Stt} (h : Fall s) {j : Nat} {p : Int} (hj : s.st[j]? = some p) : adv s p = ⟨s.k :: s.st.drop j, s.bs ++ List.replicate j false ++ [true], s.k + 1⟩ := by
  obtain ⟨h1, h2⟩ := takeWhile_place s.st j p h.pw hj
  unfold adv
  rw [h1, h2]
theorem mem_place {l : List Int} {p : Int} (h : p ∈ l) : ∃ j, j < l.length ∧ l[j]? = some p := by
  obtain ⟨j, hj, e⟩ := List.getElem_of_mem h
  exact ⟨j, hj, by rw [List.getElem?_eq_getElem hj, e]⟩
/-- where the parent stands, for a good list -/
theorem good_place {P : List Int} (h : Good P) {i : Nat} {p : Int} (hi : P[i]? = some p) : ∃ j, j < (run (P.take i)).st.length ∧ (run (P.take i)).st[j]? = some p ∧
    run (P.take (i + 1)) = ⟨((i + 1 : Nat) : Int) :: (run (P.take i)).st.drop j, (run (P.take i)).bs ++ List.replicate j false ++ [true], ((i + 1 : Nat) : Int) + 1⟩ := by
  obtain ⟨j, hj, e⟩ := mem_place (h i p hi)
  refine ⟨j, hj, e, ?_⟩
  have hl : (P.take i).length = i := by
    rw [List.length_take, Nat.min_eq_left (Nat.le_of_lt (List.getElem?_eq_some_iff.mp hi).1)]
  rw [run_more hi, adv_place (fall_run _) e, run_k, hl]
  rfl
/-- unlike places hold unlike numbers -/
theorem fall_inj {l : List Int} (h : l.Pairwise (fun a b => b < a)) {i j : Nat} {p q : Int} (hi : l[i]? = some p) (hj : l[j]? = some q) (hij : i < j) : q < p := by
  obtain ⟨h1, e1⟩ := List.getElem?_eq_some_iff.mp hi
  obtain ⟨h2, e2⟩ := List.getElem?_eq_some_iff.mp hj
  have z := (List.pairwise_iff_getElem.mp h) i j h1 h2 hij
  rw [e1, e2] at z
  exact z

/-! ### how many -/
theorem sum_adv (s : Stt) (p : Int) : (adv s p).bs.length + (adv s p).st.length = s.bs.length + s.st.length + 2 := by
  have h : (s.st.takeWhile (fun x => x != p)).length + (s.st.dropWhile (fun x => x != p)).length = s.st.length := by
    rw [← List.length_append, List.takeWhile_append_dropWhile]
  unfold adv
  simp only [List.length_append, List.length_replicate, List.length_cons, List.length_nil]
  omega
theorem sum_run (P : List Int) : (run P).bs.length + (run P).st.length = 2 * (P.length + 1) := by
  refine rev_ind (C := fun P => (run P).bs.length + (run P).st.length = 2 * (P.length + 1)) ?_ ?_ P
  · rfl
  · intro P p h
    rw [run_app, sum_adv, h, List.length_append, List.length_singleton]
    omega
theorem full_len (P : List Int) : (full P).length = 2 * (P.length + 1) := by
  unfold full
  rw [List.length_append, List.length_replicate, sum_run]
theorem st_le (P : List Int) : (run P).st.length ≤ 2 * (P.length + 1) := by have := sum_run P; omega
theorem bs_le (P : List Int) : (run P).bs.length ≤ 2 * (P.length + 1) := by have := sum_run P; omega

/-! ### reading bits: ps the parents so far (none: nought's), st the stack -/
def code (b : Bool) : Nat := if b then 49 else 48
def codes (bs : List Bool) : List Nat := bs.map code
def readGo : List (Option Int) → List Int → List Nat → Option (List (Option Int))
  | ps, st, [] => if st = [] then some ps else none
  | ps, st, c :: r =>
    if ps ≠ [] ∧ st = [] then none
    else if c = 49 then readGo (ps ++ [st.head?]) ((ps.length : Int) :: st) r
    else if c = 48 then (if st = [] then none else readGo ps st.tail r)
    else none
def readM (cs : List Nat) : Option (List (Option Int)) := if cs.length = 0 ∨ 4000 < cs.length then none else readGo [] [] cs
/-- the parents, nought's ahead -/
def par (P : List Int) : List (Option Int) := none :: P.map some
theorem par_len (P : List Int) : (par P).length = P.length + 1 := by unfold par; simp
theorem par_ne (P : List Int) : par P ≠ [] := List.cons_ne_nil _ _
theorem par_app (P : List Int) (p : Int) : par (P ++ [p]) = par P ++ [some p] := by unfold par; simp

theorem read_zeros (ps : List (Option Int)) (r : List Nat) : ∀ (j : Nat) (st : List Int), j ≤ st.length → readGo ps st (codes (List.replicate j false) ++ r) = readGo ps (st.drop j) r
  | 0, st, _ => rfl
  | j + 1, [], h => by simp at h
  | j + 1, a :: st, h => by
    have e : codes (List.replicate (j + 1) false) ++ r = 48 :: (codes (List.replicate j false) ++ r) := rfl
    rw [e]
    show (if ps ≠ [] ∧ a :: st = [] then none else if (48 : Nat) = 49 then _ else if (48 : Nat) = 48 then (if a :: st = [] then none else readGo ps (a :: st).tail (codes (List.replicate j false) ++ r)) else none) = _
    rw [if_neg (fun z => List.cons_ne_nil _ _ z.2), if_neg (by decide), if_pos rfl, if_neg (List.cons_ne_nil _ _)]
    exact read_zeros ps r j st (Nat.le_of_succ_le_succ h)
theorem read_one (ps : List (Option Int)) (st : List Int) (r : List Nat) (h : ¬ (ps ≠ [] ∧ st = [])) : readGo ps st (49 :: r) = readGo (ps ++ [st.head?]) ((ps.length : Int) :: st) r := by
  show (if ps ≠ [] ∧ st = [] then none else if (49 : Nat) = 49 then _ else _) = _
  rw [if_neg h, if_pos rfl]
theorem codes_app (a b : List Bool) : codes (a ++ b) = codes a ++ codes b := List.map_append
theorem codes_len (a : List Bool) : (codes a).length = a.length := List.length_map _
theorem read_run : ∀ (P : List Int), Good P → ∀ r, readGo [] [] (codes (run P).bs ++ r) = readGo (par P) (run P).st r := by
  intro P
  refine rev_ind (C := fun P => Good P → ∀ r, readGo [] [] (codes (run P).bs ++ r) = readGo (par P) (run P).st r) ?_ ?_ P
  · intro _ r
    show readGo [] [] (49 :: r) = _
    rw [read_one _ _ _ (fun z => z.1 rfl)]
    rfl
  · intro P p ih h r
    obtain ⟨j, hj, e⟩ := mem_place h.last
    have ih' := ih h.left
    have ea : run (P ++ [p]) = ⟨(run P).k :: (run P).st.drop j, (run P).bs ++ List.replicate j false ++ [true], (run P).k + 1⟩ := by rw [run_app, adv_place (fall_run _) e]
    rw [ea]
    show readGo [] [] (codes ((run P).bs ++ List.replicate j false ++ [true]) ++ r) = readGo (par (P ++ [p])) ((run P).k :: (run P).st.drop j) r
    rw [codes_app, codes_app, List.append_assoc, List.append_assoc, ih', read_zeros _ _ _ _ (Nat.le_of_lt hj)]
    have hne : (run P).st.drop j ≠ [] := by
      intro z
      have := List.drop_eq_nil_iff.mp z
      omega
    have hh : ((run P).st.drop j).head? = some p := by rw [List.head?_drop]; exact e
    show readGo (par P) ((run P).st.drop j) (49 :: r) = _
    rw [read_one _ _ _ (fun z => hne z.2), hh, par_app, par_len, run_k]
    rfl
theorem readM_full {P : List Int} (h : Good P) (hl : P.length < 2000) : readM (codes (full P)) = some (par P) := by
  unfold readM
  rw [codes_len, full_len, if_neg (by omega)]
  unfold full
  rw [codes_app, read_run P h, ← List.append_nil (codes (List.replicate (run P).st.length false)), read_zeros _ _ _ _ (Nat.le_refl _), List.drop_length]
  rfl
end KB

set_option Elab.async false
set_option linter.all false
set_option maxRecDepth 100000
set_option maxHeartbeats 4000000
/-! Readings of expressions, beside those of HandS.Evl. -/
namespace KB
open PySem L2 Evl

/-! ### texts of bits -/
def txt (bs : List Bool) : Str := ⟨(codes bs).toArray⟩
theorem str_len (x : Str) : x.length = x.cps.toList.length := rfl
theorem str_app (x y : Str) : (x ++ y).cps = x.cps ++ y.cps := rfl
theorem txt_app (a b : List Bool) : txt a ++ txt b = txt (a ++ b) := by
  show Str.mk ((codes a).toArray ++ (codes b).toArray) = Str.mk (codes (a ++ b)).toArray
  rw [codes_app]; simp
theorem txt_len (a : List Bool) : (txt a).length = a.length := by
  show ((codes a).toArray).size = _
  simp [codes_len]
theorem txt_0 : ("0" : Str) = txt [false] := by decide +kernel
theorem txt_1 : ("1" : Str) = txt [true] := by decide +kernel
theorem txt_e : ("" : Str) = txt [] := by decide +kernel
theorem txt_cps (a : List Bool) : (txt a).cps.toList = codes a := by show (codes a).toArray.toList = _; simp
theorem codes_inj : ∀ {a b : List Bool}, codes a = codes b → a = b
  | [], [], _ => rfl
  | [], _ :: _, h => by cases h
  | _ :: _, [], h => by cases h
  | x :: a, y :: b, h => by
    have h' : code x :: codes a = code y :: codes b := h
    injection h' with h1 h2
    have e : x = y := by cases x <;> cases y <;> first | rfl | cases h1
    rw [e, codes_inj h2]
theorem txt_inj {a b : List Bool} (h : txt a = txt b) : a = b := by
  apply codes_inj
  rw [← txt_cps a, ← txt_cps b, h]

/-! ### values of parents -/
def oV : Option Int → V
  | none => .non
  | some i => .int i
def oD : Option Int → PyData
  | none => .none
  | some i => .int i
def pV (xs : List (Option Int)) : List V := xs.map oV
theorem pV_len (xs : List (Option Int)) : (pV xs).length = xs.length := List.length_map _
theorem oV_inj : ∀ {a b : Option Int}, oV a = oV b → a = b
  | none, none, _ => rfl
  | none, some _, h => by cases h
  | some _, none, h => by cases h
  | some a, some b, h => by
    have h' : V.int a = V.int b := h
    injection h' with e; rw [e]
section
variable {K : PySem.W.Frag} {H H' : Hp}
theorem dp_o : ∀ x : Option Int, Dp K H (oV x) (oD x)
  | none => .non
  | some i => .int i
theorem dpAll_o : ∀ xs : List (Option Int), DpAll K H (pV xs) (xs.map oD)
  | [] => .nil
  | x :: xs => .cons (dp_o x) (dpAll_o xs)
theorem dp_pV {a : Addr} {xs : List (Option Int)} (h : SqL K H a (pV xs)) : Dp K H (.ref a) (.list (xs.map oD)) := .lst h (dpAll_o xs)
theorem eqv_o : ∀ a b : Option Int, PyData.eqv (oD a) (oD b) = decide (a = b)
  | none, none => by simp [oD, PyData.eqv]
  | none, some _ => by simp [oD, PyData.eqv]
  | some _, none => by simp [oD, PyData.eqv]
  | some a, some b => by
    simp only [oD, PyData.eqv]
    by_cases h : a = b
    · subst h; simp
    · rw [decide_eq_false (fun z => h (Option.some.inj z))]
      exact beq_eq_false_iff_ne.mpr h
theorem eqvAll_o : ∀ xs ys : List (Option Int), PyData.eqvAll (xs.map oD) (ys.map oD) = decide (xs = ys)
  | [], [] => by simp [PyData.eqvAll]
  | [], _ :: _ => by simp [PyData.eqvAll]
  | _ :: _, [] => by simp [PyData.eqvAll]
  | x :: xs, y :: ys => by
    show PyData.eqvAll (oD x :: xs.map oD) (oD y :: ys.map oD) = _
    simp only [PyData.eqvAll]
    rw [eqv_o, eqvAll_o xs ys]
    by_cases h1 : x = y <;> by_cases h2 : xs = ys <;> simp [h1, h2]
theorem eqv_pV (xs ys : List (Option Int)) : PyData.eqv (.list (xs.map oD)) (.list (ys.map oD)) = decide (xs = ys) := by
  simp only [PyData.eqv]; exact eqvAll_o xs ys
theorem canAll_o : ∀ xs : List (Option Int), PyData.canLayAll0 (xs.map oD) = true
  | [] => by simp [PyData.canLayAll0]
  | none :: xs => by simp [PyData.canLayAll0, oD, PyData.canLay0, canAll_o xs]
  | some _ :: xs => by simp [PyData.canLayAll0, oD, PyData.canLay0, canAll_o xs]
end
theorem depthAll_o : ∀ xs : List (Option Int), PyData.depthAll (xs.map oD) = 0
  | [] => by simp [PyData.depthAll]
  | none :: xs => by simp [PyData.depthAll, oD, PyData.depth, depthAll_o xs]
  | some _ :: xs => by simp [PyData.depthAll, oD, PyData.depth, depthAll_o xs]
theorem shaped_o (xs : List (Option Int)) : SeqAt.shaped (.list (xs.map oD)) = true := by
  unfold SeqAt.shaped
  simp only [PyData.canLay0, canAll_o, PyData.depth, depthAll_o]
  rfl

/-! ### readings -/
section
variable {K : PySem.W.Frag} {σ : L2.St} {H H' : Hp} {ta tb tc te tx to : TE} {t u : TT} {x y z v : V} {r : R2}
theorem rv_addS {a b : Str} (h : a.length + b.length ≤ 100000) : RV (fun x y H Q => ∃ i j, x = .str i ∧ y = .str j ∧ i.length + j.length ≤ sizeLine ∧ Q (.str (i ++ j)) H) (.str a) (.str b) H (.str (a ++ b)) := fun H1 _ _ q => ⟨a, b, rfl, rfl, sz_of h, q H1 (Ex.refl H1)⟩
theorem rv_isN : RV (fun x y H Q => y = .non ∧ Q (.bl (decide (x = .non))) H) x .non H (.bl (decide (x = .non))) := fun H1 _ _ q => ⟨rfl, q H1 (Ex.refl H1)⟩
theorem rv_notN : RV (fun x y H Q => y = .non ∧ Q (.bl (!decide (x = .non))) H) x .non H (.bl (!decide (x = .non))) := fun H1 _ _ q => ⟨rfl, q H1 (Ex.refl H1)⟩
theorem rv_isBl {a b : Bool} : RV rIsB (.bl a) (.bl b) H (.bl (decide (a = b))) := fun H1 _ _ q => ⟨a, b, rfl, rfl, q H1 (Ex.refl H1)⟩
theorem rv_notBl {a b : Bool} : RV rNotB (.bl a) (.bl b) H (.bl (!decide (a = b))) := fun H1 _ _ q => ⟨a, b, rfl, rfl, q H1 (Ex.refl H1)⟩
mutual
theorem dp_ex (e : Ex H H') : ∀ (d : PyData) (v : V), Dp K H v d → Dp K H' v d
  | .none, _, h => by cases h; exact .non
  | .bool _, _, h => by cases h; exact .bl _
  | .int _, _, h => by cases h; exact .int _
  | .str _, _, h => by cases h; exact .str _
  | .list ds, _, h => by
    cases h with
    | lst hs ha => exact .lst (ex_l e hs) (dpAll_ex e ds _ ha)
  | .tuple ds, _, h => by
    cases h with
    | tup hs ha => exact .tup (ex_t e hs) (dpAll_ex e ds _ ha)
  | .dict _, _, h => by cases h
theorem dpAll_ex (e : Ex H H') : ∀ (ds : List PyData) (vs : List V), DpAll K H vs ds → DpAll K H' vs ds
  | [], _, h => by cases h; exact .nil
  | d :: ds, _, h => by
    cases h with
    | cons h1 h2 => exact .cons (dp_ex e d _ h1) (dpAll_ex e ds _ h2)
end
theorem rv_eqD {d f : PyData} (h1 : Dp K H x d) (h2 : Dp K H y f) (h3 : SeqAt.shaped d = true) (h4 : SeqAt.shaped f = true) : RV (rEqD K) x y H (.bl (PyData.eqv d f)) := fun H1 e _ q => ⟨d, f, dp_ex e _ _ h1, dp_ex e _ _ h2, h3, h4, q H1 (Ex.refl H1)⟩
theorem rv_neD {d f : PyData} (h1 : Dp K H x d) (h2 : Dp K H y f) (h3 : SeqAt.shaped d = true) (h4 : SeqAt.shaped f = true) : RV (rNeD K) x y H (.bl (!PyData.eqv d f)) := fun H1 e _ q => ⟨d, f, dp_ex e _ _ h1, dp_ex e _ _ h2, h3, h4, q H1 (Ex.refl H1)⟩
/-- two lists of parents -/
theorem rv_eqP {a b : Addr} {xs ys : List (Option Int)} (h1 : SqL K H a (pV xs)) (h2 : SqL K H b (pV ys)) : RV (rEqD K) (.ref a) (.ref b) H (.bl (decide (xs = ys))) := by
  have h := rv_eqD (H := H) (dp_pV h1) (dp_pV h2) (shaped_o xs) (shaped_o ys)
  rw [eqv_pV] at h; exact h
theorem rv_neP {a b : Addr} {xs ys : List (Option Int)} (h1 : SqL K H a (pV xs)) (h2 : SqL K H b (pV ys)) : RV (rNeD K) (.ref a) (.ref b) H (.bl (!decide (xs = ys))) := by
  have h := rv_neD (H := H) (dp_pV h1) (dp_pV h2) (shaped_o xs) (shaped_o ys)
  rw [eqv_pV] at h; exact h
theorem ev_slS {w : Str} {tl th : TO} {lo hi : Option Int} (h : Ev te σ H (.str w)) (h1 : EvO tl σ H lo) (h2 : EvO th σ H hi) (hl : w.length ≤ 100000) : Ev (tSl rSlS te tl th) σ H (.str (cutS w lo hi)) := fun H1 e _ q =>
  h H1 e _ fun H2 e2 => h1 H2 (e.trans e2) _ fun H3 e3 => h2 H3 ((e.trans e2).trans e3) _ fun H4 e4 => ⟨w, rfl, sz_of hl, q H4 ((e2.trans e3).trans e4)⟩
theorem ev_lenS {w : Str} (h : Ev te σ H (.str w)) (hl : w.length ≤ 100000) : Ev (tCB (fun xs H Q => ∃ z, xs = [.str z] ∧ z.length ≤ sizeLine ∧ Q (.int z.length) H) (tCons te tNil)) σ H (.int (w.length : Int)) := fun H1 e _ q =>
  h H1 e _ fun H2 e2 => ⟨w, rfl, sz_of hl, q H2 e2⟩
theorem tyx_ex {tv : Value} (e : Ex H H') (h : TyX K H x tv) : TyX K H' x tv := by
  cases h with
  | base h =>
    refine .base ?_
    cases h with
    | non => exact .non
    | bl => exact .bl _
    | int => exact .int _
    | str => exact .str _
    | flt => exact .flt _
    | lst ea => exact .lst (e _ _ ea)
    | frz ea => exact .frz (e _ _ ea)
    | tup ea => exact .tup (e _ _ ea)
    | dK ea => exact .dK (e _ _ ea)
    | dT ea => exact .dT (e _ _ ea)
    | ins ea cl a b c d => exact .ins (e _ _ ea) cl a b c d
  | byt b => exact .byt b
  | set ea => exact .set (e _ _ ea)
  | kList ea c => exact .kList ea c
  | kTuple ea c => exact .kTuple ea c
  | kDict ea c => exact .kDict ea c
  | fTuple ea => exact .fTuple (e _ _ ea)
  | fDict ea => exact .fDict (e _ _ ea)
theorem ev_isi {c : V} {tv uv : Value} {b : Bool} (h1 : Ev ta σ H x) (h2 : Ev tb σ H c) (k : ClsV c uv) (ty : TyX K H x tv) (hb : PySem.W.kitOne K tv uv = some b) : Ev (tCB (rIsi K) (tCons ta (tCons tb tNil))) σ H (.bl b) := fun H1 e _ q =>
  h1 H1 e _ fun H2 e2 => h2 H2 (e.trans e2) _ fun H3 e3 => ⟨x, c, tv, uv, b, rfl, k, tyx_ex ((e.trans e2).trans e3) ty, hb, q H3 (e2.trans e3)⟩
theorem ev_min2 {i j : Int} (ha : Ev ta σ H (.int i)) (hb : Ev tb σ H (.int j)) : Ev (tCB (fun xs H Q => ∃ i j, xs = [.int i, .int j] ∧ Q (.int (if j < i then j else i)) H) (tCons ta (tCons tb tNil))) σ H (.int (min i j)) := fun H1 e Q q =>
  ha H1 e _ fun H2 e2 => hb H2 (e.trans e2) _ fun H3 e3 => ⟨i, j, rfl, by
    have z : (if j < i then j else i) = min i j := by split <;> omega
    show Q (.int (if j < i then j else i)) H3
    rw [z]; exact q H3 (e2.trans e3)⟩
theorem tru_ex {k : Bool} (e : Ex H H') (h : TruV K x H k) : TruV K x H' k := by
  cases x with
  | ref p =>
    rcases h with ⟨xs, h, r⟩ | ⟨xs, h, r⟩ | ⟨kvs, h, r⟩
    · exact .inl ⟨xs, ex_l e h, r⟩
    · exact .inr (.inl ⟨xs, ex_t e h, r⟩)
    · exact .inr (.inr ⟨kvs, e _ _ h, r⟩)
  | _ => exact h
theorem et_truth {k : Bool} (h : Ev ta σ H x) (ht : TruV K x H k) : EvT (fun σ H Q => ta σ H fun x H' => ∃ k, TruV K x H' k ∧ Q k H') σ H k := fun H1 e _ q => h H1 e _ fun H2 e2 => ⟨k, tru_ex (e.trans e2) ht, q H2 e2⟩
theorem tru_l {a : Addr} {xs : List V} (h : SqL K H a xs) : TruV K (.ref a) H (!xs.isEmpty) := .inl ⟨xs, h, rfl⟩
/-- a < b < c of ints, the second by its own answer -/
theorem ev_chain {r' : R2} {b : Bool} {b2 : Bool} (h1 : Ev ta σ H x) (h2 : Ev tb σ H y) (hr : RV r x y H (.bl b)) (h3 : b = true → Ev tc σ H z) (hr2 : b = true → RV r' y z H (.bl b2)) : Ev (tChain r r' ta tb tc) σ H (.bl (b && b2)) := fun H1 e Q q =>
  h1 H1 e _ fun H2 e2 => h2 H2 (e.trans e2) _ fun H3 e3 => hr H3 ((e.trans e2).trans e3) _ fun H4 e4 => ⟨b, rfl, by
    cases b with
    | true =>
      show tc σ H4 _
      exact h3 rfl H4 (((e.trans e2).trans e3).trans e4) _ fun H5 e5 => hr2 rfl H5 ((((e.trans e2).trans e3).trans e4).trans e5) _ fun H6 e6 => q H6 ((((e2.trans e3).trans e4).trans e5).trans e6)
    | false =>
      show Q (.bl false) H4
      exact q H4 ((e2.trans e3).trans e4)⟩
theorem ev_join {a : Str} {p : Addr} {ys : List Str} (h1 : Ev to σ H (.str a)) (h2 : Ev te σ H (.ref p)) (hs : SqL K H p (ys.map V.str)) (hl : (ys.map (·.length)).sum + ys.length * a.length ≤ 16777216) :
    Ev (tM1 (fun x xs H Q => ∃ a p, ∃ ys : List Str, x = .str a ∧ xs = [.ref p] ∧ (SqL K H p (ys.map V.str) ∨ SqT K H p (ys.map V.str)) ∧ (ys.map (·.length)).sum + ys.length * a.length ≤ 16777216 ∧ Q (.str (Txt.join a ys)) H) to te) σ H (.str (Txt.join a ys)) := fun H1 e Q q =>
  h1 H1 e _ fun H2 e2 => ⟨⟨a, rfl⟩, h2 H2 (e.trans e2) _ fun H3 e3 => ⟨a, p, ys, rfl, rfl, .inl (ex_l ((e.trans e2).trans e3) hs), hl, q H3 (e2.trans e3)⟩⟩
theorem ev_fld {a C dx : Addr} {fs : List (Str × V)} {f : Str} (h : Ev ta σ H (.ref a)) (ho : H a = some (.ins C dx fs)) (hc : Cls K C) (hn : NoAttr K C f) (hl : fs.lookup f = some v) : Ev (tFld K ta f) σ H v := fun H1 e _ q =>
  h H1 e _ fun H2 e2 => ⟨a, C, dx, fs, v, rfl, (e.trans e2) _ _ ho, hc, hn, hl, q H2 e2⟩
theorem rv_inS {c : Nat} {w : Str} : RV (fun x y H Q => ∃ (c : Nat) (z : Str), x = .str ⟨#[c]⟩ ∧ y = .str z ∧ Q (.bl (decide (c ∈ z.cps.toList))) H) (.str ⟨#[c]⟩) (.str w) H (.bl (decide (c ∈ w.cps.toList))) := fun H1 _ _ q => ⟨c, w, rfl, rfl, q H1 (Ex.refl H1)⟩
theorem rv_notInS {c : Nat} {w : Str} : RV (fun x y H Q => ∃ (c : Nat) (z : Str), x = .str ⟨#[c]⟩ ∧ y = .str z ∧ Q (.bl (!decide (c ∈ z.cps.toList))) H) (.str ⟨#[c]⟩) (.str w) H (.bl (!decide (c ∈ w.cps.toList))) := fun H1 _ _ q => ⟨c, w, rfl, rfl, q H1 (Ex.refl H1)⟩
/-- list + list, both new -/
theorem el_catLL {xs ys : List V} (h1 : EvL ta σ H xs) (h2 : EvL tb σ H ys) (hl : xs.length + ys.length ≤ 100000) : EvL (tOp rCat ta tb) σ H (xs ++ ys) := fun H1 e Q q =>
  h1 H1 e _ fun p H2 hp e2 h2' => h2 H2 (e.trans e2) _ fun p2 H3 hp2 e3 h3' => ⟨p, p2, xs, ys, rfl, rfl, e3 _ _ h2', h3', sz_of hl, fun l hl => q l _ (fresh_back (e2.trans e3) hl) ((e2.trans e3).trans (Ex.new hl)) upd_same⟩

/-! ### statements -/
variable {D : Ends} {tz : TS}
theorem s_pop {l : Addr} {xs : List V} {y : V} (hl : H l = some (.lst xs)) (ha : Ev ta σ H (.ref l)) (hy : xs[xs.length - 1]? = some y) (k : ∀ H1, Ex H H1 → D.nx σ (upd H1 l (.lst xs.dropLast))) :
    tDrop (tBM0 K "list" rPop ta) D σ H := ha H (Ex.refl H) _ fun H1 e1 => ⟨Or.inl ⟨rfl, xs, sq_of (e1 l _ hl)⟩, l, xs, y, rfl, rfl, e1 l _ hl, hy, k H1 e1⟩
theorem q_pop {l : Addr} {xs : List V} {y : V} (hl : H l = some (.lst xs)) (ha : Ev ta σ H (.ref l)) (hy : xs[xs.length - 1]? = some y) (k : ∀ H1, Ex H H1 → tz D σ (upd H1 l (.lst xs.dropLast))) :
    tSeq (tDrop (tBM0 K "list" rPop ta)) tz D σ H := s_pop (D := { D with nx := tz D }) hl ha hy k
end

/-! ### a list of one's own: new since H0 -/
structure Own (H0 H : Hp) (a : Addr) (xs : List V) : Prop where
  nw : H0 a = none
  at_ : H a = some (.lst xs)
section
variable {K : PySem.W.Frag} {H0 H H' : Hp} {a b : Addr} {xs ys : List V} {o : HO}
theorem Own.sq (h : Own H0 H a xs) : SqL K H a xs := sq_of h.at_
theorem Own.ex (h : Own H0 H a xs) (e : Ex H H') : Own H0 H' a xs := ⟨h.nw, e _ _ h.at_⟩
theorem Own.back {H1 : Hp} (h : Own H1 H a xs) (e : Ex H0 H1) : Own H0 H a xs := ⟨fresh_back e h.nw, h.at_⟩
theorem Own.put (h : Own H0 H a xs) : Own H0 (upd H' a (.lst ys)) a ys := ⟨h.nw, upd_same⟩
theorem Own.off (h : Own H0 H a xs) (n : a ≠ b) : Own H0 (upd H b o) a xs := ⟨h.nw, by rw [upd_ne n]; exact h.at_⟩
theorem Own.ne (h : Own H0 H a xs) (hb : H b = none) : a ≠ b := ne_of_none h.at_ hb
end

/-! ### "0" * n -/
def rMulS : R2 := fun x y H Q => ∃ (z : Str) (n : Int), x = .str z ∧ y = .int n ∧ z.length = 1 ∧ 0 ≤ n ∧ n ≤ 100000 ∧ Q (.str (Txt.mul z n)) H
theorem op_mulS {X : Cx} : OpR X (binaryOp .Mult) rMulS := by
  intro pins s σ H x y v u Q I rx ry h
  obtain ⟨z, n, rfl, rfl, hz, h0, h1, q⟩ := h
  obtain ⟨t, rfl⟩ := rx
  obtain ⟨t2, rfl⟩ := ry
  refine SB.mul ?_ (fun t' k => ⟨.str (Txt.mul z n), H, I.tok k, ⟨t', rfl⟩, q⟩)
  refine ⟨?_, fun h2 _ => ?_, fun h2 _ => ?_⟩
  · rw [decide_eq_false (by omega), decide_eq_false (by omega)]; rfl
  · rw [hz]
    intro c
    have hn : (1 : Int) ≤ n := by omega
    have h3 : n ≤ (2 ^ 63 - 1) := by omega
    have h4 : (1 : Int) ≤ (2 ^ 63 - 1) / n := (Int.le_ediv_iff_mul_le (by omega)).mpr (by omega)
    have c' : ((1 : Nat) : Int) > (2 ^ 63 - 1) / n := c
    omega
  · rw [hz, Nat.one_mul]
    unfold PySem.Builtin.Str.tooLong
    exact decide_eq_false (by
      have : n.toNat ≤ 100000 := by omega
      have h5 : (100000 : Nat) ≤ sizeLine := by decide
      omega)
theorem mul_one (c : Nat) : ∀ n : Nat, (List.replicate n (#[c] : Array Nat)).foldl (· ++ ·) #[] = (List.replicate n c).toArray := by
  have g : ∀ (n : Nat) (acc : List Nat), (List.replicate n (#[c] : Array Nat)).foldl (· ++ ·) acc.toArray = (acc ++ List.replicate n c).toArray := by
    intro n
    induction n with
    | zero => intro acc; simp
    | succ n ih =>
      intro acc
      rw [List.replicate_succ, List.foldl_cons]
      have e : acc.toArray ++ #[c] = (acc ++ [c]).toArray := by simp
      rw [e, ih (acc ++ [c]), List.replicate_succ, List.append_assoc]
      rfl
  intro n
  have h := g n []
  simpa using h
theorem mul_0 (n : Int) (h0 : 0 ≤ n) : Txt.mul ("0" : Str) n = txt (List.replicate n.toNat false) := by
  rw [txt_0]
  unfold Txt.mul
  by_cases h : n < 1
  · have e : n = 0 := by omega
    subst e
    rw [if_pos h]; rfl
  · rw [if_neg h]
    by_cases h2 : n = 1
    · subst h2; rfl
    · have h3 : (n == 1 || (txt [false]).length == 0) = false := by
        rw [txt_len]
        simp [h2]
      rw [h3, if_neg (by decide)]
      show Str.mk ((List.replicate n.toNat (#[48] : Array Nat)).foldl (· ++ ·) #[]) = Str.mk (codes (List.replicate n.toNat false)).toArray
      rw [mul_one]
      unfold codes
      rw [List.map_replicate]
      rfl
section
variable {σ : L2.St} {H : Hp} {te : TE}
theorem rv_mulS {n : Int} (h : 0 ≤ n ∧ n ≤ 100000) : RV rMulS (.str ("0" : Str)) (.int n) H (.str (txt (List.replicate n.toNat false))) := fun H1 _ Q q => by
  refine ⟨"0", n, rfl, rfl, by decide +kernel, h.1, h.2, ?_⟩
  rw [mul_0 n h.1]
  exact q H1 (Ex.refl H1)
end
/-! ### join of pieces -/
def catS (ys : List Str) : List Nat := (ys.map (fun y => y.cps.toList)).flatten
theorem catS_app (a b : List Str) : catS (a ++ b) = catS a ++ catS b := by unfold catS; rw [List.map_append, List.flatten_append]
theorem catS_one (y : Str) : catS [y] = y.cps.toList := by unfold catS; simp
theorem join_fold : ∀ (ps : List Str) (acc : Array Nat), (ps.foldl (fun acc p => acc ++ (Str.empty).cps ++ p.cps) acc) = acc ++ (catS ps).toArray
  | [], acc => by simp [catS]
  | p :: ps, acc => by
    rw [List.foldl_cons, join_fold ps]
    have e : catS (p :: ps) = p.cps.toList ++ catS ps := by unfold catS; simp
    rw [e]
    have e2 : (Str.empty).cps = #[] := rfl
    rw [e2]
    apply Array.toList_inj.mp
    simp
theorem empty_is : ("" : Str) = Str.empty := by decide +kernel
theorem join_cat (ps : List Str) : Txt.join ("" : Str) ps = ⟨(catS ps).toArray⟩ := by
  rw [empty_is]
  show Str.mk ((ps.drop 1).foldl (fun acc p => acc ++ (Str.empty).cps ++ p.cps) (ps.headD Str.empty).cps) = _
  rw [join_fold]
  cases ps with
  | nil => rfl
  | cons p ps =>
    have e : catS (p :: ps) = p.cps.toList ++ catS ps := by unfold catS; simp
    rw [e]
    show Str.mk (p.cps ++ (catS ps).toArray) = _
    congr 1
    apply Array.toList_inj.mp
    simp
theorem catS_sum : ∀ ps : List Str, (ps.map (·.length)).sum = (catS ps).length
  | [] => rfl
  | p :: ps => by
    have e : catS (p :: ps) = p.cps.toList ++ catS ps := by unfold catS; simp
    rw [e, List.map_cons, List.sum_cons, catS_sum ps, List.length_append]
    rfl
end KB
namespace KB
open PySem PySem.Spec PyProof.Rows L2 Evl
/-- z[::-1] -/
def revS (z : Str) : Str := Txt.sliceBy z none none (-1, 0)
theorem revS_len (z : Str) : (revS z).length = z.length := step_rev_len z 0
def tRevS (te : TE) : TE := fun σ H Q => te σ H fun x H1 => ∃ z, x = .str z ∧ z.length ≤ sizeLine ∧ Q (.str (revS z)) H1
section
variable {X : Cx}
theorem pe_revS {e : Expr} {te : TE} {k : Nat} {p1 p2 p3 pos : Pos} (he : PE X e te) : PE X (.Subscript e (.Slice none none (some (.UnaryOp .USub (.Constant (.int 1) k p1) p2)) p3) pos) (tRevS te) := by
  refine ⟨fun pins s σ H Q I h => ?_⟩
  refine Subscript_ (thn (he.run pins s σ H _ I h) fun v s1 ⟨x, H1, I1, r1, q1⟩ => ?_)
  obtain ⟨z, ex, hz, q⟩ := q1
  subst ex
  obtain ⟨t, rfl⟩ := r1
  have hst : PO X (some (.UnaryOp .USub (.Constant (.int 1) k p1) p2)) (tPart (tUn (rU fun i => .int (-i)) (tC (.int 1)))) := po_some (pe_un un_neg pe_int)
  refine wpAny_Slice (thn (po_none.run pins s1 σ H1 (fun o H2 => o = none ∧ H2 = H1) I1 ⟨rfl, rfl⟩) fun vl s2 ⟨l, H2, I2, pl, el, e2⟩ => ?_)
  subst el e2
  refine thn (po_none.run pins s2 σ H2 (fun o H3 => o = none ∧ H3 = H2) I2 ⟨rfl, rfl⟩) fun vu s3 ⟨u, H3, I3, pu, eu, e3⟩ => ?_
  subst eu e3
  refine thn (hst.run pins s3 σ H3 (fun o H4 => o = some (-1) ∧ H4 = H3) I3 ⟨1, rfl, -1, rfl, rfl, rfl⟩) fun vs s4 ⟨o, H4, I4, ps, eo, e4⟩ => ?_
  subst eo e4
  obtain ⟨l, hl1, hl2⟩ := IsPart.raw pl
  obtain ⟨u, hu1, hu2⟩ := IsPart.raw pu
  obtain ⟨st, hs1, hs2⟩ := IsPart.raw ps
  subst hl1 hu1 hs1
  cases l with
  | some _ => cases hl2
  | none =>
    cases u with
    | some _ => cases hu2
    | none =>
      cases st with
      | none => cases hs2
      | some p =>
        obtain ⟨i, tk⟩ := p
        have hi : (-1 : Int) = i := (Option.some.inj hs2).symm
        subst hi
        have I5 : Inv X pins σ H4 { s4 with heap := s4.heap.push { cls := .type "slice", data := .fields #[partValue none, partValue none, partValue (some (-1, tk))] } } := I4.kept (t' := s4.toks) fun b ob q => Heap.get?_push_of_some _ q
        show wpAny (model X.prog X.w) X.A (subscriptTail e (.Slice none none (some (.UnaryOp .USub (.Constant (.int 1) k p1) p2)) p3) (.str z t) (.ref s4.heap.objs.size)) (EP X pins σ Q) X.xe { s4 with heap := s4.heap.push { cls := .type "slice", data := .fields #[partValue none, partValue none, partValue (some (-1, tk))] } }
        refine tail_any (ops := [.str z t, .ref s4.heap.objs.size]) (typeIs_str _ _ _) F.slot_str_getitem.lookup ?_ (by with_unfolding_all rfl)
        refine wpAny_getItem_str_slice (l := none) (u := none) (st := some (-1, tk)) ⟨_, Heap.get?_push_size _ rfl, rfl, rfl⟩ rfl ?_
        have hlen := step_rev_len z tk
        have hq : Q (.str (Txt.sliceBy z none none (-1, tk))) H4 := q
        unfold sliceMade
        unfold Txt.sliceBy at hlen hq
        have hc : ((((some ((-1 : Int), tk)).map (·.1)).getD 1 == 1 && (slicePicked z none none (some (-1, tk))).length == z.length)) = false := rfl
        rw [hc] at hlen hq ⊢
        rw [if_neg Bool.false_ne_true] at hlen hq ⊢
        exact ⟨by rw [hlen]; exact hz, .str _, H4, I5.tok _, ⟨_, rfl⟩, hq⟩
end
theorem ev_revS {σ : L2.St} {H : Hp} {te : TE} {z : Str} (h : Ev te σ H (.str z)) (hl : z.length ≤ 100000) : Ev (tRevS te) σ H (.str (revS z)) := fun H1 e _ q => h H1 e _ fun H2 e2 => ⟨z, rfl, sz_of hl, q H2 e2⟩
theorem mul_1s (n : Int) (h0 : 0 ≤ n) : Txt.mul ("1" : Str) n = txt (List.replicate n.toNat true) := by
  rw [txt_1]
  unfold Txt.mul
  by_cases h : n < 1
  · have e : n = 0 := by omega
    subst e
    rw [if_pos h]; rfl
  · rw [if_neg h]
    by_cases h2 : n = 1
    · subst h2; rfl
    · have h3 : (n == 1 || (txt [true]).length == 0) = false := by
        rw [txt_len]
        simp [h2]
      rw [h3, if_neg (by decide)]
      show Str.mk ((List.replicate n.toNat (#[49] : Array Nat)).foldl (· ++ ·) #[]) = Str.mk (codes (List.replicate n.toNat true)).toArray
      rw [mul_one]
      unfold codes
      rw [List.map_replicate]
      rfl
theorem rv_mulS1 {H : Hp} {n : Int} (h : 0 ≤ n ∧ n ≤ 100000) : RV rMulS (.str ("1" : Str)) (.int n) H (.str (txt (List.replicate n.toNat true))) := fun H1 _ Q q => by
  refine ⟨"1", n, rfl, rfl, by decide +kernel, h.1, h.2, ?_⟩
  rw [mul_1s n h.1]
  exact q H1 (Ex.refl H1)
end KB

namespace KB
open PySem L2 Evl
/-! ### stacks as lists -/
def stk (st : List Int) : List V := st.reverse.map V.int
theorem stk_cons (x : Int) (st : List Int) : stk (x :: st) = stk st ++ [.int x] := by unfold stk; rw [List.reverse_cons, List.map_append]; rfl
theorem stk_len (st : List Int) : (stk st).length = st.length := by unfold stk; rw [List.length_map, List.length_reverse]
theorem stk_last (x : Int) (st : List Int) : atI (stk (x :: st)) (-1) = some (.int x) := by rw [stk_cons]; exact atI_last _ _
theorem stk_top (x : Int) (st : List Int) : (stk (x :: st))[(stk (x :: st)).length - 1]? = some (.int x) := by
  rw [stk_cons, List.length_append, List.length_singleton, Nat.add_sub_cancel]; simp
theorem stk_pop (x : Int) (st : List Int) : (stk (x :: st)).dropLast = stk st := by rw [stk_cons]; simp
theorem stk_cut (st : List Int) (j : Nat) {h : Int} (hh : h = ((st.length - j : Nat) : Int)) : cutV (stk st) none (some h) = stk (st.drop j) := by
  subst hh
  unfold cutV
  rw [HT.sIx_none, HT.sIx_nat, stk_len, Nat.min_eq_left (Nat.sub_le _ _), Nat.sub_zero, List.drop_zero]
  unfold stk
  rw [← List.map_take, List.take_reverse]
  congr 2
  by_cases hj : j ≤ st.length
  · rw [Nat.sub_sub_self hj]
  · rw [show st.length - (st.length - j) = st.length by omega, List.drop_length, List.drop_eq_nil_of_le (by omega)]
theorem stk_emp (st : List Int) : (stk st).isEmpty = st.isEmpty := by
  cases st with
  | nil => rfl
  | cons x r => rw [stk_cons]; simp
theorem atI_six {a0 a1 a2 a3 a4 a5 : Int} (h0 : 0 ≤ a0) (h1 : 0 ≤ a1) (h2 : 0 ≤ a2) (h3 : 0 ≤ a3) (h4 : 0 ≤ a4) (h5 : 0 ≤ a5) {i : Int} (hi : 0 ≤ i) (hi2 : i < 6) :
    ∃ u, 0 ≤ u ∧ atI [V.int a0, .int a1, .int a2, .int a3, .int a4, .int a5] i = some (.int u) := by
  have h : i = 0 ∨ i = 1 ∨ i = 2 ∨ i = 3 ∨ i = 4 ∨ i = 5 := by omega
  rcases h with rfl | rfl | rfl | rfl | rfl | rfl
  · exact ⟨a0, h0, rfl⟩
  · exact ⟨a1, h1, rfl⟩
  · exact ⟨a2, h2, rfl⟩
  · exact ⟨a3, h3, rfl⟩
  · exact ⟨a4, h4, rfl⟩
  · exact ⟨a5, h5, rfl⟩
theorem pV_app (xs : List (Option Int)) (p : Int) : pV (xs ++ [some p]) = pV xs ++ [.int p] := by unfold pV; rw [List.map_append]; rfl
/-! ### a list of ints as data -/
theorem dpAll_int {K : PySem.W.Frag} {H : Hp} : ∀ ns : List Int, DpAll K H (ns.map V.int) (ns.map PyData.int)
  | [] => .nil
  | n :: ns => .cons (.int n) (dpAll_int ns)
theorem canAll_int : ∀ ns : List Int, PyData.canLayAll0 (ns.map PyData.int) = true
  | [] => by simp [PyData.canLayAll0]
  | n :: ns => by simp [PyData.canLayAll0, PyData.canLay0, canAll_int ns]
theorem depthAll_int : ∀ ns : List Int, PyData.depthAll (ns.map PyData.int) = 0
  | [] => by simp [PyData.depthAll]
  | n :: ns => by simp [PyData.depthAll, PyData.depth, depthAll_int ns]
theorem shaped_int (ns : List Int) : SeqAt.shaped (.list (ns.map PyData.int)) = true := by
  unfold SeqAt.shaped
  simp only [PyData.canLay0, canAll_int, PyData.depth, depthAll_int]
  rfl
theorem shaped_nil : SeqAt.shaped (.list []) = true := shaped_int []
theorem eqv_nil (ns : List Int) : PyData.eqv (.list (ns.map PyData.int)) (.list []) = decide (ns = []) := by
  cases ns with
  | nil => simp [PyData.eqv, PyData.eqvAll]
  | cons n r => simp [PyData.eqv, PyData.eqvAll]
theorem rv_neNil {K : PySem.W.Frag} {H : Hp} {a b : Addr} {st : List Int} (h1 : SqL K H a (stk st)) (h2 : SqL K H b []) : RV (rNeD K) (.ref a) (.ref b) H (.bl (!decide (st = []))) := by
  have h := rv_neD (H := H) (x := .ref a) (y := .ref b) (.lst h1 (dpAll_int st.reverse)) (.lst h2 .nil) (shaped_int _) shaped_nil
  rw [eqv_nil] at h
  have e : decide (st.reverse = []) = decide (st = []) := by cases st <;> simp
  rw [e] at h
  exact h
/-! ### the bits, turn by turn -/
def rs (P : List Int) : Nat → List Int
  | 0 => []
  | i + 1 => (run (P.take i)).st
def rb (P : List Int) : Nat → List Bool
  | 0 => []
  | i + 1 => (run (P.take i)).bs
theorem bits_turn {P : List Int} (hg : Good P) {i : Nat} (hi : i ≤ P.length) : ∃ (J : Nat) (p : Int), (∀ j, j < J → ∃ q, (rs P i)[j]? = some q ∧ q ≠ p) ∧ J ≤ (rs P i).length ∧ (J = (rs P i).length ∨ (rs P i)[J]? = some p) ∧
    (rs P i ≠ [] → (pV (par P))[i]? = some (.int p)) ∧ rs P (i + 1) = (i : Int) :: (rs P i).drop J ∧ rb P (i + 1) = rb P i ++ List.replicate J false ++ [true] := by
  cases i with
  | zero =>
    exact ⟨0, 0, fun j h => absurd h (Nat.not_lt_zero _), Nat.le_refl _, .inl rfl, fun h => absurd rfl h, rfl, rfl⟩
  | succ i =>
    have hlt : i < P.length := hi
    obtain ⟨p, hp⟩ : ∃ p, P[i]? = some p := ⟨_, List.getElem?_eq_getElem hlt⟩
    obtain ⟨j, hj, e, er⟩ := good_place hg hp
    refine ⟨j, p, fun l hl => ?_, Nat.le_of_lt hj, .inr e, fun _ => ?_, ?_, ?_⟩
    · have hl' : l < (run (P.take i)).st.length := Nat.lt_trans hl hj
      refine ⟨_, List.getElem?_eq_getElem hl', ?_⟩
      have z := fall_inj (fall_run _).pw (List.getElem?_eq_getElem hl') e hl
      omega
    · unfold pV par
      rw [List.map_cons, List.getElem?_cons_succ, List.map_map, List.getElem?_map, hp]
      rfl
    · show (run (P.take (i + 1))).st = _
      rw [er]; rfl
    · show (run (P.take (i + 1))).bs = _
      rw [er]; rfl
theorem rb_le {P : List Int} {i : Nat} (hi : i ≤ P.length + 1) : (rb P i).length + (rs P i).length ≤ 2 * (P.length + 1) := by
  cases i with
  | zero => simp [rb, rs]
  | succ i =>
    have h := sum_run (P.take i)
    rw [List.length_take] at h
    show (run (P.take i)).bs.length + (run (P.take i)).st.length ≤ _
    omega
/-! ### facts of values, promises -/
def isInt : V → Bool
  | .int _ => true
  | _ => false
section
variable {K : PySem.W.Frag} {H H' : Hp}
/-- a value whose kind is known -/
def Kd (K : PySem.W.Frag) (H : Hp) (x : V) : Prop := ∃ tv b1 b2, TyX K H x tv ∧ PySem.W.kitOne K tv (.type "int") = some b1 ∧ PySem.W.kitOne K tv (.type "bool") = some b2 ∧ (b1 && !b2) = isInt x
theorem Kd.ex {x : V} (e : Ex H H') (h : Kd K H x) : Kd K H' x := by
  obtain ⟨tv, b1, b2, h1, h2⟩ := h
  exact ⟨tv, b1, b2, tyx_ex e h1, h2⟩
theorem kd_int (i : Int) : Kd K H (.int i) := ⟨_, true, false, .base (.int i), kit_ty (by decide +kernel), kit_ty (by decide +kernel), rfl⟩
theorem kd_non : Kd K H .non := ⟨_, false, false, .base .non, kit_ty (by decide +kernel), kit_ty (by decide +kernel), rfl⟩
theorem kd_bl (b : Bool) : Kd K H (.bl b) := ⟨_, true, true, .base (.bl b), kit_ty (by decide +kernel), kit_ty (by decide +kernel), rfl⟩
theorem kd_str (z : Str) : Kd K H (.str z) := ⟨_, false, false, .base (.str z), kit_ty (by decide +kernel), kit_ty (by decide +kernel), rfl⟩
theorem kd_lst {a : Addr} {xs : List V} (h : H a = some (.lst xs)) : Kd K H (.ref a) := ⟨_, false, false, .base (.lst h), kit_ty (by decide +kernel), kit_ty (by decide +kernel), rfl⟩
theorem kd_tup {a : Addr} {xs : List V} (h : H a = some (.tup xs)) : Kd K H (.ref a) := ⟨_, false, false, .base (.tup h), kit_ty (by decide +kernel), kit_ty (by decide +kernel), rfl⟩
theorem kd_o : ∀ x : Option Int, Kd K H (oV x)
  | none => kd_non
  | some i => kd_int i
theorem kd_pV {xs : List (Option Int)} {x : V} (h : x ∈ pV xs) : Kd K H x := by
  obtain ⟨o, _, rfl⟩ := List.mem_map.mp h
  exact kd_o o
end
/-! ### the script's cells -/
def cell (ns : List Int) (k : Nat) : Int := if k < ns.length then (ns.getD k 0 * 48271 + 7919 * (k : Int) + 13) % 1000003 else 7919 * (k : Int) % 1000003
theorem cell_ge (ns : List Int) (k : Nat) : 0 ≤ cell ns k := by
  unfold cell; split <;> omega
theorem cell_lt (ns : List Int) (k : Nat) : cell ns k < 1000003 := by
  unfold cell; split <;> omega
def spCel (K : PySem.W.Frag) : Sp := fun vs H Q _ => ∃ (a : Addr) (ns : List Int) (k : Nat), vs = [.ref a, .int k] ∧ SqL K H a (ns.map V.int) ∧ ∀ H', Ex H H' → Q (.int (cell ns k)) H'
def spWhole (K : PySem.W.Frag) : Sp := fun vs H Q _ => ∃ (x : V), vs = [x] ∧ Kd K H x ∧ ∀ H', Ex H H' → Q (.bl (isInt x)) H'
section
variable {K : PySem.W.Frag} {H : Hp}
theorem sv_cell {a : Addr} {ns : List Int} {i : Int} (k : Nat) (hi : i = (k : Int)) (h : SqL K H a (ns.map V.int)) : SpV (spCel K) [.ref a, .int i] H (.int (cell ns k)) := fun H1 e Q q E => ⟨a, ns, k, by rw [hi], ex_l e h, q⟩
theorem sv_whole {x : V} (h : Kd K H x) : SpV (spWhole K) [x] H (.bl (isInt x)) := fun H1 e Q q E => ⟨x, rfl, h.ex e, q⟩
end
/-! ### the tree that the script tells -/
/-- the greatest number of knots is 160 -/
def spParents (K : PySem.W.Frag) : Sp := fun vs H Q _ => ∃ (a : Addr) (ns : List Int), vs = [.ref a] ∧ SqL K H a (ns.map V.int) ∧ ∀ P : List Int, Good P → P.length < 160 → ∀ p H', H p = none → Ex H H' → H' p = some (.lst (pV (par P))) → Q (.ref p) H'
def spBits (K : PySem.W.Frag) : Sp := fun vs H Q _ => ∃ (a : Addr) (P : List Int), vs = [.ref a] ∧ SqL K H a (pV (par P)) ∧ Good P ∧ P.length < 2000 ∧ ∀ H', Ex H H' → Q (.str (txt (full P))) H'
/-! ### which lists are those of trees -/
theorem pV_inj : ∀ {a b : List (Option Int)}, pV a = pV b → a = b
  | [], [], _ => rfl
  | [], _ :: _, h => by cases h
  | _ :: _, [], h => by cases h
  | x :: a, y :: b, h => by
    have h' : oV x :: pV a = oV y :: pV b := h
    injection h' with h1 h2
    rw [oV_inj h1, pV_inj h2]
theorem par_inj {P Q : List Int} (h : par P = par Q) : P = Q := by
  have h' : (none : Option Int) :: P.map some = none :: Q.map some := h
  injection h' with _ h2
  have h3 := congrArg (List.map (fun o : Option Int => o.getD 0)) h2
  rw [List.map_map, List.map_map] at h3
  have e : ((fun o : Option Int => o.getD 0) ∘ some) = id := rfl
  rw [e, List.map_id, List.map_id] at h3
  exact h3
def IsTree (xs : List V) (P : List Int) : Prop := xs = pV (par P) ∧ Good P ∧ P.length < 2000
theorem IsTree.uniq {xs : List V} {P Q : List Int} (h : IsTree xs P) (h2 : IsTree xs Q) : P = Q := par_inj (pV_inj (h.1.symm.trans h2.1))
open Classical in
noncomputable def bitsV (xs : List V) : Option (List Bool) := if h : ∃ P, IsTree xs P then some (full h.choose) else none
theorem bitsV_some {xs : List V} {P : List Int} (h : IsTree xs P) : bitsV xs = some (full P) := by
  have hx : ∃ P, IsTree xs P := ⟨P, h⟩
  unfold bitsV
  rw [dif_pos hx, hx.choose_spec.uniq h]
theorem bitsV_none {xs : List V} (h : ∀ P, ¬ IsTree xs P) : bitsV xs = none := by
  unfold bitsV
  rw [dif_neg (fun ⟨P, z⟩ => h P z)]
def resV : Option (List Bool) → V
  | some bs => .str (txt bs)
  | none => .non
/-- a thing, and the bits that it tells, if any -/
def Th (K : PySem.W.Frag) (H : Hp) (x : V) (r : Option (List Bool)) : Prop :=
  (∃ (a : Addr) (xs : List V), x = .ref a ∧ H a = some (.lst xs) ∧ xs.length ≤ 4000 ∧ (∀ y ∈ xs, Kd K H y) ∧ r = bitsV xs) ∨ (∃ tv, TyX K H x tv ∧ PySem.W.kitOne K tv (.type "list") = some false ∧ r = none)
theorem Th.ex {K : PySem.W.Frag} {H H' : Hp} {x : V} {r : Option (List Bool)} (e : Ex H H') (h : Th K H x r) : Th K H' x r := by
  rcases h with ⟨a, xs, h1, h2, h3, h4, h5⟩ | ⟨tv, h1, h2, h3⟩
  · exact .inl ⟨a, xs, h1, e _ _ h2, h3, fun y hy => (h4 y hy).ex e, h5⟩
  · exact .inr ⟨tv, tyx_ex e h1, h2, h3⟩
theorem th_tree {K : PySem.W.Frag} {H : Hp} {a : Addr} {P : List Int} (h : H a = some (.lst (pV (par P)))) (hg : Good P) (hl : P.length < 2000) : Th K H (.ref a) (some (full P)) :=
  .inl ⟨a, _, rfl, h, by rw [pV_len, par_len]; omega, fun y hy => kd_pV hy, (bitsV_some ⟨rfl, hg, hl⟩).symm⟩
def spBitsOf (K : PySem.W.Frag) : Sp := fun vs H Q _ => ∃ (x : V) (r : Option (List Bool)), vs = [x] ∧ Th K H x r ∧ ∀ H', Ex H H' → Q (resV r) H'
def spPressed (K : PySem.W.Frag) (C : Addr) : Sp := fun vs H Q E => ∃ (x : V) (r : Option (List Bool)), vs = [x] ∧ Th K H x r ∧ (∀ bs, r = some bs → ∀ H', Ex H H' → Q (.str (txt bs)) H') ∧ (r = none → ∀ H', Ex H H' → E (.ref C) none H')
def spIsTree (K : PySem.W.Frag) : Sp := fun vs H Q _ => ∃ (x : V) (r : Option (List Bool)), vs = [x] ∧ Th K H x r ∧ ∀ H', Ex H H' → Q (.bl r.isSome) H'
section
variable {K : PySem.W.Frag} {H : Hp}
theorem sv_bitsOf {x : V} {r : Option (List Bool)} (h : Th K H x r) : SpV (spBitsOf K) [x] H (resV r) := fun H1 e Q q E => ⟨x, r, rfl, h.ex e, q⟩
theorem sv_isTree {x : V} {r : Option (List Bool)} (h : Th K H x r) : SpV (spIsTree K) [x] H (.bl r.isSome) := fun H1 e Q q E => ⟨x, r, rfl, h.ex e, q⟩
theorem sv_pressed {x : V} {C : Addr} {bs : List Bool} (h : Th K H x (some bs)) : SpV (spPressed K C) [x] H (.str (txt bs)) := fun H1 e Q q E => ⟨x, _, rfl, h.ex e, fun b hb => by cases hb; exact q, fun z => nomatch z⟩
theorem sv_bits {a : Addr} {P : List Int} (h : SqL K H a (pV (par P))) (hg : Good P) (hl : P.length < 2000) : SpV (spBits K) [.ref a] H (.str (txt (full P))) := fun H1 e Q q E => ⟨a, P, rfl, ex_l e h, hg, hl, q⟩
end
theorem pop_to : ∀ (st : List Int) (p : Int), ∃ J, J ≤ st.length ∧ (∀ j, j < J → ∃ q, st[j]? = some q ∧ q ≠ p) ∧ ((J = st.length ∧ p ∉ st) ∨ st[J]? = some p)
  | [], p => ⟨0, Nat.le_refl _, fun j h => absurd h (Nat.not_lt_zero _), .inl ⟨rfl, by simp⟩⟩
  | a :: st, p => by
    by_cases h : a = p
    · exact ⟨0, Nat.zero_le _, fun j h => absurd h (Nat.not_lt_zero _), .inr (by rw [h]; rfl)⟩
    · obtain ⟨J, h1, h2, h3⟩ := pop_to st p
      refine ⟨J + 1, Nat.succ_le_succ h1, fun j hj => ?_, ?_⟩
      · cases j with
        | zero => exact ⟨a, rfl, h⟩
        | succ j =>
          obtain ⟨q, e1, e2⟩ := h2 j (Nat.lt_of_succ_lt_succ hj)
          exact ⟨q, by simpa using e1, e2⟩
      · rcases h3 with ⟨h3, h4⟩ | h3
        · refine .inl ⟨by rw [h3]; rfl, fun z => ?_⟩
          rcases List.mem_cons.mp z with z | z
          · exact h z.symm
          · exact h4 z
        · exact .inr (by simpa using h3)
theorem drop_cons {st : List Int} {j : Nat} {q : Int} (h : st[j]? = some q) : st.drop j = q :: st.drop (j + 1) := by
  obtain ⟨h1, h2⟩ := List.getElem?_eq_some_iff.mp h
  rw [List.drop_eq_getElem_cons h1, h2]
/-- what has been walked of a list is a tree -/
structure Pre (xs : List V) (i : Nat) (P : List Int) : Prop where
  tk : xs.take (i + 1) = pV (par P)
  ln : P.length = i
  gd : Good P
theorem take_pV (P : List Int) (i : Nat) : (pV (par P)).take (i + 1) = pV (par (P.take i)) := by
  unfold pV par
  rw [List.map_cons, List.take_succ_cons, List.map_cons, List.map_take, List.map_take]
theorem Pre.of {xs : List V} {i : Nat} {P Q : List Int} (h : Pre xs i P) (hq : xs = pV (par Q)) : Q.take i = P := by
  have e := h.tk
  rw [hq, take_pV] at e
  exact par_inj (pV_inj e)
theorem pV_at (P : List Int) (i : Nat) : (pV (par P))[i + 1]? = P[i]?.map V.int := by
  unfold pV par
  rw [List.map_cons, List.getElem?_cons_succ, List.map_map, List.getElem?_map]
  rfl
theorem Pre.no {xs : List V} {i : Nat} {P : List Int} (h : Pre xs i P) {y : V} (hy : xs[i + 1]? = some y) (hn : isInt y = false) : bitsV xs = none := bitsV_none fun Q ⟨hq, _, _⟩ => by
  rw [hq, pV_at] at hy
  cases e : Q[i]? with
  | none => rw [e] at hy; cases hy
  | some p =>
    rw [e] at hy
    cases hy
    cases hn
theorem Pre.off {xs : List V} {i : Nat} {P : List Int} (h : Pre xs i P) {p : Int} (hy : xs[i + 1]? = some (.int p)) (hn : p ∉ (run P).st) : bitsV xs = none := bitsV_none fun Q ⟨hq, hg, _⟩ => by
  have e := h.of hq
  rw [hq, pV_at] at hy
  cases e2 : Q[i]? with
  | none => rw [e2] at hy; cases hy
  | some r =>
    rw [e2] at hy
    have e3 : r = p := V.int.inj (Option.some.inj hy)
    subst e3
    have z := hg i r e2
    rw [e] at z
    exact hn z
theorem Pre.more {xs : List V} {i : Nat} {P : List Int} (h : Pre xs i P) {p : Int} (hy : xs[i + 1]? = some (.int p)) (hn : p ∈ (run P).st) : Pre xs (i + 1) (P ++ [p]) :=
  ⟨by rw [take_more hy, h.tk, par_app, pV_app], by rw [List.length_append, h.ln]; rfl, h.gd.app hn⟩
theorem Pre.all {xs : List V} {i : Nat} {P : List Int} (h : Pre xs i P) (hl : xs.length ≤ i + 1) (h2 : xs.length ≤ 2000) : bitsV xs = some (full P) := by
  have e := h.tk
  rw [List.take_of_length_le hl] at e
  refine bitsV_some ⟨e, h.gd, ?_⟩
  have e2 := congrArg List.length e
  rw [pV_len, par_len] at e2
  omega
theorem no_first {xs : List V} {y : V} (hy : xs[0]? = some y) (hn : y ≠ .non) : bitsV xs = none := bitsV_none fun Q ⟨hq, _, _⟩ => by
  rw [hq] at hy
  exact hn (Option.some.inj hy).symm
theorem no_size {xs : List V} (h : ¬ (1 ≤ xs.length ∧ xs.length ≤ 2000)) : bitsV xs = none := bitsV_none fun Q ⟨hq, _, hl⟩ => by
  have e2 := congrArg List.length hq
  rw [pV_len, par_len] at e2
  omega
/-- the pieces of the text so far -/
def Pcs (H0 H : Hp) (a : Addr) (bs : List Bool) : Prop := ∃ ys : List Str, Own H0 H a (ys.map V.str) ∧ catS ys = codes bs ∧ ys.length ≤ bs.length
section
variable {H0 H H' : Hp} {a b : Addr} {bs cs : List Bool} {o : HO}
theorem Pcs.ex (h : Pcs H0 H a bs) (e : Ex H H') : Pcs H0 H' a bs := by
  obtain ⟨ys, h1, h2⟩ := h
  exact ⟨ys, h1.ex e, h2⟩
theorem Pcs.off (h : Pcs H0 H a bs) (n : a ≠ b) : Pcs H0 (upd H b o) a bs := by
  obtain ⟨ys, h1, h2⟩ := h
  exact ⟨ys, h1.off n, h2⟩
theorem pcs_add {ys : List Str} (n : H0 a = none) (h2 : catS ys = codes bs) (h3 : ys.length ≤ bs.length) (hc : 1 ≤ cs.length) : Pcs H0 (upd H a (.lst (ys.map V.str ++ [.str (txt cs)]))) a (bs ++ cs) :=
  ⟨ys ++ [txt cs], ⟨n, by rw [upd_same, List.map_append]; rfl⟩, by rw [catS_app, h2, catS_one, txt_cps, codes_app], by rw [List.length_append, List.length_append, List.length_singleton]; omega⟩
end
section
variable {σ : L2.St} {H : Hp} {te : TE} {D : Ends} {tu tz : TS}
/-- a for over a text's signs -/
theorem s_forS {z : Str} {j : Nat} (h : Ev te σ H (.str z)) (Pv : Nat → L2.St → Hp → Prop) (h0 : ∀ H1, Ex H H1 → Pv 0 σ H1)
    (hs : ∀ i c σ' H', z.cps.toList[i]? = some c → Pv i σ' H' → tu { D with nx := Pv (i + 1), ct := Pv (i + 1), bk := D.nx } (σ'.set j (some (.str ⟨#[c]⟩))) H') (hd : ∀ σ' H', Pv z.length σ' H' → D.nx σ' H') : tFor (iStr te) (gName j) tu D σ H :=
  h H (Ex.refl H) _ fun H1 e => ⟨z, rfl, fun i m σ H => m = z.cps.size - i ∧ i ≤ z.cps.size ∧ Pv i σ H, ⟨_, rfl, Nat.zero_le _, h0 H1 e⟩, by
    rintro i m σ H ⟨rfl, hi, p⟩
    by_cases hlt : i < z.cps.size
    · refine .inr ⟨hlt, Pv (i + 1), fun σ' H' p' => ⟨z.cps.size - (i + 1), by omega, rfl, hlt, p'⟩, fun x H' y => ?_⟩
      obtain ⟨e, c, hc, y⟩ := y
      subst e y
      exact hs i c σ _ (by rw [Array.getElem?_toList]; exact hc) p
    · have e : i = z.cps.size := by omega
      subst e
      exact .inl ⟨Nat.le_refl _, hd σ H p⟩⟩
theorem q_forS {z : Str} {j : Nat} (h : Ev te σ H (.str z)) (Pv : Nat → L2.St → Hp → Prop) (h0 : ∀ H1, Ex H H1 → Pv 0 σ H1)
    (hs : ∀ i c σ' H', z.cps.toList[i]? = some c → Pv i σ' H' → tu { D with nx := Pv (i + 1), ct := Pv (i + 1), bk := tz D } (σ'.set j (some (.str ⟨#[c]⟩))) H') (hd : ∀ σ' H', Pv z.length σ' H' → tz D σ' H') : tSeq (tFor (iStr te) (gName j) tu) tz D σ H :=
  s_forS (D := { D with nx := tz D }) h Pv h0 hs hd
end
/-- a thing, and the parents that its signs tell, if any -/
def Tx (K : PySem.W.Frag) (H : Hp) (x : V) (r : Option (List (Option Int))) : Prop :=
  (∃ z : Str, x = .str z ∧ z.length ≤ 90000 ∧ r = readM z.cps.toList) ∨ (∃ tv, TyX K H x tv ∧ PySem.W.kitOne K tv (.type "str") = some false ∧ r = none)
theorem Tx.ex {K : PySem.W.Frag} {H H' : Hp} {x : V} {r : Option (List (Option Int))} (e : Ex H H') (h : Tx K H x r) : Tx K H' x r := by
  rcases h with h | ⟨tv, h1, h2, h3⟩
  · exact .inl h
  · exact .inr ⟨tv, tyx_ex e h1, h2, h3⟩
theorem tx_full {K : PySem.W.Frag} {H : Hp} {P : List Int} (hg : Good P) (hl : P.length < 2000) : Tx K H (.str (txt (full P))) (some (par P)) :=
  .inl ⟨_, rfl, by rw [txt_len, full_len]; omega, by rw [txt_cps, readM_full hg hl]⟩
def spParentsOf (K : PySem.W.Frag) : Sp := fun vs H Q _ => ∃ (x : V) (r : Option (List (Option Int))), vs = [x] ∧ Tx K H x r ∧ (r = none → ∀ H', Ex H H' → Q .non H') ∧ (∀ ps, r = some ps → ∀ p H', H p = none → Ex H H' → H' p = some (.lst (pV ps)) → Q (.ref p) H')
def spPlain (K : PySem.W.Frag) (C : Addr) : Sp := fun vs H Q E => ∃ (x : V) (r : Option (List (Option Int))), vs = [x] ∧ Tx K H x r ∧ (r = none → ∀ H', Ex H H' → E (.ref C) none H') ∧ (∀ ps, r = some ps → ∀ p H', H p = none → Ex H H' → H' p = some (.lst (pV ps)) → Q (.ref p) H')
section
variable {K : PySem.W.Frag} {H : Hp}
theorem sl_plain {x : V} {C : Addr} {ps : List (Option Int)} (h : Tx K H x (some ps)) : SpL (spPlain K C) [x] H (pV ps) := fun H1 e Q q E => ⟨x, some ps, rfl, h.ex e, (fun z => nomatch z), (fun b hb => by cases hb; exact q)⟩
end
theorem readGo_bad {ps : List (Option Int)} {st : List Int} {c : Nat} {r : List Nat} (h : ps ≠ [] ∧ st = []) : readGo ps st (c :: r) = none := by
  show (if ps ≠ [] ∧ st = [] then none else _) = _
  rw [if_pos h]
theorem readGo_0 {ps : List (Option Int)} {st : List Int} {r : List Nat} (h : ¬ (ps ≠ [] ∧ st = [])) (h2 : st ≠ []) : readGo ps st (48 :: r) = readGo ps st.tail r := by
  show (if ps ≠ [] ∧ st = [] then none else if (48 : Nat) = 49 then _ else if (48 : Nat) = 48 then (if st = [] then none else readGo ps st.tail r) else none) = _
  rw [if_neg h, if_neg (by decide), if_pos rfl, if_neg h2]
theorem readGo_no {ps : List (Option Int)} {st : List Int} {c : Nat} {r : List Nat} (h1 : c ≠ 49) (h2 : ¬ (c = 48 ∧ st ≠ [])) : readGo ps st (c :: r) = none := by
  show (if ps ≠ [] ∧ st = [] then none else if c = 49 then _ else if c = 48 then (if st = [] then none else readGo ps st.tail r) else none) = _
  rw [if_neg h1]
  by_cases h : ps ≠ [] ∧ st = []
  · rw [if_pos h]
  · rw [if_neg h]
    by_cases h3 : c = 48
    · rw [if_pos h3, if_pos (by
        by_cases h4 : st = []
        · exact h4
        · exact absurd ⟨h3, h4⟩ h2)]
    · rw [if_neg h3]
theorem readM_no {cs : List Nat} (h : ¬ (1 ≤ cs.length ∧ cs.length ≤ 4000)) : readM cs = none := by
  unfold readM
  rw [if_pos (by omega)]
theorem readM_go {cs : List Nat} (h : 1 ≤ cs.length ∧ cs.length ≤ 4000) : readM cs = readGo [] [] cs := by
  unfold readM
  rw [if_neg (by omega)]
theorem sign_1 (c : Nat) : decide (V.str ⟨#[c]⟩ = V.str (Str.ofString "1")) = decide (c = 49) := by
  have e : Str.ofString "1" = ⟨#[49]⟩ := by decide +kernel
  rw [e]
  by_cases h : c = 49
  · subst h; simp
  · simp [h]
theorem sign_0 (c : Nat) : decide (V.str ⟨#[c]⟩ = V.str (Str.ofString "0")) = decide (c = 48) := by
  have e : Str.ofString "0" = ⟨#[48]⟩ := by decide +kernel
  rw [e]
  by_cases h : c = 48
  · subst h; simp
  · simp [h]
theorem pV_emp (ps : List (Option Int)) : (pV ps).isEmpty = ps.isEmpty := by cases ps <;> rfl
theorem pV_app' (xs : List (Option Int)) (o : Option Int) : pV (xs ++ [o]) = pV xs ++ [oV o] := by unfold pV; rw [List.map_append]; rfl
section
variable {σ : L2.St} {H : Hp} {ta : TA} {D : Ends} {tz : TS} {sp : Sp} {vs dvs : List V} {E : XK} {i : Nat}
/-- x = f(..), by the promise of f itself -/
theorem q_asgC (h : EvA ta σ H vs) (hs : ∀ H1, Ex H H1 → sp (vs ++ dvs) H1 (fun v H2 => tz D (σ.set i (some v)) H2) E) : tSeq (tAsg (tCall sp dvs E ta) (gName i)) tz D σ H :=
  h H (Ex.refl H) _ fun H1 e => hs H1 e
theorem s_asgC (h : EvA ta σ H vs) (hs : ∀ H1, Ex H H1 → sp (vs ++ dvs) H1 (fun v H2 => D.nx (σ.set i (some v)) H2) E) : tAsg (tCall sp dvs E ta) (gName i) D σ H :=
  h H (Ex.refl H) _ fun H1 e => hs H1 e
theorem s_retC (h : EvA ta σ H vs) (hs : ∀ H1, Ex H H1 → sp (vs ++ dvs) H1 D.rt E) : tRet (tCall sp dvs E ta) D σ H :=
  h H (Ex.refl H) _ fun H1 e => hs H1 e
theorem e_opC {r : R2} {tb : TE} {Q : VK} (h : EvA ta σ H vs) (hs : ∀ H1, Ex H H1 → sp (vs ++ dvs) H1 (fun x H2 => tb σ H2 (fun y H3 => r x y H3 Q)) E) : tOp r (tCall sp dvs E ta) tb σ H Q :=
  h H (Ex.refl H) _ fun H1 e => hs H1 e
end
def spLaw (K : PySem.W.Frag) : Sp := fun vs H Q _ => ∃ (a : Addr) (ns : List Int), vs = [.ref a] ∧ SqL K H a (ns.map V.int) ∧ ns.length ≤ 63 ∧ ∀ H', Q (.bl true) H'
theorem rv_eqNil {K : PySem.W.Frag} {H : Hp} {a b : Addr} {st : List Int} (h1 : SqL K H a (stk st)) (h2 : SqL K H b []) : RV (rEqD K) (.ref a) (.ref b) H (.bl (decide (st = []))) := by
  have h := rv_eqD (H := H) (x := .ref a) (y := .ref b) (.lst h1 (dpAll_int st.reverse)) (.lst h2 .nil) (shaped_int _) shaped_nil
  rw [eqv_nil] at h
  have e : decide (st.reverse = []) = decide (st = []) := by cases st <;> simp
  rw [e] at h
  exact h
section
variable {K : PySem.W.Frag} {σ : L2.St} {H : Hp} {ta tb te : TE} {tr : TA} {Q : List V → Hp → Prop} {R : VK} {x : V} {ys : List V} {D : Ends} {tz : TS} {i : Nat} {r : R2}
theorem e_cons (h : Ev ta σ H x) (k : ∀ H1, Ex H H1 → tr σ H1 (fun xs H2 => Q (x :: xs) H2)) : tCons ta tr σ H Q := h H (Ex.refl H) _ k
theorem e_consL (h : EvL ta σ H ys) (k : ∀ p H1, H p = none → Ex H H1 → H1 p = some (.lst ys) → tr σ H1 (fun xs H2 => Q (.ref p :: xs) H2)) : tCons ta tr σ H Q := h H (Ex.refl H) _ k
theorem e_consU (h : EvU ta σ H ys) (k : ∀ p H1, H p = none → Ex H H1 → H1 p = some (.tup ys) → tr σ H1 (fun xs H2 => Q (.ref p :: xs) H2)) : tCons ta tr σ H Q := h H (Ex.refl H) _ k
theorem e_consX (h : ta σ H (fun x H1 => tr σ H1 (fun xs H2 => Q (x :: xs) H2))) : tCons ta tr σ H Q := h
theorem e_consD (k : ∀ p H1, H p = none → Ex H H1 → H1 p = some (.dK []) → tr σ H1 (fun xs H2 => Q (.ref p :: xs) H2)) : tCons tDNewK tr σ H Q := fun p np => k p _ np (Ex.new np) upd_same
theorem e_nil (h : Q [] H) : tNil σ H Q := h
theorem e_lst (h : tr σ H (fun xs H1 => xs.length ≤ sizeLine ∧ ∀ p, H1 p = none → R (.ref p) (upd H1 p (.lst xs)))) : tLst tr σ H R := h
theorem q_asgX (h : te σ H (fun x H1 => tz D (σ.set i (some x)) H1)) : tSeq (tAsg te (gName i)) tz D σ H := h
theorem s_retX (h : te σ H D.rt) : tRet te D σ H := h
theorem e_op (h : ta σ H (fun x H1 => tb σ H1 (fun y H2 => r x y H2 R))) : tOp r ta tb σ H R := h
theorem eu_tupleL {a : Addr} (h : Ev ta σ H (.ref a)) (hs : SqL K H a ys) : EvU (tCB (fun xs H Q => ∃ p ys, xs = [.ref p] ∧ ((SqL K H p ys ∧ ∀ l, H l = none → Q (.ref l) (upd H l (.tup ys))) ∨ (SqT K H p ys ∧ Q (.ref p) H))) (tCons ta tNil)) σ H ys := fun H1 e Q q =>
  h H1 e _ fun H2 e2 => ⟨a, ys, rfl, .inl ⟨ex_l (e.trans e2) hs, fun l hl => q l _ (fresh_back e2 hl) (e2.trans (Ex.new hl)) upd_same⟩⟩
end
end KB
namespace KB
open PySem L2 Evl
section
variable {X : Cx} {a D : Addr} {oe : Obj} {cls : Value} {d : Option Addr} {pn : List (Addr × Obj)}
def rIsC (K : PySem.W.Frag) (D a : Addr) (cls : Value) (d : Option Addr) : List V → Hp → VK → Prop := fun xs H Q => cls = .ref D ∧ d = none ∧ rIsE K D a xs H Q
theorem call_isC (C : ExcC X.K D) (hz : Zc cls d oe) (hf : ∃ vs, oe.data = .fields vs) : CallR (X.suite a ((a, oe) :: pn)) (.builtin "isinstance") (rIsC X.K D a cls d) := by
  intro pins s σ H xs us Q I r h
  obtain ⟨e1, e2, h⟩ := h
  subst e1 e2
  exact call_isE C hz hf pins s σ H xs us Q I r h
end
section
variable {K : PySem.W.Frag} {σ : L2.St} {H : Hp} {ta tb : TE} {D : Ends} {W : WX} {sp : Sp} {vs : List V} {args : TA}
theorem ev_isC {Dd a : Addr} {c : V} {cv : Value} {b : Bool} (h1 : Ev ta σ H (.ref a)) (h2 : Ev tb σ H c) (hc : ∀ u, RelV c u → u = cv) (hb : PySem.W.kitOne K (.ref Dd) cv = some b) : Ev (tCB (rIsC K Dd a (.ref Dd) none) (tCons ta (tCons tb tNil))) σ H (.bl b) := fun H1 e _ q =>
  h1 H1 e _ fun H2 e2 => h2 H2 (e.trans e2) _ fun H3 e3 => ⟨rfl, rfl, c, cv, b, rfl, hc, hb, q H3 (e2.trans e3)⟩
/-- return f(..) within a try, f may raise -/
theorem s_retS (h : EvA args σ H vs) (hs : ∀ H1, Ex H H1 → sp vs H1 D.rt (WE W σ)) : tRet (tCallS sp (WE W) args) D σ H := h H (Ex.refl H) _ fun H1 e => hs H1 e
theorem s_dropS (h : EvA args σ H vs) (hs : ∀ H1, Ex H H1 → sp vs H1 (fun _ H2 => D.nx σ H2) (WE W σ)) : tDrop (tCallS sp (WE W) args) D σ H := h H (Ex.refl H) _ fun H1 e => hs H1 e
end
theorem kit_ref {K : PySem.W.Frag} {t : Value} {C : Addr} {b : Bool} (hd : PySem.W.hasDictIn K C = true) (ht : PySem.W.typeIn K (.ref C) = some (.type "type")) (h : PySem.W.subIn K t (.ref C) = some b) (hne : (t == .ref C) = true → b = true) : PySem.W.kitOne K t (.ref C) = some b := by
  unfold PySem.W.kitOne
  by_cases e : (t == .ref C) = true
  · rw [if_pos e, hne e]
  · rw [if_neg e]
    obtain ⟨cd, hc, _⟩ := PySem.W.any_some hd
    show (if ((PySem.W.clsIn K C).isSome && PySem.W.typeIn K (.ref C) == some (.type "type")) = true then PySem.W.subIn K t (.ref C) else none) = some b
    rw [hc, ht, if_pos (by rfl)]
    exact h
theorem kit_tyD {K : PySem.W.Frag} {C : Addr} {T : String} {b : Bool} (h : PySem.W.subIn K (.ref C) (.type T) = some b) (hm : PySem.W.kitMeta T = true) : PySem.W.kitOne K (.ref C) (.type T) = some b := by
  unfold PySem.W.kitOne
  rw [if_neg (by intro z; cases z)]
  show (if PySem.W.kitMeta T = true then PySem.W.subIn K (.ref C) (.type T) else none) = some b
  rw [if_pos hm]
  exact h
theorem kit_other {K : PySem.W.Frag} {D C : Addr} (hD : PySem.W.subIn K (.ref D) (.ref D) = some true) (hd : PySem.W.hasDictIn K C = true) (ht : PySem.W.typeIn K (.ref C) = some (.type "type")) (h : PySem.W.subIn K (.ref D) (.ref C) = some false) : PySem.W.kitOne K (.ref D) (.ref C) = some false := by
  refine kit_ref hd ht h fun z => ?_
  have e : Value.ref D = Value.ref C := by simpa using z
  cases e
  rw [hD] at h
  cases h
end KB
namespace KB
open PySem L2 Evl
/-! ### the elders of the last knot are the stack -/
theorem st_head (P : List Int) : (run P).st.head? = some (P.length : Int) := by
  refine rev_ind (C := fun P => (run P).st.head? = some (P.length : Int)) ?_ ?_ P
  · rfl
  · intro P p _
    rw [run_app]
    show some (run P).k = _
    rw [run_k, List.length_append]
    rfl
theorem chain (P : List Int) : Good P → ∀ j q, (run P).st[j]? = some q → (par P)[q.toNat]? = some ((run P).st[j + 1]?) := by
  refine rev_ind (C := fun P => Good P → ∀ j q, (run P).st[j]? = some q → (par P)[q.toNat]? = some ((run P).st[j + 1]?)) ?_ ?_ P
  · intro _ j q h
    cases j with
    | zero =>
      have e : (0 : Int) = q := Option.some.inj h
      subst e
      rfl
    | succ j => cases h
  · intro P p ih hg j q h
    obtain ⟨j0, hj, e⟩ := mem_place hg.last
    have er : run (P ++ [p]) = ⟨(run P).k :: (run P).st.drop j0, (run P).bs ++ List.replicate j0 false ++ [true], (run P).k + 1⟩ := by rw [run_app, adv_place (fall_run _) e]
    rw [er] at h ⊢
    have hf := fall_run P
    rw [par_app]
    cases j with
    | zero =>
      have e2 : (run P).k = q := Option.some.inj h
      rw [run_k] at e2
      have e3 : q.toNat = (par P).length := by rw [par_len]; omega
      rw [e3, List.getElem?_append_right (Nat.le_refl _), Nat.sub_self]
      show some (some p) = some (((run P).st.drop j0)[0]?)
      rw [List.getElem?_drop, Nat.add_zero, e]
    | succ j =>
      have h' : ((run P).st.drop j0)[j]? = some q := h
      rw [List.getElem?_drop] at h'
      have hm := List.mem_of_getElem? h'
      have h1 := hf.lt q hm
      have h2 := hf.ge q hm
      rw [run_k] at h1
      rw [List.getElem?_append_left (by rw [par_len]; omega), ih hg.left _ _ h']
      show some ((run P).st[j0 + j + 1]?) = some (((run P).st.drop j0)[j + 1]?)
      rw [List.getElem?_drop]
      rfl
theorem zero_mem (P : List Int) : Good P → (0 : Int) ∈ (run P).st := by
  refine rev_ind (C := fun P => Good P → (0 : Int) ∈ (run P).st) ?_ ?_ P
  · intro _
    exact List.mem_cons_self
  · intro P p ih hg
    obtain ⟨j0, hj, e⟩ := mem_place hg.last
    have er : run (P ++ [p]) = ⟨(run P).k :: (run P).st.drop j0, (run P).bs ++ List.replicate j0 false ++ [true], (run P).k + 1⟩ := by rw [run_app, adv_place (fall_run _) e]
    rw [er]
    refine List.mem_cons_of_mem _ ?_
    obtain ⟨i, hi, e0⟩ := mem_place (ih hg.left)
    by_cases h : j0 ≤ i
    · have : ((run P).st.drop j0)[i - j0]? = some 0 := by rw [List.getElem?_drop, Nat.add_sub_cancel' h]; exact e0
      exact List.mem_of_getElem? this
    · have z := fall_inj (fall_run P).pw e0 e (by omega)
      have := (fall_run P).ge p (List.mem_of_getElem? e)
      omega
def pathP (n : Nat) (b : Int) : List Int := (List.range n).map (fun (i : Nat) => (i : Int) * b)
theorem path_good (b : Int) (hb : b = 0 ∨ b = 1) : ∀ n, Good (pathP n b)
  | 0 => by
    show Good []
    exact good_nil
  | n + 1 => by
    have e : pathP (n + 1) b = pathP n b ++ [(n : Int) * b] := by unfold pathP; rw [List.range_succ, List.map_append]; rfl
    rw [e]
    have ih := path_good b hb n
    refine ih.app ?_
    rcases hb with rfl | rfl
    · rw [Int.mul_zero]
      exact zero_mem _ ih
    · rw [Int.mul_one]
      have h := st_head (pathP n 1)
      have hl : (pathP n 1).length = n := by unfold pathP; rw [List.length_map, List.length_range]
      rw [hl] at h
      exact List.mem_of_mem_head? h
theorem path_len (n : Nat) (b : Int) : (pathP n b).length = n := by unfold pathP; rw [List.length_map, List.length_range]
/-! ### things and their data -/
def Dat (K : PySem.W.Frag) (H : Hp) (x : V) : Prop := (∃ d, Dp K H x d ∧ SeqAt.shaped d = true) ∨ (∃ a, x = .ref a ∧ H a = some (.dK []))
def Lst (K : PySem.W.Frag) (H : Hp) (xs : List V) : Prop := xs.length ≤ 1000 ∧ (∀ y ∈ xs, Kd K H y) ∧ ∃ ds, DpAll K H xs ds ∧ SeqAt.shaped (.list ds) = true
def Thing (K : PySem.W.Frag) (H : Hp) (x : V) : Prop := (∃ a xs, x = .ref a ∧ H a = some (.lst xs) ∧ Lst K H xs) ∨ (∃ tv, TyX K H x tv ∧ PySem.W.kitOne K tv (.type "list") = some false ∧ Dat K H x)
section
variable {K : PySem.W.Frag} {H H' : Hp} {x y : V} {xs ys : List V}
theorem Dat.ex (e : Ex H H') (h : Dat K H x) : Dat K H' x := by
  rcases h with ⟨d, h1, h2⟩ | ⟨a, h1, h2⟩
  · exact .inl ⟨d, dp_ex e _ _ h1, h2⟩
  · exact .inr ⟨a, h1, e _ _ h2⟩
theorem Lst.ex (e : Ex H H') (h : Lst K H xs) : Lst K H' xs := by
  obtain ⟨h1, h2, ds, h3, h4⟩ := h
  exact ⟨h1, fun y hy => (h2 y hy).ex e, ds, dpAll_ex e _ _ h3, h4⟩
theorem Thing.ex (e : Ex H H') (h : Thing K H x) : Thing K H' x := by
  rcases h with ⟨a, xs, h1, h2, h3⟩ | ⟨tv, h1, h2, h3⟩
  · exact .inl ⟨a, xs, h1, e _ _ h2, h3.ex e⟩
  · exact .inr ⟨tv, tyx_ex e h1, h2, h3.ex e⟩
/-- the bits that a thing tells -/
theorem Thing.th (h : Thing K H x) : ∃ r, Th K H x r := by
  rcases h with ⟨a, xs, h1, h2, h3, h4, _⟩ | ⟨tv, h1, h2, h3⟩
  · exact ⟨bitsV xs, .inl ⟨a, xs, h1, h2, by omega, h4, rfl⟩⟩
  · exact ⟨none, .inr ⟨tv, h1, h2, rfl⟩⟩
theorem dpAll_app : ∀ {xs ys : List V} {ds es : List PyData}, DpAll K H xs ds → DpAll K H ys es → DpAll K H (xs ++ ys) (ds ++ es)
  | _, _, _, _, .nil, h => h
  | _, _, _, _, .cons h1 h2, h => .cons h1 (dpAll_app h2 h)
theorem canAll_app : ∀ ds es : List PyData, PyData.canLayAll0 (ds ++ es) = (PyData.canLayAll0 ds && PyData.canLayAll0 es)
  | [], es => by simp [PyData.canLayAll0]
  | d :: ds, es => by
    show PyData.canLayAll0 (d :: (ds ++ es)) = _
    simp only [PyData.canLayAll0]
    rw [canAll_app ds es, Bool.and_assoc]
theorem depthAll_app : ∀ ds es : List PyData, PyData.depthAll (ds ++ es) = max (PyData.depthAll ds) (PyData.depthAll es)
  | [], es => by simp [PyData.depthAll]
  | d :: ds, es => by
    show PyData.depthAll (d :: (ds ++ es)) = _
    simp only [PyData.depthAll]
    rw [depthAll_app ds es]
    omega
theorem shaped_list {ds : List PyData} : SeqAt.shaped (.list ds) = true ↔ PyData.canLayAll0 ds = true ∧ PyData.depthAll ds ≤ 63 := by
  have e1 : (PyData.list ds).depth = PyData.depthAll ds + 1 := by simp only [PyData.depth]
  have e2 : (PyData.list ds).canLay0 = PyData.canLayAll0 ds := by simp only [PyData.canLay0]
  unfold SeqAt.shaped
  rw [e1, e2, Bool.and_eq_true, decide_eq_true_eq]
  constructor
  · rintro ⟨h1, h2⟩
    exact ⟨h1, by omega⟩
  · rintro ⟨h1, h2⟩
    exact ⟨h1, by omega⟩
theorem Lst.app (h : Lst K H xs) (h2 : Lst K H ys) (hl : xs.length + ys.length ≤ 1000) : Lst K H (xs ++ ys) := by
  obtain ⟨a1, a2, ds, a3, a4⟩ := h
  obtain ⟨b1, b2, es, b3, b4⟩ := h2
  refine ⟨by rw [List.length_append]; exact hl, fun y hy => ?_, ds ++ es, dpAll_app a3 b3, ?_⟩
  · rcases List.mem_append.mp hy with h | h
    · exact a2 y h
    · exact b2 y h
  · rw [shaped_list] at a4 b4 ⊢
    rw [canAll_app, depthAll_app, a4.1, b4.1]
    exact ⟨rfl, by omega⟩
theorem lst_pV (ps : List (Option Int)) (hl : ps.length ≤ 1000) : Lst K H (pV ps) := ⟨by rw [pV_len]; exact hl, fun y hy => kd_pV hy, _, dpAll_o ps, shaped_o ps⟩
theorem lst_one {d : PyData} (hk : Kd K H x) (hd : Dp K H x d) (h1 : d.canLay0 = true) (h2 : d.depth ≤ 5) : Lst K H [x] := ⟨by simp, fun y hy => by rw [List.mem_singleton.mp hy]; exact hk, [d], .cons hd .nil, by
  rw [shaped_list]
  simp only [PyData.canLayAll0, h1, PyData.depthAll]
  exact ⟨rfl, by omega⟩⟩
theorem cut_pV (ps : List (Option Int)) (lo hi : Option Int) : ∃ qs, cutV (pV ps) lo hi = pV qs ∧ qs.length ≤ ps.length := by
  refine ⟨(ps.drop (HT.sIx (pV ps).length 0 lo)).take (HT.sIx (pV ps).length (pV ps).length hi - HT.sIx (pV ps).length 0 lo), ?_, ?_⟩
  · unfold cutV pV
    rw [← List.map_drop, ← List.map_take]
  · rw [List.length_take, List.length_drop]; omega
end
/-! ### unlike: data, or the same empty dict -/
def rNeX (K : PySem.W.Frag) : R2 := fun x y H Q => rNeD K x y H Q ∨ rNeDA x y H Q
theorem op_neX {X : Cx} (hu : X.A.units + 64 < cLine) : OpR X (compareOp .NotEq) (rNeX X.K) := by
  intro pins s σ H x y v u Q I rx ry h
  rcases h with h | h
  · exact op_neD hu pins s σ H x y v u Q I rx ry h
  · exact op_ne_dictA (by omega) pins s σ H x y v u Q I rx ry h
section
variable {K : PySem.W.Frag} {H : Hp}
theorem rv_neX {x : V} (h : Dat K H x) : RV (rNeX K) x x H (.bl false) := fun H1 e Q q => by
  rcases h with ⟨d, h1, h2⟩ | ⟨a, h1, h2⟩
  · refine .inl ⟨d, d, dp_ex e _ _ h1, dp_ex e _ _ h1, h2, h2, ?_⟩
    rw [SeqAt.eqv_refl d (SeqAt.canLay_of_shaped h2)]
    exact q H1 (Ex.refl H1)
  · exact .inr ⟨a, a, [], [], h1, h1, e _ _ h2, e _ _ h2, rfl, (fun p hp => by cases hp), q H1 (Ex.refl H1)⟩
theorem rv_neXL {a b : Addr} {xs : List V} (h1 : H a = some (.lst xs)) (h2 : H b = some (.lst xs)) (h : Lst K H xs) : RV (rNeX K) (.ref a) (.ref b) H (.bl false) := fun H1 e Q q => by
  obtain ⟨_, _, ds, h3, h4⟩ := h
  refine .inl ⟨.list ds, .list ds, .lst (sq_of (e _ _ h1)) (dpAll_ex e _ _ h3), .lst (sq_of (e _ _ h2)) (dpAll_ex e _ _ h3), h4, h4, ?_⟩
  rw [SeqAt.eqv_refl _ (SeqAt.canLay_of_shaped h4)]
  exact q H1 (Ex.refl H1)
end
/-! ### promises -/
def spSpoilt (K : PySem.W.Frag) : Sp := fun vs H Q _ => ∃ (a : Addr) (P : List Int) (c : Int), vs = [.ref a, .int c] ∧ H a = some (.lst (pV (par P))) ∧ P.length < 200 ∧ 0 ≤ c ∧ ∀ x H', Ex H H' → Thing K H' x → Q x H'
/-- a thing that the law makes, and the bits that it tells -/
def Thr (K : PySem.W.Frag) (H : Hp) (x : V) (r : Option (List Bool)) : Prop := (∃ a xs, x = .ref a ∧ H a = some (.lst xs) ∧ Lst K H xs ∧ r = bitsV xs) ∨ (∃ tv, TyX K H x tv ∧ PySem.W.kitOne K tv (.type "list") = some false ∧ r = none)
theorem Thr.ex {K : PySem.W.Frag} {H H' : Hp} {x : V} {r : Option (List Bool)} (e : Ex H H') (h : Thr K H x r) : Thr K H' x r := by
  rcases h with ⟨a, xs, h1, h2, h3, h4⟩ | ⟨tv, h1, h2, h3⟩
  · exact .inl ⟨a, xs, h1, e _ _ h2, h3.ex e, h4⟩
  · exact .inr ⟨tv, tyx_ex e h1, h2, h3⟩
theorem Thr.th {K : PySem.W.Frag} {H : Hp} {x : V} {r : Option (List Bool)} (h : Thr K H x r) : Th K H x r := by
  rcases h with ⟨a, xs, h1, h2, ⟨h3, h4, _⟩, h5⟩ | ⟨tv, h1, h2, h3⟩
  · exact .inl ⟨a, xs, h1, h2, by omega, h4, h5⟩
  · exact .inr ⟨tv, h1, h2, h3⟩
def spLawIsTree (K : PySem.W.Frag) : Sp := fun vs H Q _ => ∃ (x : V) (r : Option (List Bool)), vs = [x] ∧ Thr K H x r ∧ ∀ H', Ex H H' → Q (.bl r.isSome) H'
theorem sv_lawIsTree {K : PySem.W.Frag} {H : Hp} {x : V} {r : Option (List Bool)} (h : Thr K H x r) : SpV (spLawIsTree K) [x] H (.bl r.isSome) := fun H1 e Q q E => ⟨x, r, rfl, h.ex e, q⟩
theorem chain_at {xs : List V} {i : Nat} {P : List Int} (h : Pre xs i P) {j : Nat} {q : Int} (hq : (run P).st[j]? = some q) : atI xs q = some (oV ((run P).st[j + 1]?)) := by
  have hm := List.mem_of_getElem? hq
  have h1 := (fall_run P).lt q hm
  have h2 := (fall_run P).ge q hm
  rw [run_k, h.ln] at h1
  have hc := chain P h.gd j q hq
  have e : q = ((q.toNat : Nat) : Int) := by omega
  rw [e]
  refine atI_nat ?_
  have e2 : (xs.take (i + 1))[q.toNat]? = xs[q.toNat]? := List.getElem?_take_of_lt (by omega)
  rw [← e2, h.tk]
  unfold pV
  rw [List.getElem?_map, hc]
  rfl
def spRefused (K : PySem.W.Frag) : Sp := fun vs H Q _ => ∃ (x : V), vs = [x] ∧ Th K H x none ∧ ∀ H', Ex H H' → Q (.bl true) H'
def spBounded : Sp := fun vs H Q _ => ∃ (b : Int), vs = [.int b] ∧ (b = 0 ∨ b = 1) ∧ ∀ H', Ex H H' → Q (.bl true) H'
section
variable {K : PySem.W.Frag} {H : Hp}
theorem sv_refused {x : V} (h : Th K H x none) : SpV (spRefused K) [x] H (.bl true) := fun H1 e Q q E => ⟨x, rfl, h.ex e, q⟩
theorem sv_bounded {b : Int} (h : b = 0 ∨ b = 1) : SpV spBounded [.int b] H (.bl true) := fun H1 e Q q E => ⟨b, rfl, h, q⟩
end
end KB
namespace KB
open PySem L2 Evl
theorem bounded_list (b : Int) (hb : b = 0 ∨ b = 1) (n : Nat) : ∃ P, [V.non] ++ given n (fun _ => true) (fun i => V.int ((i : Int) * b)) = pV (par P) ∧ Good P ∧ P.length = n := by
  refine ⟨pathP n b, ?_, path_good b hb n, path_len n b⟩
  unfold given pV par pathP
  rw [List.filter_eq_self.mpr (fun _ _ => rfl), List.map_cons, List.map_map, List.map_map]
  rfl
theorem et_yes {σ : L2.St} {H : Hp} : EvT tYes σ H true := fun H1 _ _ q => q H1 (Ex.refl H1)
end KB
namespace KB
open PySem L2 Evl
theorem shaped_tup {ds : List PyData} (h : SeqAt.shaped (.list ds) = true) : SeqAt.shaped (.tuple ds) = true := by
  have e1 : (PyData.tuple ds).depth = PyData.depthAll ds + 1 := by simp only [PyData.depth]
  have e2 : (PyData.tuple ds).canLay0 = PyData.canLayAll0 ds := by simp only [PyData.canLay0]
  rw [shaped_list] at h
  unfold SeqAt.shaped
  rw [e1, e2, Bool.and_eq_true, decide_eq_true_eq]
  exact ⟨h.1, by omega⟩
section
variable {K : PySem.W.Frag} {H : Hp}
theorem thing_lst {a : Addr} {xs : List V} (h : H a = some (.lst xs)) (h2 : Lst K H xs) : Thing K H (.ref a) := .inl ⟨a, xs, rfl, h, h2⟩
theorem thing_tup {a : Addr} {xs : List V} (h : H a = some (.tup xs)) {ds : List PyData} (h2 : DpAll K H xs ds) (h3 : SeqAt.shaped (.list ds) = true) : Thing K H (.ref a) :=
  .inr ⟨_, .base (.tup h), kit_ty (by decide +kernel), .inl ⟨.tuple ds, .tup (st_of h) h2, shaped_tup h3⟩⟩
theorem thing_dct {a : Addr} (h : H a = some (.dK [])) : Thing K H (.ref a) := .inr ⟨_, .base (.dK h), kit_ty (by decide +kernel), .inr ⟨a, rfl, h⟩⟩
theorem thing_non : Thing K H .non := .inr ⟨_, .base .non, kit_ty (by decide +kernel), .inl ⟨_, .non, by decide +kernel⟩⟩
theorem thing_int (i : Int) (h : SeqAt.shaped (.int i) = true) : Thing K H (.int i) := .inr ⟨_, .base (.int i), kit_ty (by decide +kernel), .inl ⟨_, .int i, h⟩⟩
theorem thing_str (z : Str) (h : SeqAt.shaped (.str z) = true) : Thing K H (.str z) := .inr ⟨_, .base (.str z), kit_ty (by decide +kernel), .inl ⟨_, .str z, h⟩⟩
theorem lst_nil : Lst K H [] := ⟨by simp, (fun y hy => by cases hy), [], .nil, shaped_nil⟩
theorem lst_int (i : Int) : Lst K H [.int i] := lst_one (kd_int i) (.int i) (by simp only [PyData.canLay0]) (by simp only [PyData.depth]; decide)
theorem lst_non : Lst K H [.non] := lst_one kd_non .non (by simp only [PyData.canLay0]) (by simp only [PyData.depth]; decide)
theorem lst_bl (b : Bool) : Lst K H [.bl b] := lst_one (kd_bl b) (.bl b) (by simp only [PyData.canLay0]) (by simp only [PyData.depth]; decide)
theorem lst_str0 : Lst K H [.str (Str.ofString "0")] := lst_one (kd_str _) (.str _) (by decide +kernel) (by simp only [PyData.depth]; decide)
theorem lst_ref0 {a : Addr} (h : H a = some (.lst [.int 0])) : Lst K H [.ref a] := lst_one (d := .list [.int 0]) (kd_lst h) (.lst (sq_of h) (.cons (.int 0) .nil)) (by decide +kernel) (by decide +kernel)
end
end KB

namespace LW
open PySem PySem.Spec PyProof.Rows L2 Evl KB
def topS (i : Nat) : Stmt := PySem.Challenge.pw_knotbits_k01_trees_told.main.body.getD i (.Pass ⟨0, 0, 0, 0⟩)
abbrev s_is_whole : Stmt := topS 7
abbrev s_is_tree : Stmt := topS 10
abbrev s_pressed : Stmt := topS 11
abbrev s_bits_of : Stmt := topS 12
abbrev s_law_cell_at : Stmt := topS 14
abbrev s_law_whole : Stmt := topS 15
abbrev s_law_parents : Stmt := topS 16
abbrev s_law_spoilt : Stmt := topS 17
abbrev s_law_is_tree : Stmt := topS 18
abbrev s_law_refused : Stmt := topS 19
abbrev s_law_bounded : Stmt := topS 20
abbrev s_law : Stmt := topS 21
structure Adr where
  f_is_whole : Addr
  d_is_whole : FuncData
  f_is_tree : Addr
  d_is_tree : FuncData
  f_pressed : Addr
  d_pressed : FuncData
  f_bits_of : Addr
  d_bits_of : FuncData
  f_law_cell_at : Addr
  d_law_cell_at : FuncData
  f_law_whole : Addr
  d_law_whole : FuncData
  f_law_parents : Addr
  d_law_parents : FuncData
  f_law_spoilt : Addr
  d_law_spoilt : FuncData
  f_law_is_tree : Addr
  d_law_is_tree : FuncData
  f_law_refused : Addr
  d_law_refused : FuncData
  f_law_bounded : Addr
  d_law_bounded : FuncData
  f_law : Addr
  d_law : FuncData
  c_KnotError : Addr
  c_NoTree : Addr
  c_NoSize : Addr
  c_NoBlock : Addr
  c_NoKnot : Addr
  t_MOST_KNOTS : Tok
structure Txt (K : PySem.W.Frag) (mg : Str → Option Value) (A : Adr) : Prop where
  F_is_whole : Fun K "is_whole" "is_whole" s_is_whole A.f_is_whole A.d_is_whole
  g_is_whole : mg "is_whole" = some (.ref A.f_is_whole)
  s_is_whole : Binds K A.d_is_whole ["thing"] []
  F_is_tree : Fun K "is_tree" "is_tree" s_is_tree A.f_is_tree A.d_is_tree
  g_is_tree : mg "is_tree" = some (.ref A.f_is_tree)
  s_is_tree : Binds K A.d_is_tree ["parents"] []
  F_pressed : Fun K "pressed" "pressed" s_pressed A.f_pressed A.d_pressed
  g_pressed : mg "pressed" = some (.ref A.f_pressed)
  s_pressed : Binds K A.d_pressed ["parents"] []
  F_bits_of : Fun K "_bits_of" "_bits_of" s_bits_of A.f_bits_of A.d_bits_of
  g_bits_of : mg "_bits_of" = some (.ref A.f_bits_of)
  s_bits_of : Binds K A.d_bits_of ["parents"] []
  F_law_cell_at : Fun K "_law_cell_at" "_law_cell_at" s_law_cell_at A.f_law_cell_at A.d_law_cell_at
  g_law_cell_at : mg "_law_cell_at" = some (.ref A.f_law_cell_at)
  s_law_cell_at : Binds K A.d_law_cell_at ["_law_script", "_law_k"] []
  F_law_whole : Fun K "_law_whole" "_law_whole" s_law_whole A.f_law_whole A.d_law_whole
  g_law_whole : mg "_law_whole" = some (.ref A.f_law_whole)
  s_law_whole : Binds K A.d_law_whole ["_law_found"] []
  F_law_parents : Fun K "_law_parents" "_law_parents" s_law_parents A.f_law_parents A.d_law_parents
  g_law_parents : mg "_law_parents" = some (.ref A.f_law_parents)
  s_law_parents : Binds K A.d_law_parents ["_law_script"] []
  F_law_spoilt : Fun K "_law_spoilt" "_law_spoilt" s_law_spoilt A.f_law_spoilt A.d_law_spoilt
  g_law_spoilt : mg "_law_spoilt" = some (.ref A.f_law_spoilt)
  s_law_spoilt : Binds K A.d_law_spoilt ["_law_parents_here", "_law_cell"] []
  F_law_is_tree : Fun K "_law_is_tree" "_law_is_tree" s_law_is_tree A.f_law_is_tree A.d_law_is_tree
  g_law_is_tree : mg "_law_is_tree" = some (.ref A.f_law_is_tree)
  s_law_is_tree : Binds K A.d_law_is_tree ["_law_thing"] []
  F_law_refused : Fun K "_law_refused" "_law_refused" s_law_refused A.f_law_refused A.d_law_refused
  g_law_refused : mg "_law_refused" = some (.ref A.f_law_refused)
  s_law_refused : Binds K A.d_law_refused ["_law_thing"] []
  F_law_bounded : Fun K "_law_bounded" "_law_bounded" s_law_bounded A.f_law_bounded A.d_law_bounded
  g_law_bounded : mg "_law_bounded" = some (.ref A.f_law_bounded)
  s_law_bounded : Binds K A.d_law_bounded ["_law_path"] []
  F_law : Fun K "law" "law" s_law A.f_law A.d_law
  g_law : mg "law" = some (.ref A.f_law)
  s_law : Binds K A.d_law ["_law_script"] []
  b_ValueError : mg "ValueError" = none
  b_bool : mg "bool" = none
  b_int : mg "int" = none
  b_isinstance : mg "isinstance" = none
  b_len : mg "len" = none
  b_list : mg "list" = none
  b_min : mg "min" = none
  b_range : mg "range" = none
  b_tuple : mg "tuple" = none
  c_MOST_KNOTS : mg "MOST_KNOTS" = some (.int 2000 A.t_MOST_KNOTS)
  g_KnotError : mg "KnotError" = some (.ref A.c_KnotError)
  x_KnotError : PySem.W.excIn K A.c_KnotError [.type "ValueError", .type "Exception", .type "BaseException", .type "object"] "ValueError.__new__" = true
  k_KnotError : PySem.W.keepIn K (.ref A.c_KnotError) = true
  e_KnotError : PySem.W.subIn K (.ref A.c_KnotError) (.type "BaseException") = some true
  t_KnotError : PySem.W.typeIn K (.ref A.c_KnotError) = some (.type "type")
  g_NoTree : mg "NoTree" = some (.ref A.c_NoTree)
  x_NoTree : PySem.W.excIn K A.c_NoTree [.type "ValueError", .type "Exception", .type "BaseException", .type "object"] "ValueError.__new__" = true
  k_NoTree : PySem.W.keepIn K (.ref A.c_NoTree) = true
  e_NoTree : PySem.W.subIn K (.ref A.c_NoTree) (.type "BaseException") = some true
  t_NoTree : PySem.W.typeIn K (.ref A.c_NoTree) = some (.type "type")
  g_NoSize : mg "NoSize" = some (.ref A.c_NoSize)
  x_NoSize : PySem.W.excIn K A.c_NoSize [.type "ValueError", .type "Exception", .type "BaseException", .type "object"] "ValueError.__new__" = true
  k_NoSize : PySem.W.keepIn K (.ref A.c_NoSize) = true
  e_NoSize : PySem.W.subIn K (.ref A.c_NoSize) (.type "BaseException") = some true
  t_NoSize : PySem.W.typeIn K (.ref A.c_NoSize) = some (.type "type")
  g_NoBlock : mg "NoBlock" = some (.ref A.c_NoBlock)
  x_NoBlock : PySem.W.excIn K A.c_NoBlock [.type "ValueError", .type "Exception", .type "BaseException", .type "object"] "ValueError.__new__" = true
  k_NoBlock : PySem.W.keepIn K (.ref A.c_NoBlock) = true
  e_NoBlock : PySem.W.subIn K (.ref A.c_NoBlock) (.type "BaseException") = some true
  t_NoBlock : PySem.W.typeIn K (.ref A.c_NoBlock) = some (.type "type")
  g_NoKnot : mg "NoKnot" = some (.ref A.c_NoKnot)
  x_NoKnot : PySem.W.excIn K A.c_NoKnot [.type "ValueError", .type "Exception", .type "BaseException", .type "object"] "ValueError.__new__" = true
  k_NoKnot : PySem.W.keepIn K (.ref A.c_NoKnot) = true
  e_NoKnot : PySem.W.subIn K (.ref A.c_NoKnot) (.type "BaseException") = some true
  t_NoKnot : PySem.W.typeIn K (.ref A.c_NoKnot) = some (.type "type")
  h_KnotError : PySem.W.hasDictIn K A.c_KnotError = true
  u_NoTree_KnotError : PySem.W.subIn K (.ref A.c_NoTree) (.ref A.c_KnotError) = some true
  h_NoTree : PySem.W.hasDictIn K A.c_NoTree = true
  u_NoTree_NoTree : PySem.W.subIn K (.ref A.c_NoTree) (.ref A.c_NoTree) = some true
  h_NoSize : PySem.W.hasDictIn K A.c_NoSize = true
  u_NoTree_NoSize : PySem.W.subIn K (.ref A.c_NoTree) (.ref A.c_NoSize) = some false
  h_NoBlock : PySem.W.hasDictIn K A.c_NoBlock = true
  u_NoTree_NoBlock : PySem.W.subIn K (.ref A.c_NoTree) (.ref A.c_NoBlock) = some false
  h_NoKnot : PySem.W.hasDictIn K A.c_NoKnot = true
  u_NoTree_NoKnot : PySem.W.subIn K (.ref A.c_NoTree) (.ref A.c_NoKnot) = some false
  u_NoTree_ValueError : PySem.W.subIn K (.ref A.c_NoTree) (.type "ValueError") = some true
  ec_NoTree : ExcC K A.c_NoTree
section
variable {P : Program} {w : World} {K : PySem.W.Frag} {mg : Str → Option Value} {base : Heap} {A : Adr}
theorem sc_is_whole : FnScope ["thing"] ["thing"] (defScope s_is_whole) := ⟨rfl, rfl, rfl, by decide +kernel, rfl, by decide +kernel, by decide +kernel⟩
theorem ok_is_whole (T : Txt K mg A) : FnOk P w K mg base CX0 1 A.f_is_whole A.d_is_whole ["thing"] (spWhole K) := by
  refine T.F_is_whole.ok sc_is_whole (fun vs H Q E h => ?_) (fun cdv A' outer s H vs Q E hr h => ?_)
  · obtain ⟨x, rfl, _⟩ := h
    rfl
  · obtain ⟨x, rfl, ⟨tv, b1, b2, h1, h2, h3, h4⟩, q⟩ := h
    refine ⟨_, (pss_one (ps_ret (pe_and (pe_callB call_isi (by rfl) T.b_isinstance (by decide +kernel) (pa_cons (pv 0) (pa_cons (pe_bltn (v := .ty "int") (by rfl) T.b_int (by decide +kernel) rfl) pa_nil))) (pe_one (pe_not (pe_callB call_isi (by rfl) T.b_isinstance (by decide +kernel) (pa_cons (pv 0) (pa_cons (pe_bltn (v := .ty "bool") (by rfl) T.b_bool (by decide +kernel) rfl) pa_nil)))))))), ?_⟩
    refine s_ret (ev_andV (ev_isi (ev_var rfl) ev_c (.ty _) h1 h2) (fun hb => (ev_notV (ev_isi (ev_var rfl) ev_c (.ty _) h1 h3)))) fun H2 e2 => ?_
    rw [h4]
    exact q H2 e2

theorem sc_bits_of : FnScope ["parents", "pieces", "pending", "knot", "parent"] ["parents"] (defScope s_bits_of) := ⟨rfl, rfl, rfl, by decide +kernel, rfl, by decide +kernel, by decide +kernel⟩
theorem ok_bits_of (T : Txt K mg A) : FnOk P w K mg base CX0 2 A.f_bits_of A.d_bits_of ["parents"] (spBitsOf K) := by
  refine T.F_bits_of.ok sc_bits_of (fun vs H Q E h => ?_) (fun cdv A' outer s H vs Q E hr h => ?_)
  · obtain ⟨x, r, rfl, _⟩ := h
    rfl
  · obtain ⟨x, r, rfl, hT, q⟩ := h
    refine ⟨_, (pss_cons (ps_if (PW.pt (pw_or (pt_not (pt_val (pe_callB call_isi (by rfl) T.b_isinstance (by decide +kernel) (pa_cons (pv 0) (pa_cons (pe_bltn (v := .ty "list") (by rfl) T.b_list (by decide +kernel) rfl) pa_nil))))) (pw_or1 (pt_not (pt_chain op_le op_le pe_int (pe_callB call_len_seq (by rfl) T.b_len PySem.boot_len (pa_cons (pv 0) pa_nil)) (pe_glob (v := .int 2000) (by rfl) T.c_MOST_KNOTS ⟨_, rfl⟩)))))) (pss_one (ps_ret pe_non)) pss_nil) (pss_cons (ps_if (pt_cmpR op_notN (pe_ix ix_list (pv 0) pe_int (fun _ _ => rfl)) pe_non (nomark _)) (pss_one (ps_ret pe_non)) pss_nil) (pss_cons (ps_set (i := 1) sc_bits_of.nd rfl (Or.inl rfl) (pe_lst (pa_cons pe_str pa_nil))) (pss_cons (ps_set (i := 2) sc_bits_of.nd rfl (Or.inl rfl) (pe_lst (pa_cons pe_int pa_nil))) (pss_cons (ps_for PassesOwn.never rfl (pi_range2 (by rfl) T.b_range (pa_cons pe_int (pa_cons (pe_callB call_len_seq (by rfl) T.b_len PySem.boot_len (pa_cons (pv 0) pa_nil)) pa_nil))) (pg_name (i := 3) sc_bits_of.nd rfl (Or.inl rfl)) (pss_cons (ps_set (i := 4) sc_bits_of.nd rfl (Or.inl rfl) (pe_ix ix_list (pv 0) (pv 3) (fun _ _ => rfl))) (pss_cons (ps_if (pt_not (pt_val (pe_call (ok_is_whole T) (hr.mono (by decide)) (by rfl) T.g_is_whole T.F_is_whole.kp T.s_is_whole .nil pass0 (pa_cons (pv 4) pa_nil)))) (pss_one (ps_ret pe_non)) pss_nil) (pss_cons (ps_while PassesOwn.never (PW.pt (pw_and (pt_truth (pv 2) (by intro _; rfl)) (pw_and1 (pt_cmpR op_ne (pe_ix ix_list (pv 2) (pe_un un_neg pe_int) (fun _ _ => rfl)) (pv 4) (nomark _))))) (pss_cons (ps_expr (pe_bm0 PySem.F.plainAttrs_list PySem.F.slot_list_pop PySem.F.type_list_pop mt_pop (pv 2))) (pss_one (ps_expr (pe_bm PySem.F.plainAttrs_list PySem.F.slot_list_append PySem.F.type_list_append mt_append (pv 1) (pa_cons pe_str pa_nil)))))) (pss_cons (ps_if (pt_not (pt_truth (pv 2) (by intro _; rfl))) (pss_one (ps_ret pe_non)) pss_nil) (pss_cons (ps_expr (pe_bm PySem.F.plainAttrs_list PySem.F.slot_list_append PySem.F.type_list_append mt_append (pv 2) (pa_cons (pv 3) pa_nil))) (pss_one (ps_expr (pe_bm PySem.F.plainAttrs_list PySem.F.slot_list_append PySem.F.type_list_append mt_append (pv 1) (pa_cons pe_str pa_nil)))))))))) (pss_cons (ps_expr (pe_bm PySem.F.plainAttrs_list PySem.F.slot_list_append PySem.F.type_list_append mt_append (pv 1) (pa_cons (pe_op op_mulS pe_str (pe_callB call_len_seq (by rfl) T.b_len PySem.boot_len (pa_cons (pv 2) pa_nil))) pa_nil))) (pss_one (ps_ret (pe_join pe_str (pv 1)))))))))), ?_⟩
    rcases hT with ⟨a, xs, rfl, ha, hl, hk, rfl⟩ | ⟨tv, ht1, ht2, rfl⟩
    · refine q_when (et_or (et_not (et_B (ev_isi (ev_var rfl) ev_c (.ty _) (TyX.base (TyOf.lst ha)) (kit_ty (by decide +kernel : kitB "list" "list" = some true))))) (fun hb => (et_not (et_test (ev_chain ev_c (ev_len (ev_var rfl) (sq_of ha)) rv_I0 (fun hb => ev_c) (fun hb => rv_I0)))))) (fun hb H1 e1 => ?_) (fun hb H1 e1 => ?_)
      · rw [no_size (xs := xs) (fun z => by
          have h1 : decide ((1 : Int) ≤ (xs.length : Int)) = true := decide_eq_true (by omega)
          have h2 : decide ((xs.length : Int) ≤ 2000) = true := decide_eq_true (by omega)
          have hb' : (!true || !(decide ((1 : Int) ≤ (xs.length : Int)) && decide ((xs.length : Int) ≤ 2000))) = true := hb
          rw [h1, h2] at hb'
          cases hb')] at q
        exact s_ret ev_c fun H2 e2 => q H2 (e1.trans e2)
      have hb' : (!true || !(decide ((1 : Int) ≤ (xs.length : Int)) && decide ((xs.length : Int) ≤ 2000))) = false := hb
      have hn : 1 ≤ xs.length ∧ xs.length ≤ 2000 := by
        simp at hb'
        omega
      clear hb hb'
      have ha1 := e1 _ _ ha
      obtain ⟨y0, hy0⟩ : ∃ y, xs[0]? = some y := ⟨_, List.getElem?_eq_getElem (by omega)⟩
      refine q_when (et_test (ev_op (ev_op (ev_var rfl) ev_c (rv_ixL (sq_of ha1) (atI_nat (j := 0) hy0))) ev_c rv_notN)) (fun hb H2 e2 => ?_) (fun hb H2 e2 => ?_)
      · rw [no_first hy0 (fun z => by
          have hb' : (!decide (y0 = V.non)) = true := hb
          rw [z, decide_eq_true rfl] at hb'
          cases hb')] at q
        exact s_ret ev_c fun H3 e3 => q H3 ((e1.trans e2).trans e3)
      have hy : y0 = .non := by
        have hb' : (!decide (y0 = V.non)) = false := hb
        simpa using hb'
      subst hy
      clear hb
      have e02 := e1.trans e2
      refine q_asgL (el_lst (ea_cons ev_c ea_nil) (by simp)) fun pc H3 nc e3 h3 => ?_
      refine q_asgL (el_lst (ea_cons ev_c ea_nil) (by simp)) fun pd H4 nd' e4 h4 => ?_
      have e04 := (e02.trans e3).trans e4
      have ncd : pc ≠ pd := ne_of_none h3 nd'
      have hln : (xs.length : Int) ≤ 2000 := by omega
      refine q_forR2 (ea_cons ev_c (ea_cons (ev_len (ev_var rfl) (sq_of (e04 _ _ ha))) ea_nil)) ⟨by omega, by omega, by omega, by omega⟩
        (fun (i : Nat) (σ' : L2.St) (H' : Hp) => ∃ (P : List Int) (y3 y4 : Option V), Pre xs i P ∧ Ex H H' ∧ Pcs H H' pc (run P).bs ∧ Own H H' pd (stk (run P).st) ∧ σ' = [some (.ref a), some (.ref pc), some (.ref pd), y3, y4]) ?_ ?_ ?_
      · intro H5 e5
        refine ⟨[], none, none, ⟨?_, rfl, good_nil⟩, e04.trans e5, ⟨["1"], ⟨fresh_back e02 nc, e5 _ _ (e4 _ _ h3)⟩, by rw [txt_1, catS_one, txt_cps]; rfl, Nat.le_refl _⟩, ⟨fresh_back (e02.trans e3) nd', e5 _ _ h4⟩, rfl⟩
        rw [take_more hy0]
        rfl
      · rintro i σ' H5 hi ⟨P, y3, y4, hP, e5, hpc, hpd, rfl⟩
        have hli : i + 1 < xs.length := by omega
        have hPl := hP.ln
        have hsum := sum_run P
        obtain ⟨y, hy⟩ : ∃ y, xs[i + 1]? = some y := ⟨_, List.getElem?_eq_getElem hli⟩
        have hat : atI xs (1 + (i : Int)) = some y := by
          rw [show (1 : Int) + (i : Int) = ((i + 1 : Nat) : Int) by omega]
          exact atI_nat hy
        refine q_asg (ev_op (ev_var rfl) (ev_var rfl) (rv_ixL (sq_of (e5 _ _ ha)) hat)) fun H6 e6 => ?_
        have e06 := e5.trans e6
        have hkd : Kd K H6 y := (hk y (List.mem_of_getElem? hy)).ex e06
        refine q_when (et_not (et_B (ev_call (ea_cons (ev_var rfl) ea_nil) (sv_whole hkd)))) (fun hb H7 e7 => ?_) (fun hb H7 e7 => ?_)
        · rw [hP.no hy (by simpa using hb)] at q
          exact s_ret ev_c fun H8 e8 => q H8 ((e06.trans e7).trans e8)
        obtain ⟨p, rfl⟩ : ∃ p, y = .int p := by
          have hb' : isInt y = true := by simpa using hb
          cases y with
          | int p => exact ⟨p, rfl⟩
          | _ => cases hb'
        clear hb hkd hat
        obtain ⟨J, hJl, hJ, hJe⟩ := pop_to (run P).st p
        have e07 := e06.trans e7
        refine q_while (fun (m : Nat) (σ2 : L2.St) (H8 : Hp) => ∃ j, j ≤ J ∧ m = J - j ∧ Ex H H8 ∧ Pcs H H8 pc ((run P).bs ++ List.replicate j false) ∧ Own H H8 pd (stk ((run P).st.drop j)) ∧
          σ2 = [some (.ref a), some (.ref pc), some (.ref pd), some (.int (1 + (i : Int))), some (.int p)]) J ?_ ?_
        · refine ⟨0, Nat.zero_le _, rfl, e07, ?_, (hpd.ex e6).ex e7, rfl⟩
          rw [List.replicate_zero, List.append_nil]
          exact (hpc.ex e6).ex e7
        · rintro m σ2 H8 ⟨j, hj, rfl, e8, hpc8, hpd8, rfl⟩
          refine ⟨decide (j < J), ?_, fun hb H9 e9 => ?_, fun hb H9 e9 => ?_⟩
          · by_cases hjl : j < (run P).st.length
            · obtain ⟨qq, hq⟩ : ∃ qq, (run P).st[j]? = some qq := ⟨_, List.getElem?_eq_getElem hjl⟩
              rw [drop_cons hq] at hpd8
              refine et_is (et_and (et_truth (ev_var rfl) (tru_l hpd8.sq)) (fun hb => (et_test (ev_op (ev_op (ev_var rfl) (ev_un ev_c ru_neg) (rv_ixL hpd8.sq (stk_last _ _))) (ev_var rfl) (rv_ne rfl))))) ?_
              have e1' : (!(stk (qq :: (run P).st.drop (j + 1))).isEmpty) = true := by rw [stk_emp]; rfl
              show ((!(stk (qq :: (run P).st.drop (j + 1))).isEmpty) && !decide (V.int qq = V.int p)) = decide (j < J)
              rw [e1', Bool.true_and]
              by_cases hjJ : j < J
              · obtain ⟨q2, hq2, hqp⟩ := hJ j hjJ
                rw [hq] at hq2
                cases hq2
                rw [decide_eq_true hjJ, decide_eq_false (fun e => hqp (V.int.inj e))]
                rfl
              · have ej : j = J := by omega
                subst ej
                rcases hJe with ⟨hJe, _⟩ | hJe
                · omega
                · rw [hq] at hJe
                  cases hJe
                  rw [decide_eq_false hjJ, decide_eq_true rfl]
                  rfl
            · have hd : (run P).st.drop j = [] := List.drop_eq_nil_of_le (by omega)
              rw [hd] at hpd8
              rw [decide_eq_false (show ¬ j < J by omega)]
              exact et_is (et_and (et_truth (ev_var rfl) (tru_l hpd8.sq)) (b := true) (fun hb => nomatch hb)) rfl
          · have hjJ : j < J := of_decide_eq_true hb
            obtain ⟨qq, hq, hqp⟩ := hJ j hjJ
            rw [drop_cons hq] at hpd8
            refine ⟨_, fun σ3 H6 h => h, ?_⟩
            have hpd9 := hpd8.ex e9
            refine q_pop hpd9.at_ (ev_var rfl) (stk_top _ _) fun H10 e10 => ?_
            rw [stk_pop]
            obtain ⟨ys, ho, hc, hyl⟩ := ((hpc8.ex e9).ex e10).off (b := pd) (o := .lst (stk ((run P).st.drop (j + 1)))) ncd
            have hyl2 := hyl
            rw [List.length_append, List.length_replicate] at hyl2
            refine s_app ho.at_ (ev_var rfl) ev_c (by rw [List.length_map]; omega) fun H11 e11 => ?_
            refine ⟨J - (j + 1), by omega, j + 1, hjJ, rfl, ?_, ?_, ?_, rfl⟩
            · exact (((((e8.trans e9).trans e10).mut hpd.nw)).trans e11).mut ho.nw
            · rw [List.replicate_succ', ← List.append_assoc, txt_0]
              exact pcs_add ho.nw hc hyl (Nat.le_refl _)
            · have z : Own H (upd H10 pd (.lst (stk ((run P).st.drop (j + 1))))) pd (stk ((run P).st.drop (j + 1))) := hpd9.put
              exact (z.ex e11).off ncd.symm
          · have ej : j = J := by
              have z := of_decide_eq_false hb
              omega
            subst ej
            have hpc9 := hpc8.ex e9
            have hpd9 := hpd8.ex e9
            have e09 := e8.trans e9
            refine q_when (et_not (et_truth (ev_var rfl) (tru_l hpd9.sq))) (fun hb2 H10 e10 => ?_) (fun hb2 H10 e10 => ?_)
            · have hem : ((run P).st.drop j).isEmpty = true := by
                have z : (!!(stk ((run P).st.drop j)).isEmpty) = true := hb2
                rw [stk_emp] at z
                simpa using z
              rcases hJe with ⟨_, hno⟩ | hJe
              · rw [hP.off hy hno] at q
                exact s_ret ev_c fun H11 e11 => q H11 ((e09.trans e10).trans e11)
              · rw [drop_cons hJe] at hem
                cases hem
            have hJp : (run P).st[j]? = some p := by
              rcases hJe with ⟨hJe, _⟩ | hJe
              · have z : (!!(stk ((run P).st.drop j)).isEmpty) = false := hb2
                rw [stk_emp, List.drop_eq_nil_of_le (by omega)] at z
                cases z
              · exact hJe
            have hpc10 := hpc9.ex e10
            have hpd10 := hpd9.ex e10
            refine q_app hpd10.at_ (ev_var rfl) (ev_var rfl) (by rw [stk_len, List.length_drop]; omega) fun H11 e11 => ?_
            obtain ⟨ys, ho, hc, hyl⟩ := (hpc10.ex e11).off (b := pd) (o := .lst (stk ((run P).st.drop j) ++ [.int (1 + (i : Int))])) ncd
            have hyl2 := hyl
            rw [List.length_append, List.length_replicate] at hyl2
            refine s_app ho.at_ (ev_var rfl) ev_c (by rw [List.length_map]; omega) fun H12 e12 => ?_
            have er : run (P ++ [p]) = ⟨(run P).k :: (run P).st.drop j, (run P).bs ++ List.replicate j false ++ [true], (run P).k + 1⟩ := by rw [run_app, adv_place (fall_run _) hJp]
            refine ⟨P ++ [p], some (.int (1 + (i : Int))), some (.int p), hP.more hy (List.mem_of_getElem? hJp), ?_, ?_, ?_, rfl⟩
            · exact (((((e09.trans e10).trans e11).mut hpd.nw)).trans e12).mut ho.nw
            · rw [er, txt_1]
              exact pcs_add ho.nw hc hyl (Nat.le_refl _)
            · rw [er, stk_cons, run_k, hPl, Int.add_comm]
              have z : Own H (upd H11 pd (.lst (stk ((run P).st.drop j) ++ [.int (1 + (i : Int))]))) pd (stk ((run P).st.drop j) ++ [.int (1 + (i : Int))]) := hpd10.put
              exact (z.ex e12).off ncd.symm
      · rintro σ' H5 ⟨P, y3, y4, hP, e5, hpc, hpd, rfl⟩
        have en : ((xs.length : Int) - 1).toNat = xs.length - 1 := by omega
        rw [en] at hP
        have hsum := sum_run P
        have hPl := hP.ln
        rw [hP.all (by omega) hn.2] at q
        obtain ⟨ys, ho, hc, hyl⟩ := hpc
        refine q_app ho.at_ (ev_var rfl) (ev_op ev_c (ev_len (ev_var rfl) hpd.sq) (rv_mulS (⟨by omega, by rw [stk_len]; omega⟩))) (by rw [List.length_map]; omega) fun H6 e6 => ?_
        rw [stk_len, Int.toNat_natCast]
        have hpf : Own H (upd H6 pc (.lst (ys.map V.str ++ [.str (txt (List.replicate (run P).st.length false))]))) pc ((ys ++ [txt (List.replicate (run P).st.length false)]).map V.str) := ⟨ho.nw, by rw [upd_same, List.map_append]; rfl⟩
        have hcf : catS (ys ++ [txt (List.replicate (run P).st.length false)]) = codes (full P) := by
          rw [catS_app, hc, catS_one, txt_cps, ← codes_app]
          rfl
        have hel : (Str.ofString "").length = 0 := by decide +kernel
        refine s_ret (ev_join ev_c (ev_var rfl) hpf.sq (by rw [catS_sum, hcf, codes_len, full_len, hel]; omega)) fun H7 e7 => ?_
        rw [join_cat, hcf]
        exact q H7 (((e5.trans e6).mut ho.nw).trans e7)
    · refine q_when (b := true) (et_is (et_or (et_not (et_B (ev_isi (ev_var rfl) ev_c (.ty _) ht1 ht2))) (b := true) (fun hb => nomatch hb)) rfl) (fun hb H1 e1 => ?_) (fun hb => nomatch hb)
      exact s_ret ev_c fun H2 e2 => q H2 (e1.trans e2)

theorem sc_is_tree : FnScope ["parents"] ["parents"] (defScope s_is_tree) := ⟨rfl, rfl, rfl, by decide +kernel, rfl, by decide +kernel, by decide +kernel⟩
theorem ok_is_tree (T : Txt K mg A) : FnOk P w K mg base CX0 3 A.f_is_tree A.d_is_tree ["parents"] (spIsTree K) := by
  refine T.F_is_tree.ok sc_is_tree (fun vs H Q E h => ?_) (fun cdv A' outer s H vs Q E hr h => ?_)
  · obtain ⟨x, r, rfl, _⟩ := h
    rfl
  · obtain ⟨x, r, rfl, hT, q⟩ := h
    refine ⟨_, (pss_one (ps_ret (pe_cmpR op_notN (pe_call (ok_bits_of T) (hr.mono (by decide)) (by rfl) T.g_bits_of T.F_bits_of.kp T.s_bits_of .nil pass0 (pa_cons (pv 0) pa_nil)) pe_non (nomark _)))), ?_⟩
    refine s_ret (ev_op (ev_call (ea_cons (ev_var rfl) ea_nil) (sv_bitsOf hT)) ev_c rv_notN) fun H1 e1 => ?_
    have z := q H1 e1
    cases r with
    | none => exact z
    | some bs => exact z

theorem sc_pressed : FnScope ["parents", "bits"] ["parents"] (defScope s_pressed) := ⟨rfl, rfl, rfl, by decide +kernel, rfl, by decide +kernel, by decide +kernel⟩
theorem ok_pressed (T : Txt K mg A) : FnOk P w K mg base (L2.CX P w) 3 A.f_pressed A.d_pressed ["parents"] (spPressed K A.c_NoTree) := by
  refine T.F_pressed.okX sc_pressed (fun vs H Q E h => ?_) (fun cdv A' outer s H vs Q E hr h => ?_)
  · obtain ⟨x, r, rfl, _⟩ := h
    rfl
  · obtain ⟨x, r, rfl, hT, qs, qn⟩ := h
    refine ⟨_, (pss_cons (ps_set (i := 1) sc_pressed.nd rfl (Or.inl rfl) (pe_call (ok_bits_of T) (hr.mono (by decide)) (by rfl) T.g_bits_of T.F_bits_of.kp T.s_bits_of .nil pass0 (pa_cons (pv 0) pa_nil))) (pss_cons (ps_if (pt_cmpR op_isN (pv 1) pe_non (nomark _)) (pss_one (ps_raise rfl (takes_of rfl rfl rfl rfl) (pmk_own PySem.F.excBase_ValueError T.x_NoTree T.g_NoTree T.k_NoTree (raises_own T.e_NoTree T.t_NoTree) (by exact rfl)))) pss_nil) (pss_one (ps_ret (pv 1))))), ?_⟩
    refine q_asg (ev_call (ea_cons (ev_var rfl) ea_nil) (sv_bitsOf hT)) fun H1 e1 => ?_
    cases r with
    | none =>
      refine q_when (b := true) (et_test (ev_op (ev_var rfl) ev_c rv_isN)) (fun hb H2 e2 => ?_) (fun hb => nomatch hb)
      exact qn rfl H2 (e1.trans e2)
    | some bs =>
      refine q_when (b := false) (et_is (et_test (ev_op (ev_var rfl) ev_c rv_isN)) rfl) (fun hb => nomatch hb) (fun hb H2 e2 => ?_)
      exact s_ret (ev_var rfl) fun H3 e3 => qs bs rfl H3 ((e1.trans e2).trans e3)

theorem sc_law_cell_at : FnScope ["_law_script", "_law_k"] ["_law_script", "_law_k"] (defScope s_law_cell_at) := ⟨rfl, rfl, rfl, by decide +kernel, rfl, by decide +kernel, by decide +kernel⟩
theorem ok_law_cell_at (T : Txt K mg A) : FnOk P w K mg base CX0 1 A.f_law_cell_at A.d_law_cell_at ["_law_script", "_law_k"] (spCel K) := by
  refine T.F_law_cell_at.ok sc_law_cell_at (fun vs H Q E h => ?_) (fun cdv A' outer s H vs Q E hr h => ?_)
  · obtain ⟨a, ns, k, rfl, _⟩ := h
    rfl
  · obtain ⟨a, ns, k, rfl, hS, q⟩ := h
    refine ⟨_, (pss_cons (ps_if (pt_cmpR op_lt (pv 1) (pe_callB call_len_seq (by rfl) T.b_len PySem.boot_len (pa_cons (pv 0) pa_nil)) (nomark _)) (pss_one (ps_ret (pe_op op_mod (pe_op op_add (pe_op op_add (pe_op op_mul (pe_ix ix_list (pv 0) (pv 1) (fun _ _ => rfl)) pe_int) (pe_op op_mul pe_int (pv 1))) pe_int) pe_int))) pss_nil) (pss_one (ps_ret (pe_op op_mod (pe_op op_mul pe_int (pv 1)) pe_int)))), ?_⟩
    refine q_when (et_test (ev_op (ev_var rfl) (ev_len (ev_var rfl) hS) rv_I0)) (fun hb H1 e1 => ?_) (fun hb H1 e1 => ?_)
    · have hk : k < ns.length := by
        have z := of_decide_eq_true hb
        rw [List.length_map] at z
        omega
      have hx : (ns.map V.int)[k]? = some (.int (ns.getD k 0)) := by
        rw [List.getElem?_map, List.getElem?_eq_getElem hk, List.getD_eq_getElem?_getD, List.getElem?_eq_getElem hk]
        rfl
      have hS1 := ex_l e1 hS
      refine s_ret (ev_op (ev_op (ev_op (ev_op (ev_op (ev_var rfl) (ev_var rfl) (rv_ixL hS1 (atI_nat hx))) ev_c (rv_I (.inr ⟨by decide, by decide⟩))) (ev_op ev_c (ev_var rfl) (rv_I (.inl ⟨by decide, by decide⟩))) rv_I0) ev_c rv_I0) ev_c (rv_I (by decide))) fun H2 e2 => ?_
      have z := q H2 (e1.trans e2)
      unfold cell at z
      rw [if_pos hk] at z
      exact z
    · have hk : ¬ k < ns.length := by
        have z := of_decide_eq_false hb
        rw [List.length_map] at z
        omega
      refine s_ret (ev_op (ev_op ev_c (ev_var rfl) (rv_I (.inl ⟨by decide, by decide⟩))) ev_c (rv_I (by decide))) fun H2 e2 => ?_
      have z := q H2 (e1.trans e2)
      unfold cell at z
      rw [if_neg hk] at z
      exact z

theorem sc_law_whole : FnScope ["_law_found"] ["_law_found"] (defScope s_law_whole) := ⟨rfl, rfl, rfl, by decide +kernel, rfl, by decide +kernel, by decide +kernel⟩
theorem ok_law_whole (T : Txt K mg A) : FnOk P w K mg base CX0 1 A.f_law_whole A.d_law_whole ["_law_found"] (spWhole K) := by
  refine T.F_law_whole.ok sc_law_whole (fun vs H Q E h => ?_) (fun cdv A' outer s H vs Q E hr h => ?_)
  · obtain ⟨x, rfl, _⟩ := h
    rfl
  · obtain ⟨x, rfl, ⟨tv, b1, b2, h1, h2, h3, h4⟩, q⟩ := h
    refine ⟨_, (pss_one (ps_ret (pe_and (pe_callB call_isi (by rfl) T.b_isinstance (by decide +kernel) (pa_cons (pv 0) (pa_cons (pe_bltn (v := .ty "int") (by rfl) T.b_int (by decide +kernel) rfl) pa_nil))) (pe_one (pe_not (pe_callB call_isi (by rfl) T.b_isinstance (by decide +kernel) (pa_cons (pv 0) (pa_cons (pe_bltn (v := .ty "bool") (by rfl) T.b_bool (by decide +kernel) rfl) pa_nil)))))))), ?_⟩
    refine s_ret (ev_andV (ev_isi (ev_var rfl) ev_c (.ty _) h1 h2) (fun hb => (ev_notV (ev_isi (ev_var rfl) ev_c (.ty _) h1 h3)))) fun H2 e2 => ?_
    rw [h4]
    exact q H2 e2

theorem sc_law_parents : FnScope ["_law_script", "_law_many", "_law_shape", "_law_parents_here", "_law_way", "_law_k", "_law_cell", "_law_up"] ["_law_script"] (defScope s_law_parents) := ⟨rfl, rfl, rfl, by decide +kernel, rfl, by decide +kernel, by decide +kernel⟩
theorem ok_law_parents (T : Txt K mg A) : FnOk P w K mg base CX0 2 A.f_law_parents A.d_law_parents ["_law_script"] (spParents K) := by
  refine T.F_law_parents.ok sc_law_parents (fun vs H Q E h => ?_) (fun cdv A' outer s H vs Q E hr h => ?_)
  · obtain ⟨a, ns, rfl, _⟩ := h
    rfl
  · obtain ⟨a, ns, rfl, hS, q⟩ := h
    refine ⟨_, (pss_cons (ps_set (i := 1) sc_law_parents.nd rfl (Or.inl rfl) (pe_op op_add pe_int (pe_op op_mod (pe_call (ok_law_cell_at T) (hr.mono (by decide)) (by rfl) T.g_law_cell_at T.F_law_cell_at.kp T.s_law_cell_at .nil pass0 (pa_cons (pv 0) (pa_cons pe_int pa_nil))) pe_int))) (pss_cut (ps_if (pt_cmpR op_eq (pe_op op_mod (pe_call (ok_law_cell_at T) (hr.mono (by decide)) (by rfl) T.g_law_cell_at T.F_law_cell_at.kp T.s_law_cell_at .nil pass0 (pa_cons (pv 0) (pa_cons pe_int pa_nil))) pe_int) pe_int (nomark _)) (pss_one (ps_set (i := 1) sc_law_parents.nd rfl (Or.inl rfl) (pe_op op_add pe_int (pe_op op_mod (pe_call (ok_law_cell_at T) (hr.mono (by decide)) (by rfl) T.g_law_cell_at T.F_law_cell_at.kp T.s_law_cell_at .nil pass0 (pa_cons (pv 0) (pa_cons pe_int pa_nil))) pe_int)))) pss_nil) (pss_cons (ps_set (i := 2) sc_law_parents.nd rfl (Or.inl rfl) (pe_op op_mod (pe_op op_fdiv (pe_call (ok_law_cell_at T) (hr.mono (by decide)) (by rfl) T.g_law_cell_at T.F_law_cell_at.kp T.s_law_cell_at .nil pass0 (pa_cons (pv 0) (pa_cons pe_int pa_nil))) pe_int) pe_int)) (pss_cons (ps_set (i := 3) sc_law_parents.nd rfl (Or.inl rfl) (pe_lst (pa_cons pe_non pa_nil))) (pss_cons (ps_set (i := 4) sc_law_parents.nd rfl (Or.inl rfl) (pe_lst (pa_cons pe_int pa_nil))) (pss_cons (ps_for PassesOwn.never rfl (pi_range2 (by rfl) T.b_range (pa_cons pe_int (pa_cons (pv 1) pa_nil))) (pg_name (i := 5) sc_law_parents.nd rfl (Or.inl rfl)) (pss_cons (ps_set (i := 6) sc_law_parents.nd rfl (Or.inl rfl) (pe_op op_add (pe_call (ok_law_cell_at T) (hr.mono (by decide)) (by rfl) T.g_law_cell_at T.F_law_cell_at.kp T.s_law_cell_at .nil pass0 (pa_cons (pv 0) (pa_cons (pe_op op_add pe_int (pe_op op_mod (pv 5) pe_int)) pa_nil))) (pe_op op_mul (pe_op op_mul pe_int (pv 5)) (pe_op op_add pe_int (pe_op op_fdiv (pv 5) pe_int))))) (pss_cons (ps_set (i := 7) sc_law_parents.nd rfl (Or.inl rfl) (pe_ix ix_list (pe_lst (pa_cons (pe_op op_mod (pv 6) pe_int) (pa_cons (pe_op op_mod (pv 6) pe_int) (pa_cons pe_int (pa_cons (pe_op op_sub (pe_callB call_len_seq (by rfl) T.b_len PySem.boot_len (pa_cons (pv 4) pa_nil)) pe_int) (pa_cons (pe_op op_mod (pv 6) (pe_callB call_len_seq (by rfl) T.b_len PySem.boot_len (pa_cons (pv 4) pa_nil))) (pa_cons (pe_op op_mul (pe_op op_fdiv (pe_op op_mod (pv 6) pe_int) pe_int) pe_int) pa_nil))))))) (pv 2) (fun _ _ => rfl))) (pss_cons (ps_set (i := 4) sc_law_parents.nd rfl (Or.inl rfl) (pe_slice sl_list (pv 4) po_none (po_some (pe_op op_sub (pe_callB call_len_seq (by rfl) T.b_len PySem.boot_len (pa_cons (pv 4) pa_nil)) (pe_callB (call_min2 rfl) (by rfl) T.b_min (by decide +kernel) (pa_cons (pv 7) (pa_cons (pe_op op_sub (pe_callB call_len_seq (by rfl) T.b_len PySem.boot_len (pa_cons (pv 4) pa_nil)) pe_int) pa_nil))))))) (pss_cons (ps_expr (pe_bm PySem.F.plainAttrs_list PySem.F.slot_list_append PySem.F.type_list_append mt_append (pv 3) (pa_cons (pe_ix ix_list (pv 4) (pe_un un_neg pe_int) (fun _ _ => rfl)) pa_nil))) (pss_one (ps_expr (pe_bm PySem.F.plainAttrs_list PySem.F.slot_list_append PySem.F.type_list_append mt_append (pv 4) (pa_cons (pv 5) pa_nil))))))))) (pss_one (ps_ret (pv 3))))))))), ?_⟩
    have g0 := cell_ge ns 0
    have g1 := cell_ge ns 1
    -- how many
    refine q_asg (ev_op ev_c (ev_op (ev_call (ea_cons (ev_var rfl) (ea_cons ev_c ea_nil)) (sv_cell 0 rfl hS)) ev_c (rv_I (by decide))) rv_I0) fun H1 e1 => ?_
    have hS1 := ex_l e1 hS
    refine q_cut (M := fun σ H2 => ∃ m : Int, 1 ≤ m ∧ m ≤ 160 ∧ Ex H H2 ∧ σ = [some (.ref a), some (.int m), none, none, none, none, none, none]) ?_ ?_
    · refine s_when (et_test (ev_op (ev_op (ev_call (ea_cons (ev_var rfl) (ea_cons ev_c ea_nil)) (sv_cell 1 rfl hS1)) ev_c (rv_I (by decide))) ev_c (rv_eq rfl))) (fun hb H2 e2 => ?_) (fun hb H2 e2 => ?_)
      · refine s_asg (ev_op ev_c (ev_op (ev_call (ea_cons (ev_var rfl) (ea_cons ev_c ea_nil)) (sv_cell 0 rfl (ex_l e2 hS1))) ev_c (rv_I (by decide))) rv_I0) fun H3 e3 => ?_
        exact ⟨_, by omega, by omega, (e1.trans e2).trans e3, rfl⟩
      · exact ⟨_, by omega, by omega, e1.trans e2, rfl⟩
    rintro σ H2 ⟨m, hm1, hm2, e2, rfl⟩
    have hS2 := ex_l e2 hS
    -- the shape
    refine q_asg (ev_op (ev_op (ev_call (ea_cons (ev_var rfl) (ea_cons ev_c ea_nil)) (sv_cell 1 rfl hS2)) ev_c (rv_I ⟨by decide, by decide⟩)) ev_c (rv_I (by decide))) fun H3 e3 => ?_
    have e03 := e2.trans e3
    have hS3 := ex_l e03 hS
    generalize hsh : cell ns 1 / 3 % 6 = sh
    have hs0 : 0 ≤ sh := by omega
    have hs1 : sh < 6 := by omega
    refine q_asgL (el_lst (ea_cons ev_c ea_nil) (by simp)) fun pp H4 np e4 h4 => ?_
    have e04 := e03.trans e4
    refine q_asgL (el_lst (ea_cons ev_c ea_nil) (by simp)) fun pw H5 nw e5 h5 => ?_
    have e05 := e04.trans e5
    have npw : pp ≠ pw := ne_of_none h4 nw
    have np0 : H pp = none := fresh_back e03 np
    have nw0 : H pw = none := fresh_back e04 nw
    -- the loop
    refine q_forR2 (ea_cons ev_c (ea_cons (ev_var rfl) ea_nil)) ⟨by omega, by omega, by omega, by omega⟩
      (fun (i : Nat) (σ' : L2.St) (H' : Hp) => ∃ (P : List Int) (pw : Addr) (y5 y6 y7 : Option V), P.length = i ∧ Good P ∧ Ex H H' ∧ Own H H' pp (pV (par P)) ∧ Own H H' pw (stk (run P).st) ∧ pp ≠ pw ∧
        σ' = [some (.ref a), some (.int m), some (.int sh), some (.ref pp), some (.ref pw), y5, y6, y7]) ?_ ?_ ?_
    · intro H6 e6
      exact ⟨[], pw, none, none, none, rfl, good_nil, e05.trans e6, ⟨np0, e6 _ _ (e5 _ _ h4)⟩, ⟨nw0, e6 _ _ h5⟩, npw, rfl⟩
    · rintro i σ' H6 hi ⟨P, pw, y5, y6, y7, hl, hg, e6, ho, hw, npw, rfl⟩
      have hS6 := ex_l e6 hS
      have hlen := stk_len (run P).st
      have hpos := run_pos P
      have hle := st_le P
      refine q_asg (ev_op (ev_call (ea_cons (ev_var rfl) (ea_cons (ev_op ev_c (ev_op (ev_var rfl) ev_c (rv_I (by decide))) rv_I0) ea_nil)) (sv_cell (2 + (1 + i) % 23) (by omega) hS6)) (ev_op (ev_op ev_c (ev_var rfl) (rv_I (.inl ⟨by decide, by decide⟩))) (ev_op ev_c (ev_op (ev_var rfl) ev_c (rv_I ⟨by decide, by decide⟩)) rv_I0) (rv_I (.inr ⟨by omega, by omega⟩))) rv_I0) fun H7 e7 => ?_
      generalize cell ns (2 + (1 + i) % 23) + 7919 * (1 + (i : Int)) * (1 + (1 + (i : Int)) / 23) = c
      have hw7 := hw.ex e7
      have ho7 := ho.ex e7
      obtain ⟨u, hu0, hu⟩ := atI_six (a0 := c % 3) (a1 := c % 2) (a2 := 0) (a3 := ((stk (run P).st).length : Int) - 1) (a4 := c % ((stk (run P).st).length : Int)) (a5 := c % 7 / 5 * 9)
        (by omega) (by omega) (by omega) (by omega) (Int.emod_nonneg _ (by omega)) (by omega) hs0 hs1
      refine q_asg (ev_opL1 (el_lst (ea_cons (ev_op (ev_var rfl) ev_c (rv_I (by decide))) (ea_cons (ev_op (ev_var rfl) ev_c (rv_I (by decide))) (ea_cons ev_c (ea_cons (ev_op (ev_len (ev_var rfl) hw7.sq) ev_c rv_I0) (ea_cons (ev_op (ev_var rfl) (ev_len (ev_var rfl) hw7.sq) (rv_I (by omega))) (ea_cons (ev_op (ev_op (ev_op (ev_var rfl) ev_c (rv_I (by decide))) ev_c (rv_I ⟨by decide, by decide⟩)) ev_c (rv_I (.inr ⟨by decide, by decide⟩))) ea_nil)))))) (by simp)) (fun _ e1 => Ev.mono e1 (ev_var rfl)) (fun _ _ hp e1 => rv_ixL (sq_of hp) hu)) fun H8 e8 => ?_
      have hw8 := hw7.ex e8
      have ho8 := ho7.ex e8
      refine q_asgL (el_sl (ev_var rfl) eo_none (eo_some (ev_op (ev_len (ev_var rfl) hw8.sq) (ev_min2 (ev_var rfl) (ev_op (ev_len (ev_var rfl) hw8.sq) ev_c rv_I0)) rv_I0)) hw8.sq) fun pv' H9 nv e9 h9 => ?_
      obtain ⟨j, hj, ej⟩ : ∃ j : Nat, j < (run P).st.length ∧ ((stk (run P).st).length : Int) - min u (((stk (run P).st).length : Int) - 1) = (((run P).st.length - j : Nat) : Int) :=
        ⟨(min u ((run P).st.length - 1)).toNat, by omega, by omega⟩
      rw [stk_cut _ j ej] at h9
      have ho9 := ho8.ex e9
      have e69 := ((e6.trans e7).trans e8).trans e9
      have hv9 : Own H H9 pv' (stk ((run P).st.drop j)) := ⟨fresh_back ((e6.trans e7).trans e8) nv, h9⟩
      have npv : pp ≠ pv' := ho8.ne nv
      obtain ⟨p, hp⟩ : ∃ p, (run P).st[j]? = some p := ⟨_, List.getElem?_eq_getElem hj⟩
      have hd : (run P).st.drop j = p :: (run P).st.drop (j + 1) := by
        obtain ⟨h1, h2⟩ := List.getElem?_eq_some_iff.mp hp
        rw [List.drop_eq_getElem_cons h1, h2]
      refine q_app ho9.at_ (ev_var rfl) (ev_op (ev_var rfl) (ev_un ev_c ru_neg) (rv_ixL hv9.sq (by rw [hd]; exact stk_last _ _))) (by rw [pV_len, par_len]; omega) fun H10 e10 => ?_
      have hv10 : Own H (upd H10 pp (.lst (pV (par P) ++ [.int p]))) pv' (stk ((run P).st.drop j)) := (hv9.ex e10).off npv.symm
      refine s_app hv10.at_ (ev_var rfl) (ev_var rfl) (by rw [stk_len, List.length_drop]; omega) fun H11 e11 => ?_
      have ho10 : Own H (upd H10 pp (.lst (pV (par P) ++ [.int p]))) pp (pV (par P) ++ [.int p]) := ho.put
      have hm : p ∈ (run P).st := List.mem_of_getElem? hp
      have er : run (P ++ [p]) = ⟨(run P).k :: (run P).st.drop j, (run P).bs ++ List.replicate j false ++ [true], (run P).k + 1⟩ := by rw [run_app, adv_place (fall_run _) hp]
      refine ⟨P ++ [p], pv', _, _, _, by rw [List.length_append, hl]; rfl, hg.app hm, ?_, ?_, ?_, npv, rfl⟩
      · exact Ex.mut (((e69.trans e10).mut ho.nw).trans e11) hv9.nw
      · rw [par_app, pV_app]
        exact (ho10.ex e11).off npv
      · rw [er, stk_cons, run_k, hl]
        have z : Own H (upd H11 pv' (.lst (stk ((run P).st.drop j) ++ [.int (1 + (i : Int))]))) pv' (stk ((run P).st.drop j) ++ [.int (1 + (i : Int))]) := hv9.put
        rw [Int.add_comm] at z
        rw [Int.add_comm (i : Int) 1]
        rw [Int.add_comm] at z
        exact z
    · rintro σ' H6 ⟨P, pw, y5, y6, y7, hl, hg, e6, ho, hw, npw, rfl⟩
      refine s_ret (ev_var rfl) fun H7 e7 => ?_
      exact q P hg (by omega) pp H7 np0 (e6.trans e7) (e7 _ _ ho.at_)

theorem sc_law_spoilt : FnScope ["_law_parents_here", "_law_cell", "_law_way", "_law_at", "_law_things"] ["_law_parents_here", "_law_cell"] (defScope s_law_spoilt) := ⟨rfl, rfl, rfl, by decide +kernel, rfl, by decide +kernel, by decide +kernel⟩
theorem ok_law_spoilt (T : Txt K mg A) : FnOk P w K mg base CX0 1 A.f_law_spoilt A.d_law_spoilt ["_law_parents_here", "_law_cell"] (spSpoilt K) := by
  refine T.F_law_spoilt.ok sc_law_spoilt (fun vs H Q E h => ?_) (fun cdv A' outer s H vs Q E hr h => ?_)
  · obtain ⟨a, P, c, rfl, _⟩ := h
    rfl
  · obtain ⟨a, P, c, rfl, ha, hl, hc, q⟩ := h
    refine ⟨_, (pss_cons (ps_set (i := 2) sc_law_spoilt.nd rfl (Or.inl rfl) (pe_op op_mod (pv 1) pe_int)) (pss_cons (ps_set (i := 3) sc_law_spoilt.nd rfl (Or.inl rfl) (pe_op op_mod (pe_op op_fdiv (pv 1) pe_int) (pe_callB call_len_seq (by rfl) T.b_len PySem.boot_len (pa_cons (pv 0) pa_nil)))) (pss_cons (ps_set (i := 4) sc_law_spoilt.nd rfl (Or.inl rfl) (pe_lst (pa_cons (pv 3) (pa_cons (pe_op op_add (pv 3) pe_int) (pa_cons (pe_un un_neg pe_int) (pa_cons pe_non (pa_cons pe_bl (pa_cons pe_bl (pa_cons pe_str (pa_cons (pe_lst (pa_cons pe_int pa_nil)) (pa_cons (pe_op op_pow pe_int pe_int) (pa_cons (pe_op op_sub (pe_op op_sub (pv 3) pe_int) (pe_op op_mod (pe_op op_fdiv (pv 1) pe_int) pe_int)) pa_nil)))))))))))) (pss_cons (ps_if (pt_cmpR op_lt (pv 2) pe_int (nomark _)) (pss_one (ps_ret (pe_op op_cat (pe_op op_cat (pe_slice sl_list (pv 0) po_none (po_some (pv 3))) (pe_lst (pa_cons (pe_ix ix_list (pv 4) (pv 2) (fun _ _ => rfl)) pa_nil))) (pe_slice sl_list (pv 0) (po_some (pe_op op_add (pv 3) pe_int)) po_none)))) pss_nil) (pss_cons (ps_if (pt_cmpR op_eq (pv 2) pe_int (nomark _)) (pss_one (ps_ret (pe_op op_cat (pe_op op_cat (pe_slice sl_list (pv 0) (po_some pe_int) (po_some pe_int)) (pe_slice sl_list (pv 0) po_none (po_some pe_int))) (pe_slice sl_list (pv 0) (po_some pe_int) po_none)))) pss_nil) (pss_one (ps_ret (pe_ix ix_list (pe_lst (pa_cons (pe_lst pa_nil) (pa_cons (pe_callTy call_tuple_of (by rfl) T.b_tuple (by decide +kernel) (pa_cons (pv 0) pa_nil)) (pa_cons (pe_ix ix_list (pe_lst (pa_cons pe_non (pa_cons pe_str (pa_cons pe_int (pa_cons (pe_tup (pa_cons pe_non pa_nil)) (pa_cons pe_dnewK pa_nil)))))) (pe_op op_mod (pe_op op_fdiv (pv 1) pe_int) pe_int) (fun _ _ => rfl)) pa_nil)))) (pe_op op_sub (pv 2) pe_int) (fun _ _ => rfl))))))))), ?_⟩
    have hpl : (pV (par P)).length = P.length + 1 := by rw [pV_len, par_len]
    refine q_asg (ev_op (ev_var rfl) ev_c (rv_I (by decide))) fun H1 e1 => ?_
    refine q_asg (ev_op (ev_op (ev_var rfl) ev_c (rv_I ⟨by decide, by decide⟩)) (ev_len (ev_var rfl) (sq_of (e1 _ _ ha))) (rv_I (by omega))) fun H2 e2 => ?_
    have hat0 : 0 ≤ c / 14 % ((pV (par P)).length : Int) := Int.emod_nonneg _ (by omega)
    generalize c / 14 % ((pV (par P)).length : Int) = at' at hat0 ⊢
    have hw0 : 0 ≤ c % 14 ∧ c % 14 < 14 := by omega
    generalize c % 14 = way at hw0 ⊢
    refine q_asgX (e_lst (e_cons (ev_var rfl) fun Ha ea => e_cons (ev_op (ev_var rfl) ev_c rv_I0) fun Hb eb => e_cons (ev_un ev_c ru_neg) fun Hc ec => e_cons ev_c fun Hd ed => e_cons ev_c fun He ee => e_cons ev_c fun Hf ef => e_cons ev_c fun Hg eg =>
      e_consL (el_lst (ea_cons ev_c ea_nil) (by simp)) fun pz Hi nz ei hz => e_cons (ev_op ev_c ev_c (rv_I ⟨by decide, by decide, by decide⟩)) fun Hj ej => e_cons (ev_op (ev_op (ev_var rfl) ev_c rv_I0) (ev_op (ev_op (ev_var rfl) ev_c (rv_I ⟨by decide, by decide⟩)) ev_c (rv_I (by decide))) rv_I0) fun Hk ek => e_nil ⟨by show 10 ≤ sizeLine; decide, fun pt nt => ?_⟩))
    have e0k : Ex H Hk := (((((((((((e1.trans e2).trans ea).trans eb).trans ec).trans ed).trans ee).trans ef).trans eg).trans ei).trans ej).trans ek)
    have e0 : Ex H (upd Hk pt (.lst [.int at', .int (at' + 1), .int (-1), .non, .bl true, .bl false, .str (Str.ofString "0"), .ref pz, .int (10 ^ (12 : Int).toNat), .int (at' - 1 - c / 99 % 3)])) := e0k.trans (Ex.new nt)
    have hz' : (upd Hk pt (.lst [.int at', .int (at' + 1), .int (-1), .non, .bl true, .bl false, .str (Str.ofString "0"), .ref pz, .int (10 ^ (12 : Int).toNat), .int (at' - 1 - c / 99 % 3)])) pz = some (.lst [.int 0]) := Ex.new nt _ _ (ek _ _ (ej _ _ hz))
    have ht : (upd Hk pt (.lst [.int at', .int (at' + 1), .int (-1), .non, .bl true, .bl false, .str (Str.ofString "0"), .ref pz, .int (10 ^ (12 : Int).toNat), .int (at' - 1 - c / 99 % 3)])) pt = some (.lst [.int at', .int (at' + 1), .int (-1), .non, .bl true, .bl false, .str (Str.ofString "0"), .ref pz, .int (10 ^ (12 : Int).toNat), .int (at' - 1 - c / 99 % 3)]) := upd_same
    have hv : way < 10 → ∃ v, atI [V.int at', .int (at' + 1), .int (-1), .non, .bl true, .bl false, .str (Str.ofString "0"), .ref pz, .int (10 ^ (12 : Int).toNat), .int (at' - 1 - c / 99 % 3)] way = some v ∧ ∀ H', H' pz = some (.lst [.int 0]) → Lst K H' [v] := fun h10 => by
      have hcs : way = 0 ∨ way = 1 ∨ way = 2 ∨ way = 3 ∨ way = 4 ∨ way = 5 ∨ way = 6 ∨ way = 7 ∨ way = 8 ∨ way = 9 := by omega
      rcases hcs with rfl | rfl | rfl | rfl | rfl | rfl | rfl | rfl | rfl | rfl
      · exact ⟨_, rfl, fun _ _ => lst_int _⟩
      · exact ⟨_, rfl, fun _ _ => lst_int _⟩
      · exact ⟨_, rfl, fun _ _ => lst_int _⟩
      · exact ⟨_, rfl, fun _ _ => lst_non⟩
      · exact ⟨_, rfl, fun _ _ => lst_bl _⟩
      · exact ⟨_, rfl, fun _ _ => lst_bl _⟩
      · exact ⟨_, rfl, fun _ _ => lst_str0⟩
      · exact ⟨_, rfl, fun _ h => lst_ref0 h⟩
      · exact ⟨_, rfl, fun _ _ => lst_int _⟩
      · exact ⟨_, rfl, fun _ _ => lst_int _⟩
    generalize [V.int at', .int (at' + 1), .int (-1), .non, .bl true, .bl false, .str (Str.ofString "0"), .ref pz, .int (10 ^ (12 : Int).toNat), .int (at' - 1 - c / 99 % 3)] = things at e0 hz' ht hv ⊢
    generalize upd Hk pt (.lst things) = H3 at e0 hz' ht ⊢
    have ha3 := e0 _ _ ha
    have hcut : ∀ lo hi, ∃ qs, cutV (pV (par P)) lo hi = pV qs ∧ qs.length ≤ P.length + 1 := fun lo hi => by
      obtain ⟨qs, h1, h2⟩ := cut_pV (par P) lo hi
      rw [par_len] at h2
      exact ⟨qs, h1, h2⟩
    refine q_when (et_test (ev_op (ev_var rfl) ev_c rv_I0)) (fun hb H4 e4 => ?_) (fun hb H4 e4 => ?_)
    · obtain ⟨v, hvi, hvl⟩ := hv (of_decide_eq_true hb)
      obtain ⟨q1, c1, l1⟩ := hcut none (some at')
      obtain ⟨q2, c2, l2⟩ := hcut (some (at' + 1)) none
      have cl1 := congrArg List.length c1
      have cl2 := congrArg List.length c2
      rw [pV_len] at cl1 cl2
      refine s_retL (el_catLL (el_catLL (el_sl (ev_var rfl) eo_none (eo_some (ev_var rfl)) (sq_of (e4 _ _ ha3))) (el_lst (ea_cons (ev_op (ev_var rfl) (ev_var rfl) (rv_ixL (sq_of (e4 _ _ ht)) hvi)) ea_nil) (by simp)) (by rw [List.length_singleton]; omega)) (el_sl (ev_var rfl) (eo_some (ev_op (ev_var rfl) ev_c rv_I0)) eo_none (sq_of (e4 _ _ ha3))) (by rw [List.length_append, List.length_singleton]; omega)) fun p H5 np e5 h5 => ?_
      refine q _ H5 ((e0.trans e4).trans e5) (thing_lst h5 ?_)
      rw [c1, c2]
      refine Lst.app (Lst.app (lst_pV _ (by omega)) (hvl _ (e5 _ _ (e4 _ _ hz'))) ?_) (lst_pV _ (by omega)) ?_
      · rw [pV_len, List.length_singleton]; omega
      · rw [List.length_append, pV_len, pV_len, List.length_singleton]; omega
    refine q_when (et_test (ev_op (ev_var rfl) ev_c (rv_eq rfl))) (fun hb2 H5 e5 => ?_) (fun hb2 H5 e5 => ?_)
    · obtain ⟨q1, c1, l1⟩ := hcut (some 1) (some 2)
      obtain ⟨q2, c2, l2⟩ := hcut none (some 1)
      obtain ⟨q3, c3, l3⟩ := hcut (some 2) none
      have cl1 := congrArg List.length c1
      have cl2 := congrArg List.length c2
      have cl3 := congrArg List.length c3
      rw [pV_len] at cl1 cl2 cl3
      have ha5 := e5 _ _ (e4 _ _ ha3)
      refine s_retL (el_catLL (el_catLL (el_sl (ev_var rfl) (eo_some ev_c) (eo_some ev_c) (sq_of ha5)) (el_sl (ev_var rfl) eo_none (eo_some ev_c) (sq_of ha5)) (by omega)) (el_sl (ev_var rfl) (eo_some ev_c) eo_none (sq_of ha5)) (by rw [List.length_append]; omega)) fun p H6 np e6 h6 => ?_
      refine q _ H6 (((e0.trans e4).trans e5).trans e6) (thing_lst h6 ?_)
      rw [c1, c2, c3]
      refine Lst.app (Lst.app (lst_pV _ (by omega)) (lst_pV _ (by omega)) ?_) (lst_pV _ (by omega)) ?_
      · rw [pV_len, pV_len]; omega
      · rw [List.length_append, pV_len, pV_len, pV_len]; omega
    have hw3 : way = 11 ∨ way = 12 ∨ way = 13 := by
      have h1 := of_decide_eq_false hb
      have h2 : ¬ V.int way = V.int 10 := of_decide_eq_false hb2
      have h3 : way ≠ 10 := fun z => h2 (by rw [z])
      omega
    have e05 := (e0.trans e4).trans e5
    have ha5 := e5 _ _ (e4 _ _ ha3)
    have hm : 0 ≤ c / 14 % 5 ∧ c / 14 % 5 < 5 := by omega
    have hmx : ∀ Hh, Ev (tOp (rI (fun x j => 0 < j) fun i j => V.int (i % j)) (tOp (rI CDiv fun i j => V.int (i / j)) (tVar 1) (tC (.int 14))) (tC (.int 5))) [some (.ref a), some (.int c), some (.int way), some (.int at'), some (.ref pt)] Hh (.int (c / 14 % 5)) := fun Hh => (ev_op (ev_op (ev_var rfl) ev_c (rv_I ⟨by decide, by decide⟩)) ev_c (rv_I (by decide)))
    generalize c / 14 % 5 = mm at hm hmx
    have hwx : ∀ Hh, Ev (tOp (rI0 fun i j => V.int (i - j)) (tVar 2) (tC (.int 11))) [some (.ref a), some (.int c), some (.int way), some (.int at'), some (.ref pt)] Hh (.int (way - 11)) := fun Hh => (ev_op (ev_var rfl) ev_c rv_I0)
    refine s_retX (e_op (e_lst (e_consL (el_lst ea_nil (by decide)) fun p0 H6 n0 e6 h6 => e_consU (eu_tupleL (ev_var rfl) (sq_of (e6 _ _ ha5))) fun p1 H7 n1 e7 h7 => e_consX (e_op (e_lst (e_cons ev_c fun H8 e8 => e_cons ev_c fun H9 e9 => e_cons ev_c fun H10 e10 =>
      e_consU (eu_tup (ea_cons ev_c ea_nil) (by simp)) fun p2 H11 n2 e11 h11 => e_consD fun p3 H12 n3 e12 h12 => e_nil ⟨by show 5 ≤ sizeLine; decide, fun p4 n4 => ?_⟩))))))
    have k67 := e7 _ _ h6
    have k612 := e12 _ _ (e11 _ _ (e10 _ _ (e9 _ _ (e8 _ _ k67))))
    have k712 := e12 _ _ (e11 _ _ (e10 _ _ (e9 _ _ (e8 _ _ h7))))
    have k1112 := e12 _ _ h11
    have x4 := Ex.new (o := .lst [.non, .str (Str.ofString "0"), .int 5, .ref p2, .ref p3]) n4
    have k4 : (upd H12 p4 (.lst [.non, .str (Str.ofString "0"), .int 5, .ref p2, .ref p3])) p4 = some (.lst [.non, .str (Str.ofString "0"), .int 5, .ref p2, .ref p3]) := upd_same
    obtain ⟨v, hvi, hvt⟩ : ∃ v, atI [V.non, .str (Str.ofString "0"), .int 5, .ref p2, .ref p3] mm = some v ∧ ∀ H', Ex H12 H' → Thing K H' v := by
      have hcs : mm = 0 ∨ mm = 1 ∨ mm = 2 ∨ mm = 3 ∨ mm = 4 := by omega
      rcases hcs with rfl | rfl | rfl | rfl | rfl
      · exact ⟨_, rfl, fun _ _ => thing_non⟩
      · exact ⟨_, rfl, fun _ _ => thing_str _ (by decide +kernel)⟩
      · exact ⟨_, rfl, fun _ _ => thing_int 5 (by decide +kernel)⟩
      · exact ⟨_, rfl, fun _ e => thing_tup (e _ _ k1112) (.cons .non .nil) (by decide +kernel)⟩
      · exact ⟨_, rfl, fun _ e => thing_dct (e _ _ h12)⟩
    refine hmx _ _ (Ex.refl _) _ fun H13 e13 => ?_
    refine ⟨p4, _, _, v, rfl, rfl, sq_of (e13 _ _ k4), hvi, (by show 3 ≤ sizeLine; decide), fun p5 n5 => ?_⟩
    have x5 := Ex.new (o := .lst [.ref p0, .ref p1, v]) n5
    have e1213 := (x4.trans e13).trans x5
    refine hwx _ _ (Ex.refl _) _ fun H14 e14 => ?_
    have k5 := e14 _ _ (upd_same (H := H13) (a := p5) (o := .lst [.ref p0, .ref p1, v]))
    have e1214 := e1213.trans e14
    have eH : Ex H H14 := (((((((((e05.trans e6).trans e7).trans e8).trans e9).trans e10).trans e11).trans e12).trans e1214))
    rcases hw3 with rfl | rfl | rfl
    · exact ⟨p5, _, _, .ref p0, rfl, rfl, sq_of k5, rfl, q _ _ eH (thing_lst (e1214 _ _ k612) lst_nil)⟩
    · exact ⟨p5, _, _, .ref p1, rfl, rfl, sq_of k5, rfl, q _ _ eH (thing_tup (e1214 _ _ k712) (dpAll_o _) (shaped_o _))⟩
    · exact ⟨p5, _, _, v, rfl, rfl, sq_of k5, rfl, q _ _ eH (hvt _ e1214)⟩

theorem sc_law_is_tree : FnScope ["_law_thing", "_law_k", "_law_older"] ["_law_thing"] (defScope s_law_is_tree) := ⟨rfl, rfl, rfl, by decide +kernel, rfl, by decide +kernel, by decide +kernel⟩
theorem ok_law_is_tree (T : Txt K mg A) : FnOk P w K mg base CX0 2 A.f_law_is_tree A.d_law_is_tree ["_law_thing"] (spLawIsTree K) := by
  refine T.F_law_is_tree.ok sc_law_is_tree (fun vs H Q E h => ?_) (fun cdv A' outer s H vs Q E hr h => ?_)
  · obtain ⟨x, r, rfl, _⟩ := h
    rfl
  · obtain ⟨x, r, rfl, hT, q⟩ := h
    refine ⟨_, (pss_cons (ps_if (PW.pt (pw_or (pt_not (pt_val (pe_callB call_isi (by rfl) T.b_isinstance (by decide +kernel) (pa_cons (pv 0) (pa_cons (pe_bltn (v := .ty "list") (by rfl) T.b_list (by decide +kernel) rfl) pa_nil))))) (pw_or (pt_cmpR (op_eqD hr.units) (pv 0) (pe_lst pa_nil) (nomark _)) (pw_or1 (pt_cmpR op_notN (pe_ix ix_list (pv 0) pe_int (fun _ _ => rfl)) pe_non (nomark _)))))) (pss_one (ps_ret pe_bl)) pss_nil) (pss_cons (ps_for PassesOwn.never rfl (pi_range2 (by rfl) T.b_range (pa_cons pe_int (pa_cons (pe_callB call_len_seq (by rfl) T.b_len PySem.boot_len (pa_cons (pv 0) pa_nil)) pa_nil))) (pg_name (i := 1) sc_law_is_tree.nd rfl (Or.inl rfl)) (pss_cons (ps_if (pt_not (pt_val (pe_call (ok_law_whole T) (hr.mono (by decide)) (by rfl) T.g_law_whole T.F_law_whole.kp T.s_law_whole .nil pass0 (pa_cons (pe_ix ix_list (pv 0) (pv 1) (fun _ _ => rfl)) pa_nil)))) (pss_one (ps_ret pe_bl)) pss_nil) (pss_cons (ps_set (i := 2) sc_law_is_tree.nd rfl (Or.inl rfl) (pe_op op_sub (pv 1) pe_int)) (pss_cons (ps_while PassesOwn.never (PW.pt (pw_and (pt_cmpR op_notN (pv 2) pe_non (nomark _)) (pw_and1 (pt_cmpR op_ne (pv 2) (pe_ix ix_list (pv 0) (pv 1) (fun _ _ => rfl)) (nomark _))))) (pss_one (ps_set (i := 2) sc_law_is_tree.nd rfl (Or.inl rfl) (pe_ix ix_list (pv 0) (pv 2) (fun _ _ => rfl))))) (pss_one (ps_if (pt_cmpR op_isN (pv 2) pe_non (nomark _)) (pss_one (ps_ret pe_bl)) pss_nil)))))) (pss_one (ps_ret pe_bl)))), ?_⟩
    rcases hT with ⟨a, xs, rfl, ha, ⟨hxl, hk, ds, hds, hsh⟩, rfl⟩ | ⟨tv, ht1, ht2, rfl⟩
    · by_cases hem : xs = []
      · subst hem
        cases hds
        refine q_when (b := true) (et_is (et_or (et_not (et_B (ev_isi (ev_var rfl) ev_c (.ty _) (TyX.base (TyOf.lst ha)) (kit_ty (by decide +kernel : kitB "list" "list" = some true))))) (fun hb => et_or (et_test (ev_opL (ev_var rfl) (el_lst ea_nil (by decide)) (fun _ _ hp e1 => rv_eqD (.lst (ex_l e1 (sq_of ha)) .nil) (.lst (sq_of hp) .nil) hsh shaped_nil))) (b := true) (fun hb => by cases hb))) rfl) (fun hb H1 e1 => ?_) (fun hb => nomatch hb)
        rw [no_size (xs := []) (by simp)] at q
        exact s_ret ev_c fun H2 e2 => q H2 (e1.trans e2)
      have hne : PyData.eqv (.list ds) (.list []) = false := by
        cases hds with
        | nil => exact absurd rfl hem
        | cons _ _ => rfl
      obtain ⟨y0, hy0⟩ : ∃ y, xs[0]? = some y := ⟨_, List.getElem?_eq_getElem (List.length_pos_iff.mpr hem)⟩
      have hpos : 0 < xs.length := List.length_pos_iff.mpr hem
      refine q_when (b := !decide (y0 = .non)) (et_is (et_or (et_not (et_B (ev_isi (ev_var rfl) ev_c (.ty _) (TyX.base (TyOf.lst ha)) (kit_ty (by decide +kernel : kitB "list" "list" = some true))))) (fun hb => et_or (et_test (ev_opL (ev_var rfl) (el_lst ea_nil (by decide)) (fun _ _ hp e1 => rv_eqD (.lst (ex_l e1 (sq_of ha)) (dpAll_ex e1 _ _ hds)) (.lst (sq_of hp) .nil) hsh shaped_nil))) (fun hb => (et_test (ev_op (ev_op (ev_var rfl) ev_c (rv_ixL (sq_of ha) (atI_nat (j := 0) hy0))) ev_c rv_notN))))) (by rw [hne]; rfl)) (fun hb H1 e1 => ?_) (fun hb H1 e1 => ?_)
      · rw [no_first hy0 (fun z => by
          rw [z, decide_eq_true rfl] at hb
          cases hb)] at q
        exact s_ret ev_c fun H2 e2 => q H2 (e1.trans e2)
      have hy : y0 = .non := by simpa using hb
      subst hy
      clear hb
      refine q_forR2 (ea_cons ev_c (ea_cons (ev_len (ev_var rfl) (sq_of (e1 _ _ ha))) ea_nil)) ⟨by omega, by omega, by omega, by omega⟩
        (fun (i : Nat) (σ' : L2.St) (H' : Hp) => ∃ (P : List Int) (y1 y2 : Option V), Pre xs i P ∧ Ex H H' ∧ σ' = [some (.ref a), y1, y2]) ?_ ?_ ?_
      · intro H2 e2
        refine ⟨[], none, none, ⟨?_, rfl, good_nil⟩, e1.trans e2, rfl⟩
        rw [take_more hy0]
        rfl
      · rintro i σ' H2 hi ⟨P, y1, y2, hP, e2, rfl⟩
        have hli : i + 1 < xs.length := by omega
        have hPl := hP.ln
        obtain ⟨y, hy⟩ : ∃ y, xs[i + 1]? = some y := ⟨_, List.getElem?_eq_getElem hli⟩
        have hat : atI xs (1 + (i : Int)) = some y := by
          rw [show (1 : Int) + (i : Int) = ((i + 1 : Nat) : Int) by omega]
          exact atI_nat hy
        have ha2 := e2 _ _ ha
        refine q_when (et_not (et_B (ev_call (ea_cons (ev_op (ev_var rfl) (ev_var rfl) (rv_ixL (sq_of ha2) hat)) ea_nil) (sv_whole ((hk y (List.mem_of_getElem? hy)).ex e2))))) (fun hb H3 e3 => ?_) (fun hb H3 e3 => ?_)
        · rw [hP.no hy (by simpa using hb)] at q
          exact s_ret ev_c fun H4 e4 => q H4 ((e2.trans e3).trans e4)
        obtain ⟨p, rfl⟩ : ∃ p, y = .int p := by
          have hb' : isInt y = true := by simpa using hb
          cases y with
          | int p => exact ⟨p, rfl⟩
          | _ => cases hb'
        clear hb
        have e03 := e2.trans e3
        obtain ⟨J, hJl, hJ, hJe⟩ := pop_to (run P).st p
        refine q_asg (ev_op (ev_var rfl) ev_c rv_I0) fun H4 e4 => ?_
        refine q_while (fun (m : Nat) (σ2 : L2.St) (H5 : Hp) => ∃ j, j ≤ J ∧ m = J - j ∧ Ex H H5 ∧ σ2 = [some (.ref a), some (.int (1 + (i : Int))), some (oV ((run P).st[j]?))]) J ?_ ?_
        · refine ⟨0, Nat.zero_le _, rfl, e03.trans e4, ?_⟩
          have hh := st_head P
          rw [List.head?_eq_getElem?] at hh
          rw [hh, hPl]
          show ([some (V.ref a), some (V.int (1 + (i : Int))), some (V.int (1 + (i : Int) - 1))] : L2.St) = [some (V.ref a), some (V.int (1 + (i : Int))), some (V.int (i : Int))]
          rw [show 1 + (i : Int) - 1 = (i : Int) by omega]
        · rintro m σ2 H5 ⟨j, hj, rfl, e5, rfl⟩
          have ha5 := e5 _ _ ha
          refine ⟨decide (j < J), ?_, fun hb H6 e6 => ?_, fun hb H6 e6 => ?_⟩
          · by_cases hjl : j < (run P).st.length
            · obtain ⟨qq, hq⟩ : ∃ qq, (run P).st[j]? = some qq := ⟨_, List.getElem?_eq_getElem hjl⟩
              rw [hq]
              refine et_is (et_and (et_test (ev_op (ev_var rfl) ev_c rv_notN)) (fun hb => (et_test (ev_op (ev_var rfl) (ev_op (ev_var rfl) (ev_var rfl) (rv_ixL (sq_of ha5) hat)) (rv_ne rfl))))) ?_
              show ((!decide (V.int qq = V.non)) && !decide (V.int qq = V.int p)) = decide (j < J)
              rw [decide_eq_false (show ¬ V.int qq = V.non from fun z => nomatch z)]
              by_cases hjJ : j < J
              · obtain ⟨q2, hq2, hqp⟩ := hJ j hjJ
                rw [hq] at hq2
                cases hq2
                rw [decide_eq_true hjJ, decide_eq_false (fun e => hqp (V.int.inj e))]
                rfl
              · have ej : j = J := by omega
                subst ej
                rcases hJe with ⟨hJe, _⟩ | hJe
                · omega
                · rw [hq] at hJe
                  cases hJe
                  rw [decide_eq_false hjJ, decide_eq_true rfl]
                  rfl
            · rw [List.getElem?_eq_none (by omega), decide_eq_false (show ¬ j < J by omega)]
              exact et_is (et_and (et_test (ev_op (ev_var rfl) ev_c rv_notN)) (b := true) (fun hb => nomatch hb)) rfl
          · have hjJ : j < J := of_decide_eq_true hb
            obtain ⟨qq, hq, hqp⟩ := hJ j hjJ
            rw [hq]
            refine ⟨_, fun σ3 H7 h => h, ?_⟩
            refine s_asg (ev_op (ev_var rfl) (ev_var rfl) (rv_ixL (sq_of (e6 _ _ ha5)) (chain_at hP hq))) fun H7 e7 => ?_
            exact ⟨J - (j + 1), by omega, j + 1, hjJ, rfl, (e5.trans e6).trans e7, rfl⟩
          · have ej : j = J := by
              have z := of_decide_eq_false hb
              omega
            subst ej
            have e06 := e5.trans e6
            rcases hJe with ⟨hJe, hno⟩ | hJe
            · rw [List.getElem?_eq_none (by omega)]
              refine s_when (b := true) (et_is (et_test (ev_op (ev_var rfl) ev_c rv_isN)) rfl) (fun hb2 H7 e7 => ?_) (fun hb2 => nomatch hb2)
              rw [hP.off hy hno] at q
              exact s_ret ev_c fun H8 e8 => q H8 ((e06.trans e7).trans e8)
            · rw [hJe]
              refine s_when (b := false) (et_is (et_test (ev_op (ev_var rfl) ev_c rv_isN)) rfl) (fun hb2 => nomatch hb2) (fun hb2 H7 e7 => ?_)
              exact ⟨P ++ [p], _, _, hP.more hy (List.mem_of_getElem? hJe), e06.trans e7, rfl⟩
      · rintro σ' H2 ⟨P, y1, y2, hP, e2, rfl⟩
        have en : ((xs.length : Int) - 1).toNat = xs.length - 1 := by omega
        rw [en] at hP
        rw [hP.all (by omega) (by omega)] at q
        exact s_ret ev_c fun H3 e3 => q H3 (e2.trans e3)
    · refine q_when (b := true) (et_is (et_or (et_not (et_B (ev_isi (ev_var rfl) ev_c (.ty _) ht1 ht2))) (b := true) (fun hb => nomatch hb)) rfl) (fun hb H1 e1 => ?_) (fun hb => nomatch hb)
      exact s_ret ev_c fun H2 e2 => q H2 (e1.trans e2)

theorem sc_law_refused : FnScope ["_law_thing", "e", "_law_kinds"] ["_law_thing"] (defScope s_law_refused) := ⟨rfl, rfl, rfl, by decide +kernel, rfl, by decide +kernel, by decide +kernel⟩
theorem ok_law_refused (T : Txt K mg A) : FnOk P w K mg base CX0 4 A.f_law_refused A.d_law_refused ["_law_thing"] (spRefused K) := by
  refine T.F_law_refused.ok sc_law_refused (fun vs H Q E h => ?_) (fun cdv A' outer s H vs Q E hr h => ?_)
  · obtain ⟨x, rfl, _⟩ := h
    rfl
  · obtain ⟨x, rfl, hT, q⟩ := h
    refine ⟨_, (pss_cons (ps_try_as (i := 1) (c := .ref A.c_KnotError) (Wout := fun _ _ _ _ => False) rfl rfl sc_law_refused.nd rfl rfl ⟨rfl, by decide, Or.inl T.g_KnotError⟩ takes0 (fun W pn xe tk _ => (pss_one (ps_expr (pe_callS (ok_pressed T) (hr.mono (by decide)) (by rfl) T.g_pressed T.F_pressed.kp T.s_pressed (fun σ => passAt tk σ) (pa_cons (pv 0) pa_nil))))) (fun a oe cls d pn hz hf => (pss_cons (ps_set (i := 2) sc_law_refused.nd rfl (Or.inl rfl) (pe_lst (pa_cons (pe_callB (call_isC T.ec_NoTree hz hf) (by rfl) T.b_isinstance (by decide +kernel) (pa_cons (pv 1) (pa_cons (pe_glob (v := .ref A.c_NoTree) (by rfl) T.g_NoTree rfl) pa_nil))) (pa_cons (pe_callB (call_isC T.ec_NoTree hz hf) (by rfl) T.b_isinstance (by decide +kernel) (pa_cons (pv 1) (pa_cons (pe_glob (v := .ref A.c_NoSize) (by rfl) T.g_NoSize rfl) pa_nil))) (pa_cons (pe_callB (call_isC T.ec_NoTree hz hf) (by rfl) T.b_isinstance (by decide +kernel) (pa_cons (pv 1) (pa_cons (pe_glob (v := .ref A.c_NoBlock) (by rfl) T.g_NoBlock rfl) pa_nil))) (pa_cons (pe_callB (call_isC T.ec_NoTree hz hf) (by rfl) T.b_isinstance (by decide +kernel) (pa_cons (pv 1) (pa_cons (pe_glob (v := .ref A.c_NoKnot) (by rfl) T.g_NoKnot rfl) pa_nil))) pa_nil)))))) (pss_one (ps_ret (pe_and (pe_callB (call_isC T.ec_NoTree hz hf) (by rfl) T.b_isinstance (by decide +kernel) (pa_cons (pv 1) (pa_cons (pe_bltn (v := .ty "ValueError") (by rfl) T.b_ValueError (by decide +kernel) rfl) pa_nil))) (pe_one (pe_cmpR (show OpR _ _ (rEqD K) from op_eqD hr.units) (pv 2) (pe_lst (pa_cons pe_bl (pa_cons pe_bl (pa_cons pe_bl (pa_cons pe_bl pa_nil))))) (nomark _))))))))) (pss_one (ps_ret pe_bl))), ?_⟩
    refine s_dropS (ea_cons (ev_var rfl) ea_nil) fun H1 e1 => ⟨x, none, rfl, hT.ex e1, (fun bs hb => nomatch hb), fun _ H2 e2 => ?_⟩
    refine ⟨true, PySem.W.exm_ref T.e_KnotError T.h_KnotError T.t_KnotError T.u_NoTree_KnotError, fun _ a na => ?_, fun z => nomatch z⟩
    refine q_asgL (el_lst (ea_cons (ev_isC (ev_var rfl) ev_c (fun _ z => z) (kit_ref T.h_NoTree T.t_NoTree T.u_NoTree_NoTree (fun _ => rfl)))
      (ea_cons (ev_isC (ev_var rfl) ev_c (fun _ z => z) (kit_other T.u_NoTree_NoTree T.h_NoSize T.t_NoSize T.u_NoTree_NoSize))
      (ea_cons (ev_isC (ev_var rfl) ev_c (fun _ z => z) (kit_other T.u_NoTree_NoTree T.h_NoBlock T.t_NoBlock T.u_NoTree_NoBlock))
      (ea_cons (ev_isC (ev_var rfl) ev_c (fun _ z => z) (kit_other T.u_NoTree_NoTree T.h_NoKnot T.t_NoKnot T.u_NoTree_NoKnot)) ea_nil)))) (by simp)) fun pk H3 nk e3 h3 => ?_
    have hb : ∀ Hh, DpAll K Hh [.bl true, .bl false, .bl false, .bl false] [.bool true, .bool false, .bool false, .bool false] := fun Hh => .cons (.bl _) (.cons (.bl _) (.cons (.bl _) (.cons (.bl _) .nil)))
    have hsh : SeqAt.shaped (.list [.bool true, .bool false, .bool false, .bool false]) = true := by decide +kernel
    have hev : PyData.eqv (.list [.bool true, .bool false, .bool false, .bool false]) (.list [.bool true, .bool false, .bool false, .bool false]) = true := by decide +kernel
    refine s_ret (v := .bl true) (ev_is (ev_andV (ev_isC (ev_var rfl) ev_c (fun _ z => z) (kit_tyD T.u_NoTree_ValueError (by decide +kernel))) (fun _ =>
      ev_opL (ev_var rfl) (el_lst (ea_cons ev_c (ea_cons ev_c (ea_cons ev_c (ea_cons ev_c ea_nil)))) (by simp)) (fun _ _ hp e1 => rv_eqD (.lst (ex_l e1 (sq_of h3)) (hb _)) (.lst (sq_of hp) (hb _)) hsh hsh))) (by rw [hev]; rfl)) fun H4 e4 => ?_
    exact q H4 (((e1.trans e2).trans e3).trans e4)

theorem sc_law_bounded : FnScope ["_law_path", "_law_parents_here", "_law_k"] ["_law_path"] (defScope s_law_bounded) := ⟨rfl, rfl, rfl, by decide +kernel, rfl, by decide +kernel, by decide +kernel⟩
theorem ok_law_bounded (T : Txt K mg A) : FnOk P w K mg base CX0 5 A.f_law_bounded A.d_law_bounded ["_law_path"] spBounded := by
  refine T.F_law_bounded.ok sc_law_bounded (fun vs H Q E h => ?_) (fun cdv A' outer s H vs Q E hr h => ?_)
  · obtain ⟨b, rfl, _⟩ := h
    rfl
  · obtain ⟨b, rfl, hb01, q⟩ := h
    refine ⟨_, (pss_cons (ps_set (i := 1) sc_law_bounded.nd rfl (Or.inl rfl) (pe_op op_cat (pe_lst (pa_cons pe_non pa_nil)) (pe_lc (own := [("_law_k", 2)]) (g := gName 2) (tt := tYes) rfl sc_law_bounded.nd (pi_range1 (by rfl) T.b_range (pa_cons pe_int pa_nil)) (blkOk_by (N := ["_law_path", "_law_parents_here", "_law_k"]) (sc := defScope s_law_bounded) (by decide +kernel)) (fun _ _ _ _ _ => pg_name (i := 2) sc_law_bounded.nd rfl (Or.inl rfl)) (fun _ _ _ _ _ => pts_nil) (fun _ _ _ _ _ => (pe_op op_mul (pv 2) (pv 0)))))) (pss_cons (ps_if (PW.pt (pw_or (pt_cmpR op_notBl (pe_call (ok_is_tree T) (hr.mono (by decide)) (by rfl) T.g_is_tree T.F_is_tree.kp T.s_is_tree .nil pass0 (pa_cons (pv 1) pa_nil)) pe_bl (nomark _)) (pw_or1 (pt_cmpR op_ne (pe_callB call_len_str (by rfl) T.b_len PySem.boot_len (pa_cons (pe_call (ok_pressed T) (hr.mono (by decide)) (by rfl) T.g_pressed T.F_pressed.kp T.s_pressed .nil passL (pa_cons (pv 1) pa_nil)) pa_nil)) pe_int (nomark _))))) (pss_one (ps_ret pe_bl)) pss_nil) (pss_cons (ps_expr (pe_bm PySem.F.plainAttrs_list PySem.F.slot_list_append PySem.F.type_list_append mt_append (pv 1) (pa_cons (pe_op op_mul pe_int (pv 0)) pa_nil))) (pss_one (ps_ret (pe_and (pe_cmpR op_isBl (pe_call (ok_is_tree T) (hr.mono (by decide)) (by rfl) T.g_is_tree T.F_is_tree.kp T.s_is_tree .nil pass0 (pa_cons (pv 1) pa_nil)) pe_bl (nomark _)) (pe_one (pe_call (ok_law_refused T) (hr.mono (by decide)) (by rfl) T.g_law_refused T.F_law_refused.kp T.s_law_refused .nil pass0 (pa_cons (pv 1) pa_nil))))))))), ?_⟩
    refine q_asgL (el_catLL (el_lst (ea_cons ev_c ea_nil) (by simp)) (el_lcR1 (fun _ => true) (fun i => V.int ((i : Int) * b)) (ea_cons ev_c ea_nil) (by decide) (fun x => rfl) (fun i H1 e hi => et_yes)
      (fun i H1 e hi _ => ev_op (ev_var rfl) (ev_var rfl) (rv_I (.inl ⟨by omega, by omega⟩)))) (by
        have := given_len (1999 : Int).toNat (fun _ => true) (fun i => V.int ((i : Int) * b))
        have h2 : (1999 : Int).toNat = 1999 := rfl
        rw [List.length_singleton]
        omega)) fun p H1 np e1 h1 => ?_
    obtain ⟨P, hP, hg, hl⟩ := bounded_list b hb01 (1999 : Int).toNat
    rw [hP] at h1
    have hl' : P.length = 1999 := hl
    clear hP hl
    have hth := th_tree (K := K) h1 hg (by omega)
    refine q_when (b := false) (et_is (et_or (et_test (ev_op (ev_call (ea_cons (ev_var rfl) ea_nil) (sv_isTree hth)) ev_c rv_notBl)) (fun hb => et_test (ev_op (ev_lenS (ev_call (ea_cons (ev_var rfl) ea_nil) (sv_pressed hth)) (by rw [txt_len, full_len]; omega)) ev_c (rv_ne rfl)))) (by
      rw [txt_len, full_len, hl']
      rfl)) (fun hb => nomatch hb) (fun hb H2 e2 => ?_)
    have h2 := e2 _ _ h1
    refine q_app h2 (ev_var rfl) (ev_op ev_c (ev_var rfl) (rv_I (.inl ⟨by decide, by decide⟩))) (by rw [pV_len, par_len]; omega) fun H3 e3 => ?_
    have hth3 : Th K (upd H3 p (.lst (pV (par P) ++ [V.int (1999 * b)]))) (.ref p) none := by
      refine .inl ⟨p, _, rfl, upd_same, ?_, ?_, ?_⟩
      · rw [List.length_append, pV_len, par_len, List.length_singleton]; omega
      · intro y hy
        rcases List.mem_append.mp hy with h | h
        · exact kd_pV h
        · rw [List.mem_singleton.mp h]; exact kd_int _
      · rw [no_size]
        rw [List.length_append, pV_len, par_len, List.length_singleton]
        omega
    refine s_ret (v := .bl true) (ev_is (ev_andV (ev_op (ev_call (ea_cons (ev_var rfl) ea_nil) (sv_isTree hth3)) ev_c rv_isBl) (fun hb => (ev_call (ea_cons (ev_var rfl) ea_nil) (sv_refused hth3)))) rfl) fun H4 e4 => ?_
    exact q H4 (((e1.trans (e2.trans e3)).mut np).trans e4)

theorem sc_law : FnScope ["_law_script", "_law_thing", "_law_cell", "_law_due", "_law_held", "_law_found"] ["_law_script"] (defScope s_law) := ⟨rfl, rfl, rfl, by decide +kernel, rfl, by decide +kernel, by decide +kernel⟩
theorem ok_law (T : Txt K mg A) : FnOk P w K mg base CX0 6 A.f_law A.d_law ["_law_script"] (spLaw K) := by
  refine T.F_law.ok sc_law (fun vs H Q E h => ?_) (fun cdv A' outer s H vs Q E hr h => ?_)
  · obtain ⟨a, ns, rfl, _⟩ := h
    rfl
  · obtain ⟨a, ns, rfl, hS, hlen, q⟩ := h
    refine ⟨_, (pss_cons (ps_set (i := 1) sc_law.nd rfl (Or.inl rfl) (pe_call (ok_law_parents T) (hr.mono (by decide)) (by rfl) T.g_law_parents T.F_law_parents.kp T.s_law_parents .nil pass0 (pa_cons (pv 0) pa_nil))) (pss_cons (ps_set (i := 2) sc_law.nd rfl (Or.inl rfl) (pe_call (ok_law_cell_at T) (hr.mono (by decide)) (by rfl) T.g_law_cell_at T.F_law_cell_at.kp T.s_law_cell_at .nil pass0 (pa_cons (pv 0) (pa_cons pe_int pa_nil)))) (pss_cons (ps_if (PW.pt (pw_and (pt_cmpR op_eq (pe_op op_mod (pe_op op_fdiv (pv 2) pe_int) pe_int) pe_int (nomark _)) (pw_and1 (pt_not (pt_val (pe_call (ok_law_bounded T) (hr.mono (by decide)) (by rfl) T.g_law_bounded T.F_law_bounded.kp T.s_law_bounded .nil pass0 (pa_cons (pe_op op_mod (pe_op op_fdiv (pv 2) pe_int) pe_int) pa_nil))))))) (pss_one (ps_ret pe_bl)) pss_nil) (pss_cut (ps_if (pt_cmpR op_eq (pe_op op_mod (pv 2) pe_int) pe_int (nomark _)) (pss_one (ps_set (i := 1) sc_law.nd rfl (Or.inl rfl) (pe_call (ok_law_spoilt T) (hr.mono (by decide)) (by rfl) T.g_law_spoilt T.F_law_spoilt.kp T.s_law_spoilt .nil pass0 (pa_cons (pv 1) (pa_cons (pe_op op_fdiv (pv 2) pe_int) pa_nil))))) pss_nil) (pss_cons (ps_set (i := 3) sc_law.nd rfl (Or.inl rfl) (pe_call (ok_law_is_tree T) (hr.mono (by decide)) (by rfl) T.g_law_is_tree T.F_law_is_tree.kp T.s_law_is_tree .nil pass0 (pa_cons (pv 1) pa_nil))) (pss_cons (ps_set (i := 4) sc_law.nd rfl (Or.inl rfl) (pv 1)) (pss_cut (ps_if (pt_val (pe_callB call_isi (by rfl) T.b_isinstance (by decide +kernel) (pa_cons (pv 1) (pa_cons (pe_bltn (v := .ty "list") (by rfl) T.b_list (by decide +kernel) rfl) pa_nil)))) (pss_one (ps_set (i := 4) sc_law.nd rfl (Or.inl rfl) (pe_callTy call_list_of (by rfl) T.b_list (by decide +kernel) (pa_cons (pv 1) pa_nil)))) pss_nil) (pss_cons (ps_set (i := 5) sc_law.nd rfl (Or.inl rfl) (pe_call (ok_is_tree T) (hr.mono (by decide)) (by rfl) T.g_is_tree T.F_is_tree.kp T.s_is_tree .nil pass0 (pa_cons (pv 1) pa_nil))) (pss_cons (ps_if (PW.pt (pw_or (pt_not (pt_val (pe_callB call_isi (by rfl) T.b_isinstance (by decide +kernel) (pa_cons (pv 5) (pa_cons (pe_bltn (v := .ty "bool") (by rfl) T.b_bool (by decide +kernel) rfl) pa_nil))))) (pw_or (pt_cmpR op_ne (pv 5) (pv 3) (nomark _)) (pw_or1 (pt_cmpR (op_neX hr.units) (pv 1) (pv 4) (nomark _)))))) (pss_one (ps_ret pe_bl)) pss_nil) (pss_one (ps_ret (pe_and (pe_cmpR op_eq (pe_call (ok_is_tree T) (hr.mono (by decide)) (by rfl) T.g_is_tree T.F_is_tree.kp T.s_is_tree .nil pass0 (pa_cons (pv 4) pa_nil)) (pv 3) (nomark _)) (pe_one (pe_or (pv 3) (pe_one (pe_call (ok_law_refused T) (hr.mono (by decide)) (by rfl) T.g_law_refused T.F_law_refused.kp T.s_law_refused .nil pass0 (pa_cons (pv 1) pa_nil))))))))))))))))), ?_⟩
    refine q_asgC (ea_cons (ev_var rfl) ea_nil) fun H1 e1 => ⟨a, ns, rfl, ex_l e1 hS, fun P hg hl p H2 np e2 hp2 => ?_⟩
    have g26 := cell_ge ns 26
    refine q_asg (ev_call (ea_cons (ev_var rfl) (ea_cons ev_c ea_nil)) (sv_cell 26 rfl (ex_l (e1.trans e2) hS))) fun H3 e3 => ?_
    generalize cell ns 26 = c at g26 ⊢
    have hp3 := e3 _ _ hp2
    refine q_when (b := false) (et_is (et_and (et_test (ev_op (ev_op (ev_op (ev_var rfl) ev_c (rv_I ⟨by decide, by decide⟩)) ev_c (rv_I (by decide))) ev_c (rv_eq rfl))) (fun hb => (et_not (et_B (ev_call (ea_cons (ev_op (ev_op (ev_var rfl) ev_c (rv_I ⟨by decide, by decide⟩)) ev_c (rv_I (by decide))) ea_nil) (sv_bounded (by omega))))))) (by simp)) (fun hb => nomatch hb) (fun hb H4 e4 => ?_)
    have hp4 := e4 _ _ hp3
    refine q_cut (M := fun σ H' => ∃ x : V, Ex H4 H' ∧ Thing K H' x ∧ σ = [some (.ref a), some x, some (.int c), none, none, none]) ?_ ?_
    · refine s_when (et_test (ev_op (ev_op (ev_var rfl) ev_c (rv_I (by decide))) ev_c (rv_eq rfl))) (fun hb H5 e5 => ?_) (fun hb H5 e5 => ?_)
      · exact s_asgC (ea_cons (ev_var rfl) (ea_cons (ev_op (ev_var rfl) ev_c (rv_I ⟨by decide, by decide⟩)) ea_nil)) fun H6 e6 => ⟨p, P, _, rfl, e6 _ _ (e5 _ _ hp4), by omega, by omega, fun x H7 e7 hx => ⟨x, (e5.trans e6).trans e7, hx, rfl⟩⟩
      · exact ⟨.ref p, e5, thing_lst (e5 _ _ hp4) (lst_pV _ (by rw [par_len]; omega)), rfl⟩
    rintro σ H5 ⟨x, e5, hx, rfl⟩
    obtain ⟨r, hr0, hx2⟩ : ∃ r, Thr K H5 x r ∧ ((∃ a xs, x = .ref a ∧ H5 a = some (.lst xs) ∧ Lst K H5 xs ∧ r = bitsV xs) ∨ (∃ tv, TyX K H5 x tv ∧ PySem.W.kitOne K tv (.type "list") = some false ∧ Dat K H5 x)) := by
      rcases hx with ⟨a', xs, h1, h2, h3⟩ | ⟨tv, h1, h2, h3⟩
      · exact ⟨bitsV xs, .inl ⟨a', xs, h1, h2, h3, rfl⟩, .inl ⟨a', xs, h1, h2, h3, rfl⟩⟩
      · exact ⟨none, .inr ⟨tv, h1, h2, rfl⟩, .inr ⟨tv, h1, h2, h3⟩⟩
    refine q_asg (ev_call (ea_cons (ev_var rfl) ea_nil) (sv_lawIsTree hr0)) fun H6 e6 => ?_
    refine q_asg (ev_var rfl) fun H7 e7 => ?_
    have e57 := e6.trans e7
    refine q_cut (M := fun σ H' => ∃ hv : V, Ex H7 H' ∧ Thr K H' hv r ∧ (∀ H'', Ex H' H'' → RV (rNeX K) x hv H'' (.bl false)) ∧ σ = [some (.ref a), some x, some (.int c), some (.bl r.isSome), some hv, none]) ?_ ?_
    · rcases hx2 with ⟨a', xs, rfl, h2, h3, er⟩ | ⟨tv, h1, h2, h3⟩
      · have h27 := e57 _ _ h2
        refine s_when (b := true) (et_B (ev_isi (ev_var rfl) ev_c (.ty _) (TyX.base (TyOf.lst h27)) (kit_ty (by decide +kernel : kitB "list" "list" = some true)))) (fun hb H8 e8 => ?_) (fun hb => nomatch hb)
        refine s_asgL (el_list (ev_var rfl) (sq_of (e8 _ _ h27))) fun p2 H9 n2 e9 h9 => ?_
        have h39 := h3.ex ((e57.trans e8).trans e9)
        exact ⟨.ref p2, e8.trans e9, .inl ⟨p2, xs, rfl, h9, h39, er⟩, fun H'' e'' => rv_neXL (e'' _ _ (e9 _ _ (e8 _ _ h27))) (e'' _ _ h9) (h39.ex e''), rfl⟩
      · refine s_when (b := false) (et_B (ev_isi (ev_var rfl) ev_c (.ty _) (tyx_ex e57 h1) h2)) (fun hb => nomatch hb) (fun hb H8 e8 => ?_)
        exact ⟨x, e8, (hr0.ex e57).ex e8, fun H'' e'' => rv_neX (((h3.ex e57).ex e8).ex e''), rfl⟩
    rintro σ H8 ⟨hv, e8, hh, hne, rfl⟩
    have hr8 := (hr0.ex e57).ex e8
    refine q_asg (ev_call (ea_cons (ev_var rfl) ea_nil) (sv_isTree hr8.th)) fun H9 e9 => ?_
    refine q_when (b := false) (et_is (et_or (et_not (et_B (ev_isi (ev_var rfl) ev_c (.ty _) (TyX.base (TyOf.bl _)) (kit_ty (by decide +kernel : kitB "bool" "bool" = some true))))) (fun hb => (et_or (et_test (ev_op (ev_var rfl) (ev_var rfl) (rv_ne rfl))) (fun hb => (et_test (ev_op (ev_var rfl) (ev_var rfl) (hne _ e9))))))) (by rw [decide_eq_true rfl]; rfl)) (fun hb => nomatch hb) (fun hb H10 e10 => ?_)
    have e810 := e9.trans e10
    have hh10 := hh.ex e810
    have hr10 := hr8.ex e810
    cases r with
    | some bs =>
      refine s_ret (v := .bl true) (ev_is (ev_andV (ev_op (ev_call (ea_cons (ev_var rfl) ea_nil) (sv_isTree hh10.th)) (ev_var rfl) (rv_eq rfl)) (fun _ => ev_orV (a := true) (b := true) (ev_var rfl) (fun hb => nomatch hb))) (by rw [decide_eq_true rfl]; rfl)) fun H11 e11 => q H11
    | none =>
      refine s_ret (v := .bl true) (ev_is (ev_andV (ev_op (ev_call (ea_cons (ev_var rfl) ea_nil) (sv_isTree hh10.th)) (ev_var rfl) (rv_eq rfl)) (fun hb => (ev_orV (ev_var rfl) (fun hb => (ev_call (ea_cons (ev_var rfl) ea_nil) (sv_refused hr10.th)))))) (by rw [decide_eq_true rfl]; rfl)) fun H11 e11 => q H11

end
theorem all_mk {l : PySem.W.OpenLaw} {w : World} {K : PySem.W.Frag} {h : Heap} {mg : Str → Option Value} {fa : Addr} {f_is_whole : Addr} {od_is_whole an_is_whole : Option Addr} {sl_is_whole : Array (Option Value)} {oc_is_whole kV_is_whole dc_is_whole pm_is_whole cd_is_whole ct_is_whole : Value} {f_is_tree : Addr} {od_is_tree an_is_tree : Option Addr} {sl_is_tree : Array (Option Value)} {oc_is_tree kV_is_tree dc_is_tree pm_is_tree cd_is_tree ct_is_tree : Value} {f_pressed : Addr} {od_pressed an_pressed : Option Addr} {sl_pressed : Array (Option Value)} {oc_pressed kV_pressed dc_pressed pm_pressed cd_pressed ct_pressed : Value} {f_bits_of : Addr} {od_bits_of an_bits_of : Option Addr} {sl_bits_of : Array (Option Value)} {oc_bits_of kV_bits_of dc_bits_of pm_bits_of cd_bits_of ct_bits_of : Value} {f_law_cell_at : Addr} {od_law_cell_at an_law_cell_at : Option Addr} {sl_law_cell_at : Array (Option Value)} {oc_law_cell_at kV_law_cell_at dc_law_cell_at pm_law_cell_at cd_law_cell_at ct_law_cell_at : Value} {f_law_whole : Addr} {od_law_whole an_law_whole : Option Addr} {sl_law_whole : Array (Option Value)} {oc_law_whole kV_law_whole dc_law_whole pm_law_whole cd_law_whole ct_law_whole : Value} {f_law_parents : Addr} {od_law_parents an_law_parents : Option Addr} {sl_law_parents : Array (Option Value)} {oc_law_parents kV_law_parents dc_law_parents pm_law_parents cd_law_parents ct_law_parents : Value} {f_law_spoilt : Addr} {od_law_spoilt an_law_spoilt : Option Addr} {sl_law_spoilt : Array (Option Value)} {oc_law_spoilt kV_law_spoilt dc_law_spoilt pm_law_spoilt cd_law_spoilt ct_law_spoilt : Value} {f_law_is_tree : Addr} {od_law_is_tree an_law_is_tree : Option Addr} {sl_law_is_tree : Array (Option Value)} {oc_law_is_tree kV_law_is_tree dc_law_is_tree pm_law_is_tree cd_law_is_tree ct_law_is_tree : Value} {f_law_refused : Addr} {od_law_refused an_law_refused : Option Addr} {sl_law_refused : Array (Option Value)} {oc_law_refused kV_law_refused dc_law_refused pm_law_refused cd_law_refused ct_law_refused : Value} {f_law_bounded : Addr} {od_law_bounded an_law_bounded : Option Addr} {sl_law_bounded : Array (Option Value)} {oc_law_bounded kV_law_bounded dc_law_bounded pm_law_bounded cd_law_bounded ct_law_bounded : Value} {f_law : Addr} {od_law an_law : Option Addr} {sl_law : Array (Option Value)} {oc_law kV_law dc_law pm_law cd_law ct_law : Value} {tk_MOST_KNOTS : Tok} {C_KnotError : Addr} {C_NoTree : Addr} {C_NoSize : Addr} {C_NoBlock : Addr} {C_NoKnot : Addr}
    (X : K.In h) (G : h.Ns mainGlobals mg) (hfa : mg "law" = some (.ref fa))
    (a_is_whole : PySem.W.nsIn K mainGlobals "is_whole" = some (some (.ref f_is_whole))) (l_is_whole : K.lookup f_is_whole = some ⟨oc_is_whole, od_is_whole, .func (PySem.W.fnOf "is_whole" "is_whole" (defArgs s_is_whole) (defBody s_is_whole) (defScope s_is_whole) .none kV_is_whole dc_is_whole pm_is_whole an_is_whole cd_is_whole ct_is_whole), sl_is_whole⟩) (c_is_whole : PySem.W.codeIn K cd_is_whole "is_whole" = true) (k_is_whole : PySem.W.keepIn K (.ref f_is_whole) = true)
    (a_is_tree : PySem.W.nsIn K mainGlobals "is_tree" = some (some (.ref f_is_tree))) (l_is_tree : K.lookup f_is_tree = some ⟨oc_is_tree, od_is_tree, .func (PySem.W.fnOf "is_tree" "is_tree" (defArgs s_is_tree) (defBody s_is_tree) (defScope s_is_tree) .none kV_is_tree dc_is_tree pm_is_tree an_is_tree cd_is_tree ct_is_tree), sl_is_tree⟩) (c_is_tree : PySem.W.codeIn K cd_is_tree "is_tree" = true) (k_is_tree : PySem.W.keepIn K (.ref f_is_tree) = true)
    (a_pressed : PySem.W.nsIn K mainGlobals "pressed" = some (some (.ref f_pressed))) (l_pressed : K.lookup f_pressed = some ⟨oc_pressed, od_pressed, .func (PySem.W.fnOf "pressed" "pressed" (defArgs s_pressed) (defBody s_pressed) (defScope s_pressed) .none kV_pressed dc_pressed pm_pressed an_pressed cd_pressed ct_pressed), sl_pressed⟩) (c_pressed : PySem.W.codeIn K cd_pressed "pressed" = true) (k_pressed : PySem.W.keepIn K (.ref f_pressed) = true)
    (a_bits_of : PySem.W.nsIn K mainGlobals "_bits_of" = some (some (.ref f_bits_of))) (l_bits_of : K.lookup f_bits_of = some ⟨oc_bits_of, od_bits_of, .func (PySem.W.fnOf "_bits_of" "_bits_of" (defArgs s_bits_of) (defBody s_bits_of) (defScope s_bits_of) .none kV_bits_of dc_bits_of pm_bits_of an_bits_of cd_bits_of ct_bits_of), sl_bits_of⟩) (c_bits_of : PySem.W.codeIn K cd_bits_of "_bits_of" = true) (k_bits_of : PySem.W.keepIn K (.ref f_bits_of) = true)
    (a_law_cell_at : PySem.W.nsIn K mainGlobals "_law_cell_at" = some (some (.ref f_law_cell_at))) (l_law_cell_at : K.lookup f_law_cell_at = some ⟨oc_law_cell_at, od_law_cell_at, .func (PySem.W.fnOf "_law_cell_at" "_law_cell_at" (defArgs s_law_cell_at) (defBody s_law_cell_at) (defScope s_law_cell_at) .none kV_law_cell_at dc_law_cell_at pm_law_cell_at an_law_cell_at cd_law_cell_at ct_law_cell_at), sl_law_cell_at⟩) (c_law_cell_at : PySem.W.codeIn K cd_law_cell_at "_law_cell_at" = true) (k_law_cell_at : PySem.W.keepIn K (.ref f_law_cell_at) = true)
    (a_law_whole : PySem.W.nsIn K mainGlobals "_law_whole" = some (some (.ref f_law_whole))) (l_law_whole : K.lookup f_law_whole = some ⟨oc_law_whole, od_law_whole, .func (PySem.W.fnOf "_law_whole" "_law_whole" (defArgs s_law_whole) (defBody s_law_whole) (defScope s_law_whole) .none kV_law_whole dc_law_whole pm_law_whole an_law_whole cd_law_whole ct_law_whole), sl_law_whole⟩) (c_law_whole : PySem.W.codeIn K cd_law_whole "_law_whole" = true) (k_law_whole : PySem.W.keepIn K (.ref f_law_whole) = true)
    (a_law_parents : PySem.W.nsIn K mainGlobals "_law_parents" = some (some (.ref f_law_parents))) (l_law_parents : K.lookup f_law_parents = some ⟨oc_law_parents, od_law_parents, .func (PySem.W.fnOf "_law_parents" "_law_parents" (defArgs s_law_parents) (defBody s_law_parents) (defScope s_law_parents) .none kV_law_parents dc_law_parents pm_law_parents an_law_parents cd_law_parents ct_law_parents), sl_law_parents⟩) (c_law_parents : PySem.W.codeIn K cd_law_parents "_law_parents" = true) (k_law_parents : PySem.W.keepIn K (.ref f_law_parents) = true)
    (a_law_spoilt : PySem.W.nsIn K mainGlobals "_law_spoilt" = some (some (.ref f_law_spoilt))) (l_law_spoilt : K.lookup f_law_spoilt = some ⟨oc_law_spoilt, od_law_spoilt, .func (PySem.W.fnOf "_law_spoilt" "_law_spoilt" (defArgs s_law_spoilt) (defBody s_law_spoilt) (defScope s_law_spoilt) .none kV_law_spoilt dc_law_spoilt pm_law_spoilt an_law_spoilt cd_law_spoilt ct_law_spoilt), sl_law_spoilt⟩) (c_law_spoilt : PySem.W.codeIn K cd_law_spoilt "_law_spoilt" = true) (k_law_spoilt : PySem.W.keepIn K (.ref f_law_spoilt) = true)
    (a_law_is_tree : PySem.W.nsIn K mainGlobals "_law_is_tree" = some (some (.ref f_law_is_tree))) (l_law_is_tree : K.lookup f_law_is_tree = some ⟨oc_law_is_tree, od_law_is_tree, .func (PySem.W.fnOf "_law_is_tree" "_law_is_tree" (defArgs s_law_is_tree) (defBody s_law_is_tree) (defScope s_law_is_tree) .none kV_law_is_tree dc_law_is_tree pm_law_is_tree an_law_is_tree cd_law_is_tree ct_law_is_tree), sl_law_is_tree⟩) (c_law_is_tree : PySem.W.codeIn K cd_law_is_tree "_law_is_tree" = true) (k_law_is_tree : PySem.W.keepIn K (.ref f_law_is_tree) = true)
    (a_law_refused : PySem.W.nsIn K mainGlobals "_law_refused" = some (some (.ref f_law_refused))) (l_law_refused : K.lookup f_law_refused = some ⟨oc_law_refused, od_law_refused, .func (PySem.W.fnOf "_law_refused" "_law_refused" (defArgs s_law_refused) (defBody s_law_refused) (defScope s_law_refused) .none kV_law_refused dc_law_refused pm_law_refused an_law_refused cd_law_refused ct_law_refused), sl_law_refused⟩) (c_law_refused : PySem.W.codeIn K cd_law_refused "_law_refused" = true) (k_law_refused : PySem.W.keepIn K (.ref f_law_refused) = true)
    (a_law_bounded : PySem.W.nsIn K mainGlobals "_law_bounded" = some (some (.ref f_law_bounded))) (l_law_bounded : K.lookup f_law_bounded = some ⟨oc_law_bounded, od_law_bounded, .func (PySem.W.fnOf "_law_bounded" "_law_bounded" (defArgs s_law_bounded) (defBody s_law_bounded) (defScope s_law_bounded) .none kV_law_bounded dc_law_bounded pm_law_bounded an_law_bounded cd_law_bounded ct_law_bounded), sl_law_bounded⟩) (c_law_bounded : PySem.W.codeIn K cd_law_bounded "_law_bounded" = true) (k_law_bounded : PySem.W.keepIn K (.ref f_law_bounded) = true)
    (a_law : PySem.W.nsIn K mainGlobals "law" = some (some (.ref f_law))) (l_law : K.lookup f_law = some ⟨oc_law, od_law, .func (PySem.W.fnOf "law" "law" (defArgs s_law) (defBody s_law) (defScope s_law) .none kV_law dc_law pm_law an_law cd_law ct_law), sl_law⟩) (c_law : PySem.W.codeIn K cd_law "law" = true) (k_law : PySem.W.keepIn K (.ref f_law) = true)
    (b_ValueError : PySem.W.nsIn K mainGlobals "ValueError" = some none)
    (b_bool : PySem.W.nsIn K mainGlobals "bool" = some none)
    (b_int : PySem.W.nsIn K mainGlobals "int" = some none)
    (b_isinstance : PySem.W.nsIn K mainGlobals "isinstance" = some none)
    (b_len : PySem.W.nsIn K mainGlobals "len" = some none)
    (b_list : PySem.W.nsIn K mainGlobals "list" = some none)
    (b_min : PySem.W.nsIn K mainGlobals "min" = some none)
    (b_range : PySem.W.nsIn K mainGlobals "range" = some none)
    (b_tuple : PySem.W.nsIn K mainGlobals "tuple" = some none)
    (n_MOST_KNOTS : PySem.W.nsIn K mainGlobals "MOST_KNOTS" = some (some (.int 2000 tk_MOST_KNOTS)))
    (ac_KnotError : PySem.W.nsIn K mainGlobals "KnotError" = some (some (.ref C_KnotError)))
    (xc_KnotError : PySem.W.excIn K C_KnotError [.type "ValueError", .type "Exception", .type "BaseException", .type "object"] "ValueError.__new__" = true)
    (kc_KnotError : PySem.W.keepIn K (.ref C_KnotError) = true) (ec_KnotError : PySem.W.subIn K (.ref C_KnotError) (.type "BaseException") = some true) (tc_KnotError : PySem.W.typeIn K (.ref C_KnotError) = some (.type "type"))
    (ac_NoTree : PySem.W.nsIn K mainGlobals "NoTree" = some (some (.ref C_NoTree)))
    (xc_NoTree : PySem.W.excIn K C_NoTree [.type "ValueError", .type "Exception", .type "BaseException", .type "object"] "ValueError.__new__" = true)
    (kc_NoTree : PySem.W.keepIn K (.ref C_NoTree) = true) (ec_NoTree : PySem.W.subIn K (.ref C_NoTree) (.type "BaseException") = some true) (tc_NoTree : PySem.W.typeIn K (.ref C_NoTree) = some (.type "type"))
    (ac_NoSize : PySem.W.nsIn K mainGlobals "NoSize" = some (some (.ref C_NoSize)))
    (xc_NoSize : PySem.W.excIn K C_NoSize [.type "ValueError", .type "Exception", .type "BaseException", .type "object"] "ValueError.__new__" = true)
    (kc_NoSize : PySem.W.keepIn K (.ref C_NoSize) = true) (ec_NoSize : PySem.W.subIn K (.ref C_NoSize) (.type "BaseException") = some true) (tc_NoSize : PySem.W.typeIn K (.ref C_NoSize) = some (.type "type"))
    (ac_NoBlock : PySem.W.nsIn K mainGlobals "NoBlock" = some (some (.ref C_NoBlock)))
    (xc_NoBlock : PySem.W.excIn K C_NoBlock [.type "ValueError", .type "Exception", .type "BaseException", .type "object"] "ValueError.__new__" = true)
    (kc_NoBlock : PySem.W.keepIn K (.ref C_NoBlock) = true) (ec_NoBlock : PySem.W.subIn K (.ref C_NoBlock) (.type "BaseException") = some true) (tc_NoBlock : PySem.W.typeIn K (.ref C_NoBlock) = some (.type "type"))
    (ac_NoKnot : PySem.W.nsIn K mainGlobals "NoKnot" = some (some (.ref C_NoKnot)))
    (xc_NoKnot : PySem.W.excIn K C_NoKnot [.type "ValueError", .type "Exception", .type "BaseException", .type "object"] "ValueError.__new__" = true)
    (kc_NoKnot : PySem.W.keepIn K (.ref C_NoKnot) = true) (ec_NoKnot : PySem.W.subIn K (.ref C_NoKnot) (.type "BaseException") = some true) (tc_NoKnot : PySem.W.typeIn K (.ref C_NoKnot) = some (.type "type"))
    (xh_KnotError : PySem.W.hasDictIn K C_KnotError = true)
    (xu_NoTree_KnotError : PySem.W.subIn K (.ref C_NoTree) (.ref C_KnotError) = some true)
    (xh_NoTree : PySem.W.hasDictIn K C_NoTree = true)
    (xu_NoTree_NoTree : PySem.W.subIn K (.ref C_NoTree) (.ref C_NoTree) = some true)
    (xh_NoSize : PySem.W.hasDictIn K C_NoSize = true)
    (xu_NoTree_NoSize : PySem.W.subIn K (.ref C_NoTree) (.ref C_NoSize) = some false)
    (xh_NoBlock : PySem.W.hasDictIn K C_NoBlock = true)
    (xu_NoTree_NoBlock : PySem.W.subIn K (.ref C_NoTree) (.ref C_NoBlock) = some false)
    (xh_NoKnot : PySem.W.hasDictIn K C_NoKnot = true)
    (xu_NoTree_NoKnot : PySem.W.subIn K (.ref C_NoTree) (.ref C_NoKnot) = some false)
    (xu_NoTree_ValueError : PySem.W.subIn K (.ref C_NoTree) (.type "ValueError") = some true)
    (xe_hg : PySem.W.findIn K (.ref C_NoTree) "__getattribute__" = some (some (.builtin "BaseException.__getattribute__")))
    (xe_hk : PySem.W.findIn K (.ref C_NoTree) "__getattr__" = some none)
    (xe_ha : PySem.W.findIn K (.ref C_NoTree) "__class__" = some (some (.builtin "object.__class__")))
    (xe_hn : PySem.W.specialIn K (.builtin "object.__class__") "__get__" = some (some (.builtin "getset_descriptor.__get__")))
    (xe_ht : PySem.W.takesIn K (.builtin "object.__class__") = some true)
    (xe_hm : PySem.W.mroIn K C_NoTree (.type "object") = some true)
    : ∃ fd : FuncData, (∀ (s : Shared) (v : Value), BindsTo s fd ⟨[v], []⟩ [("_law_script", v)]) ∧ ∀ base : Heap, K.In base → base.Ns mainGlobals mg → FnOk l.prog w K mg base CX0 6 fa fd ["_law_script"] (spLaw K) := by
  have e := hfa.symm.trans (PySem.W.mg_of X G a_law)
  cases e
  have F_is_whole := fun_mk (st := s_is_whole) l_is_whole c_is_whole k_is_whole
  have bb_is_whole := F_is_whole.binds (ps := ["thing"]) fun _ _ _ _ _ _ us hl => match us, hl with | [_], _ => rfl
  have F_is_tree := fun_mk (st := s_is_tree) l_is_tree c_is_tree k_is_tree
  have bb_is_tree := F_is_tree.binds (ps := ["parents"]) fun _ _ _ _ _ _ us hl => match us, hl with | [_], _ => rfl
  have F_pressed := fun_mk (st := s_pressed) l_pressed c_pressed k_pressed
  have bb_pressed := F_pressed.binds (ps := ["parents"]) fun _ _ _ _ _ _ us hl => match us, hl with | [_], _ => rfl
  have F_bits_of := fun_mk (st := s_bits_of) l_bits_of c_bits_of k_bits_of
  have bb_bits_of := F_bits_of.binds (ps := ["parents"]) fun _ _ _ _ _ _ us hl => match us, hl with | [_], _ => rfl
  have F_law_cell_at := fun_mk (st := s_law_cell_at) l_law_cell_at c_law_cell_at k_law_cell_at
  have bb_law_cell_at := F_law_cell_at.binds (ps := ["_law_script", "_law_k"]) fun _ _ _ _ _ _ us hl => match us, hl with | [_, _], _ => rfl
  have F_law_whole := fun_mk (st := s_law_whole) l_law_whole c_law_whole k_law_whole
  have bb_law_whole := F_law_whole.binds (ps := ["_law_found"]) fun _ _ _ _ _ _ us hl => match us, hl with | [_], _ => rfl
  have F_law_parents := fun_mk (st := s_law_parents) l_law_parents c_law_parents k_law_parents
  have bb_law_parents := F_law_parents.binds (ps := ["_law_script"]) fun _ _ _ _ _ _ us hl => match us, hl with | [_], _ => rfl
  have F_law_spoilt := fun_mk (st := s_law_spoilt) l_law_spoilt c_law_spoilt k_law_spoilt
  have bb_law_spoilt := F_law_spoilt.binds (ps := ["_law_parents_here", "_law_cell"]) fun _ _ _ _ _ _ us hl => match us, hl with | [_, _], _ => rfl
  have F_law_is_tree := fun_mk (st := s_law_is_tree) l_law_is_tree c_law_is_tree k_law_is_tree
  have bb_law_is_tree := F_law_is_tree.binds (ps := ["_law_thing"]) fun _ _ _ _ _ _ us hl => match us, hl with | [_], _ => rfl
  have F_law_refused := fun_mk (st := s_law_refused) l_law_refused c_law_refused k_law_refused
  have bb_law_refused := F_law_refused.binds (ps := ["_law_thing"]) fun _ _ _ _ _ _ us hl => match us, hl with | [_], _ => rfl
  have F_law_bounded := fun_mk (st := s_law_bounded) l_law_bounded c_law_bounded k_law_bounded
  have bb_law_bounded := F_law_bounded.binds (ps := ["_law_path"]) fun _ _ _ _ _ _ us hl => match us, hl with | [_], _ => rfl
  have F_law := fun_mk (st := s_law) l_law c_law k_law
  have bb_law := F_law.binds (ps := ["_law_script"]) fun _ _ _ _ _ _ us hl => match us, hl with | [_], _ => rfl
  let A : Adr := { f_is_whole := f_is_whole, d_is_whole := PySem.W.fnOf "is_whole" "is_whole" (defArgs s_is_whole) (defBody s_is_whole) (defScope s_is_whole) .none kV_is_whole dc_is_whole pm_is_whole an_is_whole cd_is_whole ct_is_whole, f_is_tree := f_is_tree, d_is_tree := PySem.W.fnOf "is_tree" "is_tree" (defArgs s_is_tree) (defBody s_is_tree) (defScope s_is_tree) .none kV_is_tree dc_is_tree pm_is_tree an_is_tree cd_is_tree ct_is_tree, f_pressed := f_pressed, d_pressed := PySem.W.fnOf "pressed" "pressed" (defArgs s_pressed) (defBody s_pressed) (defScope s_pressed) .none kV_pressed dc_pressed pm_pressed an_pressed cd_pressed ct_pressed, f_bits_of := f_bits_of, d_bits_of := PySem.W.fnOf "_bits_of" "_bits_of" (defArgs s_bits_of) (defBody s_bits_of) (defScope s_bits_of) .none kV_bits_of dc_bits_of pm_bits_of an_bits_of cd_bits_of ct_bits_of, f_law_cell_at := f_law_cell_at, d_law_cell_at := PySem.W.fnOf "_law_cell_at" "_law_cell_at" (defArgs s_law_cell_at) (defBody s_law_cell_at) (defScope s_law_cell_at) .none kV_law_cell_at dc_law_cell_at pm_law_cell_at an_law_cell_at cd_law_cell_at ct_law_cell_at, f_law_whole := f_law_whole, d_law_whole := PySem.W.fnOf "_law_whole" "_law_whole" (defArgs s_law_whole) (defBody s_law_whole) (defScope s_law_whole) .none kV_law_whole dc_law_whole pm_law_whole an_law_whole cd_law_whole ct_law_whole, f_law_parents := f_law_parents, d_law_parents := PySem.W.fnOf "_law_parents" "_law_parents" (defArgs s_law_parents) (defBody s_law_parents) (defScope s_law_parents) .none kV_law_parents dc_law_parents pm_law_parents an_law_parents cd_law_parents ct_law_parents, f_law_spoilt := f_law_spoilt, d_law_spoilt := PySem.W.fnOf "_law_spoilt" "_law_spoilt" (defArgs s_law_spoilt) (defBody s_law_spoilt) (defScope s_law_spoilt) .none kV_law_spoilt dc_law_spoilt pm_law_spoilt an_law_spoilt cd_law_spoilt ct_law_spoilt, f_law_is_tree := f_law_is_tree, d_law_is_tree := PySem.W.fnOf "_law_is_tree" "_law_is_tree" (defArgs s_law_is_tree) (defBody s_law_is_tree) (defScope s_law_is_tree) .none kV_law_is_tree dc_law_is_tree pm_law_is_tree an_law_is_tree cd_law_is_tree ct_law_is_tree, f_law_refused := f_law_refused, d_law_refused := PySem.W.fnOf "_law_refused" "_law_refused" (defArgs s_law_refused) (defBody s_law_refused) (defScope s_law_refused) .none kV_law_refused dc_law_refused pm_law_refused an_law_refused cd_law_refused ct_law_refused, f_law_bounded := f_law_bounded, d_law_bounded := PySem.W.fnOf "_law_bounded" "_law_bounded" (defArgs s_law_bounded) (defBody s_law_bounded) (defScope s_law_bounded) .none kV_law_bounded dc_law_bounded pm_law_bounded an_law_bounded cd_law_bounded ct_law_bounded, f_law := fa, d_law := PySem.W.fnOf "law" "law" (defArgs s_law) (defBody s_law) (defScope s_law) .none kV_law dc_law pm_law an_law cd_law ct_law, t_MOST_KNOTS := tk_MOST_KNOTS, c_KnotError := C_KnotError, c_NoTree := C_NoTree, c_NoSize := C_NoSize, c_NoBlock := C_NoBlock, c_NoKnot := C_NoKnot }
  have T : Txt K mg A := { F_is_whole := F_is_whole, g_is_whole := PySem.W.mg_of X G a_is_whole, s_is_whole := bb_is_whole, F_is_tree := F_is_tree, g_is_tree := PySem.W.mg_of X G a_is_tree, s_is_tree := bb_is_tree, F_pressed := F_pressed, g_pressed := PySem.W.mg_of X G a_pressed, s_pressed := bb_pressed, F_bits_of := F_bits_of, g_bits_of := PySem.W.mg_of X G a_bits_of, s_bits_of := bb_bits_of, F_law_cell_at := F_law_cell_at, g_law_cell_at := PySem.W.mg_of X G a_law_cell_at, s_law_cell_at := bb_law_cell_at, F_law_whole := F_law_whole, g_law_whole := PySem.W.mg_of X G a_law_whole, s_law_whole := bb_law_whole, F_law_parents := F_law_parents, g_law_parents := PySem.W.mg_of X G a_law_parents, s_law_parents := bb_law_parents, F_law_spoilt := F_law_spoilt, g_law_spoilt := PySem.W.mg_of X G a_law_spoilt, s_law_spoilt := bb_law_spoilt, F_law_is_tree := F_law_is_tree, g_law_is_tree := PySem.W.mg_of X G a_law_is_tree, s_law_is_tree := bb_law_is_tree, F_law_refused := F_law_refused, g_law_refused := PySem.W.mg_of X G a_law_refused, s_law_refused := bb_law_refused, F_law_bounded := F_law_bounded, g_law_bounded := PySem.W.mg_of X G a_law_bounded, s_law_bounded := bb_law_bounded, F_law := F_law, g_law := PySem.W.mg_of X G a_law, s_law := bb_law, b_ValueError := PySem.W.mg_none_of X G b_ValueError, b_bool := PySem.W.mg_none_of X G b_bool, b_int := PySem.W.mg_none_of X G b_int, b_isinstance := PySem.W.mg_none_of X G b_isinstance, b_len := PySem.W.mg_none_of X G b_len, b_list := PySem.W.mg_none_of X G b_list, b_min := PySem.W.mg_none_of X G b_min, b_range := PySem.W.mg_none_of X G b_range, b_tuple := PySem.W.mg_none_of X G b_tuple, c_MOST_KNOTS := PySem.W.mg_of X G n_MOST_KNOTS, g_KnotError := PySem.W.mg_of X G ac_KnotError, x_KnotError := xc_KnotError, k_KnotError := kc_KnotError, e_KnotError := ec_KnotError, t_KnotError := tc_KnotError, g_NoTree := PySem.W.mg_of X G ac_NoTree, x_NoTree := xc_NoTree, k_NoTree := kc_NoTree, e_NoTree := ec_NoTree, t_NoTree := tc_NoTree, g_NoSize := PySem.W.mg_of X G ac_NoSize, x_NoSize := xc_NoSize, k_NoSize := kc_NoSize, e_NoSize := ec_NoSize, t_NoSize := tc_NoSize, g_NoBlock := PySem.W.mg_of X G ac_NoBlock, x_NoBlock := xc_NoBlock, k_NoBlock := kc_NoBlock, e_NoBlock := ec_NoBlock, t_NoBlock := tc_NoBlock, g_NoKnot := PySem.W.mg_of X G ac_NoKnot, x_NoKnot := xc_NoKnot, k_NoKnot := kc_NoKnot, e_NoKnot := ec_NoKnot, t_NoKnot := tc_NoKnot, h_KnotError := xh_KnotError, u_NoTree_KnotError := xu_NoTree_KnotError, h_NoTree := xh_NoTree, u_NoTree_NoTree := xu_NoTree_NoTree, h_NoSize := xh_NoSize, u_NoTree_NoSize := xu_NoTree_NoSize, h_NoBlock := xh_NoBlock, u_NoTree_NoBlock := xu_NoTree_NoBlock, h_NoKnot := xh_NoKnot, u_NoTree_NoKnot := xu_NoTree_NoKnot, u_NoTree_ValueError := xu_NoTree_ValueError, ec_NoTree := ⟨xe_hg, xe_hk, ec_NoTree, xh_NoTree, xe_ha, xe_hn, xe_ht, xe_hm⟩ }
  exact ⟨A.d_law, fun s v => .of_eq rfl, fun base _ _ => ok_law T⟩
end LW
open PySem PySem.W PyProof.Rows
set_option maxRecDepth 100000 in
set_option maxHeartbeats 0 in
theorem PySem.Challenge.cw_knotbits_k01_trees_told_holds : PySem.Challenge.rw_knotbits_k01_trees_told.Holds := by
  w_on; o_law; k_head; (case hw => w_witness2)
  k_fill
  refine L2.walk_of (l := PySem.Challenge.rw_knotbits_k01_trees_told) (n := 63) (k := 6) (x := "_law_script") (CX := fun _ => L2.CX0) (sp := fun w => KB.spLaw _) rfl (by decide) rfl ⟨rfl, by decide, by decide⟩ (fun w h Y => PySem.W.kIn_of Y) ?F (fun _ _ a ns hl _ hS => ⟨a, ns, rfl, hS, hl, fun _ => rfl⟩) (fun _ _ _ _ _ h => h)
  case F =>
    intro w mg fa h KX G hmg
    refine' LW.all_mk KX G hmg ?a_is_whole ?l_is_whole ?c_is_whole ?k_is_whole ?a_is_tree ?l_is_tree ?c_is_tree ?k_is_tree ?a_pressed ?l_pressed ?c_pressed ?k_pressed ?a_bits_of ?l_bits_of ?c_bits_of ?k_bits_of ?a_law_cell_at ?l_law_cell_at ?c_law_cell_at ?k_law_cell_at ?a_law_whole ?l_law_whole ?c_law_whole ?k_law_whole ?a_law_parents ?l_law_parents ?c_law_parents ?k_law_parents ?a_law_spoilt ?l_law_spoilt ?c_law_spoilt ?k_law_spoilt ?a_law_is_tree ?l_law_is_tree ?c_law_is_tree ?k_law_is_tree ?a_law_refused ?l_law_refused ?c_law_refused ?k_law_refused ?a_law_bounded ?l_law_bounded ?c_law_bounded ?k_law_bounded ?a_law ?l_law ?c_law ?k_law ?b_ValueError ?b_bool ?b_int ?b_isinstance ?b_len ?b_list ?b_min ?b_range ?b_tuple ?n_MOST_KNOTS ?ac_KnotError ?xc_KnotError ?kc_KnotError ?ec_KnotError ?tc_KnotError ?ac_NoTree ?xc_NoTree ?kc_NoTree ?ec_NoTree ?tc_NoTree ?ac_NoSize ?xc_NoSize ?kc_NoSize ?ec_NoSize ?tc_NoSize ?ac_NoBlock ?xc_NoBlock ?kc_NoBlock ?ec_NoBlock ?tc_NoBlock ?ac_NoKnot ?xc_NoKnot ?kc_NoKnot ?ec_NoKnot ?tc_NoKnot ?xh_KnotError ?xu_NoTree_KnotError ?xh_NoTree ?xu_NoTree_NoTree ?xh_NoSize ?xu_NoTree_NoSize ?xh_NoBlock ?xu_NoTree_NoBlock ?xh_NoKnot ?xu_NoTree_NoKnot ?xu_NoTree_ValueError ?xe_hg ?xe_hk ?xe_ha ?xe_hn ?xe_ht ?xe_hm
    (case a_is_whole => k_is)
    (case l_is_whole => k_is)
    (case c_is_whole => k_is)
    (case k_is_whole => k_is)
    (case a_is_tree => k_is)
    (case l_is_tree => k_is)
    (case c_is_tree => k_is)
    (case k_is_tree => k_is)
    (case a_pressed => k_is)
    (case l_pressed => k_is)
    (case c_pressed => k_is)
    (case k_pressed => k_is)
    (case a_bits_of => k_is)
    (case l_bits_of => k_is)
    (case c_bits_of => k_is)
    (case k_bits_of => k_is)
    (case a_law_cell_at => k_is)
    (case l_law_cell_at => k_is)
    (case c_law_cell_at => k_is)
    (case k_law_cell_at => k_is)
    (case a_law_whole => k_is)
    (case l_law_whole => k_is)
    (case c_law_whole => k_is)
    (case k_law_whole => k_is)
    (case a_law_parents => k_is)
    (case l_law_parents => k_is)
    (case c_law_parents => k_is)
    (case k_law_parents => k_is)
    (case a_law_spoilt => k_is)
    (case l_law_spoilt => k_is)
    (case c_law_spoilt => k_is)
    (case k_law_spoilt => k_is)
    (case a_law_is_tree => k_is)
    (case l_law_is_tree => k_is)
    (case c_law_is_tree => k_is)
    (case k_law_is_tree => k_is)
    (case a_law_refused => k_is)
    (case l_law_refused => k_is)
    (case c_law_refused => k_is)
    (case k_law_refused => k_is)
    (case a_law_bounded => k_is)
    (case l_law_bounded => k_is)
    (case c_law_bounded => k_is)
    (case k_law_bounded => k_is)
    (case a_law => k_is)
    (case l_law => k_is)
    (case c_law => k_is)
    (case k_law => k_is)
    (case b_ValueError => k_is)
    (case b_bool => k_is)
    (case b_int => k_is)
    (case b_isinstance => k_is)
    (case b_len => k_is)
    (case b_list => k_is)
    (case b_min => k_is)
    (case b_range => k_is)
    (case b_tuple => k_is)
    (case n_MOST_KNOTS => k_is)
    (case ac_KnotError => k_is)
    (case xc_KnotError => k_exc)
    (case kc_KnotError => k_is)
    (case ec_KnotError => k_is)
    (case tc_KnotError => k_is)
    (case ac_NoTree => k_is)
    (case xc_NoTree => k_exc)
    (case kc_NoTree => k_is)
    (case ec_NoTree => k_is)
    (case tc_NoTree => k_is)
    (case ac_NoSize => k_is)
    (case xc_NoSize => k_exc)
    (case kc_NoSize => k_is)
    (case ec_NoSize => k_is)
    (case tc_NoSize => k_is)
    (case ac_NoBlock => k_is)
    (case xc_NoBlock => k_exc)
    (case kc_NoBlock => k_is)
    (case ec_NoBlock => k_is)
    (case tc_NoBlock => k_is)
    (case ac_NoKnot => k_is)
    (case xc_NoKnot => k_exc)
    (case kc_NoKnot => k_is)
    (case ec_NoKnot => k_is)
    (case tc_NoKnot => k_is)
    (case xh_KnotError => k_is)
    (case xu_NoTree_KnotError => first | rfl | k_is)
    (case xh_NoTree => k_is)
    (case xu_NoTree_NoTree => first | rfl | k_is)
    (case xh_NoSize => k_is)
    (case xu_NoTree_NoSize => first | rfl | k_is)
    (case xh_NoBlock => k_is)
    (case xu_NoTree_NoBlock => first | rfl | k_is)
    (case xh_NoKnot => k_is)
    (case xu_NoTree_NoKnot => first | rfl | k_is)
    (case xu_NoTree_ValueError => k_is)
    (case xe_hg => k_is)
    (case xe_hk => k_is)
    (case xe_ha => k_is)
    (case xe_hn => k_is)
    (case xe_ht => k_is)
    (case xe_hm => k_is)
