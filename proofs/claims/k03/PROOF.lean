import PyProof.Rows.All
import Wide.All
import OpenK.AllK
import Wide.FinOn
import HandS.ForMost
import HandS.Evl
import HandS.IsInst
import HandS.Codes
import HandS.Style
import HandS.Exc
import HandS.TryOnly
import HandS.ExcOwn
import HandS.WordsExc
import HandS.ExcIs
import PySem.Challenge.RW_knotbits_k03_bits_refused
set_option Elab.async false
set_option linter.all false
set_option maxRecDepth 100000
set_option maxHeartbeats 8000000

set_option linter.all false
set_option maxRecDepth 100000
/-! Trees told by parents and by bits: plain Lean. A stack is a list, its top first. -/
namespace KB

/-! ### the walk down: stack, bits, next number -/
structure Stt where
  st : List Int
  bs : List Bool
  k : Int

def adv (s : Stt) (p : Int) : Stt :=
  ⟨s.k :: s.st.dropWhile (fun x => x != p), s.bs ++ List.replicate (s.st.takeWhile (fun x => x != p)).length false ++ [true], s.k + 1⟩
def ini : Stt := ⟨[0], [true], 1⟩
def run (P : List Int) : Stt := P.foldl adv ini
/-- each parent stands on the stack when it is named -/
def Good (P : List Int) : Prop := ∀ i p, P[i]? = some p → p ∈ (run (P.take i)).st
def full (P : List Int) : List Bool := (run P).bs ++ List.replicate (run P).st.length false

theorem run_nil : run [] = ini := rfl
theorem run_app (P : List Int) (p : Int) : run (P ++ [p]) = adv (run P) p := by
  unfold run; rw [List.foldl_append]; rfl
theorem take_more {α : Type} {l : List α} {i : Nat} {x : α} (h : l[i]? = some x) : l.take (i + 1) = l.take i ++ [x] := by
  rw [List.take_add_one, h]; rfl
theorem run_more {P : List Int} {i : Nat} {p : Int} (h : P[i]? = some p) : run (P.take (i + 1)) = adv (run (P.take i)) p := by
  rw [take_more h, run_app]

theorem run_k : ∀ P : List Int, (run P).k = (P.length : Int) + 1 := by
  intro P
  generalize hn : P.length = n
  induction n generalizing P with
  | zero =>
    have e : P = [] := List.eq_nil_of_length_eq_zero hn
    subst e; rfl
  | succ n ih =>
    have h := List.dropLast_concat_getLast (l := P) (by intro z; rw [z] at hn; cases hn)
    rw [← h, run_app]
    have e := ih P.dropLast (by rw [List.length_dropLast, hn]; rfl)
    show (run P.dropLast).k + 1 = _
    rw [e]; omega

/-- induction from behind -/
theorem rev_ind {α : Type} {C : List α → Prop} (h0 : C []) (hs : ∀ P p, C P → C (P ++ [p])) (P : List α) : C P := by
  generalize hn : P.length = n
  induction n generalizing P with
  | zero =>
    have e : P = [] := List.eq_nil_of_length_eq_zero hn
    subst e; exact h0
  | succ n ih =>
    have h := List.dropLast_concat_getLast (l := P) (by intro z; rw [z] at hn; cases hn)
    rw [← h]
    exact hs _ _ (ih P.dropLast (by rw [List.length_dropLast, hn]; rfl))

theorem good_nil : Good [] := fun i p h => by simp at h
theorem Good.left {P : List Int} {p : Int} (h : Good (P ++ [p])) : Good P := fun i q e => by
  have hi : i < P.length := (List.getElem?_eq_some_iff.mp e).1
  have e2 : (P ++ [p])[i]? = some q := by rw [List.getElem?_append_left hi]; exact e
  have z := h i q e2
  rw [List.take_append_of_le_length (Nat.le_of_lt hi)] at z
  exact z
theorem Good.last {P : List Int} {p : Int} (h : Good (P ++ [p])) : p ∈ (run P).st := by
  have z := h P.length p (by simp)
  rw [List.take_left'] at z
  · exact z
  · rfl
theorem Good.app {P : List Int} {p : Int} (h : Good P) (hp : p ∈ (run P).st) : Good (P ++ [p]) := fun i q e => by
  by_cases hi : i < P.length
  · rw [List.getElem?_append_left hi] at e
    rw [List.take_append_of_le_length (Nat.le_of_lt hi)]
    exact h i q e
  · have hl := (List.getElem?_eq_some_iff.mp e).1
    rw [List.length_append, List.length_singleton] at hl
    have ei : i = P.length := by omega
    subst ei
    have e2 : p = q := by simpa using e
    subst e2
    rw [List.take_left' rfl]
    exact hp
theorem Good.take {P : List Int} (h : Good P) (n : Nat) : Good (P.take n) := fun i p e => by
  by_cases hi : i < n
  · rw [List.getElem?_take_of_lt hi] at e
    rw [List.take_take, Nat.min_eq_left (Nat.le_of_lt hi)]
    exact h i p e
  · have hl := (List.getElem?_eq_some_iff.mp e).1
    rw [List.length_take] at hl
    omega

theorem dropWhile_suffix (f : Int → Bool) : ∀ l : List Int, ∃ j, j ≤ l.length ∧ l.dropWhile f = l.drop j
  | [] => ⟨0, Nat.le_refl _, rfl⟩
  | a :: l => by
    rw [List.dropWhile_cons]
    by_cases h : f a = true
    · rw [if_pos h]
      obtain ⟨j, h1, h2⟩ := dropWhile_suffix f l
      exact ⟨j + 1, Nat.succ_le_succ h1, h2⟩
    · rw [if_neg h]
      exact ⟨0, Nat.zero_le _, rfl⟩
theorem mem_dropWhile {f : Int → Bool} {l : List Int} {x : Int} (h : x ∈ l.dropWhile f) : x ∈ l := by
  obtain ⟨j, _, e⟩ := dropWhile_suffix f l
  rw [e] at h
  exact List.mem_of_mem_drop h

/-- the stack falls strictly, from below the next number, to nought -/
structure Fall (s : Stt) : Prop where
  pw : s.st.Pairwise (fun a b => b < a)
  lt : ∀ x ∈ s.st, x < s.k
  ge : ∀ x ∈ s.st, 0 ≤ x
theorem fall_ini : Fall ini := ⟨List.pairwise_singleton _ _, fun x h => by
  have e : x = 0 := by simpa [ini] using h
  subst e; show (0 : Int) < 1; decide, fun x h => by
  have e : x = 0 := by simpa [ini] using h
  subst e; exact Int.le_refl _⟩
theorem Fall.adv {s : Stt} (h : Fall s) (hk : 0 ≤ s.k) (p : Int) : Fall (adv s p) := by
  obtain ⟨j, _, e⟩ := dropWhile_suffix (fun x => x != p) s.st
  refine ⟨?_, ?_, ?_⟩
  · show (s.k :: s.st.dropWhile (fun x => x != p)).Pairwise _
    refine List.pairwise_cons.mpr ⟨fun b hb => h.lt b (mem_dropWhile hb), ?_⟩
    rw [e]
    exact h.pw.drop
  · intro x hx
    have hx' : x ∈ s.k :: s.st.dropWhile (fun x => x != p) := hx
    show x < s.k + 1
    rcases List.mem_cons.mp hx' with r | r
    · omega
    · have := h.lt x (mem_dropWhile r); omega
  · intro x hx
    have hx' : x ∈ s.k :: s.st.dropWhile (fun x => x != p) := hx
    rcases List.mem_cons.mp hx' with r | r
    · omega
    · exact h.ge x (mem_dropWhile r)
theorem fall_run (P : List Int) : Fall (run P) := by
  refine rev_ind (C := fun P => Fall (run P)) ?_ ?_ P
  · exact fall_ini
  · intro P p h
    rw [run_app]
    exact h.adv (by rw [run_k]; omega) p
theorem run_ne (P : List Int) : (run P).st ≠ [] := by
  refine rev_ind (C := fun P => (run P).st ≠ []) ?_ ?_ P
  · exact List.cons_ne_nil _ _
  · intro P p _
    rw [run_app]
    exact List.cons_ne_nil _ _
theorem run_pos (P : List Int) : 0 < (run P).st.length := List.length_pos_iff.mpr (run_ne P)

/-! ### dropWhile at a place -/
theorem takeWhile_place : ∀ (l : List Int) (j : Nat) (p : Int), l.Pairwise (fun a b => b < a) → l[j]? = some p → (l.takeWhile (fun x => x != p)).length = j ∧ l.dropWhile (fun x => x != p) = l.drop j
  | [], j, p, _, h => by simp at h
  | a :: l, 0, p, _, h => by
    have e : a = p := by simpa using h
    subst e
    rw [List.takeWhile_cons, List.dropWhile_cons]
    simp
  | a :: l, j + 1, p, hp, h => by
    have h' : l[j]? = some p := by simpa using h
    have hm : p ∈ l := List.mem_of_getElem? h'
    have hlt : p < a := (List.pairwise_cons.mp hp).1 p hm
    have hne : (a != p) = true := by
      rw [bne_iff_ne]; omega
    obtain ⟨h1, h2⟩ := takeWhile_place l j p (List.pairwise_cons.mp hp).2 h'
    rw [List.takeWhile_cons, List.dropWhile_cons, if_pos hne, if_pos hne]
    exact ⟨by rw [List.length_cons, h1], h2⟩
theorem adv_place {s : Stt} (h : Fall s) {j : Nat} {p : Int} (hj : s.st[j]? = some p) : adv s p = ⟨s.k :: s.st.drop j, s.bs ++ List.replicate j false ++ [true], s.k + 1⟩ := by
  obtain ⟨h1, h2⟩ := takeWhile_place s.st j p h.pw hj
  unfold adv
  rw [h1, h2]
theorem mem_place {l : List Int} {p : Int} (h : p ∈ l) : ∃ j, j < l.length ∧ l[j]? = some p := by
  obtain ⟨j, hj, e⟩ := List.getElem_of_mem h
  exact ⟨j, hj, by rw [List.getElem?_eq_getElem hj, e]⟩
/-- where the parent stands, for a good list -/
theorem good_place {P : List Int} (h : Good P) {i : Nat} {p : Int} (hi : P[i]? = some p) : ∃ j, j < (run (P.take i)).st.length ∧ (run (P.take i)).st[j]? = some p ∧
    run (P.take (i + 1)) = ⟨((i + 1 : Nat) : Int) :: (run (P.take i)).st.drop j, (run (P.take i)).bs ++ List.replicate j false ++ [true], ((i + 1 : Nat) : Int) + 1⟩ := by
  obtain ⟨j, hj, e⟩ := mem_place (h i p hi)
  refine ⟨j, hj, e, ?_⟩
  have hl : (P.take i).length = i := by
    rw [List.length_take, Nat.min_eq_left (Nat.le_of_lt (List.getElem?_eq_some_iff.mp hi).1)]
  rw [run_more hi, adv_place (fall_run _) e, run_k, hl]
  rfl
/-- unlike places hold unlike numbers -/
theorem fall_inj {l : List Int} (h : l.Pairwise (fun a b => b < a)) {i j : Nat} {p q : Int} (hi : l[i]? = some p) (hj : l[j]? = some q) (hij : i < j) : q < p := by
  obtain ⟨h1, e1⟩ := List.getElem?_eq_some_iff.mp hi
  obtain ⟨h2, e2⟩ := List.getElem?_eq_some_iff.mp hj
  have z := (List.pairwise_iff_getElem.mp h) i j h1 h2 hij
  rw [e1, e2] at z
  exact z

/-! ### how many -/
theorem sum_adv (s : Stt) (p : Int) : (adv s p).bs.length + (adv s p).st.length = s.bs.length + s.st.length + 2 := by
  have h : (s.st.takeWhile (fun x => x != p)).length + (s.st.dropWhile (fun x => x != p)).length = s.st.length := by
    rw [← List.length_append, List.takeWhile_append_dropWhile]
  unfold adv
  simp only [List.length_append, List.length_replicate, List.length_cons, List.length_nil]
  omega
theorem sum_run (P : List Int) : (run P).bs.length + (run P).st.length = 2 * (P.length + 1) := by
  refine rev_ind (C := fun P => (run P).bs.length + (run P).st.length = 2 * (P.length + 1)) ?_ ?_ P
  · rfl
  · intro P p h
    rw [run_app, sum_adv, h, List.length_append, List.length_singleton]
    omega
theorem full_len (P : List Int) : (full P).length = 2 * (P.length + 1) := by
  unfold full
  rw [List.length_append, List.length_replicate, sum_run]
theorem st_le (P : List Int) : (run P).st.length ≤ 2 * (P.length + 1) := by have := sum_run P; omega
theorem bs_le (P : List Int) : (run P).bs.length ≤ 2 * (P.length + 1) := by have := sum_run P; omega

/-! ### reading bits: ps the parents so far (none: nought's), st the stack -/
def code (b : Bool) : Nat := if b then 49 else 48
def codes (bs : List Bool) : List Nat := bs.map code
def readGo : List (Option Int) → List Int → List Nat → Option (List (Option Int))
  | ps, st, [] => if st = [] then some ps else none
  | ps, st, c :: r =>
    if ps ≠ [] ∧ st = [] then none
    else if c = 49 then readGo (ps ++ [st.head?]) ((ps.length : Int) :: st) r
    else if c = 48 then (if st = [] then none else readGo ps st.tail r)
    else none
def readM (cs : List Nat) : Option (List (Option Int)) := if cs.length = 0 ∨ 4000 < cs.length then none else readGo [] [] cs
/-- the parents, nought's ahead -/
def par (P : List Int) : List (Option Int) := none :: P.map some
theorem par_len (P : List Int) : (par P).length = P.length + 1 := by unfold par; simp
theorem par_ne (P : List Int) : par P ≠ [] := List.cons_ne_nil _ _
theorem par_app (P : List Int) (p : Int) : par (P ++ [p]) = par P ++ [some p] := by unfold par; simp

theorem read_zeros (ps : List (Option Int)) (r : List Nat) : ∀ (j : Nat) (st : List Int), j ≤ st.length → readGo ps st (codes (List.replicate j false) ++ r) = readGo ps (st.drop j) r
  | 0, st, _ => rfl
  | j + 1, [], h => by simp at h
  | j + 1, a :: st, h => by
    have e : codes (List.replicate (j + 1) false) ++ r = 48 :: (codes (List.replicate j false) ++ r) := rfl
    rw [e]
    show (if ps ≠ [] ∧ a :: st = [] then none else if (48 : Nat) = 49 then _ else if (48 : Nat) = 48 then (if a :: st = [] then none else readGo ps (a :: st).tail (codes (List.replicate j false) ++ r)) else none) = _
    rw [if_neg (fun z => List.cons_ne_nil _ _ z.2), if_neg (by decide), if_pos rfl, if_neg (List.cons_ne_nil _ _)]
    exact read_zeros ps r j st (Nat.le_of_succ_le_succ h)
theorem read_one (ps : List (Option Int)) (st : List Int) (r : List Nat) (h : ¬ (ps ≠ [] ∧ st = [])) : readGo ps st (49 :: r) = readGo (ps ++ [st.head?]) ((ps.length : Int) :: st) r := by
  show (if ps ≠ [] ∧ st = [] then none else if (49 : Nat) = 49 then _ else _) = _
  rw [if_neg h, if_pos rfl]
theorem codes_app (a b : List Bool) : codes (a ++ b) = codes a ++ codes b := List.map_append
theorem codes_len (a : List Bool) : (codes a).length = a.length := List.length_map _
theorem read_run : ∀ (P : List Int), Good P → ∀ r, readGo [] [] (codes (run P).bs ++ r) = readGo (par P) (run P).st r := by
  intro P
  refine rev_ind (C := fun P => Good P → ∀ r, readGo [] [] (codes (run P).bs ++ r) = readGo (par P) (run P).st r) ?_ ?_ P
  · intro _ r
    show readGo [] [] (49 :: r) = _
    rw [read_one _ _ _ (fun z => z.1 rfl)]
    rfl
  · intro P p ih h r
    obtain ⟨j, hj, e⟩ := mem_place h.last
    have ih' := ih h.left
    have ea : run (P ++ [p]) = ⟨(run P).k :: (run P).st.drop j, (run P).bs ++ List.replicate j false ++ [true], (run P).k + 1⟩ := by rw [run_app, adv_place (fall_run _) e]
    rw [ea]
    show readGo [] [] (codes ((run P).bs ++ List.replicate j false ++ [true]) ++ r) = readGo (par (P ++ [p])) ((run P).k :: (run P).st.drop j) r
    rw [codes_app, codes_app, List.append_assoc, List.append_assoc, ih', read_zeros _ _ _ _ (Nat.le_of_lt hj)]
    have hne : (run P).st.drop j ≠ [] := by
      intro z
      have := List.drop_eq_nil_iff.mp z
      omega
    have hh : ((run P).st.drop j).head? = some p := by rw [List.head?_drop]; exact e
    show readGo (par P) ((run P).st.drop j) (49 :: r) = _
    rw [read_one _ _ _ (fun z => hne z.2), hh, par_app, par_len, run_k]
    rfl
theorem readM_full {P : List Int} (h : Good P) (hl : P.length < 2000) : readM (codes (full P)) = some (par P) := by
  unfold readM
  rw [codes_len, full_len, if_neg (by omega)]
  unfold full
  rw [codes_app, read_run P h, ← List.append_nil (codes (List.replicate (run P).st.length false)), read_zeros _ _ _ _ (Nat.le_refl _), List.drop_length]
  rfl
end KB

set_option Elab.async false
set_option linter.all false
set_option maxRecDepth 100000
set_option maxHeartbeats 4000000
/-! Readings of expressions, beside those of HandS.Evl. -/
namespace KB
open PySem L2 Evl

/-! ### texts of bits -/
def txt (bs : List Bool) : Str := ⟨(codes bs).toArray⟩
theorem str_len (x : Str) : x.length = x.cps.toList.length := rfl
theorem str_app (x y : Str) : (x ++ y).cps = x.cps ++ y.cps := rfl
theorem txt_app (a b : List Bool) : txt a ++ txt b = txt (a ++ b) := by
  show Str.mk ((codes a).toArray ++ (codes b).toArray) = Str.mk (codes (a ++ b)).toArray
  rw [codes_app]; simp
theorem txt_len (a : List Bool) : (txt a).length = a.length := by
  show ((codes a).toArray).size = _
  simp [codes_len]
theorem txt_0 : ("0" : Str) = txt [false] := by decide +kernel
theorem txt_1 : ("1" : Str) = txt [true] := by decide +kernel
theorem txt_e : ("" : Str) = txt [] := by decide +kernel
theorem txt_cps (a : List Bool) : (txt a).cps.toList = codes a := by show (codes a).toArray.toList = _; simp
theorem codes_inj : ∀ {a b : List Bool}, codes a = codes b → a = b
  | [], [], _ => rfl
  | [], _ :: _, h => by cases h
  | _ :: _, [], h => by cases h
  | x :: a, y :: b, h => by
    have h' : code x :: codes a = code y :: codes b := h
    injection h' with h1 h2
    have e : x = y := by cases x <;> cases y <;> first | rfl | cases h1
    rw [e, codes_inj h2]
theorem txt_inj {a b : List Bool} (h : txt a = txt b) : a = b := by
  apply codes_inj
  rw [← txt_cps a, ← txt_cps b, h]

/-! ### values of parents -/
def oV : Option Int → V
  | none => .non
  | some i => .int i
def oD : Option Int → PyData
  | none => .none
  | some i => .int i
def pV (xs : List (Option Int)) : List V := xs.map oV
theorem pV_len (xs : List (Option Int)) : (pV xs).length = xs.length := List.length_map _
theorem oV_inj : ∀ {a b : Option Int}, oV a = oV b → a = b
  | none, none, _ => rfl
  | none, some _, h => by cases h
  | some _, none, h => by cases h
  | some a, some b, h => by
    have h' : V.int a = V.int b := h
    injection h' with e; rw [e]
section
variable {K : PySem.W.Frag} {H H' : Hp}
theorem dp_o : ∀ x : Option Int, Dp K H (oV x) (oD x)
  | none => .non
  | some i => .int i
theorem dpAll_o : ∀ xs : List (Option Int), DpAll K H (pV xs) (xs.map oD)
  | [] => .nil
  | x :: xs => .cons (dp_o x) (dpAll_o xs)
theorem dp_pV {a : Addr} {xs : List (Option Int)} (h : SqL K H a (pV xs)) : Dp K H (.ref a) (.list (xs.map oD)) := .lst h (dpAll_o xs)
theorem eqv_o : ∀ a b : Option Int, PyData.eqv (oD a) (oD b) = decide (a = b)
  | none, none => by simp [oD, PyData.eqv]
  | none, some _ => by simp [oD, PyData.eqv]
  | some _, none => by simp [oD, PyData.eqv]
  | some a, some b => by
    simp only [oD, PyData.eqv]
    by_cases h : a = b
    · subst h; simp
    · rw [decide_eq_false (fun z => h (Option.some.inj z))]
      exact beq_eq_false_iff_ne.mpr h
theorem eqvAll_o : ∀ xs ys : List (Option Int), PyData.eqvAll (xs.map oD) (ys.map oD) = decide (xs = ys)
  | [], [] => by simp [PyData.eqvAll]
  | [], _ :: _ => by simp [PyData.eqvAll]
  | _ :: _, [] => by simp [PyData.eqvAll]
  | x :: xs, y :: ys => by
    show PyData.eqvAll (oD x :: xs.map oD) (oD y :: ys.map oD) = _
    simp only [PyData.eqvAll]
    rw [eqv_o, eqvAll_o xs ys]
    by_cases h1 : x = y <;> by_cases h2 : xs = ys <;> simp [h1, h2]
theorem eqv_pV (xs ys : List (Option Int)) : PyData.eqv (.list (xs.map oD)) (.list (ys.map oD)) = decide (xs = ys) := by
  simp only [PyData.eqv]; exact eqvAll_o xs ys
theorem canAll_o : ∀ xs : List (Option Int), PyData.canLayAll0 (xs.map oD) = true
  | [] => by simp [PyData.canLayAll0]
  | none :: xs => by simp [PyData.canLayAll0, oD, PyData.canLay0, canAll_o xs]
  | some _ :: xs => by simp [PyData.canLayAll0, oD, PyData.canLay0, canAll_o xs]
end
theorem depthAll_o : ∀ xs : List (Option Int), PyData.depthAll (xs.map oD) = 0
  | [] => by simp [PyData.depthAll]
  | none :: xs => by simp [PyData.depthAll, oD, PyData.depth, depthAll_o xs]
  | some _ :: xs => by simp [PyData.depthAll, oD, PyData.depth, depthAll_o xs]
theorem shaped_o (xs : List (Option Int)) : SeqAt.shaped (.list (xs.map oD)) = true := by
  unfold SeqAt.shaped
  simp only [PyData.canLay0, canAll_o, PyData.depth, depthAll_o]
  rfl

/-! ### readings -/
section
variable {K : PySem.W.Frag} {σ : L2.St} {H H' : Hp} {ta tb tc te tx to : TE} {t u : TT} {x y z v : V} {r : R2}
theorem rv_addS {a b : Str} (h : a.length + b.length ≤ 100000) : RV (fun x y H Q => ∃ i j, x = .str i ∧ y = .str j ∧ i.length + j.length ≤ sizeLine ∧ Q (.str (i ++ j)) H) (.str a) (.str b) H (.str (a ++ b)) := fun H1 _ _ q => ⟨a, b, rfl, rfl, sz_of h, q H1 (Ex.refl H1)⟩
theorem rv_isN : RV (fun x y H Q => y = .non ∧ Q (.bl (decide (x = .non))) H) x .non H (.bl (decide (x = .non))) := fun H1 _ _ q => ⟨rfl, q H1 (Ex.refl H1)⟩
theorem rv_notN : RV (fun x y H Q => y = .non ∧ Q (.bl (!decide (x = .non))) H) x .non H (.bl (!decide (x = .non))) := fun H1 _ _ q => ⟨rfl, q H1 (Ex.refl H1)⟩
theorem rv_isBl {a b : Bool} : RV rIsB (.bl a) (.bl b) H (.bl (decide (a = b))) := fun H1 _ _ q => ⟨a, b, rfl, rfl, q H1 (Ex.refl H1)⟩
theorem rv_notBl {a b : Bool} : RV rNotB (.bl a) (.bl b) H (.bl (!decide (a = b))) := fun H1 _ _ q => ⟨a, b, rfl, rfl, q H1 (Ex.refl H1)⟩
mutual
theorem dp_ex (e : Ex H H') : ∀ (d : PyData) (v : V), Dp K H v d → Dp K H' v d
  | .none, _, h => by cases h; exact .non
  | .bool _, _, h => by cases h; exact .bl _
  | .int _, _, h => by cases h; exact .int _
  | .str _, _, h => by cases h; exact .str _
  | .list ds, _, h => by
    cases h with
    | lst hs ha => exact .lst (ex_l e hs) (dpAll_ex e ds _ ha)
  | .tuple ds, _, h => by
    cases h with
    | tup hs ha => exact .tup (ex_t e hs) (dpAll_ex e ds _ ha)
  | .dict _, _, h => by cases h
theorem dpAll_ex (e : Ex H H') : ∀ (ds : List PyData) (vs : List V), DpAll K H vs ds → DpAll K H' vs ds
  | [], _, h => by cases h; exact .nil
  | d :: ds, _, h => by
    cases h with
    | cons h1 h2 => exact .cons (dp_ex e d _ h1) (dpAll_ex e ds _ h2)
end
theorem rv_eqD {d f : PyData} (h1 : Dp K H x d) (h2 : Dp K H y f) (h3 : SeqAt.shaped d = true) (h4 : SeqAt.shaped f = true) : RV (rEqD K) x y H (.bl (PyData.eqv d f)) := fun H1 e _ q => ⟨d, f, dp_ex e _ _ h1, dp_ex e _ _ h2, h3, h4, q H1 (Ex.refl H1)⟩
theorem rv_neD {d f : PyData} (h1 : Dp K H x d) (h2 : Dp K H y f) (h3 : SeqAt.shaped d = true) (h4 : SeqAt.shaped f = true) : RV (rNeD K) x y H (.bl (!PyData.eqv d f)) := fun H1 e _ q => ⟨d, f, dp_ex e _ _ h1, dp_ex e _ _ h2, h3, h4, q H1 (Ex.refl H1)⟩
/-- two lists of parents -/
theorem rv_eqP {a b : Addr} {xs ys : List (Option Int)} (h1 : SqL K H a (pV xs)) (h2 : SqL K H b (pV ys)) : RV (rEqD K) (.ref a) (.ref b) H (.bl (decide (xs = ys))) := by
  have h := rv_eqD (H := H) (dp_pV h1) (dp_pV h2) (shaped_o xs) (shaped_o ys)
  rw [eqv_pV] at h; exact h
theorem rv_neP {a b : Addr} {xs ys : List (Option Int)} (h1 : SqL K H a (pV xs)) (h2 : SqL K H b (pV ys)) : RV (rNeD K) (.ref a) (.ref b) H (.bl (!decide (xs = ys))) := by
  have h := rv_neD (H := H) (dp_pV h1) (dp_pV h2) (shaped_o xs) (shaped_o ys)
  rw [eqv_pV] at h; exact h
theorem ev_slS {w : Str} {tl th : TO} {lo hi : Option Int} (h : Ev te σ H (.str w)) (h1 : EvO tl σ H lo) (h2 : EvO th σ H hi) (hl : w.length ≤ 100000) : Ev (tSl rSlS te tl th) σ H (.str (cutS w lo hi)) := fun H1 e _ q =>
  h H1 e _ fun H2 e2 => h1 H2 (e.trans e2) _ fun H3 e3 => h2 H3 ((e.trans e2).trans e3) _ fun H4 e4 => ⟨w, rfl, sz_of hl, q H4 ((e2.trans e3).trans e4)⟩
theorem ev_lenS {w : Str} (h : Ev te σ H (.str w)) (hl : w.length ≤ 100000) : Ev (tCB (fun xs H Q => ∃ z, xs = [.str z] ∧ z.length ≤ sizeLine ∧ Q (.int z.length) H) (tCons te tNil)) σ H (.int (w.length : Int)) := fun H1 e _ q =>
  h H1 e _ fun H2 e2 => ⟨w, rfl, sz_of hl, q H2 e2⟩
theorem tyx_ex {tv : Value} (e : Ex H H') (h : TyX K H x tv) : TyX K H' x tv := by
  cases h with
  | base h =>
    refine .base ?_
    cases h with
    | non => exact .non
    | bl => exact .bl _
    | int => exact .int _
    | str => exact .str _
    | flt => exact .flt _
    | lst ea => exact .lst (e _ _ ea)
    | frz ea => exact .frz (e _ _ ea)
    | tup ea => exact .tup (e _ _ ea)
    | dK ea => exact .dK (e _ _ ea)
    | dT ea => exact .dT (e _ _ ea)
    | ins ea cl a b c d => exact .ins (e _ _ ea) cl a b c d
  | byt b => exact .byt b
  | set ea => exact .set (e _ _ ea)
  | kList ea c => exact .kList ea c
  | kTuple ea c => exact .kTuple ea c
  | kDict ea c => exact .kDict ea c
  | fTuple ea => exact .fTuple (e _ _ ea)
  | fDict ea => exact .fDict (e _ _ ea)
theorem ev_isi {c : V} {tv uv : Value} {b : Bool} (h1 : Ev ta σ H x) (h2 : Ev tb σ H c) (k : ClsV c uv) (ty : TyX K H x tv) (hb : PySem.W.kitOne K tv uv = some b) : Ev (tCB (rIsi K) (tCons ta (tCons tb tNil))) σ H (.bl b) := fun H1 e _ q =>
  h1 H1 e _ fun H2 e2 => h2 H2 (e.trans e2) _ fun H3 e3 => ⟨x, c, tv, uv, b, rfl, k, tyx_ex ((e.trans e2).trans e3) ty, hb, q H3 (e2.trans e3)⟩
theorem ev_min2 {i j : Int} (ha : Ev ta σ H (.int i)) (hb : Ev tb σ H (.int j)) : Ev (tCB (fun xs H Q => ∃ i j, xs = [.int i, .int j] ∧ Q (.int (if j < i then j else i)) H) (tCons ta (tCons tb tNil))) σ H (.int (min i j)) := fun H1 e Q q =>
  ha H1 e _ fun H2 e2 => hb H2 (e.trans e2) _ fun H3 e3 => ⟨i, j, rfl, by
    have z : (if j < i then j else i) = min i j := by split <;> omega
    show Q (.int (if j < i then j else i)) H3
    rw [z]; exact q H3 (e2.trans e3)⟩
theorem tru_ex {k : Bool} (e : Ex H H') (h : TruV K x H k) : TruV K x H' k := by
  cases x with
  | ref p =>
    rcases h with ⟨xs, h, r⟩ | ⟨xs, h, r⟩ | ⟨kvs, h, r⟩
    · exact .inl ⟨xs, ex_l e h, r⟩
    · exact .inr (.inl ⟨xs, ex_t e h, r⟩)
    · exact .inr (.inr ⟨kvs, e _ _ h, r⟩)
  | _ => exact h
theorem et_truth {k : Bool} (h : Ev ta σ H x) (ht : TruV K x H k) : EvT (fun σ H Q => ta σ H fun x H' => ∃ k, TruV K x H' k ∧ Q k H') σ H k := fun H1 e _ q => h H1 e _ fun H2 e2 => ⟨k, tru_ex (e.trans e2) ht, q H2 e2⟩
theorem tru_l {a : Addr} {xs : List V} (h : SqL K H a xs) : TruV K (.ref a) H (!xs.isEmpty) := .inl ⟨xs, h, rfl⟩
/-- a < b < c of ints, the second by its own answer -/
theorem ev_chain {r' : R2} {b : Bool} {b2 : Bool} (h1 : Ev ta σ H x) (h2 : Ev tb σ H y) (hr : RV r x y H (.bl b)) (h3 : b = true → Ev tc σ H z) (hr2 : b = true → RV r' y z H (.bl b2)) : Ev (tChain r r' ta tb tc) σ H (.bl (b && b2)) := fun H1 e Q q =>
  h1 H1 e _ fun H2 e2 => h2 H2 (e.trans e2) _ fun H3 e3 => hr H3 ((e.trans e2).trans e3) _ fun H4 e4 => ⟨b, rfl, by
    cases b with
    | true =>
      show tc σ H4 _
      exact h3 rfl H4 (((e.trans e2).trans e3).trans e4) _ fun H5 e5 => hr2 rfl H5 ((((e.trans e2).trans e3).trans e4).trans e5) _ fun H6 e6 => q H6 ((((e2.trans e3).trans e4).trans e5).trans e6)
    | false =>
      show Q (.bl false) H4
      exact q H4 ((e2.trans e3).trans e4)⟩
theorem ev_join {a : Str} {p : Addr} {ys : List Str} (h1 : Ev to σ H (.str a)) (h2 : Ev te σ H (.ref p)) (hs : SqL K H p (ys.map V.str)) (hl : (ys.map (·.length)).sum + ys.length * a.length ≤ 16777216) :
    Ev (tM1 (fun x xs H Q => ∃ a p, ∃ ys : List Str, x = .str a ∧ xs = [.ref p] ∧ (SqL K H p (ys.map V.str) ∨ SqT K H p (ys.map V.str)) ∧ (ys.map (·.length)).sum + ys.length * a.length ≤ 16777216 ∧ Q (.str (Txt.join a ys)) H) to te) σ H (.str (Txt.join a ys)) := fun H1 e Q q =>
  h1 H1 e _ fun H2 e2 => ⟨⟨a, rfl⟩, h2 H2 (e.trans e2) _ fun H3 e3 => ⟨a, p, ys, rfl, rfl, .inl (ex_l ((e.trans e2).trans e3) hs), hl, q H3 (e2.trans e3)⟩⟩
theorem ev_fld {a C dx : Addr} {fs : List (Str × V)} {f : Str} (h : Ev ta σ H (.ref a)) (ho : H a = some (.ins C dx fs)) (hc : Cls K C) (hn : NoAttr K C f) (hl : fs.lookup f = some v) : Ev (tFld K ta f) σ H v := fun H1 e _ q =>
  h H1 e _ fun H2 e2 => ⟨a, C, dx, fs, v, rfl, (e.trans e2) _ _ ho, hc, hn, hl, q H2 e2⟩
theorem rv_inS {c : Nat} {w : Str} : RV (fun x y H Q => ∃ (c : Nat) (z : Str), x = .str ⟨#[c]⟩ ∧ y = .str z ∧ Q (.bl (decide (c ∈ z.cps.toList))) H) (.str ⟨#[c]⟩) (.str w) H (.bl (decide (c ∈ w.cps.toList))) := fun H1 _ _ q => ⟨c, w, rfl, rfl, q H1 (Ex.refl H1)⟩
theorem rv_notInS {c : Nat} {w : Str} : RV (fun x y H Q => ∃ (c : Nat) (z : Str), x = .str ⟨#[c]⟩ ∧ y = .str z ∧ Q (.bl (!decide (c ∈ z.cps.toList))) H) (.str ⟨#[c]⟩) (.str w) H (.bl (!decide (c ∈ w.cps.toList))) := fun H1 _ _ q => ⟨c, w, rfl, rfl, q H1 (Ex.refl H1)⟩
/-- list + list, both new -/
theorem el_catLL {xs ys : List V} (h1 : EvL ta σ H xs) (h2 : EvL tb σ H ys) (hl : xs.length + ys.length ≤ 100000) : EvL (tOp rCat ta tb) σ H (xs ++ ys) := fun H1 e Q q =>
  h1 H1 e _ fun p H2 hp e2 h2' => h2 H2 (e.trans e2) _ fun p2 H3 hp2 e3 h3' => ⟨p, p2, xs, ys, rfl, rfl, e3 _ _ h2', h3', sz_of hl, fun l hl => q l _ (fresh_back (e2.trans e3) hl) ((e2.trans e3).trans (Ex.new hl)) upd_same⟩

/-! ### statements -/
variable {D : Ends} {tz : TS}
theorem s_pop {l : Addr} {xs : List V} {y : V} (hl : H l = some (.lst xs)) (ha : Ev ta σ H (.ref l)) (hy : xs[xs.length - 1]? = some y) (k : ∀ H1, Ex H H1 → D.nx σ (upd H1 l (.lst xs.dropLast))) :
    tDrop (tBM0 K "list" rPop ta) D σ H := ha H (Ex.refl H) _ fun H1 e1 => ⟨Or.inl ⟨rfl, xs, sq_of (e1 l _ hl)⟩, l, xs, y, rfl, rfl, e1 l _ hl, hy, k H1 e1⟩
theorem q_pop {l : Addr} {xs : List V} {y : V} (hl : H l = some (.lst xs)) (ha : Ev ta σ H (.ref l)) (hy : xs[xs.length - 1]? = some y) (k : ∀ H1, Ex H H1 → tz D σ (upd H1 l (.lst xs.dropLast))) :
    tSeq (tDrop (tBM0 K "list" rPop ta)) tz D σ H := s_pop (D := { D with nx := tz D }) hl ha hy k
end

/-! ### a list of one's own: new since H0 -/
structure Own (H0 H : Hp) (a : Addr) (xs : List V) : Prop where
  nw : H0 a = none
  at_ : H a = some (.lst xs)
section
variable {K : PySem.W.Frag} {H0 H H' : Hp} {a b : Addr} {xs ys : List V} {o : HO}
theorem Own.sq (h : Own H0 H a xs) : SqL K H a xs := sq_of h.at_
theorem Own.ex (h : Own H0 H a xs) (e : Ex H H') : Own H0 H' a xs := ⟨h.nw, e _ _ h.at_⟩
theorem Own.back {H1 : Hp} (h : Own H1 H a xs) (e : Ex H0 H1) : Own H0 H a xs := ⟨fresh_back e h.nw, h.at_⟩
theorem Own.put (h : Own H0 H a xs) : Own H0 (upd H' a (.lst ys)) a ys := ⟨h.nw, upd_same⟩
theorem Own.off (h : Own H0 H a xs) (n : a ≠ b) : Own H0 (upd H b o) a xs := ⟨h.nw, by rw [upd_ne n]; exact h.at_⟩
theorem Own.ne (h : Own H0 H a xs) (hb : H b = none) : a ≠ b := ne_of_none h.at_ hb
end

/-! ### "0" * n -/
def rMulS : R2 := fun x y H Q => ∃ (z : Str) (n : Int), x = .str z ∧ y = .int n ∧ z.length = 1 ∧ 0 ≤ n ∧ n ≤ 100000 ∧ Q (.str (Txt.mul z n)) H
theorem op_mulS {X : Cx} : OpR X (binaryOp .Mult) rMulS := by
  intro pins s σ H x y v u Q I rx ry h
  obtain ⟨z, n, rfl, rfl, hz, h0, h1, q⟩ := h
  obtain ⟨t, rfl⟩ := rx
  obtain ⟨t2, rfl⟩ := ry
  refine SB.mul ?_ (fun t' k => ⟨.str (Txt.mul z n), H, I.tok k, ⟨t', rfl⟩, q⟩)
  refine ⟨?_, fun h2 _ => ?_, fun h2 _ => ?_⟩
  · rw [decide_eq_false (by omega), decide_eq_false (by omega)]; rfl
  · rw [hz]
    intro c
    have hn : (1 : Int) ≤ n := by omega
    have h3 : n ≤ (2 ^ 63 - 1) := by omega
    have h4 : (1 : Int) ≤ (2 ^ 63 - 1) / n := (Int.le_ediv_iff_mul_le (by omega)).mpr (by omega)
    have c' : ((1 : Nat) : Int) > (2 ^ 63 - 1) / n := c
    omega
  · rw [hz, Nat.one_mul]
    unfold PySem.Builtin.Str.tooLong
    exact decide_eq_false (by
      have : n.toNat ≤ 100000 := by omega
      have h5 : (100000 : Nat) ≤ sizeLine := by decide
      omega)
theorem mul_one (c : Nat) : ∀ n : Nat, (List.replicate n (#[c] : Array Nat)).foldl (· ++ ·) #[] = (List.replicate n c).toArray := by
  have g : ∀ (n : Nat) (acc : List Nat), (List.replicate n (#[c] : Array Nat)).foldl (· ++ ·) acc.toArray = (acc ++ List.replicate n c).toArray := by
    intro n
    induction n with
    | zero => intro acc; simp
    | succ n ih =>
      intro acc
      rw [List.replicate_succ, List.foldl_cons]
      have e : acc.toArray ++ #[c] = (acc ++ [c]).toArray := by simp
      rw [e, ih (acc ++ [c]), List.replicate_succ, List.append_assoc]
      rfl
  intro n
  have h := g n []
  simpa using h
theorem mul_0 (n : Int) (h0 : 0 ≤ n) : Txt.mul ("0" : Str) n = txt (List.replicate n.toNat false) := by
  rw [txt_0]
  unfold Txt.mul
  by_cases h : n < 1
  · have e : n = 0 := by omega
    subst e
    rw [if_pos h]; rfl
  · rw [if_neg h]
    by_cases h2 : n = 1
    · subst h2; rfl
    · have h3 : (n == 1 || (txt [false]).length == 0) = false := by
        rw [txt_len]
        simp [h2]
      rw [h3, if_neg (by decide)]
      show Str.mk ((List.replicate n.toNat (#[48] : Array Nat)).foldl (· ++ ·) #[]) = Str.mk (codes (List.replicate n.toNat false)).toArray
      rw [mul_one]
      unfold codes
      rw [List.map_replicate]
      rfl
section
variable {σ : L2.St} {H : Hp} {te : TE}
theorem rv_mulS {n : Int} (h : 0 ≤ n ∧ n ≤ 100000) : RV rMulS (.str ("0" : Str)) (.int n) H (.str (txt (List.replicate n.toNat false))) := fun H1 _ Q q => by
  refine ⟨"0", n, rfl, rfl, by decide +kernel, h.1, h.2, ?_⟩
  rw [mul_0 n h.1]
  exact q H1 (Ex.refl H1)
end
/-! ### join of pieces -/
def catS (ys : List Str) : List Nat := (ys.map (fun y => y.cps.toList)).flatten
theorem catS_app (a b : List Str) : catS (a ++ b) = catS a ++ catS b := by unfold catS; rw [List.map_append, List.flatten_append]
theorem catS_one (y : Str) : catS [y] = y.cps.toList := by unfold catS; simp
theorem join_fold : ∀ (ps : List Str) (acc : Array Nat), (ps.foldl (fun acc p => acc ++ (Str.empty).cps ++ p.cps) acc) = acc ++ (catS ps).toArray
  | [], acc => by simp [catS]
  | p :: ps, acc => by
    rw [List.foldl_cons, join_fold ps]
    have e : catS (p :: ps) = p.cps.toList ++ catS ps := by unfold catS; simp
    rw [e]
    have e2 : (Str.empty).cps = #[] := rfl
    rw [e2]
    apply Array.toList_inj.mp
    simp
theorem empty_is : ("" : Str) = Str.empty := by decide +kernel
theorem join_cat (ps : List Str) : Txt.join ("" : Str) ps = ⟨(catS ps).toArray⟩ := by
  rw [empty_is]
  show Str.mk ((ps.drop 1).foldl (fun acc p => acc ++ (Str.empty).cps ++ p.cps) (ps.headD Str.empty).cps) = _
  rw [join_fold]
  cases ps with
  | nil => rfl
  | cons p ps =>
    have e : catS (p :: ps) = p.cps.toList ++ catS ps := by unfold catS; simp
    rw [e]
    show Str.mk (p.cps ++ (catS ps).toArray) = _
    congr 1
    apply Array.toList_inj.mp
    simp
theorem catS_sum : ∀ ps : List Str, (ps.map (·.length)).sum = (catS ps).length
  | [] => rfl
  | p :: ps => by
    have e : catS (p :: ps) = p.cps.toList ++ catS ps := by unfold catS; simp
    rw [e, List.map_cons, List.sum_cons, catS_sum ps, List.length_append]
    rfl
end KB
namespace KB
open PySem PySem.Spec PyProof.Rows L2 Evl
/-- z[::-1] -/
def revS (z : Str) : Str := Txt.sliceBy z none none (-1, 0)
theorem revS_len (z : Str) : (revS z).length = z.length := step_rev_len z 0
def tRevS (te : TE) : TE := fun σ H Q => te σ H fun x H1 => ∃ z, x = .str z ∧ z.length ≤ sizeLine ∧ Q (.str (revS z)) H1
section
variable {X : Cx}
theorem pe_revS {e : Expr} {te : TE} {k : Nat} {p1 p2 p3 pos : Pos} (he : PE X e te) : PE X (.Subscript e (.Slice none none (some (.UnaryOp .USub (.Constant (.int 1) k p1) p2)) p3) pos) (tRevS te) := by
  refine ⟨fun pins s σ H Q I h => ?_⟩
  refine Subscript_ (thn (he.run pins s σ H _ I h) fun v s1 ⟨x, H1, I1, r1, q1⟩ => ?_)
  obtain ⟨z, ex, hz, q⟩ := q1
  subst ex
  obtain ⟨t, rfl⟩ := r1
  have hst : PO X (some (.UnaryOp .USub (.Constant (.int 1) k p1) p2)) (tPart (tUn (rU fun i => .int (-i)) (tC (.int 1)))) := po_some (pe_un un_neg pe_int)
  refine wpAny_Slice (thn (po_none.run pins s1 σ H1 (fun o H2 => o = none ∧ H2 = H1) I1 ⟨rfl, rfl⟩) fun vl s2 ⟨l, H2, I2, pl, el, e2⟩ => ?_)
  subst el e2
  refine thn (po_none.run pins s2 σ H2 (fun o H3 => o = none ∧ H3 = H2) I2 ⟨rfl, rfl⟩) fun vu s3 ⟨u, H3, I3, pu, eu, e3⟩ => ?_
  subst eu e3
  refine thn (hst.run pins s3 σ H3 (fun o H4 => o = some (-1) ∧ H4 = H3) I3 ⟨1, rfl, -1, rfl, rfl, rfl⟩) fun vs s4 ⟨o, H4, I4, ps, eo, e4⟩ => ?_
  subst eo e4
  obtain ⟨l, hl1, hl2⟩ := IsPart.raw pl
  obtain ⟨u, hu1, hu2⟩ := IsPart.raw pu
  obtain ⟨st, hs1, hs2⟩ := IsPart.raw ps
  subst hl1 hu1 hs1
  cases l with
  | some _ => cases hl2
  | none =>
    cases u with
    | some _ => cases hu2
    | none =>
      cases st with
      | none => cases hs2
      | some p =>
        obtain ⟨i, tk⟩ := p
        have hi : (-1 : Int) = i := (Option.some.inj hs2).symm
        subst hi
        have I5 : Inv X pins σ H4 { s4 with heap := s4.heap.push { cls := .type "slice", data := .fields #[partValue none, partValue none, partValue (some (-1, tk))] } } := I4.kept (t' := s4.toks) fun b ob q => Heap.get?_push_of_some _ q
        show wpAny (model X.prog X.w) X.A (subscriptTail e (.Slice none none (some (.UnaryOp .USub (.Constant (.int 1) k p1) p2)) p3) (.str z t) (.ref s4.heap.objs.size)) (EP X pins σ Q) X.xe { s4 with heap := s4.heap.push { cls := .type "slice", data := .fields #[partValue none, partValue none, partValue (some (-1, tk))] } }
        refine tail_any (ops := [.str z t, .ref s4.heap.objs.size]) (typeIs_str _ _ _) F.slot_str_getitem.lookup ?_ (by with_unfolding_all rfl)
        refine wpAny_getItem_str_slice (l := none) (u := none) (st := some (-1, tk)) ⟨_, Heap.get?_push_size _ rfl, rfl, rfl⟩ rfl ?_
        have hlen := step_rev_len z tk
        have hq : Q (.str (Txt.sliceBy z none none (-1, tk))) H4 := q
        unfold sliceMade
        unfold Txt.sliceBy at hlen hq
        have hc : ((((some ((-1 : Int), tk)).map (·.1)).getD 1 == 1 && (slicePicked z none none (some (-1, tk))).length == z.length)) = false := rfl
        rw [hc] at hlen hq ⊢
        rw [if_neg Bool.false_ne_true] at hlen hq ⊢
        exact ⟨by rw [hlen]; exact hz, .str _, H4, I5.tok _, ⟨_, rfl⟩, hq⟩
end
theorem ev_revS {σ : L2.St} {H : Hp} {te : TE} {z : Str} (h : Ev te σ H (.str z)) (hl : z.length ≤ 100000) : Ev (tRevS te) σ H (.str (revS z)) := fun H1 e _ q => h H1 e _ fun H2 e2 => ⟨z, rfl, sz_of hl, q H2 e2⟩
theorem mul_1s (n : Int) (h0 : 0 ≤ n) : Txt.mul ("1" : Str) n = txt (List.replicate n.toNat true) := by
  rw [txt_1]
  unfold Txt.mul
  by_cases h : n < 1
  · have e : n = 0 := by omega
    subst e
    rw [if_pos h]; rfl
  · rw [if_neg h]
    by_cases h2 : n = 1
    · subst h2; rfl
    · have h3 : (n == 1 || (txt [true]).length == 0) = false := by
        rw [txt_len]
        simp [h2]
      rw [h3, if_neg (by decide)]
      show Str.mk ((List.replicate n.toNat (#[49] : Array Nat)).foldl (· ++ ·) #[]) = Str.mk (codes (List.replicate n.toNat true)).toArray
      rw [mul_one]
      unfold codes
      rw [List.map_replicate]
      rfl
theorem rv_mulS1 {H : Hp} {n : Int} (h : 0 ≤ n ∧ n ≤ 100000) : RV rMulS (.str ("1" : Str)) (.int n) H (.str (txt (List.replicate n.toNat true))) := fun H1 _ Q q => by
  refine ⟨"1", n, rfl, rfl, by decide +kernel, h.1, h.2, ?_⟩
  rw [mul_1s n h.1]
  exact q H1 (Ex.refl H1)
end KB

namespace KB
open PySem L2 Evl
/-! ### stacks as lists -/
def stk (st : List Int) : List V := st.reverse.map V.int
theorem stk_cons (x : Int) (st : List Int) : stk (x :: st) = stk st ++ [.int x] := by unfold stk; rw [List.reverse_cons, List.map_append]; rfl
theorem stk_len (st : List Int) : (stk st).length = st.length := by unfold stk; rw [List.length_map, List.length_reverse]
theorem stk_last (x : Int) (st : List Int) : atI (stk (x :: st)) (-1) = some (.int x) := by rw [stk_cons]; exact atI_last _ _
theorem stk_top (x : Int) (st : List Int) : (stk (x :: st))[(stk (x :: st)).length - 1]? = some (.int x) := by
  rw [stk_cons, List.length_append, List.length_singleton, Nat.add_sub_cancel]; simp
theorem stk_pop (x : Int) (st : List Int) : (stk (x :: st)).dropLast = stk st := by rw [stk_cons]; simp
theorem stk_cut (st : List Int) (j : Nat) {h : Int} (hh : h = ((st.length - j : Nat) : Int)) : cutV (stk st) none (some h) = stk (st.drop j) := by
  subst hh
  unfold cutV
  rw [HT.sIx_none, HT.sIx_nat, stk_len, Nat.min_eq_left (Nat.sub_le _ _), Nat.sub_zero, List.drop_zero]
  unfold stk
  rw [← List.map_take, List.take_reverse]
  congr 2
  by_cases hj : j ≤ st.length
  · rw [Nat.sub_sub_self hj]
  · rw [show st.length - (st.length - j) = st.length by omega, List.drop_length, List.drop_eq_nil_of_le (by omega)]
theorem stk_emp (st : List Int) : (stk st).isEmpty = st.isEmpty := by
  cases st with
  | nil => rfl
  | cons x r => rw [stk_cons]; simp
theorem atI_six {a0 a1 a2 a3 a4 a5 : Int} (h0 : 0 ≤ a0) (h1 : 0 ≤ a1) (h2 : 0 ≤ a2) (h3 : 0 ≤ a3) (h4 : 0 ≤ a4) (h5 : 0 ≤ a5) {i : Int} (hi : 0 ≤ i) (hi2 : i < 6) :
    ∃ u, 0 ≤ u ∧ atI [V.int a0, .int a1, .int a2, .int a3, .int a4, .int a5] i = some (.int u) := by
  have h : i = 0 ∨ i = 1 ∨ i = 2 ∨ i = 3 ∨ i = 4 ∨ i = 5 := by omega
  rcases h with rfl | rfl | rfl | rfl | rfl | rfl
  · exact ⟨a0, h0, rfl⟩
  · exact ⟨a1, h1, rfl⟩
  · exact ⟨a2, h2, rfl⟩
  · exact ⟨a3, h3, rfl⟩
  · exact ⟨a4, h4, rfl⟩
  · exact ⟨a5, h5, rfl⟩
theorem pV_app (xs : List (Option Int)) (p : Int) : pV (xs ++ [some p]) = pV xs ++ [.int p] := by unfold pV; rw [List.map_append]; rfl
/-! ### a list of ints as data -/
theorem dpAll_int {K : PySem.W.Frag} {H : Hp} : ∀ ns : List Int, DpAll K H (ns.map V.int) (ns.map PyData.int)
  | [] => .nil
  | n :: ns => .cons (.int n) (dpAll_int ns)
theorem canAll_int : ∀ ns : List Int, PyData.canLayAll0 (ns.map PyData.int) = true
  | [] => by simp [PyData.canLayAll0]
  | n :: ns => by simp [PyData.canLayAll0, PyData.canLay0, canAll_int ns]
theorem depthAll_int : ∀ ns : List Int, PyData.depthAll (ns.map PyData.int) = 0
  | [] => by simp [PyData.depthAll]
  | n :: ns => by simp [PyData.depthAll, PyData.depth, depthAll_int ns]
theorem shaped_int (ns : List Int) : SeqAt.shaped (.list (ns.map PyData.int)) = true := by
  unfold SeqAt.shaped
  simp only [PyData.canLay0, canAll_int, PyData.depth, depthAll_int]
  rfl
theorem shaped_nil : SeqAt.shaped (.list []) = true := shaped_int []
theorem eqv_nil (ns : List Int) : PyData.eqv (.list (ns.map PyData.int)) (.list []) = decide (ns = []) := by
  cases ns with
  | nil => simp [PyData.eqv, PyData.eqvAll]
  | cons n r => simp [PyData.eqv, PyData.eqvAll]
theorem rv_neNil {K : PySem.W.Frag} {H : Hp} {a b : Addr} {st : List Int} (h1 : SqL K H a (stk st)) (h2 : SqL K H b []) : RV (rNeD K) (.ref a) (.ref b) H (.bl (!decide (st = []))) := by
  have h := rv_neD (H := H) (x := .ref a) (y := .ref b) (.lst h1 (dpAll_int st.reverse)) (.lst h2 .nil) (shaped_int _) shaped_nil
  rw [eqv_nil] at h
  have e : decide (st.reverse = []) = decide (st = []) := by cases st <;> simp
  rw [e] at h
  exact h
/-! ### the bits, turn by turn -/
def rs (P : List Int) : Nat → List Int
  | 0 => []
  | i + 1 => (run (P.take i)).st
def rb (P : List Int) : Nat → List Bool
  | 0 => []
  | i + 1 => (run (P.take i)).bs
theorem bits_turn {P : List Int} (hg : Good P) {i : Nat} (hi : i ≤ P.length) : ∃ (J : Nat) (p : Int), (∀ j, j < J → ∃ q, (rs P i)[j]? = some q ∧ q ≠ p) ∧ J ≤ (rs P i).length ∧ (J = (rs P i).length ∨ (rs P i)[J]? = some p) ∧
    (rs P i ≠ [] → (pV (par P))[i]? = some (.int p)) ∧ rs P (i + 1) = (i : Int) :: (rs P i).drop J ∧ rb P (i + 1) = rb P i ++ List.replicate J false ++ [true] := by
  cases i with
  | zero =>
    exact ⟨0, 0, fun j h => absurd h (Nat.not_lt_zero _), Nat.le_refl _, .inl rfl, fun h => absurd rfl h, rfl, rfl⟩
  | succ i =>
    have hlt : i < P.length := hi
    obtain ⟨p, hp⟩ : ∃ p, P[i]? = some p := ⟨_, List.getElem?_eq_getElem hlt⟩
    obtain ⟨j, hj, e, er⟩ := good_place hg hp
    refine ⟨j, p, fun l hl => ?_, Nat.le_of_lt hj, .inr e, fun _ => ?_, ?_, ?_⟩
    · have hl' : l < (run (P.take i)).st.length := Nat.lt_trans hl hj
      refine ⟨_, List.getElem?_eq_getElem hl', ?_⟩
      have z := fall_inj (fall_run _).pw (List.getElem?_eq_getElem hl') e hl
      omega
    · unfold pV par
      rw [List.map_cons, List.getElem?_cons_succ, List.map_map, List.getElem?_map, hp]
      rfl
    · show (run (P.take (i + 1))).st = _
      rw [er]; rfl
    · show (run (P.take (i + 1))).bs = _
      rw [er]; rfl
theorem rb_le {P : List Int} {i : Nat} (hi : i ≤ P.length + 1) : (rb P i).length + (rs P i).length ≤ 2 * (P.length + 1) := by
  cases i with
  | zero => simp [rb, rs]
  | succ i =>
    have h := sum_run (P.take i)
    rw [List.length_take] at h
    show (run (P.take i)).bs.length + (run (P.take i)).st.length ≤ _
    omega
/-! ### facts of values, promises -/
def isInt : V → Bool
  | .int _ => true
  | _ => false
section
variable {K : PySem.W.Frag} {H H' : Hp}
/-- a value whose kind is known -/
def Kd (K : PySem.W.Frag) (H : Hp) (x : V) : Prop := ∃ tv b1 b2, TyX K H x tv ∧ PySem.W.kitOne K tv (.type "int") = some b1 ∧ PySem.W.kitOne K tv (.type "bool") = some b2 ∧ (b1 && !b2) = isInt x
theorem Kd.ex {x : V} (e : Ex H H') (h : Kd K H x) : Kd K H' x := by
  obtain ⟨tv, b1, b2, h1, h2⟩ := h
  exact ⟨tv, b1, b2, tyx_ex e h1, h2⟩
theorem kd_int (i : Int) : Kd K H (.int i) := ⟨_, true, false, .base (.int i), kit_ty (by decide +kernel), kit_ty (by decide +kernel), rfl⟩
theorem kd_non : Kd K H .non := ⟨_, false, false, .base .non, kit_ty (by decide +kernel), kit_ty (by decide +kernel), rfl⟩
theorem kd_bl (b : Bool) : Kd K H (.bl b) := ⟨_, true, true, .base (.bl b), kit_ty (by decide +kernel), kit_ty (by decide +kernel), rfl⟩
theorem kd_str (z : Str) : Kd K H (.str z) := ⟨_, false, false, .base (.str z), kit_ty (by decide +kernel), kit_ty (by decide +kernel), rfl⟩
theorem kd_lst {a : Addr} {xs : List V} (h : H a = some (.lst xs)) : Kd K H (.ref a) := ⟨_, false, false, .base (.lst h), kit_ty (by decide +kernel), kit_ty (by decide +kernel), rfl⟩
theorem kd_tup {a : Addr} {xs : List V} (h : H a = some (.tup xs)) : Kd K H (.ref a) := ⟨_, false, false, .base (.tup h), kit_ty (by decide +kernel), kit_ty (by decide +kernel), rfl⟩
theorem kd_o : ∀ x : Option Int, Kd K H (oV x)
  | none => kd_non
  | some i => kd_int i
theorem kd_pV {xs : List (Option Int)} {x : V} (h : x ∈ pV xs) : Kd K H x := by
  obtain ⟨o, _, rfl⟩ := List.mem_map.mp h
  exact kd_o o
end
/-! ### the script's cells -/
def cell (ns : List Int) (k : Nat) : Int := if k < ns.length then (ns.getD k 0 * 48271 + 7919 * (k : Int) + 13) % 1000003 else 7919 * (k : Int) % 1000003
theorem cell_ge (ns : List Int) (k : Nat) : 0 ≤ cell ns k := by
  unfold cell; split <;> omega
theorem cell_lt (ns : List Int) (k : Nat) : cell ns k < 1000003 := by
  unfold cell; split <;> omega
def spCell (K : PySem.W.Frag) : Sp := fun vs H Q _ => ∃ (a : Addr) (ns : List Int) (k : Nat), vs = [.ref a, .int k] ∧ SqL K H a (ns.map V.int) ∧ ∀ H', Ex H H' → Q (.int (cell ns k)) H'
def spWhole (K : PySem.W.Frag) : Sp := fun vs H Q _ => ∃ (x : V), vs = [x] ∧ Kd K H x ∧ ∀ H', Ex H H' → Q (.bl (isInt x)) H'
section
variable {K : PySem.W.Frag} {H : Hp}
theorem sv_cell {a : Addr} {ns : List Int} {i : Int} (k : Nat) (hi : i = (k : Int)) (h : SqL K H a (ns.map V.int)) : SpV (spCell K) [.ref a, .int i] H (.int (cell ns k)) := fun H1 e Q q E => ⟨a, ns, k, by rw [hi], ex_l e h, q⟩
theorem sv_whole {x : V} (h : Kd K H x) : SpV (spWhole K) [x] H (.bl (isInt x)) := fun H1 e Q q E => ⟨x, rfl, h.ex e, q⟩
end
/-! ### the tree that the script tells -/
/-- the greatest number of knots is 160 -/
def spParents (K : PySem.W.Frag) : Sp := fun vs H Q _ => ∃ (a : Addr) (ns : List Int), vs = [.ref a] ∧ SqL K H a (ns.map V.int) ∧ ∀ P : List Int, Good P → P.length < 160 → ∀ p H', H p = none → Ex H H' → H' p = some (.lst (pV (par P))) → Q (.ref p) H'
def spBits (K : PySem.W.Frag) : Sp := fun vs H Q _ => ∃ (a : Addr) (P : List Int), vs = [.ref a] ∧ SqL K H a (pV (par P)) ∧ Good P ∧ P.length < 2000 ∧ ∀ H', Ex H H' → Q (.str (txt (full P))) H'
/-! ### which lists are those of trees -/
theorem pV_inj : ∀ {a b : List (Option Int)}, pV a = pV b → a = b
  | [], [], _ => rfl
  | [], _ :: _, h => by cases h
  | _ :: _, [], h => by cases h
  | x :: a, y :: b, h => by
    have h' : oV x :: pV a = oV y :: pV b := h
    injection h' with h1 h2
    rw [oV_inj h1, pV_inj h2]
theorem par_inj {P Q : List Int} (h : par P = par Q) : P = Q := by
  have h' : (none : Option Int) :: P.map some = none :: Q.map some := h
  injection h' with _ h2
  have h3 := congrArg (List.map (fun o : Option Int => o.getD 0)) h2
  rw [List.map_map, List.map_map] at h3
  have e : ((fun o : Option Int => o.getD 0) ∘ some) = id := rfl
  rw [e, List.map_id, List.map_id] at h3
  exact h3
def IsTree (xs : List V) (P : List Int) : Prop := xs = pV (par P) ∧ Good P ∧ P.length < 2000
theorem IsTree.uniq {xs : List V} {P Q : List Int} (h : IsTree xs P) (h2 : IsTree xs Q) : P = Q := par_inj (pV_inj (h.1.symm.trans h2.1))
open Classical in
noncomputable def bitsV (xs : List V) : Option (List Bool) := if h : ∃ P, IsTree xs P then some (full h.choose) else none
theorem bitsV_some {xs : List V} {P : List Int} (h : IsTree xs P) : bitsV xs = some (full P) := by
  have hx : ∃ P, IsTree xs P := ⟨P, h⟩
  unfold bitsV
  rw [dif_pos hx, hx.choose_spec.uniq h]
theorem bitsV_none {xs : List V} (h : ∀ P, ¬ IsTree xs P) : bitsV xs = none := by
  unfold bitsV
  rw [dif_neg (fun ⟨P, z⟩ => h P z)]
def resV : Option (List Bool) → V
  | some bs => .str (txt bs)
  | none => .non
/-- a thing, and the bits that it tells, if any -/
def Th (K : PySem.W.Frag) (H : Hp) (x : V) (r : Option (List Bool)) : Prop :=
  (∃ (a : Addr) (xs : List V), x = .ref a ∧ H a = some (.lst xs) ∧ xs.length ≤ 4000 ∧ (∀ y ∈ xs, Kd K H y) ∧ r = bitsV xs) ∨ (∃ tv, TyX K H x tv ∧ PySem.W.kitOne K tv (.type "list") = some false ∧ r = none)
theorem Th.ex {K : PySem.W.Frag} {H H' : Hp} {x : V} {r : Option (List Bool)} (e : Ex H H') (h : Th K H x r) : Th K H' x r := by
  rcases h with ⟨a, xs, h1, h2, h3, h4, h5⟩ | ⟨tv, h1, h2, h3⟩
  · exact .inl ⟨a, xs, h1, e _ _ h2, h3, fun y hy => (h4 y hy).ex e, h5⟩
  · exact .inr ⟨tv, tyx_ex e h1, h2, h3⟩
theorem th_tree {K : PySem.W.Frag} {H : Hp} {a : Addr} {P : List Int} (h : H a = some (.lst (pV (par P)))) (hg : Good P) (hl : P.length < 2000) : Th K H (.ref a) (some (full P)) :=
  .inl ⟨a, _, rfl, h, by rw [pV_len, par_len]; omega, fun y hy => kd_pV hy, (bitsV_some ⟨rfl, hg, hl⟩).symm⟩
def spBitsOf (K : PySem.W.Frag) : Sp := fun vs H Q _ => ∃ (x : V) (r : Option (List Bool)), vs = [x] ∧ Th K H x r ∧ ∀ H', Ex H H' → Q (resV r) H'
def spPressed (K : PySem.W.Frag) (C : Addr) : Sp := fun vs H Q E => ∃ (x : V) (r : Option (List Bool)), vs = [x] ∧ Th K H x r ∧ (∀ bs, r = some bs → ∀ H', Ex H H' → Q (.str (txt bs)) H') ∧ (r = none → ∀ H', Ex H H' → E (.ref C) none H')
def spIsTree (K : PySem.W.Frag) : Sp := fun vs H Q _ => ∃ (x : V) (r : Option (List Bool)), vs = [x] ∧ Th K H x r ∧ ∀ H', Ex H H' → Q (.bl r.isSome) H'
section
variable {K : PySem.W.Frag} {H : Hp}
theorem sv_bitsOf {x : V} {r : Option (List Bool)} (h : Th K H x r) : SpV (spBitsOf K) [x] H (resV r) := fun H1 e Q q E => ⟨x, r, rfl, h.ex e, q⟩
theorem sv_isTree {x : V} {r : Option (List Bool)} (h : Th K H x r) : SpV (spIsTree K) [x] H (.bl r.isSome) := fun H1 e Q q E => ⟨x, r, rfl, h.ex e, q⟩
theorem sv_pressed {x : V} {C : Addr} {bs : List Bool} (h : Th K H x (some bs)) : SpV (spPressed K C) [x] H (.str (txt bs)) := fun H1 e Q q E => ⟨x, _, rfl, h.ex e, fun b hb => by cases hb; exact q, fun z => nomatch z⟩
theorem sv_bits {a : Addr} {P : List Int} (h : SqL K H a (pV (par P))) (hg : Good P) (hl : P.length < 2000) : SpV (spBits K) [.ref a] H (.str (txt (full P))) := fun H1 e Q q E => ⟨a, P, rfl, ex_l e h, hg, hl, q⟩
end
theorem pop_to : ∀ (st : List Int) (p : Int), ∃ J, J ≤ st.length ∧ (∀ j, j < J → ∃ q, st[j]? = some q ∧ q ≠ p) ∧ ((J = st.length ∧ p ∉ st) ∨ st[J]? = some p)
  | [], p => ⟨0, Nat.le_refl _, fun j h => absurd h (Nat.not_lt_zero _), .inl ⟨rfl, by simp⟩⟩
  | a :: st, p => by
    by_cases h : a = p
    · exact ⟨0, Nat.zero_le _, fun j h => absurd h (Nat.not_lt_zero _), .inr (by rw [h]; rfl)⟩
    · obtain ⟨J, h1, h2, h3⟩ := pop_to st p
      refine ⟨J + 1, Nat.succ_le_succ h1, fun j hj => ?_, ?_⟩
      · cases j with
        | zero => exact ⟨a, rfl, h⟩
        | succ j =>
          obtain ⟨q, e1, e2⟩ := h2 j (Nat.lt_of_succ_lt_succ hj)
          exact ⟨q, by simpa using e1, e2⟩
      · rcases h3 with ⟨h3, h4⟩ | h3
        · refine .inl ⟨by rw [h3]; rfl, fun z => ?_⟩
          rcases List.mem_cons.mp z with z | z
          · exact h z.symm
          · exact h4 z
        · exact .inr (by simpa using h3)
theorem drop_cons {st : List Int} {j : Nat} {q : Int} (h : st[j]? = some q) : st.drop j = q :: st.drop (j + 1) := by
  obtain ⟨h1, h2⟩ := List.getElem?_eq_some_iff.mp h
  rw [List.drop_eq_getElem_cons h1, h2]
/-- what has been walked of a list is a tree -/
structure Pre (xs : List V) (i : Nat) (P : List Int) : Prop where
  tk : xs.take (i + 1) = pV (par P)
  ln : P.length = i
  gd : Good P
theorem take_pV (P : List Int) (i : Nat) : (pV (par P)).take (i + 1) = pV (par (P.take i)) := by
  unfold pV par
  rw [List.map_cons, List.take_succ_cons, List.map_cons, List.map_take, List.map_take]
theorem Pre.of {xs : List V} {i : Nat} {P Q : List Int} (h : Pre xs i P) (hq : xs = pV (par Q)) : Q.take i = P := by
  have e := h.tk
  rw [hq, take_pV] at e
  exact par_inj (pV_inj e)
theorem pV_at (P : List Int) (i : Nat) : (pV (par P))[i + 1]? = P[i]?.map V.int := by
  unfold pV par
  rw [List.map_cons, List.getElem?_cons_succ, List.map_map, List.getElem?_map]
  rfl
theorem Pre.no {xs : List V} {i : Nat} {P : List Int} (h : Pre xs i P) {y : V} (hy : xs[i + 1]? = some y) (hn : isInt y = false) : bitsV xs = none := bitsV_none fun Q ⟨hq, _, _⟩ => by
  rw [hq, pV_at] at hy
  cases e : Q[i]? with
  | none => rw [e] at hy; cases hy
  | some p =>
    rw [e] at hy
    cases hy
    cases hn
theorem Pre.off {xs : List V} {i : Nat} {P : List Int} (h : Pre xs i P) {p : Int} (hy : xs[i + 1]? = some (.int p)) (hn : p ∉ (run P).st) : bitsV xs = none := bitsV_none fun Q ⟨hq, hg, _⟩ => by
  have e := h.of hq
  rw [hq, pV_at] at hy
  cases e2 : Q[i]? with
  | none => rw [e2] at hy; cases hy
  | some r =>
    rw [e2] at hy
    have e3 : r = p := V.int.inj (Option.some.inj hy)
    subst e3
    have z := hg i r e2
    rw [e] at z
    exact hn z
theorem Pre.more {xs : List V} {i : Nat} {P : List Int} (h : Pre xs i P) {p : Int} (hy : xs[i + 1]? = some (.int p)) (hn : p ∈ (run P).st) : Pre xs (i + 1) (P ++ [p]) :=
  ⟨by rw [take_more hy, h.tk, par_app, pV_app], by rw [List.length_append, h.ln]; rfl, h.gd.app hn⟩
theorem Pre.all {xs : List V} {i : Nat} {P : List Int} (h : Pre xs i P) (hl : xs.length ≤ i + 1) (h2 : xs.length ≤ 2000) : bitsV xs = some (full P) := by
  have e := h.tk
  rw [List.take_of_length_le hl] at e
  refine bitsV_some ⟨e, h.gd, ?_⟩
  have e2 := congrArg List.length e
  rw [pV_len, par_len] at e2
  omega
theorem no_first {xs : List V} {y : V} (hy : xs[0]? = some y) (hn : y ≠ .non) : bitsV xs = none := bitsV_none fun Q ⟨hq, _, _⟩ => by
  rw [hq] at hy
  exact hn (Option.some.inj hy).symm
theorem no_size {xs : List V} (h : ¬ (1 ≤ xs.length ∧ xs.length ≤ 2000)) : bitsV xs = none := bitsV_none fun Q ⟨hq, _, hl⟩ => by
  have e2 := congrArg List.length hq
  rw [pV_len, par_len] at e2
  omega
/-- the pieces of the text so far -/
def Pcs (H0 H : Hp) (a : Addr) (bs : List Bool) : Prop := ∃ ys : List Str, Own H0 H a (ys.map V.str) ∧ catS ys = codes bs ∧ ys.length ≤ bs.length
section
variable {H0 H H' : Hp} {a b : Addr} {bs cs : List Bool} {o : HO}
theorem Pcs.ex (h : Pcs H0 H a bs) (e : Ex H H') : Pcs H0 H' a bs := by
  obtain ⟨ys, h1, h2⟩ := h
  exact ⟨ys, h1.ex e, h2⟩
theorem Pcs.off (h : Pcs H0 H a bs) (n : a ≠ b) : Pcs H0 (upd H b o) a bs := by
  obtain ⟨ys, h1, h2⟩ := h
  exact ⟨ys, h1.off n, h2⟩
theorem pcs_add {ys : List Str} (n : H0 a = none) (h2 : catS ys = codes bs) (h3 : ys.length ≤ bs.length) (hc : 1 ≤ cs.length) : Pcs H0 (upd H a (.lst (ys.map V.str ++ [.str (txt cs)]))) a (bs ++ cs) :=
  ⟨ys ++ [txt cs], ⟨n, by rw [upd_same, List.map_append]; rfl⟩, by rw [catS_app, h2, catS_one, txt_cps, codes_app], by rw [List.length_append, List.length_append, List.length_singleton]; omega⟩
end
section
variable {σ : L2.St} {H : Hp} {te : TE} {D : Ends} {tu tz : TS}
/-- a for over a text's signs -/
theorem s_forS {z : Str} {j : Nat} (h : Ev te σ H (.str z)) (Pv : Nat → L2.St → Hp → Prop) (h0 : ∀ H1, Ex H H1 → Pv 0 σ H1)
    (hs : ∀ i c σ' H', z.cps.toList[i]? = some c → Pv i σ' H' → tu { D with nx := Pv (i + 1), ct := Pv (i + 1), bk := D.nx } (σ'.set j (some (.str ⟨#[c]⟩))) H') (hd : ∀ σ' H', Pv z.length σ' H' → D.nx σ' H') : tFor (iStr te) (gName j) tu D σ H :=
  h H (Ex.refl H) _ fun H1 e => ⟨z, rfl, fun i m σ H => m = z.cps.size - i ∧ i ≤ z.cps.size ∧ Pv i σ H, ⟨_, rfl, Nat.zero_le _, h0 H1 e⟩, by
    rintro i m σ H ⟨rfl, hi, p⟩
    by_cases hlt : i < z.cps.size
    · refine .inr ⟨hlt, Pv (i + 1), fun σ' H' p' => ⟨z.cps.size - (i + 1), by omega, rfl, hlt, p'⟩, fun x H' y => ?_⟩
      obtain ⟨e, c, hc, y⟩ := y
      subst e y
      exact hs i c σ _ (by rw [Array.getElem?_toList]; exact hc) p
    · have e : i = z.cps.size := by omega
      subst e
      exact .inl ⟨Nat.le_refl _, hd σ H p⟩⟩
theorem q_forS {z : Str} {j : Nat} (h : Ev te σ H (.str z)) (Pv : Nat → L2.St → Hp → Prop) (h0 : ∀ H1, Ex H H1 → Pv 0 σ H1)
    (hs : ∀ i c σ' H', z.cps.toList[i]? = some c → Pv i σ' H' → tu { D with nx := Pv (i + 1), ct := Pv (i + 1), bk := tz D } (σ'.set j (some (.str ⟨#[c]⟩))) H') (hd : ∀ σ' H', Pv z.length σ' H' → tz D σ' H') : tSeq (tFor (iStr te) (gName j) tu) tz D σ H :=
  s_forS (D := { D with nx := tz D }) h Pv h0 hs hd
end
/-- a thing, and the parents that its signs tell, if any -/
def Tx (K : PySem.W.Frag) (H : Hp) (x : V) (r : Option (List (Option Int))) : Prop :=
  (∃ z : Str, x = .str z ∧ z.length ≤ 90000 ∧ r = readM z.cps.toList) ∨ (∃ tv, TyX K H x tv ∧ PySem.W.kitOne K tv (.type "str") = some false ∧ r = none)
theorem Tx.ex {K : PySem.W.Frag} {H H' : Hp} {x : V} {r : Option (List (Option Int))} (e : Ex H H') (h : Tx K H x r) : Tx K H' x r := by
  rcases h with h | ⟨tv, h1, h2, h3⟩
  · exact .inl h
  · exact .inr ⟨tv, tyx_ex e h1, h2, h3⟩
theorem tx_full {K : PySem.W.Frag} {H : Hp} {P : List Int} (hg : Good P) (hl : P.length < 2000) : Tx K H (.str (txt (full P))) (some (par P)) :=
  .inl ⟨_, rfl, by rw [txt_len, full_len]; omega, by rw [txt_cps, readM_full hg hl]⟩
def spParentsOf (K : PySem.W.Frag) : Sp := fun vs H Q _ => ∃ (x : V) (r : Option (List (Option Int))), vs = [x] ∧ Tx K H x r ∧ (r = none → ∀ H', Ex H H' → Q .non H') ∧ (∀ ps, r = some ps → ∀ p H', H p = none → Ex H H' → H' p = some (.lst (pV ps)) → Q (.ref p) H')
def spPlain (K : PySem.W.Frag) (C : Addr) : Sp := fun vs H Q E => ∃ (x : V) (r : Option (List (Option Int))), vs = [x] ∧ Tx K H x r ∧ (r = none → ∀ H', Ex H H' → E (.ref C) none H') ∧ (∀ ps, r = some ps → ∀ p H', H p = none → Ex H H' → H' p = some (.lst (pV ps)) → Q (.ref p) H')
section
variable {K : PySem.W.Frag} {H : Hp}
theorem sl_plain {x : V} {C : Addr} {ps : List (Option Int)} (h : Tx K H x (some ps)) : SpL (spPlain K C) [x] H (pV ps) := fun H1 e Q q E => ⟨x, some ps, rfl, h.ex e, (fun z => nomatch z), (fun b hb => by cases hb; exact q)⟩
end
theorem readGo_bad {ps : List (Option Int)} {st : List Int} {c : Nat} {r : List Nat} (h : ps ≠ [] ∧ st = []) : readGo ps st (c :: r) = none := by
  show (if ps ≠ [] ∧ st = [] then none else _) = _
  rw [if_pos h]
theorem readGo_0 {ps : List (Option Int)} {st : List Int} {r : List Nat} (h : ¬ (ps ≠ [] ∧ st = [])) (h2 : st ≠ []) : readGo ps st (48 :: r) = readGo ps st.tail r := by
  show (if ps ≠ [] ∧ st = [] then none else if (48 : Nat) = 49 then _ else if (48 : Nat) = 48 then (if st = [] then none else readGo ps st.tail r) else none) = _
  rw [if_neg h, if_neg (by decide), if_pos rfl, if_neg h2]
theorem readGo_no {ps : List (Option Int)} {st : List Int} {c : Nat} {r : List Nat} (h1 : c ≠ 49) (h2 : ¬ (c = 48 ∧ st ≠ [])) : readGo ps st (c :: r) = none := by
  show (if ps ≠ [] ∧ st = [] then none else if c = 49 then _ else if c = 48 then (if st = [] then none else readGo ps st.tail r) else none) = _
  rw [if_neg h1]
  by_cases h : ps ≠ [] ∧ st = []
  · rw [if_pos h]
  · rw [if_neg h]
    by_cases h3 : c = 48
    · rw [if_pos h3, if_pos (by
        by_cases h4 : st = []
        · exact h4
        · exact absurd ⟨h3, h4⟩ h2)]
    · rw [if_neg h3]
theorem readM_no {cs : List Nat} (h : ¬ (1 ≤ cs.length ∧ cs.length ≤ 4000)) : readM cs = none := by
  unfold readM
  rw [if_pos (by omega)]
theorem readM_go {cs : List Nat} (h : 1 ≤ cs.length ∧ cs.length ≤ 4000) : readM cs = readGo [] [] cs := by
  unfold readM
  rw [if_neg (by omega)]
theorem sign_1 (c : Nat) : decide (V.str ⟨#[c]⟩ = V.str (Str.ofString "1")) = decide (c = 49) := by
  have e : Str.ofString "1" = ⟨#[49]⟩ := by decide +kernel
  rw [e]
  by_cases h : c = 49
  · subst h; simp
  · simp [h]
theorem sign_0 (c : Nat) : decide (V.str ⟨#[c]⟩ = V.str (Str.ofString "0")) = decide (c = 48) := by
  have e : Str.ofString "0" = ⟨#[48]⟩ := by decide +kernel
  rw [e]
  by_cases h : c = 48
  · subst h; simp
  · simp [h]
theorem pV_emp (ps : List (Option Int)) : (pV ps).isEmpty = ps.isEmpty := by cases ps <;> rfl
theorem pV_app' (xs : List (Option Int)) (o : Option Int) : pV (xs ++ [o]) = pV xs ++ [oV o] := by unfold pV; rw [List.map_append]; rfl
section
variable {σ : L2.St} {H : Hp} {ta : TA} {D : Ends} {tz : TS} {sp : Sp} {vs dvs : List V} {E : XK} {i : Nat}
/-- x = f(..), by the promise of f itself -/
theorem q_asgC (h : EvA ta σ H vs) (hs : ∀ H1, Ex H H1 → sp (vs ++ dvs) H1 (fun v H2 => tz D (σ.set i (some v)) H2) E) : tSeq (tAsg (tCall sp dvs E ta) (gName i)) tz D σ H :=
  h H (Ex.refl H) _ fun H1 e => hs H1 e
theorem s_asgC (h : EvA ta σ H vs) (hs : ∀ H1, Ex H H1 → sp (vs ++ dvs) H1 (fun v H2 => D.nx (σ.set i (some v)) H2) E) : tAsg (tCall sp dvs E ta) (gName i) D σ H :=
  h H (Ex.refl H) _ fun H1 e => hs H1 e
theorem s_retC (h : EvA ta σ H vs) (hs : ∀ H1, Ex H H1 → sp (vs ++ dvs) H1 D.rt E) : tRet (tCall sp dvs E ta) D σ H :=
  h H (Ex.refl H) _ fun H1 e => hs H1 e
theorem e_opC {r : R2} {tb : TE} {Q : VK} (h : EvA ta σ H vs) (hs : ∀ H1, Ex H H1 → sp (vs ++ dvs) H1 (fun x H2 => tb σ H2 (fun y H3 => r x y H3 Q)) E) : tOp r (tCall sp dvs E ta) tb σ H Q :=
  h H (Ex.refl H) _ fun H1 e => hs H1 e
end
def spLaw (K : PySem.W.Frag) : Sp := fun vs H Q _ => ∃ (a : Addr) (ns : List Int), vs = [.ref a] ∧ SqL K H a (ns.map V.int) ∧ ns.length ≤ 63 ∧ ∀ H', Q (.bl true) H'
theorem rv_eqNil {K : PySem.W.Frag} {H : Hp} {a b : Addr} {st : List Int} (h1 : SqL K H a (stk st)) (h2 : SqL K H b []) : RV (rEqD K) (.ref a) (.ref b) H (.bl (decide (st = []))) := by
  have h := rv_eqD (H := H) (x := .ref a) (y := .ref b) (.lst h1 (dpAll_int st.reverse)) (.lst h2 .nil) (shaped_int _) shaped_nil
  rw [eqv_nil] at h
  have e : decide (st.reverse = []) = decide (st = []) := by cases st <;> simp
  rw [e] at h
  exact h
end KB
namespace KB
open PySem L2 Evl
theorem atI_strs {ys : List Str} {i : Int} (h0 : 0 ≤ i) (h1 : i < (ys.length : Int)) : ∃ y, y ∈ ys ∧ atI (ys.map V.str) i = some (.str y) := by
  obtain ⟨j, rfl⟩ : ∃ j : Nat, i = (j : Int) := ⟨i.toNat, by omega⟩
  have hj : j < ys.length := by omega
  refine ⟨ys[j], List.getElem_mem hj, atI_nat ?_⟩
  rw [List.getElem?_map, List.getElem?_eq_getElem hj]
  rfl
theorem app_len (x y : Str) : (x ++ y).length = x.length + y.length := by
  show (x.cps ++ y.cps).size = _
  rw [Array.size_append]
  rfl
def spChanged : Sp := fun vs H Q _ => ∃ (z : Str) (c : Int), vs = [.str z, .int c] ∧ 0 ≤ c ∧ z.length ≤ 10000 ∧ ∀ y : Str, y.length ≤ z.length + 1 + z.length → ∀ H', Ex H H' → Q (.str y) H'
def spThing (K : PySem.W.Frag) : Sp := fun vs H Q _ => ∃ (z : Str) (a : Addr) (ns : List Int), vs = [.str z, .ref a] ∧ SqL K H a (ns.map V.int) ∧ 1 ≤ z.length ∧ z.length ≤ 400 ∧ ∀ x r H', Ex H H' → Tx K H' x r → Q x H'
def spTold (K : PySem.W.Frag) : Sp := fun vs H Q _ => ∃ (x : V) (b : Bool) (r : Option (List (Option Int))), vs = [x, .bl b] ∧ Tx K H x r ∧ (∀ ps, r = some ps → ∀ p H', H p = none → Ex H H' → H' p = some (.lst (pV ps)) → Q (.ref p) H') ∧
  (r = none → ∀ p H', H p = none → Ex H H' → H' p = some (.tup [.str "refused", .bl true]) → Q (.ref p) H')
section
variable {X : Cx} {a D : Addr} {oe : Obj} {cls : Value} {d : Option Addr} {pn : List (Addr × Obj)}
def rIsC (K : PySem.W.Frag) (D a : Addr) (cls : Value) (d : Option Addr) : List V → Hp → VK → Prop := fun xs H Q => cls = .ref D ∧ d = none ∧ rIsE K D a xs H Q
theorem call_isC (C : ExcC X.K D) (hz : Zc cls d oe) (hf : ∃ vs, oe.data = .fields vs) : CallR (X.suite a ((a, oe) :: pn)) (.builtin "isinstance") (rIsC X.K D a cls d) := by
  intro pins s σ H xs us Q I r h
  obtain ⟨e1, e2, h⟩ := h
  subst e1 e2
  exact call_isE C hz hf pins s σ H xs us Q I r h
end
section
variable {K : PySem.W.Frag} {σ : L2.St} {H : Hp} {ta tb : TE} {D : Ends} {W : WX} {sp : Sp} {vs : List V} {args : TA}
theorem ev_isC {Dd a : Addr} {c : V} {cv : Value} {b : Bool} (h1 : Ev ta σ H (.ref a)) (h2 : Ev tb σ H c) (hc : ∀ u, RelV c u → u = cv) (hb : PySem.W.kitOne K (.ref Dd) cv = some b) : Ev (tCB (rIsC K Dd a (.ref Dd) none) (tCons ta (tCons tb tNil))) σ H (.bl b) := fun H1 e _ q =>
  h1 H1 e _ fun H2 e2 => h2 H2 (e.trans e2) _ fun H3 e3 => ⟨rfl, rfl, c, cv, b, rfl, hc, hb, q H3 (e2.trans e3)⟩
/-- return f(..) within a try, f may raise -/
theorem s_retS (h : EvA args σ H vs) (hs : ∀ H1, Ex H H1 → sp vs H1 D.rt (WE W σ)) : tRet (tCallS sp (WE W) args) D σ H := h H (Ex.refl H) _ fun H1 e => hs H1 e
theorem s_dropS (h : EvA args σ H vs) (hs : ∀ H1, Ex H H1 → sp vs H1 (fun _ H2 => D.nx σ H2) (WE W σ)) : tDrop (tCallS sp (WE W) args) D σ H := h H (Ex.refl H) _ fun H1 e => hs H1 e
end
theorem kit_ref {K : PySem.W.Frag} {t : Value} {C : Addr} {b : Bool} (hd : PySem.W.hasDictIn K C = true) (ht : PySem.W.typeIn K (.ref C) = some (.type "type")) (h : PySem.W.subIn K t (.ref C) = some b) (hne : (t == .ref C) = true → b = true) : PySem.W.kitOne K t (.ref C) = some b := by
  unfold PySem.W.kitOne
  by_cases e : (t == .ref C) = true
  · rw [if_pos e, hne e]
  · rw [if_neg e]
    obtain ⟨cd, hc, _⟩ := PySem.W.any_some hd
    show (if ((PySem.W.clsIn K C).isSome && PySem.W.typeIn K (.ref C) == some (.type "type")) = true then PySem.W.subIn K t (.ref C) else none) = some b
    rw [hc, ht, if_pos (by rfl)]
    exact h
theorem kit_tyD {K : PySem.W.Frag} {C : Addr} {T : String} {b : Bool} (h : PySem.W.subIn K (.ref C) (.type T) = some b) (hm : PySem.W.kitMeta T = true) : PySem.W.kitOne K (.ref C) (.type T) = some b := by
  unfold PySem.W.kitOne
  rw [if_neg (by intro z; cases z)]
  show (if PySem.W.kitMeta T = true then PySem.W.subIn K (.ref C) (.type T) else none) = some b
  rw [if_pos hm]
  exact h
end KB
namespace KB
open PySem L2 Evl
def refD : PyData := .tuple [.str "refused", .bool true]
theorem dp_ref {K : PySem.W.Frag} {H : Hp} {p : Addr} (h : H p = some (.tup [.str "refused", .bl true])) : Dp K H (.ref p) refD := .tup (st_of h) (.cons (.str _) (.cons (.bl _) .nil))
theorem shaped_ref : SeqAt.shaped refD = true := by decide +kernel
theorem eqv_ref : PyData.eqv refD refD = true := by decide +kernel
theorem eqv_par (ps : List (Option Int)) : PyData.eqv (.list (ps.map oD)) (.list (ps.map oD)) = true := by rw [eqv_pV]; exact decide_eq_true rfl
/-- what is told of a thing, and its data -/
def Tld (K : PySem.W.Frag) (H : Hp) (r : Option (List (Option Int))) (v : V) (d : PyData) : Prop := Dp K H v d ∧ SeqAt.shaped d = true ∧ d = (match r with | some ps => .list (ps.map oD) | none => refD)
theorem Tld.eq {K : PySem.W.Frag} {H H' : Hp} {r : Option (List (Option Int))} {v w : V} {d f : PyData} (h : Tld K H r v d) (h2 : Tld K H' r w f) : PyData.eqv d f = true := by
  rw [h.2.2, h2.2.2]
  cases r with
  | none => exact eqv_ref
  | some ps => exact eqv_par ps
theorem Tld.ex {K : PySem.W.Frag} {H H' : Hp} {r : Option (List (Option Int))} {v : V} {d : PyData} (e : Ex H H') (h : Tld K H r v d) : Tld K H' r v d := ⟨dp_ex e _ _ h.1, h.2⟩
theorem tld_some {K : PySem.W.Frag} {H : Hp} {p : Addr} {ps : List (Option Int)} (h : H p = some (.lst (pV ps))) : Tld K H (some ps) (.ref p) (.list (ps.map oD)) := ⟨dp_pV (sq_of h), shaped_o ps, rfl⟩
theorem tld_none {K : PySem.W.Frag} {H : Hp} {p : Addr} (h : H p = some (.tup [.str "refused", .bl true])) : Tld K H none (.ref p) refD := ⟨dp_ref h, shaped_ref, rfl⟩
/-- the promise of _law_told, said of the data -/
theorem sp_told {K : PySem.W.Frag} {H : Hp} {x : V} {b : Bool} {r : Option (List (Option Int))} {Q : VK} {E : XK} (hT : Tx K H x r) (k : ∀ v d H', Ex H H' → Tld K H' r v d → Q v H') : spTold K [x, .bl b] H Q E :=
  ⟨x, b, r, rfl, hT, fun ps hps p H' _ e h => k _ _ H' e (by rw [hps]; exact tld_some h), fun hr p H' _ e h => k _ _ H' e (by rw [hr]; exact tld_none h)⟩
end KB
namespace KB
open PySem L2 Evl
theorem long_of (n m : Int) (hn : 0 ≤ n ∧ n ≤ 40000) (hm : 0 ≤ m ∧ m ≤ 40000) : ∃ z : Str, (z.length : Int) = n + m ∧ ∀ (σ : L2.St) (H : Hp), Ev (tOp (fun x y H Q => ∃ i j, x = .str i ∧ y = .str j ∧ i.length + j.length ≤ sizeLine ∧ Q (.str (i ++ j)) H) (tOp rMulS (tC (.str "1")) (tC (.int n))) (tOp rMulS (tC (.str "0")) (tC (.int m)))) σ H (.str z) := by
  refine ⟨txt (List.replicate n.toNat true) ++ txt (List.replicate m.toNat false), ?_, fun σ H => ?_⟩
  · rw [app_len, txt_len, txt_len, List.length_replicate, List.length_replicate]
    omega
  · exact ev_op (ev_op ev_c ev_c (rv_mulS1 ⟨hn.1, by omega⟩)) (ev_op ev_c ev_c (rv_mulS ⟨hm.1, by omega⟩)) (rv_addS (by rw [txt_len, txt_len, List.length_replicate, List.length_replicate]; omega))
end KB

namespace LW
open PySem PySem.Spec PyProof.Rows L2 Evl KB
def topS (i : Nat) : Stmt := PySem.Challenge.pw_knotbits_k03_bits_refused.main.body.getD i (.Pass ⟨0, 0, 0, 0⟩)
abbrev s_plain : Stmt := topS 5
abbrev s_parents_of : Stmt := topS 6
abbrev s_law_cell_at : Stmt := topS 8
abbrev s_law_parents : Stmt := topS 9
abbrev s_law_bits : Stmt := topS 10
abbrev s_law_changed : Stmt := topS 11
abbrev s_law_thing : Stmt := topS 12
abbrev s_law_plain : Stmt := topS 13
abbrev s_law_told : Stmt := topS 14
abbrev s_law : Stmt := topS 15
structure Adr where
  f_plain : Addr
  d_plain : FuncData
  f_parents_of : Addr
  d_parents_of : FuncData
  f_law_cell_at : Addr
  d_law_cell_at : FuncData
  f_law_parents : Addr
  d_law_parents : FuncData
  f_law_bits : Addr
  d_law_bits : FuncData
  f_law_changed : Addr
  d_law_changed : FuncData
  f_law_thing : Addr
  d_law_thing : FuncData
  f_law_plain : Addr
  d_law_plain : FuncData
  f_law_told : Addr
  d_law_told : FuncData
  f_law : Addr
  d_law : FuncData
  c_KnotError : Addr
  c_NoTree : Addr
  t_MOST_KNOTS : Tok
structure Txt (K : PySem.W.Frag) (mg : Str → Option Value) (A : Adr) : Prop where
  F_plain : Fun K "plain" "plain" s_plain A.f_plain A.d_plain
  g_plain : mg "plain" = some (.ref A.f_plain)
  s_plain : Binds K A.d_plain ["bits"] []
  F_parents_of : Fun K "_parents_of" "_parents_of" s_parents_of A.f_parents_of A.d_parents_of
  g_parents_of : mg "_parents_of" = some (.ref A.f_parents_of)
  s_parents_of : Binds K A.d_parents_of ["bits"] []
  F_law_cell_at : Fun K "_law_cell_at" "_law_cell_at" s_law_cell_at A.f_law_cell_at A.d_law_cell_at
  g_law_cell_at : mg "_law_cell_at" = some (.ref A.f_law_cell_at)
  s_law_cell_at : Binds K A.d_law_cell_at ["_law_script", "_law_k"] []
  F_law_parents : Fun K "_law_parents" "_law_parents" s_law_parents A.f_law_parents A.d_law_parents
  g_law_parents : mg "_law_parents" = some (.ref A.f_law_parents)
  s_law_parents : Binds K A.d_law_parents ["_law_script"] []
  F_law_bits : Fun K "_law_bits" "_law_bits" s_law_bits A.f_law_bits A.d_law_bits
  g_law_bits : mg "_law_bits" = some (.ref A.f_law_bits)
  s_law_bits : Binds K A.d_law_bits ["_law_parents_here"] []
  F_law_changed : Fun K "_law_changed" "_law_changed" s_law_changed A.f_law_changed A.d_law_changed
  g_law_changed : mg "_law_changed" = some (.ref A.f_law_changed)
  s_law_changed : Binds K A.d_law_changed ["_law_bits_here", "_law_cell"] []
  F_law_thing : Fun K "_law_thing" "_law_thing" s_law_thing A.f_law_thing A.d_law_thing
  g_law_thing : mg "_law_thing" = some (.ref A.f_law_thing)
  s_law_thing : Binds K A.d_law_thing ["_law_bits_here", "_law_script"] []
  F_law_plain : Fun K "_law_plain" "_law_plain" s_law_plain A.f_law_plain A.d_law_plain
  g_law_plain : mg "_law_plain" = some (.ref A.f_law_plain)
  s_law_plain : Binds K A.d_law_plain ["_law_thing_here"] []
  F_law_told : Fun K "_law_told" "_law_told" s_law_told A.f_law_told A.d_law_told
  g_law_told : mg "_law_told" = some (.ref A.f_law_told)
  s_law_told : Binds K A.d_law_told ["_law_thing_here", "_law_by_any"] []
  F_law : Fun K "law" "law" s_law A.f_law A.d_law
  g_law : mg "law" = some (.ref A.f_law)
  s_law : Binds K A.d_law ["_law_script"] []
  b_ValueError : mg "ValueError" = none
  b_isinstance : mg "isinstance" = none
  b_len : mg "len" = none
  b_min : mg "min" = none
  b_range : mg "range" = none
  b_str : mg "str" = none
  c_MOST_KNOTS : mg "MOST_KNOTS" = some (.int 2000 A.t_MOST_KNOTS)
  g_KnotError : mg "KnotError" = some (.ref A.c_KnotError)
  x_KnotError : PySem.W.excIn K A.c_KnotError [.type "ValueError", .type "Exception", .type "BaseException", .type "object"] "ValueError.__new__" = true
  k_KnotError : PySem.W.keepIn K (.ref A.c_KnotError) = true
  e_KnotError : PySem.W.subIn K (.ref A.c_KnotError) (.type "BaseException") = some true
  t_KnotError : PySem.W.typeIn K (.ref A.c_KnotError) = some (.type "type")
  g_NoTree : mg "NoTree" = some (.ref A.c_NoTree)
  x_NoTree : PySem.W.excIn K A.c_NoTree [.type "ValueError", .type "Exception", .type "BaseException", .type "object"] "ValueError.__new__" = true
  k_NoTree : PySem.W.keepIn K (.ref A.c_NoTree) = true
  e_NoTree : PySem.W.subIn K (.ref A.c_NoTree) (.type "BaseException") = some true
  t_NoTree : PySem.W.typeIn K (.ref A.c_NoTree) = some (.type "type")
  h_KnotError : PySem.W.hasDictIn K A.c_KnotError = true
  u_NoTree_KnotError : PySem.W.subIn K (.ref A.c_NoTree) (.ref A.c_KnotError) = some true
  h_NoTree : PySem.W.hasDictIn K A.c_NoTree = true
  u_NoTree_NoTree : PySem.W.subIn K (.ref A.c_NoTree) (.ref A.c_NoTree) = some true
  u_NoTree_ValueError : PySem.W.subIn K (.ref A.c_NoTree) (.type "ValueError") = some true
  ec_NoTree : ExcC K A.c_NoTree
section
variable {P : Program} {w : World} {K : PySem.W.Frag} {mg : Str → Option Value} {base : Heap} {A : Adr}
theorem sc_law_cell_at : FnScope ["_law_script", "_law_k"] ["_law_script", "_law_k"] (defScope s_law_cell_at) := ⟨rfl, rfl, rfl, by decide +kernel, rfl, by decide +kernel, by decide +kernel⟩
theorem ok_law_cell_at (T : Txt K mg A) : FnOk P w K mg base CX0 1 A.f_law_cell_at A.d_law_cell_at ["_law_script", "_law_k"] (spCell K) := by
  refine T.F_law_cell_at.ok sc_law_cell_at (fun vs H Q E h => ?_) (fun cdv A' outer s H vs Q E hr h => ?_)
  · obtain ⟨a, ns, k, rfl, _⟩ := h
    rfl
  · obtain ⟨a, ns, k, rfl, hS, q⟩ := h
    refine ⟨_, (pss_cons (ps_if (pt_cmpR op_lt (pv 1) (pe_callB call_len_seq (by rfl) T.b_len PySem.boot_len (pa_cons (pv 0) pa_nil)) (nomark _)) (pss_one (ps_ret (pe_op op_mod (pe_op op_add (pe_op op_add (pe_op op_mul (pe_ix ix_list (pv 0) (pv 1) (fun _ _ => rfl)) pe_int) (pe_op op_mul pe_int (pv 1))) pe_int) pe_int))) pss_nil) (pss_one (ps_ret (pe_op op_mod (pe_op op_mul pe_int (pv 1)) pe_int)))), ?_⟩
    refine q_when (et_test (ev_op (ev_var rfl) (ev_len (ev_var rfl) hS) rv_I0)) (fun hb H1 e1 => ?_) (fun hb H1 e1 => ?_)
    · have hk : k < ns.length := by
        have z := of_decide_eq_true hb
        rw [List.length_map] at z
        omega
      have hx : (ns.map V.int)[k]? = some (.int (ns.getD k 0)) := by
        rw [List.getElem?_map, List.getElem?_eq_getElem hk, List.getD_eq_getElem?_getD, List.getElem?_eq_getElem hk]
        rfl
      have hS1 := ex_l e1 hS
      refine s_ret (ev_op (ev_op (ev_op (ev_op (ev_op (ev_var rfl) (ev_var rfl) (rv_ixL hS1 (atI_nat hx))) ev_c (rv_I (.inr ⟨by decide, by decide⟩))) (ev_op ev_c (ev_var rfl) (rv_I (.inl ⟨by decide, by decide⟩))) rv_I0) ev_c rv_I0) ev_c (rv_I (by decide))) fun H2 e2 => ?_
      have z := q H2 (e1.trans e2)
      unfold cell at z
      rw [if_pos hk] at z
      exact z
    · have hk : ¬ k < ns.length := by
        have z := of_decide_eq_false hb
        rw [List.length_map] at z
        omega
      refine s_ret (ev_op (ev_op ev_c (ev_var rfl) (rv_I (.inl ⟨by decide, by decide⟩))) ev_c (rv_I (by decide))) fun H2 e2 => ?_
      have z := q H2 (e1.trans e2)
      unfold cell at z
      rw [if_neg hk] at z
      exact z

theorem sc_law_parents : FnScope ["_law_script", "_law_many", "_law_shape", "_law_parents_here", "_law_way", "_law_k", "_law_cell", "_law_up"] ["_law_script"] (defScope s_law_parents) := ⟨rfl, rfl, rfl, by decide +kernel, rfl, by decide +kernel, by decide +kernel⟩
theorem ok_law_parents (T : Txt K mg A) : FnOk P w K mg base CX0 2 A.f_law_parents A.d_law_parents ["_law_script"] (spParents K) := by
  refine T.F_law_parents.ok sc_law_parents (fun vs H Q E h => ?_) (fun cdv A' outer s H vs Q E hr h => ?_)
  · obtain ⟨a, ns, rfl, _⟩ := h
    rfl
  · obtain ⟨a, ns, rfl, hS, q⟩ := h
    refine ⟨_, (pss_cons (ps_set (i := 1) sc_law_parents.nd rfl (Or.inl rfl) (pe_op op_add pe_int (pe_op op_mod (pe_call (ok_law_cell_at T) (hr.mono (by decide)) (by rfl) T.g_law_cell_at T.F_law_cell_at.kp T.s_law_cell_at .nil pass0 (pa_cons (pv 0) (pa_cons pe_int pa_nil))) pe_int))) (pss_cut (ps_if (pt_cmpR op_eq (pe_op op_mod (pe_call (ok_law_cell_at T) (hr.mono (by decide)) (by rfl) T.g_law_cell_at T.F_law_cell_at.kp T.s_law_cell_at .nil pass0 (pa_cons (pv 0) (pa_cons pe_int pa_nil))) pe_int) pe_int (nomark _)) (pss_one (ps_set (i := 1) sc_law_parents.nd rfl (Or.inl rfl) (pe_op op_add pe_int (pe_op op_mod (pe_call (ok_law_cell_at T) (hr.mono (by decide)) (by rfl) T.g_law_cell_at T.F_law_cell_at.kp T.s_law_cell_at .nil pass0 (pa_cons (pv 0) (pa_cons pe_int pa_nil))) pe_int)))) pss_nil) (pss_cons (ps_set (i := 2) sc_law_parents.nd rfl (Or.inl rfl) (pe_op op_mod (pe_op op_fdiv (pe_call (ok_law_cell_at T) (hr.mono (by decide)) (by rfl) T.g_law_cell_at T.F_law_cell_at.kp T.s_law_cell_at .nil pass0 (pa_cons (pv 0) (pa_cons pe_int pa_nil))) pe_int) pe_int)) (pss_cons (ps_set (i := 3) sc_law_parents.nd rfl (Or.inl rfl) (pe_lst (pa_cons pe_non pa_nil))) (pss_cons (ps_set (i := 4) sc_law_parents.nd rfl (Or.inl rfl) (pe_lst (pa_cons pe_int pa_nil))) (pss_cons (ps_for PassesOwn.never rfl (pi_range2 (by rfl) T.b_range (pa_cons pe_int (pa_cons (pv 1) pa_nil))) (pg_name (i := 5) sc_law_parents.nd rfl (Or.inl rfl)) (pss_cons (ps_set (i := 6) sc_law_parents.nd rfl (Or.inl rfl) (pe_op op_add (pe_call (ok_law_cell_at T) (hr.mono (by decide)) (by rfl) T.g_law_cell_at T.F_law_cell_at.kp T.s_law_cell_at .nil pass0 (pa_cons (pv 0) (pa_cons (pe_op op_add pe_int (pe_op op_mod (pv 5) pe_int)) pa_nil))) (pe_op op_mul (pe_op op_mul pe_int (pv 5)) (pe_op op_add pe_int (pe_op op_fdiv (pv 5) pe_int))))) (pss_cons (ps_set (i := 7) sc_law_parents.nd rfl (Or.inl rfl) (pe_ix ix_list (pe_lst (pa_cons (pe_op op_mod (pv 6) pe_int) (pa_cons (pe_op op_mod (pv 6) pe_int) (pa_cons pe_int (pa_cons (pe_op op_sub (pe_callB call_len_seq (by rfl) T.b_len PySem.boot_len (pa_cons (pv 4) pa_nil)) pe_int) (pa_cons (pe_op op_mod (pv 6) (pe_callB call_len_seq (by rfl) T.b_len PySem.boot_len (pa_cons (pv 4) pa_nil))) (pa_cons (pe_op op_mul (pe_op op_fdiv (pe_op op_mod (pv 6) pe_int) pe_int) pe_int) pa_nil))))))) (pv 2) (fun _ _ => rfl))) (pss_cons (ps_set (i := 4) sc_law_parents.nd rfl (Or.inl rfl) (pe_slice sl_list (pv 4) po_none (po_some (pe_op op_sub (pe_callB call_len_seq (by rfl) T.b_len PySem.boot_len (pa_cons (pv 4) pa_nil)) (pe_callB (call_min2 rfl) (by rfl) T.b_min (by decide +kernel) (pa_cons (pv 7) (pa_cons (pe_op op_sub (pe_callB call_len_seq (by rfl) T.b_len PySem.boot_len (pa_cons (pv 4) pa_nil)) pe_int) pa_nil))))))) (pss_cons (ps_expr (pe_bm PySem.F.plainAttrs_list PySem.F.slot_list_append PySem.F.type_list_append mt_append (pv 3) (pa_cons (pe_ix ix_list (pv 4) (pe_un un_neg pe_int) (fun _ _ => rfl)) pa_nil))) (pss_one (ps_expr (pe_bm PySem.F.plainAttrs_list PySem.F.slot_list_append PySem.F.type_list_append mt_append (pv 4) (pa_cons (pv 5) pa_nil))))))))) (pss_one (ps_ret (pv 3))))))))), ?_⟩
    have g0 := cell_ge ns 0
    have g1 := cell_ge ns 1
    -- how many
    refine q_asg (ev_op ev_c (ev_op (ev_call (ea_cons (ev_var rfl) (ea_cons ev_c ea_nil)) (sv_cell 0 rfl hS)) ev_c (rv_I (by decide))) rv_I0) fun H1 e1 => ?_
    have hS1 := ex_l e1 hS
    refine q_cut (M := fun σ H2 => ∃ m : Int, 1 ≤ m ∧ m ≤ 160 ∧ Ex H H2 ∧ σ = [some (.ref a), some (.int m), none, none, none, none, none, none]) ?_ ?_
    · refine s_when (et_test (ev_op (ev_op (ev_call (ea_cons (ev_var rfl) (ea_cons ev_c ea_nil)) (sv_cell 1 rfl hS1)) ev_c (rv_I (by decide))) ev_c (rv_eq rfl))) (fun hb H2 e2 => ?_) (fun hb H2 e2 => ?_)
      · refine s_asg (ev_op ev_c (ev_op (ev_call (ea_cons (ev_var rfl) (ea_cons ev_c ea_nil)) (sv_cell 0 rfl (ex_l e2 hS1))) ev_c (rv_I (by decide))) rv_I0) fun H3 e3 => ?_
        exact ⟨_, by omega, by omega, (e1.trans e2).trans e3, rfl⟩
      · exact ⟨_, by omega, by omega, e1.trans e2, rfl⟩
    rintro σ H2 ⟨m, hm1, hm2, e2, rfl⟩
    have hS2 := ex_l e2 hS
    -- the shape
    refine q_asg (ev_op (ev_op (ev_call (ea_cons (ev_var rfl) (ea_cons ev_c ea_nil)) (sv_cell 1 rfl hS2)) ev_c (rv_I ⟨by decide, by decide⟩)) ev_c (rv_I (by decide))) fun H3 e3 => ?_
    have e03 := e2.trans e3
    have hS3 := ex_l e03 hS
    generalize hsh : cell ns 1 / 3 % 6 = sh
    have hs0 : 0 ≤ sh := by omega
    have hs1 : sh < 6 := by omega
    refine q_asgL (el_lst (ea_cons ev_c ea_nil) (by simp)) fun pp H4 np e4 h4 => ?_
    have e04 := e03.trans e4
    refine q_asgL (el_lst (ea_cons ev_c ea_nil) (by simp)) fun pw H5 nw e5 h5 => ?_
    have e05 := e04.trans e5
    have npw : pp ≠ pw := ne_of_none h4 nw
    have np0 : H pp = none := fresh_back e03 np
    have nw0 : H pw = none := fresh_back e04 nw
    -- the loop
    refine q_forR2 (ea_cons ev_c (ea_cons (ev_var rfl) ea_nil)) ⟨by omega, by omega, by omega, by omega⟩
      (fun (i : Nat) (σ' : L2.St) (H' : Hp) => ∃ (P : List Int) (pw : Addr) (y5 y6 y7 : Option V), P.length = i ∧ Good P ∧ Ex H H' ∧ Own H H' pp (pV (par P)) ∧ Own H H' pw (stk (run P).st) ∧ pp ≠ pw ∧
        σ' = [some (.ref a), some (.int m), some (.int sh), some (.ref pp), some (.ref pw), y5, y6, y7]) ?_ ?_ ?_
    · intro H6 e6
      exact ⟨[], pw, none, none, none, rfl, good_nil, e05.trans e6, ⟨np0, e6 _ _ (e5 _ _ h4)⟩, ⟨nw0, e6 _ _ h5⟩, npw, rfl⟩
    · rintro i σ' H6 hi ⟨P, pw, y5, y6, y7, hl, hg, e6, ho, hw, npw, rfl⟩
      have hS6 := ex_l e6 hS
      have hlen := stk_len (run P).st
      have hpos := run_pos P
      have hle := st_le P
      refine q_asg (ev_op (ev_call (ea_cons (ev_var rfl) (ea_cons (ev_op ev_c (ev_op (ev_var rfl) ev_c (rv_I (by decide))) rv_I0) ea_nil)) (sv_cell (2 + (1 + i) % 23) (by omega) hS6)) (ev_op (ev_op ev_c (ev_var rfl) (rv_I (.inl ⟨by decide, by decide⟩))) (ev_op ev_c (ev_op (ev_var rfl) ev_c (rv_I ⟨by decide, by decide⟩)) rv_I0) (rv_I (.inr ⟨by omega, by omega⟩))) rv_I0) fun H7 e7 => ?_
      generalize cell ns (2 + (1 + i) % 23) + 7919 * (1 + (i : Int)) * (1 + (1 + (i : Int)) / 23) = c
      have hw7 := hw.ex e7
      have ho7 := ho.ex e7
      obtain ⟨u, hu0, hu⟩ := atI_six (a0 := c % 3) (a1 := c % 2) (a2 := 0) (a3 := ((stk (run P).st).length : Int) - 1) (a4 := c % ((stk (run P).st).length : Int)) (a5 := c % 7 / 5 * 9)
        (by omega) (by omega) (by omega) (by omega) (Int.emod_nonneg _ (by omega)) (by omega) hs0 hs1
      refine q_asg (ev_opL1 (el_lst (ea_cons (ev_op (ev_var rfl) ev_c (rv_I (by decide))) (ea_cons (ev_op (ev_var rfl) ev_c (rv_I (by decide))) (ea_cons ev_c (ea_cons (ev_op (ev_len (ev_var rfl) hw7.sq) ev_c rv_I0) (ea_cons (ev_op (ev_var rfl) (ev_len (ev_var rfl) hw7.sq) (rv_I (by omega))) (ea_cons (ev_op (ev_op (ev_op (ev_var rfl) ev_c (rv_I (by decide))) ev_c (rv_I ⟨by decide, by decide⟩)) ev_c (rv_I (.inr ⟨by decide, by decide⟩))) ea_nil)))))) (by simp)) (fun _ e1 => Ev.mono e1 (ev_var rfl)) (fun _ _ hp e1 => rv_ixL (sq_of hp) hu)) fun H8 e8 => ?_
      have hw8 := hw7.ex e8
      have ho8 := ho7.ex e8
      refine q_asgL (el_sl (ev_var rfl) eo_none (eo_some (ev_op (ev_len (ev_var rfl) hw8.sq) (ev_min2 (ev_var rfl) (ev_op (ev_len (ev_var rfl) hw8.sq) ev_c rv_I0)) rv_I0)) hw8.sq) fun pv' H9 nv e9 h9 => ?_
      obtain ⟨j, hj, ej⟩ : ∃ j : Nat, j < (run P).st.length ∧ ((stk (run P).st).length : Int) - min u (((stk (run P).st).length : Int) - 1) = (((run P).st.length - j : Nat) : Int) :=
        ⟨(min u ((run P).st.length - 1)).toNat, by omega, by omega⟩
      rw [stk_cut _ j ej] at h9
      have ho9 := ho8.ex e9
      have e69 := ((e6.trans e7).trans e8).trans e9
      have hv9 : Own H H9 pv' (stk ((run P).st.drop j)) := ⟨fresh_back ((e6.trans e7).trans e8) nv, h9⟩
      have npv : pp ≠ pv' := ho8.ne nv
      obtain ⟨p, hp⟩ : ∃ p, (run P).st[j]? = some p := ⟨_, List.getElem?_eq_getElem hj⟩
      have hd : (run P).st.drop j = p :: (run P).st.drop (j + 1) := by
        obtain ⟨h1, h2⟩ := List.getElem?_eq_some_iff.mp hp
        rw [List.drop_eq_getElem_cons h1, h2]
      refine q_app ho9.at_ (ev_var rfl) (ev_op (ev_var rfl) (ev_un ev_c ru_neg) (rv_ixL hv9.sq (by rw [hd]; exact stk_last _ _))) (by rw [pV_len, par_len]; omega) fun H10 e10 => ?_
      have hv10 : Own H (upd H10 pp (.lst (pV (par P) ++ [.int p]))) pv' (stk ((run P).st.drop j)) := (hv9.ex e10).off npv.symm
      refine s_app hv10.at_ (ev_var rfl) (ev_var rfl) (by rw [stk_len, List.length_drop]; omega) fun H11 e11 => ?_
      have ho10 : Own H (upd H10 pp (.lst (pV (par P) ++ [.int p]))) pp (pV (par P) ++ [.int p]) := ho.put
      have hm : p ∈ (run P).st := List.mem_of_getElem? hp
      have er : run (P ++ [p]) = ⟨(run P).k :: (run P).st.drop j, (run P).bs ++ List.replicate j false ++ [true], (run P).k + 1⟩ := by rw [run_app, adv_place (fall_run _) hp]
      refine ⟨P ++ [p], pv', _, _, _, by rw [List.length_append, hl]; rfl, hg.app hm, ?_, ?_, ?_, npv, rfl⟩
      · exact Ex.mut (((e69.trans e10).mut ho.nw).trans e11) hv9.nw
      · rw [par_app, pV_app]
        exact (ho10.ex e11).off npv
      · rw [er, stk_cons, run_k, hl]
        have z : Own H (upd H11 pv' (.lst (stk ((run P).st.drop j) ++ [.int (1 + (i : Int))]))) pv' (stk ((run P).st.drop j) ++ [.int (1 + (i : Int))]) := hv9.put
        rw [Int.add_comm] at z
        rw [Int.add_comm (i : Int) 1]
        rw [Int.add_comm] at z
        exact z
    · rintro σ' H6 ⟨P, pw, y5, y6, y7, hl, hg, e6, ho, hw, npw, rfl⟩
      refine s_ret (ev_var rfl) fun H7 e7 => ?_
      exact q P hg (by omega) pp H7 np0 (e6.trans e7) (e7 _ _ ho.at_)

theorem sc_law_bits : FnScope ["_law_parents_here", "_law_bits_here", "_law_way", "_law_k"] ["_law_parents_here"] (defScope s_law_bits) := ⟨rfl, rfl, rfl, by decide +kernel, rfl, by decide +kernel, by decide +kernel⟩
theorem ok_law_bits (T : Txt K mg A) : FnOk P w K mg base CX0 2 A.f_law_bits A.d_law_bits ["_law_parents_here"] (spBits K) := by
  refine T.F_law_bits.ok sc_law_bits (fun vs H Q E h => ?_) (fun cdv A' outer s H vs Q E hr h => ?_)
  · obtain ⟨a, P, rfl, _⟩ := h
    rfl
  · obtain ⟨a, P, rfl, hS, hg, hl, q⟩ := h
    refine ⟨_, (pss_cons (ps_set (i := 1) sc_law_bits.nd rfl (Or.inl rfl) pe_str) (pss_cons (ps_set (i := 2) sc_law_bits.nd rfl (Or.inl rfl) (pe_lst pa_nil)) (pss_cons (ps_for PassesOwn.never rfl (pi_range1 (by rfl) T.b_range (pa_cons (pe_callB call_len_seq (by rfl) T.b_len PySem.boot_len (pa_cons (pv 0) pa_nil)) pa_nil)) (pg_name (i := 3) sc_law_bits.nd rfl (Or.inl rfl)) (pss_cons (ps_while PassesOwn.never (PW.pt (pw_and (pt_cmpR (op_neD hr.units) (pv 2) (pe_lst pa_nil) (nomark _)) (pw_and1 (pt_cmpR op_ne (pe_ix ix_list (pv 2) (pe_un un_neg pe_int) (fun _ _ => rfl)) (pe_ix ix_list (pv 0) (pv 3) (fun _ _ => rfl)) (nomark _))))) (pss_cons (ps_expr (pe_bm0 PySem.F.plainAttrs_list PySem.F.slot_list_pop PySem.F.type_list_pop mt_pop (pv 2))) (pss_one (ps_set (i := 1) sc_law_bits.nd rfl (Or.inl rfl) (pe_op op_add_str (pv 1) pe_str))))) (pss_cons (ps_expr (pe_bm PySem.F.plainAttrs_list PySem.F.slot_list_append PySem.F.type_list_append mt_append (pv 2) (pa_cons (pv 3) pa_nil))) (pss_one (ps_set (i := 1) sc_law_bits.nd rfl (Or.inl rfl) (pe_op op_add_str (pv 1) pe_str)))))) (pss_one (ps_ret (pe_op op_add_str (pv 1) (pe_op op_mulS pe_str (pe_callB call_len_seq (by rfl) T.b_len PySem.boot_len (pa_cons (pv 2) pa_nil))))))))), ?_⟩
    have hpl : (pV (par P)).length = P.length + 1 := by rw [pV_len, par_len]
    refine q_asg ev_c fun H1 e1 => ?_
    refine q_asgL (el_lst ea_nil (by decide)) fun pw H2 nw e2 h2 => ?_
    have e02 := e1.trans e2
    refine q_forR1 (ea_cons (ev_len (ev_var rfl) (ex_l e02 hS)) ea_nil) ⟨by omega, by omega⟩
      (fun (i : Nat) (σ' : L2.St) (H' : Hp) => ∃ (y3 : Option V), i ≤ P.length + 1 ∧ Ex H H' ∧ Own H H' pw (stk (rs P i)) ∧ σ' = [some (.ref a), some (.str (txt (rb P i))), some (.ref pw), y3]) ?_ ?_ ?_
    · intro H3 e3
      exact ⟨none, Nat.zero_le _, e02.trans e3, ⟨fresh_back e1 nw, e3 _ _ h2⟩, rfl⟩
    · rintro i σ' H3 hi ⟨y3, hi1, e3, hw, rfl⟩
      obtain ⟨J, p, hJ, hJl, hJe, hx, ers, erb⟩ := bits_turn hg (i := i) (by omega)
      have hbl := rb_le (P := P) hi1
      refine q_while (fun (m : Nat) (σ2 : L2.St) (H4 : Hp) => ∃ j, j ≤ J ∧ m = J - j ∧ Ex H H4 ∧ Own H H4 pw (stk ((rs P i).drop j)) ∧ σ2 = [some (.ref a), some (.str (txt (rb P i ++ List.replicate j false))), some (.ref pw), some (.int (i : Int))]) J ?_ ?_
      · refine ⟨0, Nat.zero_le _, rfl, e3, hw, ?_⟩
        show _ = ([some (V.ref a), some (V.str (txt (rb P i ++ []))), _, _] : L2.St)
        rw [List.append_nil]; rfl
      · rintro m σ2 H4 ⟨j, hj, rfl, e4, hw4, rfl⟩
        have hS4 := ex_l e4 hS
        have hnx : ∀ qq, (rs P i)[j]? = some qq → (rs P i).drop j = qq :: (rs P i).drop (j + 1) := fun qq hq => by
          obtain ⟨h1, h2⟩ := List.getElem?_eq_some_iff.mp hq
          rw [List.drop_eq_getElem_cons h1, h2]
        refine ⟨decide (j < J), ?_, fun hb H5 e5 => ?_, fun hb H5 e5 => ?_⟩
        · by_cases hjl : j < (rs P i).length
          · obtain ⟨qq, hq⟩ : ∃ qq, (rs P i)[j]? = some qq := ⟨_, List.getElem?_eq_getElem hjl⟩
            rw [hnx qq hq] at hw4
            have hne : rs P i ≠ [] := fun z => by rw [z] at hq; simp at hq
            refine et_is (et_and (et_test (ev_opL (ev_var rfl) (el_lst ea_nil (by decide)) (fun _ _ hp e1 => rv_neNil (ex_l e1 hw4.sq) (sq_of hp)))) (fun hb => (et_test (ev_op (ev_op (ev_var rfl) (ev_un ev_c ru_neg) (rv_ixL hw4.sq (stk_last _ _))) (ev_op (ev_var rfl) (ev_var rfl) (rv_ixL hS4 (atI_nat (hx hne)))) (rv_ne rfl))))) ?_
            show (true && !decide (V.int qq = V.int p)) = decide (j < J)
            rw [Bool.true_and]
            by_cases hjJ : j < J
            · obtain ⟨q2, hq2, hqp⟩ := hJ j hjJ
              rw [hq] at hq2
              cases hq2
              rw [decide_eq_true hjJ, decide_eq_false (fun e => hqp (V.int.inj e))]
              rfl
            · have ej : j = J := by omega
              subst ej
              rcases hJe with hJe | hJe
              · omega
              · rw [hq] at hJe
                cases hJe
                rw [decide_eq_false hjJ, decide_eq_true rfl]
                rfl
          · have hd : (rs P i).drop j = [] := List.drop_eq_nil_of_le (by omega)
            rw [hd] at hw4
            rw [decide_eq_false (show ¬ j < J by omega)]
            exact et_is (et_and (et_test (ev_opL (ev_var rfl) (el_lst ea_nil (by decide)) (fun _ _ hp e1 => rv_neNil (ex_l e1 hw4.sq) (sq_of hp)))) (b := true) (fun hb => nomatch hb)) rfl
        · have hjJ : j < J := of_decide_eq_true hb
          obtain ⟨qq, hq, hqp⟩ := hJ j hjJ
          rw [hnx qq hq] at hw4
          refine ⟨_, fun σ3 H6 h => h, ?_⟩
          have hw5 := hw4.ex e5
          refine q_pop hw5.at_ (ev_var rfl) (stk_top _ _) fun H6 e6 => ?_
          rw [stk_pop]
          refine s_asg (ev_op (ev_var rfl) ev_c (rv_addS (by rw [txt_len, List.length_append, List.length_replicate]; show _ + 1 ≤ _; omega))) fun H7 e7 => ?_
          refine ⟨J - (j + 1), by omega, j + 1, hjJ, rfl, ?_, ?_, ?_⟩
          · exact (((e4.trans e5).trans e6).mut hw.nw).trans e7
          · have z : Own H (upd H6 pw (.lst (stk ((rs P i).drop (j + 1))))) pw _ := hw5.put
            exact z.ex e7
          · rw [txt_0, txt_app, List.append_assoc, ← List.replicate_succ']
            rfl
        · have ej : j = J := by
            have z := of_decide_eq_false hb
            omega
          subst ej
          have hw5 := hw4.ex e5
          refine q_app hw5.at_ (ev_var rfl) (ev_var rfl) (by rw [stk_len, List.length_drop]; omega) fun H6 e6 => ?_
          refine s_asg (ev_op (ev_var rfl) ev_c (rv_addS (by rw [txt_len, List.length_append, List.length_replicate]; show _ + 1 ≤ _; omega))) fun H7 e7 => ?_
          refine ⟨some (.int (i : Int)), by omega, ?_, ?_, ?_⟩
          · exact (((e4.trans e5).trans e6).mut hw.nw).trans e7
          · rw [ers, stk_cons]
            have z : Own H (upd H6 pw (.lst (stk ((rs P i).drop j) ++ [.int (i : Int)]))) pw _ := hw5.put
            exact z.ex e7
          · rw [erb, txt_1, txt_app]
            rfl
    · rintro σ' H3 ⟨y3, hi1, e3, hw, rfl⟩
      have en : ((pV (par P)).length : Int).toNat = P.length + 1 := by omega
      rw [en] at hw
      rw [en]
      have hbl := rb_le (P := P) (Nat.le_refl (P.length + 1))
      refine s_ret (ev_op (ev_var rfl) (ev_op ev_c (ev_len (ev_var rfl) hw.sq) (rv_mulS (⟨by omega, by rw [stk_len]; omega⟩))) (rv_addS (by rw [txt_len, txt_len, List.length_replicate, stk_len]; omega))) fun H4 e4 => ?_
      rw [txt_app, stk_len]
      have z := q H4 (e3.trans e4)
      have ef : full P = rb P (P.length + 1) ++ List.replicate ((rs P (P.length + 1)).length : Int).toNat false := by
        show _ = (run (P.take P.length)).bs ++ List.replicate (((run (P.take P.length)).st.length : Nat) : Int).toNat false
        rw [List.take_length, Int.toNat_natCast]
        rfl
      rw [ef] at z
      exact z

theorem sc_parents_of : FnScope ["bits", "parents", "pending", "bit", "knot"] ["bits"] (defScope s_parents_of) := ⟨rfl, rfl, rfl, by decide +kernel, rfl, by decide +kernel, by decide +kernel⟩
theorem ok_parents_of (T : Txt K mg A) : FnOk P w K mg base CX0 1 A.f_parents_of A.d_parents_of ["bits"] (spParentsOf K) := by
  refine T.F_parents_of.ok sc_parents_of (fun vs H Q E h => ?_) (fun cdv A' outer s H vs Q E hr h => ?_)
  · obtain ⟨x, r, rfl, _⟩ := h
    rfl
  · obtain ⟨x, r, rfl, hT, qn, qs⟩ := h
    refine ⟨_, (pss_cons (ps_if (PW.pt (pw_or (pt_not (pt_val (pe_callB call_isi (by rfl) T.b_isinstance (by decide +kernel) (pa_cons (pv 0) (pa_cons (pe_bltn (v := .ty "str") (by rfl) T.b_str (by decide +kernel) rfl) pa_nil))))) (pw_or1 (pt_not (pt_chain op_le op_le pe_int (pe_callB call_len_str (by rfl) T.b_len PySem.boot_len (pa_cons (pv 0) pa_nil)) (pe_op op_mul pe_int (pe_glob (v := .int 2000) (by rfl) T.c_MOST_KNOTS ⟨_, rfl⟩))))))) (pss_one (ps_ret pe_non)) pss_nil) (pss_cons (ps_set (i := 1) sc_parents_of.nd rfl (Or.inl rfl) (pe_lst pa_nil)) (pss_cons (ps_set (i := 2) sc_parents_of.nd rfl (Or.inl rfl) (pe_lst pa_nil)) (pss_cons (ps_for PassesOwn.never rfl (pi_str (pv 0)) (pg_name (i := 3) sc_parents_of.nd rfl (Or.inl rfl)) (pss_cons (ps_if (PW.pt (pw_and (pt_truth (pv 1) (by intro _; rfl)) (pw_and1 (pt_not (pt_truth (pv 2) (by intro _; rfl)))))) (pss_one (ps_ret pe_non)) pss_nil) (pss_one (ps_if (pt_cmpR op_eq (pv 3) pe_str (nomark _)) (pss_cons (ps_set (i := 4) sc_parents_of.nd rfl (Or.inl rfl) (pe_callB call_len_seq (by rfl) T.b_len PySem.boot_len (pa_cons (pv 1) pa_nil))) (pss_cons (ps_expr (pe_bm PySem.F.plainAttrs_list PySem.F.slot_list_append PySem.F.type_list_append mt_append (pv 1) (pa_cons (pe_ifExp (pt_truth (pv 2) (by intro _; rfl)) (pe_ix ix_list (pv 2) (pe_un un_neg pe_int) (fun _ _ => rfl)) pe_non) pa_nil))) (pss_one (ps_expr (pe_bm PySem.F.plainAttrs_list PySem.F.slot_list_append PySem.F.type_list_append mt_append (pv 2) (pa_cons (pv 4) pa_nil)))))) (pss_one (ps_if (PW.pt (pw_and (pt_cmpR op_eq (pv 3) pe_str (nomark _)) (pw_and1 (pt_truth (pv 2) (by intro _; rfl))))) (pss_one (ps_expr (pe_bm0 PySem.F.plainAttrs_list PySem.F.slot_list_pop PySem.F.type_list_pop mt_pop (pv 2)))) (pss_one (ps_ret pe_non)))))))) (pss_cons (ps_if (pt_truth (pv 2) (by intro _; rfl)) (pss_one (ps_ret pe_non)) pss_nil) (pss_one (ps_ret (pv 1)))))))), ?_⟩
    rcases hT with ⟨z, rfl, hz, rfl⟩ | ⟨tv, ht1, ht2, rfl⟩
    · have hzl : z.length = z.cps.toList.length := rfl
      refine q_when (et_or (et_not (et_B (ev_isi (ev_var rfl) ev_c (.ty _) (TyX.base (TyOf.str z)) (kit_ty (by decide +kernel : kitB "str" "str" = some true))))) (fun hb => (et_not (et_test (ev_chain ev_c (ev_lenS (ev_var rfl) (by omega)) rv_I0 (fun hb => (ev_op ev_c ev_c (rv_I (.inl ⟨by decide, by decide⟩)))) (fun hb => rv_I0)))))) (fun hb H1 e1 => ?_) (fun hb H1 e1 => ?_)
      · have qn' := qn (readM_no (fun z' => by
          have h1 : decide ((1 : Int) ≤ (z.length : Int)) = true := decide_eq_true (by omega)
          have h2 : decide ((z.length : Int) ≤ 2 * 2000) = true := decide_eq_true (by omega)
          have hb' : (!true || !(decide ((1 : Int) ≤ (z.length : Int)) && decide ((z.length : Int) ≤ 2 * 2000))) = true := hb
          rw [h1, h2] at hb'
          cases hb'))
        exact s_ret ev_c fun H2 e2 => qn' H2 (e1.trans e2)
      have hb' : (!true || !(decide ((1 : Int) ≤ (z.length : Int)) && decide ((z.length : Int) ≤ 2 * 2000))) = false := hb
      have hn : 1 ≤ z.cps.toList.length ∧ z.cps.toList.length ≤ 4000 := by
        simp at hb'
        omega
      clear hb hb'
      rw [readM_go hn] at qn qs
      refine q_asgL (el_lst ea_nil (by decide)) fun pp H2 np e2 h2 => ?_
      refine q_asgL (el_lst ea_nil (by decide)) fun pd H3 nd' e3 h3 => ?_
      have e03 := (e1.trans e2).trans e3
      have npd : pp ≠ pd := ne_of_none h2 nd'
      refine q_forS (ev_var rfl)
        (fun (i : Nat) (σ' : L2.St) (H' : Hp) => ∃ (ps : List (Option Int)) (st : List Int) (y3 y4 : Option V), readGo [] [] z.cps.toList = readGo ps st (z.cps.toList.drop i) ∧ ps.length ≤ i ∧ st.length ≤ i ∧
          Ex H H' ∧ Own H H' pp (pV ps) ∧ Own H H' pd (stk st) ∧ σ' = [some (.str z), some (.ref pp), some (.ref pd), y3, y4]) ?_ ?_ ?_
      · intro H4 e4
        exact ⟨[], [], none, none, rfl, Nat.le_refl _, Nat.le_refl _, e03.trans e4, ⟨fresh_back e1 np, e4 _ _ (e3 _ _ h2)⟩, ⟨fresh_back (e1.trans e2) nd', e4 _ _ h3⟩, rfl⟩
      · rintro i c σ' H4 hc ⟨ps, st, y3, y4, hre, hpl, hsl, e4, hpp, hpd, rfl⟩
        have hil : i < z.cps.toList.length := (List.getElem?_eq_some_iff.mp hc).1
        have hdr : z.cps.toList.drop i = c :: z.cps.toList.drop (i + 1) := by
          obtain ⟨h1, h2⟩ := List.getElem?_eq_some_iff.mp hc
          rw [List.drop_eq_getElem_cons h1, h2]
        rw [hdr] at hre
        refine q_when (et_and (et_truth (ev_var rfl) (tru_l hpp.sq)) (fun hb => (et_not (et_truth (ev_var rfl) (tru_l hpd.sq))))) (fun hb H5 e5 => ?_) (fun hb H5 e5 => ?_)
        · have hb' : ((!(pV ps).isEmpty) && !!(stk st).isEmpty) = true := hb
          rw [pV_emp, stk_emp] at hb'
          have qn' := qn (by rw [hre]; exact readGo_bad (by cases ps <;> cases st <;> first | (simp at hb'; done) | simp))
          exact s_ret ev_c fun H6 e6 => qn' H6 ((e4.trans e5).trans e6)
        have hok : ¬ (ps ≠ [] ∧ st = []) := by
          have hb' : ((!(pV ps).isEmpty) && !!(stk st).isEmpty) = false := hb
          rw [pV_emp, stk_emp] at hb'
          rintro ⟨h1, h2⟩
          subst h2
          cases ps with
          | nil => exact h1 rfl
          | cons a b => cases hb'
        clear hb
        have e05 := e4.trans e5
        have hpp5 := hpp.ex e5
        have hpd5 := hpd.ex e5
        refine s_if (et_test (ev_op (ev_var rfl) ev_c (rv_eq rfl))) (fun hb H6 e6 => ?_) (fun hb H6 e6 => ?_)
        · have hc1 : c = 49 := by
            have hb' : decide (V.str ⟨#[c]⟩ = V.str (Str.ofString "1")) = true := hb
            rw [sign_1] at hb'
            exact of_decide_eq_true hb'
          subst hc1
          rw [read_one _ _ _ hok] at hre
          have hpp6 := hpp5.ex e6
          have hpd6 := hpd5.ex e6
          refine q_asg (ev_len (ev_var rfl) hpp6.sq) fun H7 e7 => ?_
          have hpp7 := hpp6.ex e7
          have hpd7 := hpd6.ex e7
          refine q_app (v := oV st.head?) hpp7.at_ (ev_var rfl) ?_ (by rw [pV_len]; omega) fun H8 e8 => ?_
          · cases st with
            | nil => exact ev_if (et_truth (ev_var rfl) (tru_l hpd7.sq)) (fun hb => nomatch hb) (fun hb => ev_c)
            | cons a st =>
              refine ev_if (et_truth (ev_var rfl) (tru_l hpd7.sq)) (fun hb => (ev_op (ev_var rfl) (ev_un ev_c ru_neg) (rv_ixL hpd7.sq (stk_last _ _)))) (fun hb => ?_)
              have hb' : (!(stk (a :: st)).isEmpty) = false := hb
              rw [stk_emp] at hb'
              cases hb'
          · have hpd8 := (hpd7.ex e8).off (b := pp) (o := .lst (pV ps ++ [oV st.head?])) npd.symm
            refine s_app hpd8.at_ (ev_var rfl) (ev_var rfl) (by rw [stk_len]; omega) fun H9 e9 => ?_
            refine ⟨ps ++ [st.head?], (ps.length : Int) :: st, some (.str ⟨#[49]⟩), some (.int (ps.length : Int)), hre, by rw [List.length_append]; exact Nat.succ_le_succ hpl, Nat.succ_le_succ hsl, ?_, ?_, ?_, ?_⟩
            · exact (((((e05.trans e6).trans e7).trans e8).mut hpp.nw).trans e9).mut hpd.nw
            · have z1 : Own H (upd H8 pp (.lst (pV ps ++ [oV st.head?]))) pp (pV ps ++ [oV st.head?]) := hpp.put
              rw [pV_app']
              exact (z1.ex e9).off npd
            · rw [stk_cons, ← pV_len ps]
              exact hpd.put
            · rw [← pV_len ps]; rfl
        · have hc1 : c ≠ 49 := by
            have hb' : decide (V.str ⟨#[c]⟩ = V.str (Str.ofString "1")) = false := hb
            rw [sign_1] at hb'
            exact of_decide_eq_false hb'
          have hpp6 := hpp5.ex e6
          have hpd6 := hpd5.ex e6
          refine s_if (et_and (et_test (ev_op (ev_var rfl) ev_c (rv_eq rfl))) (fun hb => (et_truth (ev_var rfl) (tru_l hpd6.sq)))) (fun hb2 H7 e7 => ?_) (fun hb2 H7 e7 => ?_)
          · have hb' : (decide (V.str ⟨#[c]⟩ = V.str (Str.ofString "0")) && !(stk st).isEmpty) = true := hb2
            rw [sign_0, stk_emp, Bool.and_eq_true] at hb'
            have hc0 := of_decide_eq_true hb'.1
            subst hc0
            cases st with
            | nil => cases hb'.2
            | cons a st =>
              rw [readGo_0 hok (List.cons_ne_nil _ _)] at hre
              have hpd7 := hpd6.ex e7
              refine s_pop hpd7.at_ (ev_var rfl) (stk_top _ _) fun H8 e8 => ?_
              rw [stk_pop]
              refine ⟨ps, st, some (.str ⟨#[48]⟩), y4, hre, Nat.le_succ_of_le hpl, Nat.le_succ_of_le (Nat.le_of_succ_le hsl), ?_, ((hpp6.ex e7).ex e8).off npd, hpd.put, rfl⟩
              exact ((((e05.trans e6).trans e7).trans e8)).mut hpd.nw
          · have hb' : (decide (V.str ⟨#[c]⟩ = V.str (Str.ofString "0")) && !(stk st).isEmpty) = false := hb2
            rw [sign_0, stk_emp] at hb'
            have qn' := qn (by
              rw [hre]
              refine readGo_no hc1 ?_
              rintro ⟨h1, h2⟩
              rw [decide_eq_true h1] at hb'
              cases st with
              | nil => exact h2 rfl
              | cons a b => cases hb')
            exact s_ret ev_c fun H8 e8 => qn' H8 (((e05.trans e6).trans e7).trans e8)
      · rintro σ' H4 ⟨ps, st, y3, y4, hre, hpl, hsl, e4, hpp, hpd, rfl⟩
        rw [List.drop_eq_nil_of_le (show z.cps.toList.length ≤ z.length from Nat.le_refl _)] at hre
        refine q_when (et_truth (ev_var rfl) (tru_l hpd.sq)) (fun hb H5 e5 => ?_) (fun hb H5 e5 => ?_)
        · have hb' : (!(stk st).isEmpty) = true := hb
          rw [stk_emp] at hb'
          have qn' := qn (by
            rw [hre]
            show (if st = [] then some ps else none) = none
            rw [if_neg (fun z' => by rw [z'] at hb'; cases hb')])
          exact s_ret ev_c fun H6 e6 => qn' H6 ((e4.trans e5).trans e6)
        · have hb' : (!(stk st).isEmpty) = false := hb
          rw [stk_emp] at hb'
          have hst : st = [] := by
            cases st with
            | nil => rfl
            | cons a b => cases hb'
          have qs' := qs ps (by
            rw [hre, hst]
            rfl)
          refine s_ret (ev_var rfl) fun H6 e6 => ?_
          exact qs' pp H6 hpp.nw ((e4.trans e5).trans e6) (e6 _ _ (e5 _ _ hpp.at_))
    · refine q_when (b := true) (et_is (et_or (et_not (et_B (ev_isi (ev_var rfl) ev_c (.ty _) ht1 ht2))) (b := true) (fun hb => nomatch hb)) rfl) (fun hb H1 e1 => ?_) (fun hb => nomatch hb)
      exact s_ret ev_c fun H2 e2 => qn rfl H2 (e1.trans e2)

theorem sc_plain : FnScope ["bits", "parents"] ["bits"] (defScope s_plain) := ⟨rfl, rfl, rfl, by decide +kernel, rfl, by decide +kernel, by decide +kernel⟩
theorem ok_plain (T : Txt K mg A) : FnOk P w K mg base (L2.CX P w) 3 A.f_plain A.d_plain ["bits"] (spPlain K A.c_NoTree) := by
  refine T.F_plain.okX sc_plain (fun vs H Q E h => ?_) (fun cdv A' outer s H vs Q E hr h => ?_)
  · obtain ⟨x, r, rfl, _⟩ := h
    rfl
  · obtain ⟨x, r, rfl, hT, qn, qs⟩ := h
    refine ⟨_, (pss_cons (ps_set (i := 1) sc_plain.nd rfl (Or.inl rfl) (pe_call (ok_parents_of T) (hr.mono (by decide)) (by rfl) T.g_parents_of T.F_parents_of.kp T.s_parents_of .nil pass0 (pa_cons (pv 0) pa_nil))) (pss_cons (ps_if (pt_cmpR op_isN (pv 1) pe_non (nomark _)) (pss_one (ps_raise rfl (takes_of rfl rfl rfl rfl) (pmk_own PySem.F.excBase_ValueError T.x_NoTree T.g_NoTree T.k_NoTree (raises_own T.e_NoTree T.t_NoTree) (by exact rfl)))) pss_nil) (pss_one (ps_ret (pv 1))))), ?_⟩
    refine q_asgC (ea_cons (ev_var rfl) ea_nil) fun H1 e1 => ⟨x, r, rfl, hT.ex e1, fun hr H2 e2 => ?_, fun ps hps p H2 np e2 h2 => ?_⟩
    · refine q_when (b := true) (et_test (ev_op (ev_var rfl) ev_c rv_isN)) (fun hb H3 e3 => ?_) (fun hb => nomatch hb)
      exact qn hr H3 ((e1.trans e2).trans e3)
    · refine q_when (b := false) (et_is (et_test (ev_op (ev_var rfl) ev_c rv_isN)) rfl) (fun hb => nomatch hb) (fun hb H3 e3 => ?_)
      exact s_ret (ev_var rfl) fun H4 e4 => qs ps hps p H4 (fresh_back e1 np) (((e1.trans e2).trans e3).trans e4) (e4 _ _ (e3 _ _ h2))

theorem sc_law_changed : FnScope ["_law_bits_here", "_law_cell", "_law_sign", "_law_at"] ["_law_bits_here", "_law_cell"] (defScope s_law_changed) := ⟨rfl, rfl, rfl, by decide +kernel, rfl, by decide +kernel, by decide +kernel⟩
theorem ok_law_changed (T : Txt K mg A) : FnOk P w K mg base CX0 1 A.f_law_changed A.d_law_changed ["_law_bits_here", "_law_cell"] spChanged := by
  refine T.F_law_changed.ok sc_law_changed (fun vs H Q E h => ?_) (fun cdv A' outer s H vs Q E hr h => ?_)
  · obtain ⟨z, c, rfl, _⟩ := h
    rfl
  · obtain ⟨z, c, rfl, hc, hz, q⟩ := h
    refine ⟨_, (pss_cons (ps_set (i := 2) sc_law_changed.nd rfl (Or.inl rfl) (pe_ix ix_list (pe_lst (pa_cons pe_str (pa_cons pe_str (pa_cons pe_str (pa_cons pe_str (pa_cons pe_str (pa_cons pe_str (pa_cons pe_str (pa_cons pe_str pa_nil))))))))) (pe_op op_mod (pe_op op_fdiv (pv 1) pe_int) pe_int) (fun _ _ => rfl))) (pss_cons (ps_set (i := 3) sc_law_changed.nd rfl (Or.inl rfl) (pe_op op_mod (pe_op op_fdiv (pv 1) pe_int) (pe_op op_add (pe_callB call_len_str (by rfl) T.b_len PySem.boot_len (pa_cons (pv 0) pa_nil)) pe_int))) (pss_cons (ps_if (pt_cmpR op_eq (pe_op op_mod (pv 1) pe_int) pe_int (nomark _)) (pss_one (ps_ret (pe_op op_add_str (pe_op op_add_str (pe_slice sl_str (pv 0) po_none (po_some (pv 3))) (pv 2)) (pe_slice sl_str (pv 0) (po_some (pv 3)) po_none)))) pss_nil) (pss_cons (ps_if (pt_cmpR op_eq (pe_op op_mod (pv 1) pe_int) pe_int (nomark _)) (pss_one (ps_ret (pe_op op_add_str (pe_slice sl_str (pv 0) po_none (po_some (pv 3))) (pe_slice sl_str (pv 0) (po_some (pe_op op_add (pv 3) pe_int)) po_none)))) pss_nil) (pss_one (ps_ret (pe_op op_add_str (pe_op op_add_str (pe_slice sl_str (pv 0) po_none (po_some (pv 3))) (pv 2)) (pe_slice sl_str (pv 0) (po_some (pe_op op_add (pv 3) pe_int)) po_none)))))))), ?_⟩
    obtain ⟨y, hy, hyi⟩ := atI_strs (ys := ["0", "1", "0", "1", "2", "a", " ", ""]) (i := c / 3 % 8) (by omega) (by show c / 3 % 8 < 8; omega)
    have hyl : y.length ≤ 1 := by
      simp only [List.mem_cons, List.not_mem_nil, or_false] at hy
      rcases hy with rfl | rfl | rfl | rfl | rfl | rfl | rfl | rfl <;> decide +kernel
    refine q_asg (ev_opL1 (el_lst (ea_cons ev_c (ea_cons ev_c (ea_cons ev_c (ea_cons ev_c (ea_cons ev_c (ea_cons ev_c (ea_cons ev_c (ea_cons ev_c ea_nil)))))))) (by simp)) (fun _ e1 => Ev.mono e1 (ev_op (ev_op (ev_var rfl) ev_c (rv_I ⟨by decide, by decide⟩)) ev_c (rv_I (by decide)))) (fun _ _ hp e1 => rv_ixL (sq_of hp) hyi)) fun H1 e1 => ?_
    refine q_asg (ev_op (ev_op (ev_var rfl) ev_c (rv_I ⟨by decide, by decide⟩)) (ev_op (ev_lenS (ev_var rfl) (by omega)) ev_c rv_I0) (rv_I (by omega))) fun H2 e2 => ?_
    generalize c / 24 % ((z.length : Int) + 1) = at'
    have e02 := e1.trans e2
    have l1 := cutS_length z none (some at')
    have l2 := cutS_length z (some at') none
    have l3 := cutS_length z (some (at' + 1)) none
    refine q_when (et_test (ev_op (ev_op (ev_var rfl) ev_c (rv_I (by decide))) ev_c (rv_eq rfl))) (fun hb H3 e3 => ?_) (fun hb H3 e3 => ?_)
    · refine s_ret (ev_op (ev_op (ev_slS (ev_var rfl) eo_none (eo_some (ev_var rfl)) (by omega)) (ev_var rfl) (rv_addS (by omega))) (ev_slS (ev_var rfl) (eo_some (ev_var rfl)) eo_none (by omega)) (rv_addS (by rw [app_len]; omega))) fun H4 e4 => ?_
      exact q _ (by rw [app_len, app_len]; omega) H4 ((e02.trans e3).trans e4)
    refine q_when (et_test (ev_op (ev_op (ev_var rfl) ev_c (rv_I (by decide))) ev_c (rv_eq rfl))) (fun hb H4 e4 => ?_) (fun hb H4 e4 => ?_)
    · refine s_ret (ev_op (ev_slS (ev_var rfl) eo_none (eo_some (ev_var rfl)) (by omega)) (ev_slS (ev_var rfl) (eo_some (ev_op (ev_var rfl) ev_c rv_I0)) eo_none (by omega)) (rv_addS (by omega))) fun H5 e5 => ?_
      exact q _ (by rw [app_len]; omega) H5 (((e02.trans e3).trans e4).trans e5)
    refine s_ret (ev_op (ev_op (ev_slS (ev_var rfl) eo_none (eo_some (ev_var rfl)) (by omega)) (ev_var rfl) (rv_addS (by omega))) (ev_slS (ev_var rfl) (eo_some (ev_op (ev_var rfl) ev_c rv_I0)) eo_none (by omega)) (rv_addS (by rw [app_len]; omega))) fun H5 e5 => ?_
    exact q _ (by rw [app_len, app_len]; omega) H5 (((e02.trans e3).trans e4).trans e5)

theorem sc_law_thing : FnScope ["_law_bits_here", "_law_script", "_law_cell", "_law_way", "_law_k", "_law_more", "_law_long"] ["_law_bits_here", "_law_script"] (defScope s_law_thing) := ⟨rfl, rfl, rfl, by decide +kernel, rfl, by decide +kernel, by decide +kernel⟩
theorem ok_law_thing (T : Txt K mg A) : FnOk P w K mg base CX0 2 A.f_law_thing A.d_law_thing ["_law_bits_here", "_law_script"] (spThing K) := by
  refine T.F_law_thing.ok sc_law_thing (fun vs H Q E h => ?_) (fun cdv A' outer s H vs Q E hr h => ?_)
  · obtain ⟨z, a, ns, rfl, _⟩ := h
    rfl
  · obtain ⟨z, a, ns, rfl, hS, hz1, hz2, q⟩ := h
    refine ⟨_, (pss_cons (ps_set (i := 2) sc_law_thing.nd rfl (Or.inl rfl) (pe_call (ok_law_cell_at T) (hr.mono (by decide)) (by rfl) T.g_law_cell_at T.F_law_cell_at.kp T.s_law_cell_at .nil pass0 (pa_cons (pv 1) (pa_cons pe_int pa_nil)))) (pss_cons (ps_set (i := 3) sc_law_thing.nd rfl (Or.inl rfl) (pe_op op_mod (pv 2) pe_int)) (pss_cons (ps_if (pt_cmpR op_lt (pv 3) pe_int (nomark _)) (pss_one (ps_ret (pv 0))) pss_nil) (pss_cons (ps_if (pt_cmpR op_lt (pv 3) pe_int (nomark _)) (pss_cons (ps_for PassesOwn.never rfl (pi_range1 (by rfl) T.b_range (pa_cons (pe_op op_add pe_int (pe_op op_mod (pe_op op_fdiv (pv 2) pe_int) pe_int)) pa_nil)) (pg_name (i := 4) sc_law_thing.nd rfl (Or.inl rfl)) (pss_one (ps_set (i := 0) sc_law_thing.nd rfl (Or.inl rfl) (pe_call (ok_law_changed T) (hr.mono (by decide)) (by rfl) T.g_law_changed T.F_law_changed.kp T.s_law_changed .nil pass0 (pa_cons (pv 0) (pa_cons (pe_call (ok_law_cell_at T) (hr.mono (by decide)) (by rfl) T.g_law_cell_at T.F_law_cell_at.kp T.s_law_cell_at .nil pass0 (pa_cons (pv 1) (pa_cons (pe_op op_add pe_int (pv 4)) pa_nil))) pa_nil)))))) (pss_one (ps_ret (pv 0)))) pss_nil) (pss_cons (ps_if (pt_cmpR op_eq (pv 3) pe_int (nomark _)) (pss_cons (ps_set (i := 5) sc_law_thing.nd rfl (Or.inl rfl) (pe_lst (pa_cons (pe_revS (pv 0)) (pa_cons (pe_op op_add_str (pv 0) (pv 0)) (pa_cons (pe_slice sl_str (pv 0) po_none (po_some (pe_op op_mod (pe_op op_fdiv (pv 2) pe_int) (pe_callB call_len_str (by rfl) T.b_len PySem.boot_len (pa_cons (pv 0) pa_nil))))) (pa_cons (pe_op op_add_str (pe_op op_add_str pe_str (pv 0)) pe_str) (pa_cons (pe_op op_add_str pe_str (pe_slice sl_str (pv 0) (po_some pe_int) po_none)) pa_nil))))))) (pss_one (ps_ret (pe_ix ix_list (pv 5) (pe_op op_mod (pe_op op_fdiv (pv 2) pe_int) pe_int) (fun _ _ => rfl))))) pss_nil) (pss_cons (ps_if (pt_cmpR op_eq (pv 3) pe_int (nomark _)) (pss_cons (ps_set (i := 6) sc_law_thing.nd rfl (Or.inl rfl) (pe_op op_add_str (pe_op op_mulS pe_str pe_int) (pe_op op_mulS pe_str pe_int))) (pss_one (ps_ret (pe_ix ix_list (pe_lst (pa_cons pe_str (pa_cons pe_str (pa_cons pe_str (pa_cons pe_str (pa_cons pe_str (pa_cons pe_str (pa_cons pe_str (pa_cons pe_str (pa_cons (pv 6) (pa_cons (pe_op op_add_str (pe_op op_add_str pe_str (pv 6)) pe_str) pa_nil))))))))))) (pe_op op_mod (pe_op op_fdiv (pv 2) pe_int) pe_int) (fun _ _ => rfl))))) pss_nil) (pss_one (ps_ret (pe_ix ix_list (pe_lst (pa_cons pe_non (pa_cons pe_int (pa_cons pe_bl (pa_cons (pe_lst (pa_cons (pv 0) pa_nil)) (pa_cons (pe_tup (pa_cons pe_str (pa_cons pe_str pa_nil))) (pa_cons (pe_lst (pa_cons pe_str (pa_cons pe_str pa_nil))) (pa_cons pe_dnewK pa_nil)))))))) (pe_op op_mod (pe_op op_fdiv (pv 2) pe_int) pe_int) (fun _ _ => rfl)))))))))), ?_⟩
    have ok : ∀ {y : Str} {H' : Hp}, y.length ≤ 90000 → Ex H H' → Q (.str y) H' := fun hy e => q _ _ _ e (.inl ⟨_, rfl, hy, rfl⟩)
    have g26 := cell_ge ns 26
    refine q_asg (ev_call (ea_cons (ev_var rfl) (ea_cons ev_c ea_nil)) (sv_cell 26 rfl hS)) fun H1 e1 => ?_
    generalize cell ns 26 = c at g26 ⊢
    refine q_asg (ev_op (ev_var rfl) ev_c (rv_I (by decide))) fun H2 e2 => ?_
    have e02 := e1.trans e2
    refine q_when (et_test (ev_op (ev_var rfl) ev_c rv_I0)) (fun hb H3 e3 => ?_) (fun hb H3 e3 => ?_)
    · exact s_ret (ev_var rfl) fun H4 e4 => ok (by omega) ((e02.trans e3).trans e4)
    have e03 := e02.trans e3
    refine q_when (et_test (ev_op (ev_var rfl) ev_c rv_I0)) (fun hb H4 e4 => ?_) (fun hb H4 e4 => ?_)
    · refine q_forR1 (ea_cons (ev_op ev_c (ev_op (ev_op (ev_var rfl) ev_c (rv_I ⟨by decide, by decide⟩)) ev_c (rv_I (by decide))) rv_I0) ea_nil) ⟨by omega, by omega⟩
        (fun (i : Nat) (σ' : L2.St) (H' : Hp) => ∃ (y : Str) (y4 y5 y6 : Option V), y.length + 1 ≤ 402 * 2 ^ i ∧ Ex H H' ∧ σ' = [some (.str y), some (.ref a), some (.int c), some (.int (c % 12)), y4, y5, y6]) ?_ ?_ ?_
      · intro H5 e5
        exact ⟨z, none, none, none, by omega, (e03.trans e4).trans e5, rfl⟩
      · rintro i σ' H5 hi ⟨y, y4, y5, y6, hy, e5, rfl⟩
        have hi3 : i < 3 := by omega
        have hp : 402 * 2 ^ i ≤ 402 * 2 ^ 2 := Nat.mul_le_mul_left _ (Nat.pow_le_pow_right (by decide) (by omega))
        refine s_asgC (ea_cons (ev_var rfl) (ea_cons (ev_call (ea_cons (ev_var rfl) (ea_cons (ev_op ev_c (ev_var rfl) rv_I0) ea_nil)) (sv_cell (27 + i) (by omega) (ex_l e5 hS))) ea_nil)) fun H6 e6 => ⟨y, _, rfl, cell_ge ns _, by omega, fun y' hy' H7 e7 => ?_⟩
        refine ⟨y', some (.int (i : Int)), y5, y6, ?_, (e5.trans e6).trans e7, rfl⟩
        rw [Nat.pow_succ]
        omega
      · rintro σ' H5 ⟨y, y4, y5, y6, hy, e5, rfl⟩
        have hn : (1 + c / 12 % 3).toNat ≤ 3 := by omega
        have hp : 402 * 2 ^ (1 + c / 12 % 3).toNat ≤ 402 * 2 ^ 3 := Nat.mul_le_mul_left _ (Nat.pow_le_pow_right (by decide) hn)
        exact s_ret (ev_var rfl) fun H6 e6 => ok (by omega) (e5.trans e6)
    have e04 := e03.trans e4
    refine q_when (et_test (ev_op (ev_var rfl) ev_c (rv_eq rfl))) (fun hb2 H5 e5 => ?_) (fun hb2 H5 e5 => ?_)
    · refine q_asgL (el_lst (ea_cons (ev_revS (ev_var rfl) (by omega)) (ea_cons (ev_op (ev_var rfl) (ev_var rfl) (rv_addS (by omega))) (ea_cons (ev_slS (ev_var rfl) eo_none (eo_some (ev_op (ev_op (ev_var rfl) ev_c (rv_I ⟨by decide, by decide⟩)) (ev_lenS (ev_var rfl) (by omega)) (rv_I (by omega)))) (by omega)) (ea_cons (ev_op (ev_op ev_c (ev_var rfl) (rv_addS (by show 1 + _ ≤ _; omega))) ev_c (rv_addS (by rw [app_len]; show (1 + _) + 1 ≤ _; omega))) (ea_cons (ev_op ev_c (ev_slS (ev_var rfl) (eo_some ev_c) eo_none (by omega)) (rv_addS (by have := cutS_length z (some 1) none; show 1 + _ ≤ _; omega))) ea_nil))))) (by simp)) fun p H6 np e6 h6 => ?_
      have hl5 := cutS_length z (some 1) none
      have hl3 := cutS_length z none (some (c / 60 % (z.length : Int)))
      have hr := revS_len z
      obtain ⟨y, hy, hyi⟩ := atI_strs (ys := [revS z, z ++ z, cutS z none (some (c / 60 % (z.length : Int))), "1" ++ z ++ "0", "0" ++ cutS z (some 1) none]) (i := c / 12 % 5) (by omega) (by show c / 12 % 5 < 5; omega)
      have hyl : y.length ≤ 90000 := by
        simp only [List.mem_cons, List.not_mem_nil, or_false] at hy
        rcases hy with rfl | rfl | rfl | rfl | rfl
        · omega
        · rw [app_len]; omega
        · omega
        · rw [app_len, app_len]; show 1 + _ + 1 ≤ _; omega
        · rw [app_len]; show 1 + _ ≤ _; omega
      exact s_ret (ev_op (ev_var rfl) (ev_op (ev_op (ev_var rfl) ev_c (rv_I ⟨by decide, by decide⟩)) ev_c (rv_I (by decide))) (rv_ixL (sq_of h6) hyi)) fun H7 e7 => ok hyl (((e04.trans e5).trans e6).trans e7)
    have e05 := e04.trans e5
    refine q_when (et_test (ev_op (ev_var rfl) ev_c (rv_eq rfl))) (fun hb3 H6 e6 => ?_) (fun hb3 H6 e6 => ?_)
    · obtain ⟨long, hlong, hev⟩ := long_of 2000 2000 (by decide) (by decide)
      refine q_asg (hev _ _) fun H7 e7 => ?_
      clear hev
      obtain ⟨y, hy, hyi⟩ := atI_strs (ys := ["", "1", "0", "10", "00", "1100", "1010", "110", long, "1" ++ long ++ "0"]) (i := c / 12 % 10) (by omega) (by show c / 12 % 10 < 10; omega)
      have hyl : y.length ≤ 90000 := by
        simp only [List.mem_cons, List.not_mem_nil, or_false] at hy
        rcases hy with rfl | rfl | rfl | rfl | rfl | rfl | rfl | rfl | rfl | rfl
        · decide +kernel
        · decide +kernel
        · decide +kernel
        · decide +kernel
        · decide +kernel
        · decide +kernel
        · decide +kernel
        · decide +kernel
        · omega
        · rw [app_len, app_len]; show 1 + _ + 1 ≤ _; omega
      exact s_ret (ev_opL1 (el_lst (ea_cons ev_c (ea_cons ev_c (ea_cons ev_c (ea_cons ev_c (ea_cons ev_c (ea_cons ev_c (ea_cons ev_c (ea_cons ev_c (ea_cons (ev_var rfl) (ea_cons (ev_op (ev_op ev_c (ev_var rfl) (rv_addS (by show 1 + _ ≤ _; omega))) ev_c (rv_addS (by rw [app_len]; show 1 + _ + 1 ≤ _; omega))) ea_nil)))))))))) (by simp)) (fun _ e1 => Ev.mono e1 (ev_op (ev_op (ev_var rfl) ev_c (rv_I ⟨by decide, by decide⟩)) ev_c (rv_I (by decide)))) (fun _ _ hp e1 => rv_ixL (sq_of hp) hyi)) fun H8 e8 => ok hyl (((e05.trans e6).trans e7).trans e8)
    have e06 := e05.trans e6
    refine ⟨_, rfl, (by show 1 ≤ sizeLine; decide), fun p1 n1 => ⟨(by show 2 ≤ sizeLine; decide), fun p2 n2 => ⟨(by show 2 ≤ sizeLine; decide), fun p3 n3 => fun p4 n4 => ⟨(by show 7 ≤ sizeLine; decide), fun p5 n5 => ?_⟩⟩⟩⟩
    have x1 := Ex.new (o := .lst [.str z]) n1
    have x2 := Ex.new (o := .tup [.str "1", .str "0"]) n2
    have x3 := Ex.new (o := .lst [.str "1", .str "0"]) n3
    have x4 := Ex.new (o := .dK []) n4
    have x5 := Ex.new (o := .lst [.non, .int 10, .bl true, .ref p1, .ref p2, .ref p3, .ref p4]) n5
    have y1 := x5 _ _ (x4 _ _ (x3 _ _ (x2 _ _ (upd_same (H := H6) (a := p1) (o := .lst [.str z])))))
    have y2 := x5 _ _ (x4 _ _ (x3 _ _ (upd_same (a := p2) (o := .tup [.str "1", .str "0"]))))
    have y3 := x5 _ _ (x4 _ _ (upd_same (a := p3) (o := .lst [.str "1", .str "0"])))
    have y4 := x5 _ _ (upd_same (a := p4) (o := .dK []))
    have e0 := ((((e06.trans x1).trans x2).trans x3).trans x4).trans x5
    have hix : 0 ≤ c / 12 % 7 ∧ c / 12 % 7 < 7 := by omega
    have hev : ∀ Hh, Ev (tOp (rI (fun x j => 0 < j) fun i j => V.int (i % j)) (tOp (rI CDiv fun i j => V.int (i / j)) (tVar 2) (tC (.int 12))) (tC (.int 7))) [some (.str z), some (.ref a), some (.int c), some (.int (c % 12)), none, none, none] Hh (.int (c / 12 % 7)) := fun Hh => (ev_op (ev_op (ev_var rfl) ev_c (rv_I ⟨by decide, by decide⟩)) ev_c (rv_I (by decide)))
    generalize c / 12 % 7 = ix at hix hev
    refine hev _ _ (Ex.refl _) _ fun H7 e7 => ?_
    have e07 := e0.trans e7
    have y5 := e7 _ _ (upd_same (a := p5) (o := .lst [.non, .int 10, .bl true, .ref p1, .ref p2, .ref p3, .ref p4]))
    have hcs : ix = 0 ∨ ix = 1 ∨ ix = 2 ∨ ix = 3 ∨ ix = 4 ∨ ix = 5 ∨ ix = 6 := by omega
    rcases hcs with rfl | rfl | rfl | rfl | rfl | rfl | rfl
    · exact ⟨p5, _, _, .non, rfl, rfl, sq_of y5, rfl, q _ none _ e07 (.inr ⟨_, .base .non, kit_ty (by decide +kernel), rfl⟩)⟩
    · exact ⟨p5, _, _, .int 10, rfl, rfl, sq_of y5, rfl, q _ none _ e07 (.inr ⟨_, .base (.int 10), kit_ty (by decide +kernel), rfl⟩)⟩
    · exact ⟨p5, _, _, .bl true, rfl, rfl, sq_of y5, rfl, q _ none _ e07 (.inr ⟨_, .base (.bl true), kit_ty (by decide +kernel), rfl⟩)⟩
    · exact ⟨p5, _, _, .ref p1, rfl, rfl, sq_of y5, rfl, q _ none _ e07 (.inr ⟨_, .base (.lst (e7 _ _ y1)), kit_ty (by decide +kernel), rfl⟩)⟩
    · exact ⟨p5, _, _, .ref p2, rfl, rfl, sq_of y5, rfl, q _ none _ e07 (.inr ⟨_, .base (.tup (e7 _ _ y2)), kit_ty (by decide +kernel), rfl⟩)⟩
    · exact ⟨p5, _, _, .ref p3, rfl, rfl, sq_of y5, rfl, q _ none _ e07 (.inr ⟨_, .base (.lst (e7 _ _ y3)), kit_ty (by decide +kernel), rfl⟩)⟩
    · exact ⟨p5, _, _, .ref p4, rfl, rfl, sq_of y5, rfl, q _ none _ e07 (.inr ⟨_, .base (.dK (e7 _ _ y4)), kit_ty (by decide +kernel), rfl⟩)⟩

theorem sc_law_plain : FnScope ["_law_thing_here", "_law_parents_here", "_law_way", "_law_k", "_law_older"] ["_law_thing_here"] (defScope s_law_plain) := ⟨rfl, rfl, rfl, by decide +kernel, rfl, by decide +kernel, by decide +kernel⟩
theorem ok_law_plain (T : Txt K mg A) : FnOk P w K mg base CX0 1 A.f_law_plain A.d_law_plain ["_law_thing_here"] (spParentsOf K) := by
  refine T.F_law_plain.ok sc_law_plain (fun vs H Q E h => ?_) (fun cdv A' outer s H vs Q E hr h => ?_)
  · obtain ⟨x, r, rfl, _⟩ := h
    rfl
  · obtain ⟨x, r, rfl, hT, qn, qs⟩ := h
    refine ⟨_, (pss_cons (ps_if (PW.pt (pw_or (pt_not (pt_val (pe_callB call_isi (by rfl) T.b_isinstance (by decide +kernel) (pa_cons (pv 0) (pa_cons (pe_bltn (v := .ty "str") (by rfl) T.b_str (by decide +kernel) rfl) pa_nil))))) (pw_or (pt_cmpR op_eq (pv 0) pe_str (nomark _)) (pw_or1 (pt_cmpR op_gt (pe_callB call_len_str (by rfl) T.b_len PySem.boot_len (pa_cons (pv 0) pa_nil)) pe_int (nomark _)))))) (pss_one (ps_ret pe_non)) pss_nil) (pss_cons (ps_set (i := 1) sc_law_plain.nd rfl (Or.inl rfl) (pe_lst pa_nil)) (pss_cons (ps_set (i := 2) sc_law_plain.nd rfl (Or.inl rfl) (pe_lst pa_nil)) (pss_cons (ps_for PassesOwn.never rfl (pi_range1 (by rfl) T.b_range (pa_cons (pe_callB call_len_str (by rfl) T.b_len PySem.boot_len (pa_cons (pv 0) pa_nil)) pa_nil)) (pg_name (i := 3) sc_law_plain.nd rfl (Or.inl rfl)) (pss_cons (ps_if (PW.pt (pw_or (pt_cmpR op_notIn_sign (pe_ix ix_str (pv 0) (pv 3) (fun _ _ => rfl)) pe_str (by rfl)) (pw_or1 (PW.pt (pw_and (pt_cmpR op_gt (pv 3) pe_int (nomark _)) (pw_and1 (pt_cmpR (op_eqD hr.units) (pv 2) (pe_lst pa_nil) (nomark _)))))))) (pss_one (ps_ret pe_non)) pss_nil) (pss_one (ps_if (pt_cmpR op_eq (pe_ix ix_str (pv 0) (pv 3) (fun _ _ => rfl)) pe_str (nomark _)) (pss_cons (ps_set (i := 4) sc_law_plain.nd rfl (Or.inl rfl) pe_non) (pss_cons (ps_if (pt_cmpR (op_neD hr.units) (pv 2) (pe_lst pa_nil) (nomark _)) (pss_one (ps_set (i := 4) sc_law_plain.nd rfl (Or.inl rfl) (pe_ix ix_list (pv 2) (pe_un un_neg pe_int) (fun _ _ => rfl)))) pss_nil) (pss_cons (ps_expr (pe_bm PySem.F.plainAttrs_list PySem.F.slot_list_append PySem.F.type_list_append mt_append (pv 1) (pa_cons (pv 4) pa_nil))) (pss_one (ps_expr (pe_bm PySem.F.plainAttrs_list PySem.F.slot_list_append PySem.F.type_list_append mt_append (pv 2) (pa_cons (pe_op op_sub (pe_callB call_len_seq (by rfl) T.b_len PySem.boot_len (pa_cons (pv 1) pa_nil)) pe_int) pa_nil))))))) (pss_one (ps_if (pt_cmpR (op_eqD hr.units) (pv 2) (pe_lst pa_nil) (nomark _)) (pss_one (ps_ret pe_non)) (pss_one (ps_expr (pe_bm0 PySem.F.plainAttrs_list PySem.F.slot_list_pop PySem.F.type_list_pop mt_pop (pv 2)))))))))) (pss_cons (ps_if (pt_cmpR (op_neD hr.units) (pv 2) (pe_lst pa_nil) (nomark _)) (pss_one (ps_ret pe_non)) pss_nil) (pss_one (ps_ret (pv 1)))))))), ?_⟩
    rcases hT with ⟨z, rfl, hz, rfl⟩ | ⟨tv, ht1, ht2, rfl⟩
    · have hzl : z.length = z.cps.toList.length := rfl
      have hze : decide (V.str z = V.str (Str.ofString "")) = decide (z.length = 0) := by
        have e : Str.ofString "" = ⟨#[]⟩ := by decide +kernel
        rw [e]
        by_cases h : z.length = 0
        · have e2 : z = ⟨#[]⟩ := by
            obtain ⟨c⟩ := z
            have h' : c.size = 0 := h
            rw [Array.eq_empty_of_size_eq_zero h']
          rw [e2]
          simp [Str.length]
        · rw [decide_eq_false h, decide_eq_false (fun e2 => h (by rw [V.str.inj e2]; rfl))]
      refine q_when (et_or (et_not (et_B (ev_isi (ev_var rfl) ev_c (.ty _) (TyX.base (TyOf.str z)) (kit_ty (by decide +kernel : kitB "str" "str" = some true))))) (fun hb => (et_or (et_test (ev_op (ev_var rfl) ev_c (rv_eq rfl))) (fun hb => (et_test (ev_op (ev_lenS (ev_var rfl) (by omega)) ev_c rv_I0)))))) (fun hb H1 e1 => ?_) (fun hb H1 e1 => ?_)
      · have hb' : (!true || (decide (V.str z = V.str (Str.ofString "")) || decide ((4000 : Int) < (z.length : Int)))) = true := hb
        rw [hze] at hb'
        have qn' := qn (readM_no (fun z' => by
          rw [decide_eq_false (show ¬ z.length = 0 by omega), decide_eq_false (show ¬ (4000 : Int) < (z.length : Int) by omega)] at hb'
          cases hb'))
        exact s_ret ev_c fun H2 e2 => qn' H2 (e1.trans e2)
      have hb' : (!true || (decide (V.str z = V.str (Str.ofString "")) || decide ((4000 : Int) < (z.length : Int)))) = false := hb
      rw [hze] at hb'
      have hn : 1 ≤ z.cps.toList.length ∧ z.cps.toList.length ≤ 4000 := by
        simp at hb'
        omega
      clear hb hb' hze
      rw [readM_go hn] at qn qs
      refine q_asgL (el_lst ea_nil (by decide)) fun pp H2 np e2 h2 => ?_
      refine q_asgL (el_lst ea_nil (by decide)) fun pd H3 nd' e3 h3 => ?_
      have e03 := (e1.trans e2).trans e3
      have npd : pp ≠ pd := ne_of_none h2 nd'
      refine q_forR1 (ea_cons (ev_lenS (ev_var rfl) (by omega)) ea_nil) ⟨by omega, by omega⟩
        (fun (i : Nat) (σ' : L2.St) (H' : Hp) => ∃ (ps : List (Option Int)) (st : List Int) (y3 y4 : Option V), readGo [] [] z.cps.toList = readGo ps st (z.cps.toList.drop i) ∧ (i = 0 ↔ ps = []) ∧ (ps = [] → st = []) ∧ ps.length ≤ i ∧ st.length ≤ i ∧
          Ex H H' ∧ Own H H' pp (pV ps) ∧ Own H H' pd (stk st) ∧ σ' = [some (.str z), some (.ref pp), some (.ref pd), y3, y4]) ?_ ?_ ?_
      · intro H4 e4
        exact ⟨[], [], none, none, rfl, ⟨fun _ => rfl, fun _ => rfl⟩, fun _ => rfl, Nat.le_refl _, Nat.le_refl _, e03.trans e4, ⟨fresh_back e1 np, e4 _ _ (e3 _ _ h2)⟩, ⟨fresh_back (e1.trans e2) nd', e4 _ _ h3⟩, rfl⟩
      · rintro i σ' H4 hi ⟨ps, st, y3, y4, hre, hip, hps, hpl, hsl, e4, hpp, hpd, rfl⟩
        have hil : i < z.cps.toList.length := by omega
        obtain ⟨c, hc⟩ : ∃ c, z.cps.toList[i]? = some c := ⟨_, List.getElem?_eq_getElem hil⟩
        have hdr : z.cps.toList.drop i = c :: z.cps.toList.drop (i + 1) := by
          obtain ⟨h1, h2⟩ := List.getElem?_eq_some_iff.mp hc
          rw [List.drop_eq_getElem_cons h1, h2]
        rw [hdr] at hre
        have hat : atI z.cps.toList (i : Int) = some c := atI_nat hc
        have hmem : decide (c ∈ (Str.ofString "01").cps.toList) = (decide (c = 48) || decide (c = 49)) := by
          have e : (Str.ofString "01").cps.toList = [48, 49] := by decide +kernel
          rw [e]
          simp
        refine q_when (et_or (et_test (ev_op (ev_op (ev_var rfl) (ev_var rfl) (rv_ixS (by omega) hat)) ev_c rv_notInS)) (fun hb => (et_and (et_test (ev_op (ev_var rfl) ev_c rv_I0)) (fun hb => (et_test (ev_opL (ev_var rfl) (el_lst ea_nil (by decide)) (fun _ _ hp e1 => rv_eqNil (ex_l e1 hpd.sq) (sq_of hp)))))))) (fun hb H5 e5 => ?_) (fun hb H5 e5 => ?_)
        · have hb' : ((!decide (c ∈ (Str.ofString "01").cps.toList)) || (decide ((0 : Int) < (i : Int)) && decide (st = []))) = true := hb
          rw [hmem] at hb'
          have qn' := qn (by
            rw [hre]
            by_cases h1 : c = 48 ∨ c = 49
            · have h2 : 0 < (i : Int) ∧ st = [] := by
                rcases h1 with h1 | h1 <;> simpa [h1] using hb'
              exact readGo_bad ⟨fun z' => by have := hip.mpr z'; omega, h2.2⟩
            · exact readGo_no (fun z' => h1 (.inr z')) (fun z' => h1 (.inl z'.1)))
          exact s_ret ev_c fun H6 e6 => qn' H6 ((e4.trans e5).trans e6)
        have hb' : ((!decide (c ∈ (Str.ofString "01").cps.toList)) || (decide ((0 : Int) < (i : Int)) && decide (st = []))) = false := hb
        rw [hmem] at hb'
        have hc01 : c = 48 ∨ c = 49 := by
          by_cases h1 : c = 48
          · exact .inl h1
          · by_cases h2 : c = 49
            · exact .inr h2
            · simp [h1, h2] at hb'
        have hok : ¬ (ps ≠ [] ∧ st = []) := by
          rintro ⟨h1, h2⟩
          have hi0 : 0 < (i : Int) := by
            have : i ≠ 0 := fun z' => h1 (hip.mp z')
            omega
          rw [decide_eq_true hi0, decide_eq_true h2] at hb'
          simp at hb'
        clear hb hb'
        have e05 := e4.trans e5
        have hpp5 := hpp.ex e5
        have hpd5 := hpd.ex e5
        refine s_if (et_test (ev_op (ev_op (ev_var rfl) (ev_var rfl) (rv_ixS (by omega) hat)) ev_c (rv_eq rfl))) (fun hb H6 e6 => ?_) (fun hb H6 e6 => ?_)
        · have hc1 : c = 49 := by
            have hb' : decide (V.str ⟨#[c]⟩ = V.str (Str.ofString "1")) = true := hb
            rw [sign_1] at hb'
            exact of_decide_eq_true hb'
          subst hc1
          rw [read_one _ _ _ hok] at hre
          have hpp6 := hpp5.ex e6
          have hpd6 := hpd5.ex e6
          refine q_asg ev_c fun H7 e7 => ?_
          have hpp7 := hpp6.ex e7
          have hpd7 := hpd6.ex e7
          refine q_ifAsg (v := oV st.head?) (et_test (ev_opL (ev_var rfl) (el_lst ea_nil (by decide)) (fun _ _ hp e1 => rv_neNil (ex_l e1 hpd7.sq) (sq_of hp)))) (fun hb2 => ?_) (fun hb2 => ?_) fun H8 e8 => ?_
          · cases st with
            | nil => cases hb2
            | cons a st => exact (ev_op (ev_var rfl) (ev_un ev_c ru_neg) (rv_ixL hpd7.sq (stk_last _ _)))
          · cases st with
            | nil => rfl
            | cons a st => cases hb2
          have hpp8 := hpp7.ex e8
          have hpd8 := hpd7.ex e8
          refine q_app hpp8.at_ (ev_var rfl) (ev_var rfl) (by rw [pV_len]; omega) fun H9 e9 => ?_
          have hpd9 := (hpd8.ex e9).off (b := pp) (o := .lst (pV ps ++ [oV st.head?])) npd.symm
          have z1 : Own H (upd H9 pp (.lst (pV ps ++ [oV st.head?]))) pp (pV ps ++ [oV st.head?]) := hpp.put
          refine s_app hpd9.at_ (ev_var rfl) (ev_op (ev_len (ev_var rfl) z1.sq) ev_c rv_I0) (by rw [stk_len]; omega) fun H10 e10 => ?_
          refine ⟨ps ++ [st.head?], (ps.length : Int) :: st, some (.int (i : Int)), some (oV st.head?), hre, ⟨fun z' => by omega, fun z' => by simp at z'⟩, fun z' => by simp at z', by rw [List.length_append]; exact Nat.succ_le_succ hpl, Nat.succ_le_succ hsl, ?_, ?_, ?_, rfl⟩
          · exact ((((((e05.trans e6).trans e7).trans e8).trans e9).mut hpp.nw).trans e10).mut hpd.nw
          · rw [pV_app']
            exact (z1.ex e10).off npd
          · rw [stk_cons]
            have el : (((pV ps ++ [oV st.head?]).length : Nat) : Int) - 1 = (ps.length : Int) := by
              rw [List.length_append, pV_len, List.length_singleton]
              omega
            rw [el]
            exact hpd.put
        · have hc1 : c = 48 := by
            have hb' : decide (V.str ⟨#[c]⟩ = V.str (Str.ofString "1")) = false := hb
            rw [sign_1] at hb'
            have := of_decide_eq_false hb'
            rcases hc01 with h | h
            · exact h
            · exact absurd h this
          subst hc1
          have hpp6 := hpp5.ex e6
          have hpd6 := hpd5.ex e6
          refine s_if (et_test (ev_opL (ev_var rfl) (el_lst ea_nil (by decide)) (fun _ _ hp e1 => rv_eqNil (ex_l e1 hpd6.sq) (sq_of hp)))) (fun hb2 H7 e7 => ?_) (fun hb2 H7 e7 => ?_)
          · have hst : st = [] := of_decide_eq_true hb2
            have qn' := qn (by
              rw [hre]
              exact readGo_no (by decide) (fun z' => z'.2 hst))
            exact s_ret ev_c fun H8 e8 => qn' H8 (((e05.trans e6).trans e7).trans e8)
          · have hst : st ≠ [] := of_decide_eq_false hb2
            cases st with
            | nil => exact absurd rfl hst
            | cons a st =>
              rw [readGo_0 hok (List.cons_ne_nil _ _)] at hre
              have hpd7 := hpd6.ex e7
              refine s_pop hpd7.at_ (ev_var rfl) (stk_top _ _) fun H8 e8 => ?_
              rw [stk_pop]
              have hpsne : ps ≠ [] := fun z' => by cases hps z'
              refine ⟨ps, st, some (.int (i : Int)), y4, hre, ⟨fun z' => by omega, fun z' => absurd z' hpsne⟩, fun z' => absurd z' hpsne, Nat.le_succ_of_le hpl, Nat.le_succ_of_le (Nat.le_of_succ_le hsl), ?_, ((hpp6.ex e7).ex e8).off npd, hpd.put, rfl⟩
              exact ((((e05.trans e6).trans e7).trans e8)).mut hpd.nw
      · rintro σ' H4 ⟨ps, st, y3, y4, hre, hip, hps, hpl, hsl, e4, hpp, hpd, rfl⟩
        rw [List.drop_eq_nil_of_le (by omega)] at hre
        refine q_when (et_test (ev_opL (ev_var rfl) (el_lst ea_nil (by decide)) (fun _ _ hp e1 => rv_neNil (ex_l e1 hpd.sq) (sq_of hp)))) (fun hb H5 e5 => ?_) (fun hb H5 e5 => ?_)
        · have hst : st ≠ [] := by
            intro z'
            rw [z'] at hb
            cases hb
          have qn' := qn (by
            rw [hre]
            show (if st = [] then some ps else none) = none
            rw [if_neg hst])
          exact s_ret ev_c fun H6 e6 => qn' H6 ((e4.trans e5).trans e6)
        · have hst : st = [] := by
            cases st with
            | nil => rfl
            | cons a b => cases hb
          have qs' := qs ps (by
            rw [hre, hst]
            rfl)
          refine s_ret (ev_var rfl) fun H6 e6 => ?_
          exact qs' pp H6 hpp.nw ((e4.trans e5).trans e6) (e6 _ _ (e5 _ _ hpp.at_))
    · refine q_when (b := true) (et_is (et_or (et_not (et_B (ev_isi (ev_var rfl) ev_c (.ty _) ht1 ht2))) (b := true) (fun hb => nomatch hb)) rfl) (fun hb H1 e1 => ?_) (fun hb => nomatch hb)
      exact s_ret ev_c fun H2 e2 => qn rfl H2 (e1.trans e2)

theorem sc_law_told : FnScope ["_law_thing_here", "_law_by_any", "e"] ["_law_thing_here", "_law_by_any"] (defScope s_law_told) := ⟨rfl, rfl, rfl, by decide +kernel, rfl, by decide +kernel, by decide +kernel⟩
theorem ok_law_told (T : Txt K mg A) : FnOk P w K mg base CX0 4 A.f_law_told A.d_law_told ["_law_thing_here", "_law_by_any"] (spTold K) := by
  refine T.F_law_told.ok sc_law_told (fun vs H Q E h => ?_) (fun cdv A' outer s H vs Q E hr h => ?_)
  · obtain ⟨x, b, r, rfl, _⟩ := h
    rfl
  · obtain ⟨x, b, r, rfl, hT, qs, qn⟩ := h
    refine ⟨_, (pss_cons (ps_if (pt_val (pv 1)) (pss_one (ps_try_as (i := 2) (c := .ref A.c_KnotError) (Wout := fun _ _ _ _ => False) rfl rfl sc_law_told.nd rfl rfl ⟨rfl, by decide, Or.inl T.g_KnotError⟩ takes0 (fun W pn xe tk _ => (pss_one (ps_ret (pe_callS (ok_plain T) (hr.mono (by decide)) (by rfl) T.g_plain T.F_plain.kp T.s_plain (fun σ => passAt tk σ) (pa_cons (pv 0) pa_nil))))) (fun a oe cls d pn hz hf => (pss_one (ps_ret (pe_tup (pa_cons pe_str (pa_cons (pe_and (pe_callB (call_isC T.ec_NoTree hz hf) (by rfl) T.b_isinstance (by decide +kernel) (pa_cons (pv 2) (pa_cons (pe_glob (v := .ref A.c_NoTree) (by rfl) T.g_NoTree rfl) pa_nil))) (pe_one (pe_callB (call_isC T.ec_NoTree hz hf) (by rfl) T.b_isinstance (by decide +kernel) (pa_cons (pv 2) (pa_cons (pe_bltn (v := .ty "ValueError") (by rfl) T.b_ValueError (by decide +kernel) rfl) pa_nil))))) pa_nil)))))))) pss_nil) (pss_one (ps_try_only (c := .ref A.c_NoTree) (Wout := fun _ _ _ _ => False) rfl rfl ⟨rfl, by decide, Or.inl T.g_NoTree⟩ takes0 (fun W pn xe tk _ => (pss_one (ps_ret (pe_callS (ok_plain T) (hr.mono (by decide)) (by rfl) T.g_plain T.F_plain.kp T.s_plain (fun σ => passAt tk σ) (pa_cons (pv 0) pa_nil))))) (fun a oe cls d pn hz hf => (pss_one (ps_ret (pe_tup (pa_cons pe_str (pa_cons pe_bl pa_nil))))))))), ?_⟩
    refine q_when (et_B (ev_var rfl)) (fun hb H1 e1 => ?_) (fun hb H1 e1 => ?_)
    · refine s_retS (ea_cons (ev_var rfl) ea_nil) fun H2 e2 => ⟨x, r, rfl, hT.ex (e1.trans e2), fun hr0 H3 e3 => ?_, fun ps hps p H3 np e3 h3 => ?_⟩
      · refine ⟨true, PySem.W.exm_ref T.e_KnotError T.h_KnotError T.t_KnotError T.u_NoTree_KnotError, fun _ a na => ?_, fun z => nomatch z⟩
        refine s_retU (eu_tup (ea_cons ev_c (ea_cons (ev_andV (ev_isC (ev_var rfl) ev_c (fun _ z => z) (kit_ref T.h_NoTree T.t_NoTree T.u_NoTree_NoTree (fun _ => rfl))) (fun hb => ev_isC (ev_var rfl) ev_c (fun _ z => z) (kit_tyD T.u_NoTree_ValueError (by decide +kernel)))) ea_nil)) (by simp)) fun p H4 np e4 h4 => ?_
        exact qn hr0 p H4 (fresh_back ((e1.trans e2).trans e3) np) (((e1.trans e2).trans e3).trans e4) h4
      · exact qs ps hps p H3 (fresh_back (e1.trans e2) np) ((e1.trans e2).trans e3) h3
    · refine s_retS (ea_cons (ev_var rfl) ea_nil) fun H2 e2 => ⟨x, r, rfl, hT.ex (e1.trans e2), fun hr0 H3 e3 => ?_, fun ps hps p H3 np e3 h3 => ?_⟩
      · refine ⟨true, PySem.W.exm_ref T.e_NoTree T.h_NoTree T.t_NoTree T.u_NoTree_NoTree, fun _ a na => ?_, fun z => nomatch z⟩
        refine s_retU (eu_tup (ea_cons ev_c (ea_cons ev_c ea_nil)) (by simp)) fun p H4 np e4 h4 => ?_
        exact qn hr0 p H4 (fresh_back ((e1.trans e2).trans e3) np) (((e1.trans e2).trans e3).trans e4) h4
      · exact qs ps hps p H3 (fresh_back (e1.trans e2) np) ((e1.trans e2).trans e3) h3

theorem sc_law : FnScope ["_law_script", "_law_thing_here", "_law_due", "_law_found"] ["_law_script"] (defScope s_law) := ⟨rfl, rfl, rfl, by decide +kernel, rfl, by decide +kernel, by decide +kernel⟩
theorem ok_law (T : Txt K mg A) : FnOk P w K mg base CX0 5 A.f_law A.d_law ["_law_script"] (spLaw K) := by
  refine T.F_law.ok sc_law (fun vs H Q E h => ?_) (fun cdv A' outer s H vs Q E hr h => ?_)
  · obtain ⟨a, ns, rfl, _⟩ := h
    rfl
  · obtain ⟨a, ns, rfl, hS, hlen, q⟩ := h
    refine ⟨_, (pss_cons (ps_set (i := 1) sc_law.nd rfl (Or.inl rfl) (pe_call (ok_law_thing T) (hr.mono (by decide)) (by rfl) T.g_law_thing T.F_law_thing.kp T.s_law_thing .nil pass0 (pa_cons (pe_call (ok_law_bits T) (hr.mono (by decide)) (by rfl) T.g_law_bits T.F_law_bits.kp T.s_law_bits .nil pass0 (pa_cons (pe_call (ok_law_parents T) (hr.mono (by decide)) (by rfl) T.g_law_parents T.F_law_parents.kp T.s_law_parents .nil pass0 (pa_cons (pv 0) pa_nil)) pa_nil)) (pa_cons (pv 0) pa_nil)))) (pss_cons (ps_set (i := 2) sc_law.nd rfl (Or.inl rfl) (pe_call (ok_law_plain T) (hr.mono (by decide)) (by rfl) T.g_law_plain T.F_law_plain.kp T.s_law_plain .nil pass0 (pa_cons (pv 1) pa_nil))) (pss_cut (ps_if (pt_cmpR op_isN (pv 2) pe_non (nomark _)) (pss_one (ps_set (i := 2) sc_law.nd rfl (Or.inl rfl) (pe_tup (pa_cons pe_str (pa_cons pe_bl pa_nil))))) pss_nil) (pss_cons (ps_set (i := 3) sc_law.nd rfl (Or.inl rfl) (pe_call (ok_law_told T) (hr.mono (by decide)) (by rfl) T.g_law_told T.F_law_told.kp T.s_law_told .nil pass0 (pa_cons (pv 1) (pa_cons (pe_cmpR op_eq (pe_op op_mod (pe_call (ok_law_cell_at T) (hr.mono (by decide)) (by rfl) T.g_law_cell_at T.F_law_cell_at.kp T.s_law_cell_at .nil pass0 (pa_cons (pv 0) (pa_cons pe_int pa_nil))) pe_int) pe_int (nomark _)) pa_nil)))) (pss_one (ps_ret (pe_and (pe_cmpR (op_eqD hr.units) (pv 3) (pv 2) (nomark _)) (pe_one (pe_cmpR (op_eqD hr.units) (pe_call (ok_law_told T) (hr.mono (by decide)) (by rfl) T.g_law_told T.F_law_told.kp T.s_law_told .nil pass0 (pa_cons (pv 1) (pa_cons pe_bl pa_nil))) (pv 2) (nomark _)))))))))), ?_⟩
    -- thing = _law_thing(_law_bits(_law_parents(script)), script)
    refine ⟨.ref a, rfl, a, ns, rfl, hS, fun P hg hl p H2 np e2 hp2 => ⟨p, P, rfl, sq_of hp2, hg, by omega, fun H3 e3 => ⟨.ref a, rfl, txt (full P), a, ns, rfl, ex_l (e2.trans e3) hS, by rw [txt_len, full_len]; omega, by rw [txt_len, full_len]; omega, fun x r H4 e4 hT => ?_⟩⟩⟩
    have e04 := (e2.trans e3).trans e4
    have hS4 := ex_l e04 hS
    refine q_asgC (ea_cons (ev_var rfl) ea_nil) fun H5 e5 => ⟨x, r, rfl, hT.ex e5, fun hr0 H6 e6 => ?_, fun ps hps pd H6 nd' e6 hd6 => ?_⟩
    all_goals
      refine q_cut (M := fun σ H' => ∃ (due : V) (dd : PyData), Ex H4 H' ∧ Tld K H' r due dd ∧ σ = [some (.ref a), some x, some due, none]) ?_ ?_
    · refine s_when (b := true) (et_is (et_test (ev_op (ev_var rfl) ev_c rv_isN)) rfl) (fun hb H7 e7 => ?_) (fun hb => nomatch hb)
      refine s_asgU (eu_tup (ea_cons ev_c (ea_cons ev_c ea_nil)) (by simp)) fun pt H8 nt e8 h8 => ?_
      exact ⟨.ref pt, refD, (((e5.trans e6).trans e7).trans e8), (by rw [hr0]; exact tld_none h8), rfl⟩
    · rintro σ H7 ⟨due, dd, e7, hd, rfl⟩
      have hS7 := ex_l (e04.trans e7) hS
      refine q_asgC (ea_cons (ev_var rfl) (ea_cons (ev_op (ev_op (ev_call (ea_cons (ev_var rfl) (ea_cons ev_c ea_nil)) (sv_cell 30 rfl hS7)) ev_c (rv_I (by decide))) ev_c (rv_eq rfl)) ea_nil)) fun H8 e8 => sp_told (hT.ex (e7.trans e8)) fun v d H9 e9 ht => ?_
      have hd9 := hd.ex (e8.trans e9)
      refine (ev_op (ev_var rfl) (ev_var rfl) (rv_eqD ht.1 hd9.1 ht.2.1 hd9.2.1)) H9 (Ex.refl H9) _ fun H10 e10 => ⟨true, by rw [ht.eq hd9], iteT ?_⟩
      refine e_opC (ea_cons (ev_var rfl) (ea_cons ev_c ea_nil)) fun H10' e10' => ?_
      refine sp_told (hT.ex ((((e7.trans e8).trans e9).trans e10).trans e10')) fun v2 d2 H11 e11 ht2 => ?_
      have hd11 := hd9.ex ((e10.trans e10').trans e11)
      refine ⟨due, rfl, d2, dd, ht2.1, hd11.1, ht2.2.1, hd11.2.1, ?_⟩
      rw [ht2.eq hd11]
      exact q H11
    · refine s_when (b := false) (et_is (et_test (ev_op (ev_var rfl) ev_c rv_isN)) rfl) (fun hb => nomatch hb) (fun hb H7 e7 => ?_)
      exact ⟨.ref pd, _, ((e5.trans e6).trans e7), (by rw [hps]; exact tld_some (e7 _ _ hd6)), rfl⟩
    · rintro σ H7 ⟨due, dd, e7, hd, rfl⟩
      have hS7 := ex_l (e04.trans e7) hS
      refine q_asgC (ea_cons (ev_var rfl) (ea_cons (ev_op (ev_op (ev_call (ea_cons (ev_var rfl) (ea_cons ev_c ea_nil)) (sv_cell 30 rfl hS7)) ev_c (rv_I (by decide))) ev_c (rv_eq rfl)) ea_nil)) fun H8 e8 => sp_told (hT.ex (e7.trans e8)) fun v d H9 e9 ht => ?_
      have hd9 := hd.ex (e8.trans e9)
      refine (ev_op (ev_var rfl) (ev_var rfl) (rv_eqD ht.1 hd9.1 ht.2.1 hd9.2.1)) H9 (Ex.refl H9) _ fun H10 e10 => ⟨true, by rw [ht.eq hd9], iteT ?_⟩
      refine e_opC (ea_cons (ev_var rfl) (ea_cons ev_c ea_nil)) fun H10' e10' => ?_
      refine sp_told (hT.ex ((((e7.trans e8).trans e9).trans e10).trans e10')) fun v2 d2 H11 e11 ht2 => ?_
      have hd11 := hd9.ex ((e10.trans e10').trans e11)
      refine ⟨due, rfl, d2, dd, ht2.1, hd11.1, ht2.2.1, hd11.2.1, ?_⟩
      rw [ht2.eq hd11]
      exact q H11

end
theorem all_mk {l : PySem.W.OpenLaw} {w : World} {K : PySem.W.Frag} {h : Heap} {mg : Str → Option Value} {fa : Addr} {f_plain : Addr} {od_plain an_plain : Option Addr} {sl_plain : Array (Option Value)} {oc_plain kV_plain dc_plain pm_plain cd_plain ct_plain : Value} {f_parents_of : Addr} {od_parents_of an_parents_of : Option Addr} {sl_parents_of : Array (Option Value)} {oc_parents_of kV_parents_of dc_parents_of pm_parents_of cd_parents_of ct_parents_of : Value} {f_law_cell_at : Addr} {od_law_cell_at an_law_cell_at : Option Addr} {sl_law_cell_at : Array (Option Value)} {oc_law_cell_at kV_law_cell_at dc_law_cell_at pm_law_cell_at cd_law_cell_at ct_law_cell_at : Value} {f_law_parents : Addr} {od_law_parents an_law_parents : Option Addr} {sl_law_parents : Array (Option Value)} {oc_law_parents kV_law_parents dc_law_parents pm_law_parents cd_law_parents ct_law_parents : Value} {f_law_bits : Addr} {od_law_bits an_law_bits : Option Addr} {sl_law_bits : Array (Option Value)} {oc_law_bits kV_law_bits dc_law_bits pm_law_bits cd_law_bits ct_law_bits : Value} {f_law_changed : Addr} {od_law_changed an_law_changed : Option Addr} {sl_law_changed : Array (Option Value)} {oc_law_changed kV_law_changed dc_law_changed pm_law_changed cd_law_changed ct_law_changed : Value} {f_law_thing : Addr} {od_law_thing an_law_thing : Option Addr} {sl_law_thing : Array (Option Value)} {oc_law_thing kV_law_thing dc_law_thing pm_law_thing cd_law_thing ct_law_thing : Value} {f_law_plain : Addr} {od_law_plain an_law_plain : Option Addr} {sl_law_plain : Array (Option Value)} {oc_law_plain kV_law_plain dc_law_plain pm_law_plain cd_law_plain ct_law_plain : Value} {f_law_told : Addr} {od_law_told an_law_told : Option Addr} {sl_law_told : Array (Option Value)} {oc_law_told kV_law_told dc_law_told pm_law_told cd_law_told ct_law_told : Value} {f_law : Addr} {od_law an_law : Option Addr} {sl_law : Array (Option Value)} {oc_law kV_law dc_law pm_law cd_law ct_law : Value} {tk_MOST_KNOTS : Tok} {C_KnotError : Addr} {C_NoTree : Addr}
    (X : K.In h) (G : h.Ns mainGlobals mg) (hfa : mg "law" = some (.ref fa))
    (a_plain : PySem.W.nsIn K mainGlobals "plain" = some (some (.ref f_plain))) (l_plain : K.lookup f_plain = some ⟨oc_plain, od_plain, .func (PySem.W.fnOf "plain" "plain" (defArgs s_plain) (defBody s_plain) (defScope s_plain) .none kV_plain dc_plain pm_plain an_plain cd_plain ct_plain), sl_plain⟩) (c_plain : PySem.W.codeIn K cd_plain "plain" = true) (k_plain : PySem.W.keepIn K (.ref f_plain) = true)
    (a_parents_of : PySem.W.nsIn K mainGlobals "_parents_of" = some (some (.ref f_parents_of))) (l_parents_of : K.lookup f_parents_of = some ⟨oc_parents_of, od_parents_of, .func (PySem.W.fnOf "_parents_of" "_parents_of" (defArgs s_parents_of) (defBody s_parents_of) (defScope s_parents_of) .none kV_parents_of dc_parents_of pm_parents_of an_parents_of cd_parents_of ct_parents_of), sl_parents_of⟩) (c_parents_of : PySem.W.codeIn K cd_parents_of "_parents_of" = true) (k_parents_of : PySem.W.keepIn K (.ref f_parents_of) = true)
    (a_law_cell_at : PySem.W.nsIn K mainGlobals "_law_cell_at" = some (some (.ref f_law_cell_at))) (l_law_cell_at : K.lookup f_law_cell_at = some ⟨oc_law_cell_at, od_law_cell_at, .func (PySem.W.fnOf "_law_cell_at" "_law_cell_at" (defArgs s_law_cell_at) (defBody s_law_cell_at) (defScope s_law_cell_at) .none kV_law_cell_at dc_law_cell_at pm_law_cell_at an_law_cell_at cd_law_cell_at ct_law_cell_at), sl_law_cell_at⟩) (c_law_cell_at : PySem.W.codeIn K cd_law_cell_at "_law_cell_at" = true) (k_law_cell_at : PySem.W.keepIn K (.ref f_law_cell_at) = true)
    (a_law_parents : PySem.W.nsIn K mainGlobals "_law_parents" = some (some (.ref f_law_parents))) (l_law_parents : K.lookup f_law_parents = some ⟨oc_law_parents, od_law_parents, .func (PySem.W.fnOf "_law_parents" "_law_parents" (defArgs s_law_parents) (defBody s_law_parents) (defScope s_law_parents) .none kV_law_parents dc_law_parents pm_law_parents an_law_parents cd_law_parents ct_law_parents), sl_law_parents⟩) (c_law_parents : PySem.W.codeIn K cd_law_parents "_law_parents" = true) (k_law_parents : PySem.W.keepIn K (.ref f_law_parents) = true)
    (a_law_bits : PySem.W.nsIn K mainGlobals "_law_bits" = some (some (.ref f_law_bits))) (l_law_bits : K.lookup f_law_bits = some ⟨oc_law_bits, od_law_bits, .func (PySem.W.fnOf "_law_bits" "_law_bits" (defArgs s_law_bits) (defBody s_law_bits) (defScope s_law_bits) .none kV_law_bits dc_law_bits pm_law_bits an_law_bits cd_law_bits ct_law_bits), sl_law_bits⟩) (c_law_bits : PySem.W.codeIn K cd_law_bits "_law_bits" = true) (k_law_bits : PySem.W.keepIn K (.ref f_law_bits) = true)
    (a_law_changed : PySem.W.nsIn K mainGlobals "_law_changed" = some (some (.ref f_law_changed))) (l_law_changed : K.lookup f_law_changed = some ⟨oc_law_changed, od_law_changed, .func (PySem.W.fnOf "_law_changed" "_law_changed" (defArgs s_law_changed) (defBody s_law_changed) (defScope s_law_changed) .none kV_law_changed dc_law_changed pm_law_changed an_law_changed cd_law_changed ct_law_changed), sl_law_changed⟩) (c_law_changed : PySem.W.codeIn K cd_law_changed "_law_changed" = true) (k_law_changed : PySem.W.keepIn K (.ref f_law_changed) = true)
    (a_law_thing : PySem.W.nsIn K mainGlobals "_law_thing" = some (some (.ref f_law_thing))) (l_law_thing : K.lookup f_law_thing = some ⟨oc_law_thing, od_law_thing, .func (PySem.W.fnOf "_law_thing" "_law_thing" (defArgs s_law_thing) (defBody s_law_thing) (defScope s_law_thing) .none kV_law_thing dc_law_thing pm_law_thing an_law_thing cd_law_thing ct_law_thing), sl_law_thing⟩) (c_law_thing : PySem.W.codeIn K cd_law_thing "_law_thing" = true) (k_law_thing : PySem.W.keepIn K (.ref f_law_thing) = true)
    (a_law_plain : PySem.W.nsIn K mainGlobals "_law_plain" = some (some (.ref f_law_plain))) (l_law_plain : K.lookup f_law_plain = some ⟨oc_law_plain, od_law_plain, .func (PySem.W.fnOf "_law_plain" "_law_plain" (defArgs s_law_plain) (defBody s_law_plain) (defScope s_law_plain) .none kV_law_plain dc_law_plain pm_law_plain an_law_plain cd_law_plain ct_law_plain), sl_law_plain⟩) (c_law_plain : PySem.W.codeIn K cd_law_plain "_law_plain" = true) (k_law_plain : PySem.W.keepIn K (.ref f_law_plain) = true)
    (a_law_told : PySem.W.nsIn K mainGlobals "_law_told" = some (some (.ref f_law_told))) (l_law_told : K.lookup f_law_told = some ⟨oc_law_told, od_law_told, .func (PySem.W.fnOf "_law_told" "_law_told" (defArgs s_law_told) (defBody s_law_told) (defScope s_law_told) .none kV_law_told dc_law_told pm_law_told an_law_told cd_law_told ct_law_told), sl_law_told⟩) (c_law_told : PySem.W.codeIn K cd_law_told "_law_told" = true) (k_law_told : PySem.W.keepIn K (.ref f_law_told) = true)
    (a_law : PySem.W.nsIn K mainGlobals "law" = some (some (.ref f_law))) (l_law : K.lookup f_law = some ⟨oc_law, od_law, .func (PySem.W.fnOf "law" "law" (defArgs s_law) (defBody s_law) (defScope s_law) .none kV_law dc_law pm_law an_law cd_law ct_law), sl_law⟩) (c_law : PySem.W.codeIn K cd_law "law" = true) (k_law : PySem.W.keepIn K (.ref f_law) = true)
    (b_ValueError : PySem.W.nsIn K mainGlobals "ValueError" = some none)
    (b_isinstance : PySem.W.nsIn K mainGlobals "isinstance" = some none)
    (b_len : PySem.W.nsIn K mainGlobals "len" = some none)
    (b_min : PySem.W.nsIn K mainGlobals "min" = some none)
    (b_range : PySem.W.nsIn K mainGlobals "range" = some none)
    (b_str : PySem.W.nsIn K mainGlobals "str" = some none)
    (n_MOST_KNOTS : PySem.W.nsIn K mainGlobals "MOST_KNOTS" = some (some (.int 2000 tk_MOST_KNOTS)))
    (ac_KnotError : PySem.W.nsIn K mainGlobals "KnotError" = some (some (.ref C_KnotError)))
    (xc_KnotError : PySem.W.excIn K C_KnotError [.type "ValueError", .type "Exception", .type "BaseException", .type "object"] "ValueError.__new__" = true)
    (kc_KnotError : PySem.W.keepIn K (.ref C_KnotError) = true) (ec_KnotError : PySem.W.subIn K (.ref C_KnotError) (.type "BaseException") = some true) (tc_KnotError : PySem.W.typeIn K (.ref C_KnotError) = some (.type "type"))
    (ac_NoTree : PySem.W.nsIn K mainGlobals "NoTree" = some (some (.ref C_NoTree)))
    (xc_NoTree : PySem.W.excIn K C_NoTree [.type "ValueError", .type "Exception", .type "BaseException", .type "object"] "ValueError.__new__" = true)
    (kc_NoTree : PySem.W.keepIn K (.ref C_NoTree) = true) (ec_NoTree : PySem.W.subIn K (.ref C_NoTree) (.type "BaseException") = some true) (tc_NoTree : PySem.W.typeIn K (.ref C_NoTree) = some (.type "type"))
    (xh_KnotError : PySem.W.hasDictIn K C_KnotError = true)
    (xu_NoTree_KnotError : PySem.W.subIn K (.ref C_NoTree) (.ref C_KnotError) = some true)
    (xh_NoTree : PySem.W.hasDictIn K C_NoTree = true)
    (xu_NoTree_NoTree : PySem.W.subIn K (.ref C_NoTree) (.ref C_NoTree) = some true)
    (xu_NoTree_ValueError : PySem.W.subIn K (.ref C_NoTree) (.type "ValueError") = some true)
    (xe_hg : PySem.W.findIn K (.ref C_NoTree) "__getattribute__" = some (some (.builtin "BaseException.__getattribute__")))
    (xe_hk : PySem.W.findIn K (.ref C_NoTree) "__getattr__" = some none)
    (xe_ha : PySem.W.findIn K (.ref C_NoTree) "__class__" = some (some (.builtin "object.__class__")))
    (xe_hn : PySem.W.specialIn K (.builtin "object.__class__") "__get__" = some (some (.builtin "getset_descriptor.__get__")))
    (xe_ht : PySem.W.takesIn K (.builtin "object.__class__") = some true)
    (xe_hm : PySem.W.mroIn K C_NoTree (.type "object") = some true)
    : ∃ fd : FuncData, (∀ (s : Shared) (v : Value), BindsTo s fd ⟨[v], []⟩ [("_law_script", v)]) ∧ ∀ base : Heap, K.In base → base.Ns mainGlobals mg → FnOk l.prog w K mg base CX0 5 fa fd ["_law_script"] (spLaw K) := by
  have e := hfa.symm.trans (PySem.W.mg_of X G a_law)
  cases e
  have F_plain := fun_mk (st := s_plain) l_plain c_plain k_plain
  have bb_plain := F_plain.binds (ps := ["bits"]) fun _ _ _ _ _ _ us hl => match us, hl with | [_], _ => rfl
  have F_parents_of := fun_mk (st := s_parents_of) l_parents_of c_parents_of k_parents_of
  have bb_parents_of := F_parents_of.binds (ps := ["bits"]) fun _ _ _ _ _ _ us hl => match us, hl with | [_], _ => rfl
  have F_law_cell_at := fun_mk (st := s_law_cell_at) l_law_cell_at c_law_cell_at k_law_cell_at
  have bb_law_cell_at := F_law_cell_at.binds (ps := ["_law_script", "_law_k"]) fun _ _ _ _ _ _ us hl => match us, hl with | [_, _], _ => rfl
  have F_law_parents := fun_mk (st := s_law_parents) l_law_parents c_law_parents k_law_parents
  have bb_law_parents := F_law_parents.binds (ps := ["_law_script"]) fun _ _ _ _ _ _ us hl => match us, hl with | [_], _ => rfl
  have F_law_bits := fun_mk (st := s_law_bits) l_law_bits c_law_bits k_law_bits
  have bb_law_bits := F_law_bits.binds (ps := ["_law_parents_here"]) fun _ _ _ _ _ _ us hl => match us, hl with | [_], _ => rfl
  have F_law_changed := fun_mk (st := s_law_changed) l_law_changed c_law_changed k_law_changed
  have bb_law_changed := F_law_changed.binds (ps := ["_law_bits_here", "_law_cell"]) fun _ _ _ _ _ _ us hl => match us, hl with | [_, _], _ => rfl
  have F_law_thing := fun_mk (st := s_law_thing) l_law_thing c_law_thing k_law_thing
  have bb_law_thing := F_law_thing.binds (ps := ["_law_bits_here", "_law_script"]) fun _ _ _ _ _ _ us hl => match us, hl with | [_, _], _ => rfl
  have F_law_plain := fun_mk (st := s_law_plain) l_law_plain c_law_plain k_law_plain
  have bb_law_plain := F_law_plain.binds (ps := ["_law_thing_here"]) fun _ _ _ _ _ _ us hl => match us, hl with | [_], _ => rfl
  have F_law_told := fun_mk (st := s_law_told) l_law_told c_law_told k_law_told
  have bb_law_told := F_law_told.binds (ps := ["_law_thing_here", "_law_by_any"]) fun _ _ _ _ _ _ us hl => match us, hl with | [_, _], _ => rfl
  have F_law := fun_mk (st := s_law) l_law c_law k_law
  have bb_law := F_law.binds (ps := ["_law_script"]) fun _ _ _ _ _ _ us hl => match us, hl with | [_], _ => rfl
  let A : Adr := { f_plain := f_plain, d_plain := PySem.W.fnOf "plain" "plain" (defArgs s_plain) (defBody s_plain) (defScope s_plain) .none kV_plain dc_plain pm_plain an_plain cd_plain ct_plain, f_parents_of := f_parents_of, d_parents_of := PySem.W.fnOf "_parents_of" "_parents_of" (defArgs s_parents_of) (defBody s_parents_of) (defScope s_parents_of) .none kV_parents_of dc_parents_of pm_parents_of an_parents_of cd_parents_of ct_parents_of, f_law_cell_at := f_law_cell_at, d_law_cell_at := PySem.W.fnOf "_law_cell_at" "_law_cell_at" (defArgs s_law_cell_at) (defBody s_law_cell_at) (defScope s_law_cell_at) .none kV_law_cell_at dc_law_cell_at pm_law_cell_at an_law_cell_at cd_law_cell_at ct_law_cell_at, f_law_parents := f_law_parents, d_law_parents := PySem.W.fnOf "_law_parents" "_law_parents" (defArgs s_law_parents) (defBody s_law_parents) (defScope s_law_parents) .none kV_law_parents dc_law_parents pm_law_parents an_law_parents cd_law_parents ct_law_parents, f_law_bits := f_law_bits, d_law_bits := PySem.W.fnOf "_law_bits" "_law_bits" (defArgs s_law_bits) (defBody s_law_bits) (defScope s_law_bits) .none kV_law_bits dc_law_bits pm_law_bits an_law_bits cd_law_bits ct_law_bits, f_law_changed := f_law_changed, d_law_changed := PySem.W.fnOf "_law_changed" "_law_changed" (defArgs s_law_changed) (defBody s_law_changed) (defScope s_law_changed) .none kV_law_changed dc_law_changed pm_law_changed an_law_changed cd_law_changed ct_law_changed, f_law_thing := f_law_thing, d_law_thing := PySem.W.fnOf "_law_thing" "_law_thing" (defArgs s_law_thing) (defBody s_law_thing) (defScope s_law_thing) .none kV_law_thing dc_law_thing pm_law_thing an_law_thing cd_law_thing ct_law_thing, f_law_plain := f_law_plain, d_law_plain := PySem.W.fnOf "_law_plain" "_law_plain" (defArgs s_law_plain) (defBody s_law_plain) (defScope s_law_plain) .none kV_law_plain dc_law_plain pm_law_plain an_law_plain cd_law_plain ct_law_plain, f_law_told := f_law_told, d_law_told := PySem.W.fnOf "_law_told" "_law_told" (defArgs s_law_told) (defBody s_law_told) (defScope s_law_told) .none kV_law_told dc_law_told pm_law_told an_law_told cd_law_told ct_law_told, f_law := fa, d_law := PySem.W.fnOf "law" "law" (defArgs s_law) (defBody s_law) (defScope s_law) .none kV_law dc_law pm_law an_law cd_law ct_law, t_MOST_KNOTS := tk_MOST_KNOTS, c_KnotError := C_KnotError, c_NoTree := C_NoTree }
  have T : Txt K mg A := { F_plain := F_plain, g_plain := PySem.W.mg_of X G a_plain, s_plain := bb_plain, F_parents_of := F_parents_of, g_parents_of := PySem.W.mg_of X G a_parents_of, s_parents_of := bb_parents_of, F_law_cell_at := F_law_cell_at, g_law_cell_at := PySem.W.mg_of X G a_law_cell_at, s_law_cell_at := bb_law_cell_at, F_law_parents := F_law_parents, g_law_parents := PySem.W.mg_of X G a_law_parents, s_law_parents := bb_law_parents, F_law_bits := F_law_bits, g_law_bits := PySem.W.mg_of X G a_law_bits, s_law_bits := bb_law_bits, F_law_changed := F_law_changed, g_law_changed := PySem.W.mg_of X G a_law_changed, s_law_changed := bb_law_changed, F_law_thing := F_law_thing, g_law_thing := PySem.W.mg_of X G a_law_thing, s_law_thing := bb_law_thing, F_law_plain := F_law_plain, g_law_plain := PySem.W.mg_of X G a_law_plain, s_law_plain := bb_law_plain, F_law_told := F_law_told, g_law_told := PySem.W.mg_of X G a_law_told, s_law_told := bb_law_told, F_law := F_law, g_law := PySem.W.mg_of X G a_law, s_law := bb_law, b_ValueError := PySem.W.mg_none_of X G b_ValueError, b_isinstance := PySem.W.mg_none_of X G b_isinstance, b_len := PySem.W.mg_none_of X G b_len, b_min := PySem.W.mg_none_of X G b_min, b_range := PySem.W.mg_none_of X G b_range, b_str := PySem.W.mg_none_of X G b_str, c_MOST_KNOTS := PySem.W.mg_of X G n_MOST_KNOTS, g_KnotError := PySem.W.mg_of X G ac_KnotError, x_KnotError := xc_KnotError, k_KnotError := kc_KnotError, e_KnotError := ec_KnotError, t_KnotError := tc_KnotError, g_NoTree := PySem.W.mg_of X G ac_NoTree, x_NoTree := xc_NoTree, k_NoTree := kc_NoTree, e_NoTree := ec_NoTree, t_NoTree := tc_NoTree, h_KnotError := xh_KnotError, u_NoTree_KnotError := xu_NoTree_KnotError, h_NoTree := xh_NoTree, u_NoTree_NoTree := xu_NoTree_NoTree, u_NoTree_ValueError := xu_NoTree_ValueError, ec_NoTree := ⟨xe_hg, xe_hk, ec_NoTree, xh_NoTree, xe_ha, xe_hn, xe_ht, xe_hm⟩ }
  exact ⟨A.d_law, fun s v => .of_eq rfl, fun base _ _ => ok_law T⟩
end LW
open PySem PySem.W PyProof.Rows
set_option maxRecDepth 100000 in
set_option maxHeartbeats 0 in
theorem PySem.Challenge.cw_knotbits_k03_bits_refused_holds : PySem.Challenge.rw_knotbits_k03_bits_refused.Holds := by
  w_on; o_law; k_head; (case hw => w_witness2)
  k_fill
  refine L2.walk_of (l := PySem.Challenge.rw_knotbits_k03_bits_refused) (n := 63) (k := 5) (x := "_law_script") (CX := fun _ => L2.CX0) (sp := fun w => KB.spLaw _) rfl (by decide) rfl ⟨rfl, by decide, by decide⟩ (fun w h Y => PySem.W.kIn_of Y) ?F (fun _ _ a ns hl _ hS => ⟨a, ns, rfl, hS, hl, fun _ => rfl⟩) (fun _ _ _ _ _ h => h)
  case F =>
    intro w mg fa h KX G hmg
    refine' LW.all_mk KX G hmg ?a_plain ?l_plain ?c_plain ?k_plain ?a_parents_of ?l_parents_of ?c_parents_of ?k_parents_of ?a_law_cell_at ?l_law_cell_at ?c_law_cell_at ?k_law_cell_at ?a_law_parents ?l_law_parents ?c_law_parents ?k_law_parents ?a_law_bits ?l_law_bits ?c_law_bits ?k_law_bits ?a_law_changed ?l_law_changed ?c_law_changed ?k_law_changed ?a_law_thing ?l_law_thing ?c_law_thing ?k_law_thing ?a_law_plain ?l_law_plain ?c_law_plain ?k_law_plain ?a_law_told ?l_law_told ?c_law_told ?k_law_told ?a_law ?l_law ?c_law ?k_law ?b_ValueError ?b_isinstance ?b_len ?b_min ?b_range ?b_str ?n_MOST_KNOTS ?ac_KnotError ?xc_KnotError ?kc_KnotError ?ec_KnotError ?tc_KnotError ?ac_NoTree ?xc_NoTree ?kc_NoTree ?ec_NoTree ?tc_NoTree ?xh_KnotError ?xu_NoTree_KnotError ?xh_NoTree ?xu_NoTree_NoTree ?xu_NoTree_ValueError ?xe_hg ?xe_hk ?xe_ha ?xe_hn ?xe_ht ?xe_hm
    (case a_plain => k_is)
    (case l_plain => k_is)
    (case c_plain => k_is)
    (case k_plain => k_is)
    (case a_parents_of => k_is)
    (case l_parents_of => k_is)
    (case c_parents_of => k_is)
    (case k_parents_of => k_is)
    (case a_law_cell_at => k_is)
    (case l_law_cell_at => k_is)
    (case c_law_cell_at => k_is)
    (case k_law_cell_at => k_is)
    (case a_law_parents => k_is)
    (case l_law_parents => k_is)
    (case c_law_parents => k_is)
    (case k_law_parents => k_is)
    (case a_law_bits => k_is)
    (case l_law_bits => k_is)
    (case c_law_bits => k_is)
    (case k_law_bits => k_is)
    (case a_law_changed => k_is)
    (case l_law_changed => k_is)
    (case c_law_changed => k_is)
    (case k_law_changed => k_is)
    (case a_law_thing => k_is)
    (case l_law_thing => k_is)
    (case c_law_thing => k_is)
    (case k_law_thing => k_is)
    (case a_law_plain => k_is)
    (case l_law_plain => k_is)
    (case c_law_plain => k_is)
    (case k_law_plain => k_is)
    (case a_law_told => k_is)
    (case l_law_told => k_is)
    (case c_law_told => k_is)
    (case k_law_told => k_is)
    (case a_law => k_is)
    (case l_law => k_is)
    (case c_law => k_is)
    (case k_law => k_is)
    (case b_ValueError => k_is)
    (case b_isinstance => k_is)
    (case b_len => k_is)
    (case b_min => k_is)
    (case b_range => k_is)
    (case b_str => k_is)
    (case n_MOST_KNOTS => k_is)
    (case ac_KnotError => k_is)
    (case xc_KnotError => k_exc)
    (case kc_KnotError => k_is)
    (case ec_KnotError => k_is)
    (case tc_KnotError => k_is)
    (case ac_NoTree => k_is)
    (case xc_NoTree => k_exc)
    (case kc_NoTree => k_is)
    (case ec_NoTree => k_is)
    (case tc_NoTree => k_is)
    (case xh_KnotError => k_is)
    (case xu_NoTree_KnotError => first | rfl | k_is)
    (case xh_NoTree => k_is)
    (case xu_NoTree_NoTree => first | rfl | k_is)
    (case xu_NoTree_ValueError => k_is)
    (case xe_hg => k_is)
    (case xe_hk => k_is)
    (case xe_ha => k_is)
    (case xe_hn => k_is)
    (case xe_ht => k_is)
    (case xe_hm => k_is)
