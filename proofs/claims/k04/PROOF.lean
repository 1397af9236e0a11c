import PyProof.Rows.All
import Wide.All
import OpenK.AllK
import Wide.FinOn
import HandS.ForMost
import HandS.Evl
import HandS.IsInst
import HandS.Codes
import HandS.Style
import HandS.Exc
import HandS.TryOnly
import HandS.ExcOwn
import HandS.WordsExc
import HandS.ExcIs
import HandS.DictComp
import HandS.Conv
import PySem.Challenge.RW_knotbits_k04_blocks_cut
set_option Elab.async false
set_option linter.all false
set_option maxRecDepth 100000
set_option maxHeartbeats 8000000

set_option linter.all false
set_option maxRecDepth 100000
/-! Trees told by parents and by bits: plain Lean. A stack is a list, its top first. -/
namespace KB

/-! ### the walk down: stack, bits, next number -/
structure Stt where
  st : List Int
  bs : List Bool
  k : Int

def adv (s : Stt) (p : Int) : Stt :=
  ⟨s.k :: s.st.dropWhile (fun x => x != p), s.bs ++ List.replicate (s.st.takeWhile (fun x => x != p)).length false ++ [true], s.k + 1⟩
def ini : Stt := ⟨[0], [true], 1⟩
def run (P : List Int) : Stt := P.foldl adv ini
/-- each parent stands on the stack when it is named -/
def Good (P : List Int) : Prop := ∀ i p, P[i]? = some p → p ∈ (run (P.take i)).st
def full (P : List Int) : List Bool := (run P).bs ++ List.replicate (run P).st.length false

theorem run_nil : run [] = ini := rfl
theorem run_app (P : List Int) (p : Int) : run (P ++ [p]) = adv (run P) p := by
  unfold run; rw [List.foldl_append]; rfl
theorem take_more {α : Type} {l : List α} {i : Nat} {x : α} (h : l[i]? = some x) : l.take (i + 1) = l.take i ++ [x] := by
  rw [List.take_add_one, h]; rfl
theorem run_more {P : List Int} {i : Nat} {p : Int} (h : P[i]? = some p) : run (P.take (i + 1)) = adv (run (P.take i)) p := by
  rw [take_more h, run_app]

theorem run_k : ∀ P : List Int, (run P).k = (P.length : Int) + 1 := by
  intro P
  generalize hn : P.length = n
  induction n generalizing P with
  | zero =>
    have e : P = [] := List.eq_nil_of_length_eq_zero hn
    subst e; rfl
  | succ n ih =>
    have h := List.dropLast_concat_getLast (l := P) (by intro z; rw [z] at hn; cases hn)
    rw [← h, run_app]
    have e := ih P.dropLast (by rw [List.length_dropLast, hn]; rfl)
    show (run P.dropLast).k + 1 = _
    rw [e]; omega

/-- induction from behind -/
theorem rev_ind {α : Type} {C : List α → Prop} (h0 : C []) (hs : ∀ P p, C P → C (P ++ [p])) (P : List α) : C P := by
  generalize hn : P.length = n
  induction n generalizing P with
  | zero =>
    have e : P = [] := List.eq_nil_of_length_eq_zero hn
    subst e; exact h0
  | succ n ih =>
    have h := List.dropLast_concat_getLast (l := P) (by intro z; rw [z] at hn; cases hn)
    rw [← h]
    exact hs _ _ (ih P.dropLast (by rw [List.length_dropLast, hn]; rfl))

theorem good_nil : Good [] := fun i p h => by simp at h
theorem Good.left {P : List Int} {p : Int} (h : Good (P ++ [p])) : Good P := fun i q e => by
  have hi : i < P.length := (List.getElem?_eq_some_iff.mp e).1
  have e2 : (P ++ [p])[i]? = some q := by rw [List.getElem?_append_left hi]; exact e
  have z := h i q e2
  rw [List.take_append_of_le_length (Nat.le_of_lt hi)] at z
  exact z
theorem Good.last {P : List Int} {p : Int} (h : Good (P ++ [p])) : p ∈ (run P).st := by
  have z := h P.length p (by simp)
  rw [List.take_left'] at z
  · exact z
  · rfl
theorem Good.app {P : List Int} {p : Int} (h : Good P) (hp : p ∈ (run P).st) : Good (P ++ [p]) := fun i q e => by
  by_cases hi : i < P.length
  · rw [List.getElem?_append_left hi] at e
    rw [List.take_append_of_le_length (Nat.le_of_lt hi)]
    exact h i q e
  · have hl := (List.getElem?_eq_some_iff.mp e).1
    rw [List.length_append, List.length_singleton] at hl
    have ei : i = P.length := by omega
    subst ei
    have e2 : p = q := by simpa using e
    subst e2
    rw [List.take_left' rfl]
    exact hp
theorem Good.take {P : List Int} (h : Good P) (n : Nat) : Good (P.take n) := fun i p e => by
  by_cases hi : i < n
  · rw [List.getElem?_take_of_lt hi] at e
    rw [List.take_take, Nat.min_eq_left (Nat.le_of_lt hi)]
    exact h i p e
  · have hl := (List.getElem?_eq_some_iff.mp e).1
    rw [List.length_take] at hl
    omega

theorem dropWhile_suffix (f : Int → Bool) : ∀ l : List Int, ∃ j, j ≤ l.length ∧ l.dropWhile f = l.drop j
  | [] => ⟨0, Nat.le_refl _, rfl⟩
  | a :: l => by
    rw [List.dropWhile_cons]
    by_cases h : f a = true
    · rw [if_pos h]
      obtain ⟨j, h1, h2⟩ := dropWhile_suffix f l
      exact ⟨j + 1, Nat.succ_le_succ h1, h2⟩
    · rw [if_neg h]
      exact ⟨0, Nat.zero_le _, rfl⟩
theorem mem_dropWhile {f : Int → Bool} {l : List Int} {x : Int} (h : x ∈ l.dropWhile f) : x ∈ l := by
  obtain ⟨j, _, e⟩ := dropWhile_suffix f l
  rw [e] at h
  exact List.mem_of_mem_drop h

/-- the stack falls strictly, from below the next number, to nought -/
structure Fall (s : Stt) : Prop where
  pw : s.st.Pairwise (fun a b => b < a)
  lt : ∀ x ∈ s.st, x < s.k
  ge : ∀ x ∈ s.st, 0 ≤ x
theorem fall_ini : Fall ini := ⟨List.pairwise_singleton _ _, fun x h => by
  have e : x = 0 := by simpa [ini] using h
  subst e; show (0 : Int) < 1; decide, fun x h => by
  have e : x = 0 := by simpa [ini] using h
  subst e; exact Int.le_refl _⟩
theorem Fall.adv {s : Stt} (h : Fall s) (hk : 0 ≤ s.k) (p : Int) : Fall (adv s p) := by
  obtain ⟨j, _, e⟩ := dropWhile_suffix (fun x => x != p) s.st
  refine ⟨?_, ?_, ?_⟩
  · show (s.k :: s.st.dropWhile (fun x => x != p)).Pairwise _
    refine List.pairwise_cons.mpr ⟨fun b hb => h.lt b (mem_dropWhile hb), ?_⟩
    rw [e]
    exact h.pw.drop
  · intro x hx
    have hx' : x ∈ s.k :: s.st.dropWhile (fun x => x != p) := hx
    show x < s.k + 1
    rcases List.mem_cons.mp hx' with r | r
    · omega
    · have := h.lt x (mem_dropWhile r); omega
  · intro x hx
    have hx' : x ∈ s.k :: s.st.dropWhile (fun x => x != p) := hx
    rcases List.mem_cons.mp hx' with r | r
    · omega
    · exact h.ge x (mem_dropWhile r)
theorem fall_run (P : List Int) : Fall (run P) := by
  refine rev_ind (C := fun P => Fall (run P)) ?_ ?_ P
  · exact fall_ini
  · intro P p h
    rw [run_app]
    exact h.adv (by rw [run_k]; omega) p
theorem run_ne (P : List Int) : (run P).st ≠ [] := by
  refine rev_ind (C := fun P => (run P).st ≠ []) ?_ ?_ P
  · exact List.cons_ne_nil _ _
  · intro P p _
    rw [run_app]
    exact List.cons_ne_nil _ _
theorem run_pos (P : List Int) : 0 < (run P).st.length := List.length_pos_iff.mpr (run_ne P)

/-! ### dropWhile at a place -/
theorem takeWhile_place : ∀ (l : List Int) (j : Nat) (p : Int), l.Pairwise (fun a b => b < a) → l[j]? = some p → (l.takeWhile (fun x => x != p)).length = j ∧ l.dropWhile (fun x => x != p) = l.drop j
  | [], j, p, _, h => by simp at h
  | a :: l, 0, p, _, h => by
    have e : a = p := by simpa using h
    subst e
    rw [List.takeWhile_cons, List.dropWhile_cons]
    simp
  | a :: l, j + 1, p, hp, h => by
    have h' : l[j]? = some p := by simpa using h
    have hm : p ∈ l := List.mem_of_getElem? h'
    have hlt : p < a := (List.pairwise_cons.mp hp).1 p hm
    have hne : (a != p) = true := by
      rw [bne_iff_ne]; omega
    obtain ⟨h1, h2⟩ := takeWhile_place l j p (List.pairwise_cons.mp hp).2 h'
    rw [List.takeWhile_cons, List.dropWhile_cons, if_pos hne, if_pos hne]
    exact ⟨by rw [List.length_cons, h1], h2⟩
theorem adv_place {s : Stt} (h : Fall s) {j : Nat} {p : Int} (hj : s.st[j]? = some p) : adv s p = ⟨s.k :: s.st.drop j, s.bs ++ List.replicate j false ++ [true], s.k + 1⟩ := by
  obtain ⟨h1, h2⟩ := takeWhile_place s.st j p h.pw hj
  unfold adv
  rw [h1, h2]
theorem mem_place {l : List Int} {p : Int} (h : p ∈ l) : ∃ j, j < l.length ∧ l[j]? = some p := by
  obtain ⟨j, hj, e⟩ := List.getElem_of_mem h
  exact ⟨j, hj, by rw [List.getElem?_eq_getElem hj, e]⟩
/-- where the parent stands, for a good list -/
theorem good_place {P : List Int} (h : Good P) {i : Nat} {p : Int} (hi : P[i]? = some p) : ∃ j, j < (run (P.take i)).st.length ∧ (run (P.take i)).st[j]? = some p ∧
    run (P.take (i + 1)) = ⟨((i + 1 : Nat) : Int) :: (run (P.take i)).st.drop j, (run (P.take i)).bs ++ List.replicate j false ++ [true], ((i + 1 : Nat) : Int) + 1⟩ := by
  obtain ⟨j, hj, e⟩ := mem_place (h i p hi)
  refine ⟨j, hj, e, ?_⟩
  have hl : (P.take i).length = i := by
    rw [List.length_take, Nat.min_eq_left (Nat.le_of_lt (List.getElem?_eq_some_iff.mp hi).1)]
  rw [run_more hi, adv_place (fall_run _) e, run_k, hl]
  rfl
/-- unlike places hold unlike numbers -/
theorem fall_inj {l : List Int} (h : l.Pairwise (fun a b => b < a)) {i j : Nat} {p q : Int} (hi : l[i]? = some p) (hj : l[j]? = some q) (hij : i < j) : q < p := by
  obtain ⟨h1, e1⟩ := List.getElem?_eq_some_iff.mp hi
  obtain ⟨h2, e2⟩ := List.getElem?_eq_some_iff.mp hj
  have z := (List.pairwise_iff_getElem.mp h) i j h1 h2 hij
  rw [e1, e2] at z
  exact z

/-! ### how many -/
theorem sum_adv (s : Stt) (p : Int) : (adv s p).bs.length + (adv s p).st.length = s.bs.length + s.st.length + 2 := by
  have h : (s.st.takeWhile (fun x => x != p)).length + (s.st.dropWhile (fun x => x != p)).length = s.st.length := by
    rw [← List.length_append, List.takeWhile_append_dropWhile]
  unfold adv
  simp only [List.length_append, List.length_replicate, List.length_cons, List.length_nil]
  omega
theorem sum_run (P : List Int) : (run P).bs.length + (run P).st.length = 2 * (P.length + 1) := by
  refine rev_ind (C := fun P => (run P).bs.length + (run P).st.length = 2 * (P.length + 1)) ?_ ?_ P
  · rfl
  · intro P p h
    rw [run_app, sum_adv, h, List.length_append, List.length_singleton]
    omega
theorem full_len (P : List Int) : (full P).length = 2 * (P.length + 1) := by
  unfold full
  rw [List.length_append, List.length_replicate, sum_run]
theorem st_le (P : List Int) : (run P).st.length ≤ 2 * (P.length + 1) := by have := sum_run P; omega
theorem bs_le (P : List Int) : (run P).bs.length ≤ 2 * (P.length + 1) := by have := sum_run P; omega

/-! ### reading bits: ps the parents so far (none: nought's), st the stack -/
def code (b : Bool) : Nat := if b then 49 else 48
def codes (bs : List Bool) : List Nat := bs.map code
def readGo : List (Option Int) → List Int → List Nat → Option (List (Option Int))
  | ps, st, [] => if st = [] then some ps else none
  | ps, st, c :: r =>
    if ps ≠ [] ∧ st = [] then none
    else if c = 49 then readGo (ps ++ [st.head?]) ((ps.length : Int) :: st) r
    else if c = 48 then (if st = [] then none else readGo ps st.tail r)
    else none
def readM (cs : List Nat) : Option (List (Option Int)) := if cs.length = 0 ∨ 4000 < cs.length then none else readGo [] [] cs
/-- the parents, nought's ahead -/
def par (P : List Int) : List (Option Int) := none :: P.map some
theorem par_len (P : List Int) : (par P).length = P.length + 1 := by unfold par; simp
theorem par_ne (P : List Int) : par P ≠ [] := List.cons_ne_nil _ _
theorem par_app (P : List Int) (p : Int) : par (P ++ [p]) = par P ++ [some p] := by unfold par; simp

theorem read_zeros (ps : List (Option Int)) (r : List Nat) : ∀ (j : Nat) (st : List Int), j ≤ st.length → readGo ps st (codes (List.replicate j false) ++ r) = readGo ps (st.drop j) r
  | 0, st, _ => rfl
  | j + 1, [], h => by simp at h
  | j + 1, a :: st, h => by
    have e : codes (List.replicate (j + 1) false) ++ r = 48 :: (codes (List.replicate j false) ++ r) := rfl
    rw [e]
    show (if ps ≠ [] ∧ a :: st = [] then none else if (48 : Nat) = 49 then _ else if (48 : Nat) = 48 then (if a :: st = [] then none else readGo ps (a :: st).tail (codes (List.replicate j false) ++ r)) else none) = _
    rw [if_neg (fun z => List.cons_ne_nil _ _ z.2), if_neg (by decide), if_pos rfl, if_neg (List.cons_ne_nil _ _)]
    exact read_zeros ps r j st (Nat.le_of_succ_le_succ h)
theorem read_one (ps : List (Option Int)) (st : List Int) (r : List Nat) (h : ¬ (ps ≠ [] ∧ st = [])) : readGo ps st (49 :: r) = readGo (ps ++ [st.head?]) ((ps.length : Int) :: st) r := by
  show (if ps ≠ [] ∧ st = [] then none else if (49 : Nat) = 49 then _ else _) = _
  rw [if_neg h, if_pos rfl]
theorem codes_app (a b : List Bool) : codes (a ++ b) = codes a ++ codes b := List.map_append
theorem codes_len (a : List Bool) : (codes a).length = a.length := List.length_map _
theorem read_run : ∀ (P : List Int), Good P → ∀ r, readGo [] [] (codes (run P).bs ++ r) = readGo (par P) (run P).st r := by
  intro P
  refine rev_ind (C := fun P => Good P → ∀ r, readGo [] [] (codes (run P).bs ++ r) = readGo (par P) (run P).st r) ?_ ?_ P
  · intro _ r
    show readGo [] [] (49 :: r) = _
    rw [read_one _ _ _ (fun z => z.1 rfl)]
    rfl
  · intro P p ih h r
    obtain ⟨j, hj, e⟩ := mem_place h.last
    have ih' := ih h.left
    have ea : run (P ++ [p]) = ⟨(run P).k :: (run P).st.drop j, (run P).bs ++ List.replicate j false ++ [true], (run P).k + 1⟩ := by rw [run_app, adv_place (fall_run _) e]
    rw [ea]
    show readGo [] [] (codes ((run P).bs ++ List.replicate j false ++ [true]) ++ r) = readGo (par (P ++ [p])) ((run P).k :: (run P).st.drop j) r
    rw [codes_app, codes_app, List.append_assoc, List.append_assoc, ih', read_zeros _ _ _ _ (Nat.le_of_lt hj)]
    have hne : (run P).st.drop j ≠ [] := by
      intro z
      have := List.drop_eq_nil_iff.mp z
      omega
    have hh : ((run P).st.drop j).head? = some p := by rw [List.head?_drop]; exact e
    show readGo (par P) ((run P).st.drop j) (49 :: r) = _
    rw [read_one _ _ _ (fun z => hne z.2), hh, par_app, par_len, run_k]
    rfl
theorem readM_full {P : List Int} (h : Good P) (hl : P.length < 2000) : readM (codes (full P)) = some (par P) := by
  unfold readM
  rw [codes_len, full_len, if_neg (by omega)]
  unfold full
  rw [codes_app, read_run P h, ← List.append_nil (codes (List.replicate (run P).st.length false)), read_zeros _ _ _ _ (Nat.le_refl _), List.drop_length]
  rfl
end KB

set_option Elab.async false
set_option linter.all false
set_option maxRecDepth 100000
set_option maxHeartbeats 4000000
/-! Readings of expressions, beside those of HandS.Evl. -/
namespace KB
open PySem L2 Evl

/-! ### texts of bits -/
def txt (bs : List Bool) : Str := ⟨(codes bs).toArray⟩
theorem str_len (x : Str) : x.length = x.cps.toList.length := rfl
theorem str_app (x y : Str) : (x ++ y).cps = x.cps ++ y.cps := rfl
theorem txt_app (a b : List Bool) : txt a ++ txt b = txt (a ++ b) := by
  show Str.mk ((codes a).toArray ++ (codes b).toArray) = Str.mk (codes (a ++ b)).toArray
  rw [codes_app]; simp
theorem txt_len (a : List Bool) : (txt a).length = a.length := by
  show ((codes a).toArray).size = _
  simp [codes_len]
theorem txt_0 : ("0" : Str) = txt [false] := by decide +kernel
theorem txt_1 : ("1" : Str) = txt [true] := by decide +kernel
theorem txt_e : ("" : Str) = txt [] := by decide +kernel
theorem txt_cps (a : List Bool) : (txt a).cps.toList = codes a := by show (codes a).toArray.toList = _; simp
theorem codes_inj : ∀ {a b : List Bool}, codes a = codes b → a = b
  | [], [], _ => rfl
  | [], _ :: _, h => by cases h
  | _ :: _, [], h => by cases h
  | x :: a, y :: b, h => by
    have h' : code x :: codes a = code y :: codes b := h
    injection h' with h1 h2
    have e : x = y := by cases x <;> cases y <;> first | rfl | cases h1
    rw [e, codes_inj h2]
theorem txt_inj {a b : List Bool} (h : txt a = txt b) : a = b := by
  apply codes_inj
  rw [← txt_cps a, ← txt_cps b, h]

/-! ### values of parents -/
def oV : Option Int → V
  | none => .non
  | some i => .int i
def oD : Option Int → PyData
  | none => .none
  | some i => .int i
def pV (xs : List (Option Int)) : List V := xs.map oV
theorem pV_len (xs : List (Option Int)) : (pV xs).length = xs.length := List.length_map _
theorem oV_inj : ∀ {a b : Option Int}, oV a = oV b → a = b
  | none, none, _ => rfl
  | none, some _, h => by cases h
  | some _, none, h => by cases h
  | some a, some b, h => by
    have h' : V.int a = V.int b := h
    injection h' with e; rw [e]
section
variable {K : PySem.W.Frag} {H H' : Hp}
theorem dp_o : ∀ x : Option Int, Dp K H (oV x) (oD x)
  | none => .non
  | some i => .int i
theorem dpAll_o : ∀ xs : List (Option Int), DpAll K H (pV xs) (xs.map oD)
  | [] => .nil
  | x :: xs => .cons (dp_o x) (dpAll_o xs)
theorem dp_pV {a : Addr} {xs : List (Option Int)} (h : SqL K H a (pV xs)) : Dp K H (.ref a) (.list (xs.map oD)) := .lst h (dpAll_o xs)
theorem eqv_o : ∀ a b : Option Int, PyData.eqv (oD a) (oD b) = decide (a = b)
  | none, none => by simp [oD, PyData.eqv]
  | none, some _ => by simp [oD, PyData.eqv]
  | some _, none => by simp [oD, PyData.eqv]
  | some a, some b => by
    simp only [oD, PyData.eqv]
    by_cases h : a = b
    · subst h; simp
    · rw [decide_eq_false (fun z => h (Option.some.inj z))]
      exact beq_eq_false_iff_ne.mpr h
theorem eqvAll_o : ∀ xs ys : List (Option Int), PyData.eqvAll (xs.map oD) (ys.map oD) = decide (xs = ys)
  | [], [] => by simp [PyData.eqvAll]
  | [], _ :: _ => by simp [PyData.eqvAll]
  | _ :: _, [] => by simp [PyData.eqvAll]
  | x :: xs, y :: ys => by
    show PyData.eqvAll (oD x :: xs.map oD) (oD y :: ys.map oD) = _
    simp only [PyData.eqvAll]
    rw [eqv_o, eqvAll_o xs ys]
    by_cases h1 : x = y <;> by_cases h2 : xs = ys <;> simp [h1, h2]
theorem eqv_pV (xs ys : List (Option Int)) : PyData.eqv (.list (xs.map oD)) (.list (ys.map oD)) = decide (xs = ys) := by
  simp only [PyData.eqv]; exact eqvAll_o xs ys
theorem canAll_o : ∀ xs : List (Option Int), PyData.canLayAll0 (xs.map oD) = true
  | [] => by simp [PyData.canLayAll0]
  | none :: xs => by simp [PyData.canLayAll0, oD, PyData.canLay0, canAll_o xs]
  | some _ :: xs => by simp [PyData.canLayAll0, oD, PyData.canLay0, canAll_o xs]
end
theorem depthAll_o : ∀ xs : List (Option Int), PyData.depthAll (xs.map oD) = 0
  | [] => by simp [PyData.depthAll]
  | none :: xs => by simp [PyData.depthAll, oD, PyData.depth, depthAll_o xs]
  | some _ :: xs => by simp [PyData.depthAll, oD, PyData.depth, depthAll_o xs]
theorem shaped_o (xs : List (Option Int)) : SeqAt.shaped (.list (xs.map oD)) = true := by
  unfold SeqAt.shaped
  simp only [PyData.canLay0, canAll_o, PyData.depth, depthAll_o]
  rfl

/-! ### readings -/
section
variable {K : PySem.W.Frag} {σ : L2.St} {H H' : Hp} {ta tb tc te tx to : TE} {t u : TT} {x y z v : V} {r : R2}
theorem rv_addS {a b : Str} (h : a.length + b.length ≤ 100000) : RV (fun x y H Q => ∃ i j, x = .str i ∧ y = .str j ∧ i.length + j.length ≤ sizeLine ∧ Q (.str (i ++ j)) H) (.str a) (.str b) H (.str (a ++ b)) := fun H1 _ _ q => ⟨a, b, rfl, rfl, sz_of h, q H1 (Ex.refl H1)⟩
theorem rv_isN : RV (fun x y H Q => y = .non ∧ Q (.bl (decide (x = .non))) H) x .non H (.bl (decide (x = .non))) := fun H1 _ _ q => ⟨rfl, q H1 (Ex.refl H1)⟩
theorem rv_notN : RV (fun x y H Q => y = .non ∧ Q (.bl (!decide (x = .non))) H) x .non H (.bl (!decide (x = .non))) := fun H1 _ _ q => ⟨rfl, q H1 (Ex.refl H1)⟩
theorem rv_isBl {a b : Bool} : RV rIsB (.bl a) (.bl b) H (.bl (decide (a = b))) := fun H1 _ _ q => ⟨a, b, rfl, rfl, q H1 (Ex.refl H1)⟩
theorem rv_notBl {a b : Bool} : RV rNotB (.bl a) (.bl b) H (.bl (!decide (a = b))) := fun H1 _ _ q => ⟨a, b, rfl, rfl, q H1 (Ex.refl H1)⟩
mutual
theorem dp_ex (e : Ex H H') : ∀ (d : PyData) (v : V), Dp K H v d → Dp K H' v d
  | .none, _, h => by cases h; exact .non
  | .bool _, _, h => by cases h; exact .bl _
  | .int _, _, h => by cases h; exact .int _
  | .str _, _, h => by cases h; exact .str _
  | .list ds, _, h => by
    cases h with
    | lst hs ha => exact .lst (ex_l e hs) (dpAll_ex e ds _ ha)
  | .tuple ds, _, h => by
    cases h with
    | tup hs ha => exact .tup (ex_t e hs) (dpAll_ex e ds _ ha)
  | .dict _, _, h => by cases h
theorem dpAll_ex (e : Ex H H') : ∀ (ds : List PyData) (vs : List V), DpAll K H vs ds → DpAll K H' vs ds
  | [], _, h => by cases h; exact .nil
  | d :: ds, _, h => by
    cases h with
    | cons h1 h2 => exact .cons (dp_ex e d _ h1) (dpAll_ex e ds _ h2)
end
theorem rv_eqD {d f : PyData} (h1 : Dp K H x d) (h2 : Dp K H y f) (h3 : SeqAt.shaped d = true) (h4 : SeqAt.shaped f = true) : RV (rEqD K) x y H (.bl (PyData.eqv d f)) := fun H1 e _ q => ⟨d, f, dp_ex e _ _ h1, dp_ex e _ _ h2, h3, h4, q H1 (Ex.refl H1)⟩
theorem rv_neD {d f : PyData} (h1 : Dp K H x d) (h2 : Dp K H y f) (h3 : SeqAt.shaped d = true) (h4 : SeqAt.shaped f = true) : RV (rNeD K) x y H (.bl (!PyData.eqv d f)) := fun H1 e _ q => ⟨d, f, dp_ex e _ _ h1, dp_ex e _ _ h2, h3, h4, q H1 (Ex.refl H1)⟩
/-- two lists of parents -/
theorem rv_eqP {a b : Addr} {xs ys : List (Option Int)} (h1 : SqL K H a (pV xs)) (h2 : SqL K H b (pV ys)) : RV (rEqD K) (.ref a) (.ref b) H (.bl (decide (xs = ys))) := by
  have h := rv_eqD (H := H) (dp_pV h1) (dp_pV h2) (shaped_o xs) (shaped_o ys)
  rw [eqv_pV] at h; exact h
theorem rv_neP {a b : Addr} {xs ys : List (Option Int)} (h1 : SqL K H a (pV xs)) (h2 : SqL K H b (pV ys)) : RV (rNeD K) (.ref a) (.ref b) H (.bl (!decide (xs = ys))) := by
  have h := rv_neD (H := H) (dp_pV h1) (dp_pV h2) (shaped_o xs) (shaped_o ys)
  rw [eqv_pV] at h; exact h
theorem ev_slS {w : Str} {tl th : TO} {lo hi : Option Int} (h : Ev te σ H (.str w)) (h1 : EvO tl σ H lo) (h2 : EvO th σ H hi) (hl : w.length ≤ 100000) : Ev (tSl rSlS te tl th) σ H (.str (cutS w lo hi)) := fun H1 e _ q =>
  h H1 e _ fun H2 e2 => h1 H2 (e.trans e2) _ fun H3 e3 => h2 H3 ((e.trans e2).trans e3) _ fun H4 e4 => ⟨w, rfl, sz_of hl, q H4 ((e2.trans e3).trans e4)⟩
theorem ev_lenS {w : Str} (h : Ev te σ H (.str w)) (hl : w.length ≤ 100000) : Ev (tCB (fun xs H Q => ∃ z, xs = [.str z] ∧ z.length ≤ sizeLine ∧ Q (.int z.length) H) (tCons te tNil)) σ H (.int (w.length : Int)) := fun H1 e _ q =>
  h H1 e _ fun H2 e2 => ⟨w, rfl, sz_of hl, q H2 e2⟩
theorem tyx_ex {tv : Value} (e : Ex H H') (h : TyX K H x tv) : TyX K H' x tv := by
  cases h with
  | base h =>
    refine .base ?_
    cases h with
    | non => exact .non
    | bl => exact .bl _
    | int => exact .int _
    | str => exact .str _
    | flt => exact .flt _
    | lst ea => exact .lst (e _ _ ea)
    | frz ea => exact .frz (e _ _ ea)
    | tup ea => exact .tup (e _ _ ea)
    | dK ea => exact .dK (e _ _ ea)
    | dT ea => exact .dT (e _ _ ea)
    | ins ea cl a b c d => exact .ins (e _ _ ea) cl a b c d
  | byt b => exact .byt b
  | set ea => exact .set (e _ _ ea)
  | kList ea c => exact .kList ea c
  | kTuple ea c => exact .kTuple ea c
  | kDict ea c => exact .kDict ea c
  | fTuple ea => exact .fTuple (e _ _ ea)
  | fDict ea => exact .fDict (e _ _ ea)
theorem ev_isi {c : V} {tv uv : Value} {b : Bool} (h1 : Ev ta σ H x) (h2 : Ev tb σ H c) (k : ClsV c uv) (ty : TyX K H x tv) (hb : PySem.W.kitOne K tv uv = some b) : Ev (tCB (rIsi K) (tCons ta (tCons tb tNil))) σ H (.bl b) := fun H1 e _ q =>
  h1 H1 e _ fun H2 e2 => h2 H2 (e.trans e2) _ fun H3 e3 => ⟨x, c, tv, uv, b, rfl, k, tyx_ex ((e.trans e2).trans e3) ty, hb, q H3 (e2.trans e3)⟩
theorem ev_min2 {i j : Int} (ha : Ev ta σ H (.int i)) (hb : Ev tb σ H (.int j)) : Ev (tCB (fun xs H Q => ∃ i j, xs = [.int i, .int j] ∧ Q (.int (if j < i then j else i)) H) (tCons ta (tCons tb tNil))) σ H (.int (min i j)) := fun H1 e Q q =>
  ha H1 e _ fun H2 e2 => hb H2 (e.trans e2) _ fun H3 e3 => ⟨i, j, rfl, by
    have z : (if j < i then j else i) = min i j := by split <;> omega
    show Q (.int (if j < i then j else i)) H3
    rw [z]; exact q H3 (e2.trans e3)⟩
theorem tru_ex {k : Bool} (e : Ex H H') (h : TruV K x H k) : TruV K x H' k := by
  cases x with
  | ref p =>
    rcases h with ⟨xs, h, r⟩ | ⟨xs, h, r⟩ | ⟨kvs, h, r⟩
    · exact .inl ⟨xs, ex_l e h, r⟩
    · exact .inr (.inl ⟨xs, ex_t e h, r⟩)
    · exact .inr (.inr ⟨kvs, e _ _ h, r⟩)
  | _ => exact h
theorem et_truth {k : Bool} (h : Ev ta σ H x) (ht : TruV K x H k) : EvT (fun σ H Q => ta σ H fun x H' => ∃ k, TruV K x H' k ∧ Q k H') σ H k := fun H1 e _ q => h H1 e _ fun H2 e2 => ⟨k, tru_ex (e.trans e2) ht, q H2 e2⟩
theorem tru_l {a : Addr} {xs : List V} (h : SqL K H a xs) : TruV K (.ref a) H (!xs.isEmpty) := .inl ⟨xs, h, rfl⟩
/-- a < b < c of ints, the second by its own answer -/
theorem ev_chain {r' : R2} {b : Bool} {b2 : Bool} (h1 : Ev ta σ H x) (h2 : Ev tb σ H y) (hr : RV r x y H (.bl b)) (h3 : b = true → Ev tc σ H z) (hr2 : b = true → RV r' y z H (.bl b2)) : Ev (tChain r r' ta tb tc) σ H (.bl (b && b2)) := fun H1 e Q q =>
  h1 H1 e _ fun H2 e2 => h2 H2 (e.trans e2) _ fun H3 e3 => hr H3 ((e.trans e2).trans e3) _ fun H4 e4 => ⟨b, rfl, by
    cases b with
    | true =>
      show tc σ H4 _
      exact h3 rfl H4 (((e.trans e2).trans e3).trans e4) _ fun H5 e5 => hr2 rfl H5 ((((e.trans e2).trans e3).trans e4).trans e5) _ fun H6 e6 => q H6 ((((e2.trans e3).trans e4).trans e5).trans e6)
    | false =>
      show Q (.bl false) H4
      exact q H4 ((e2.trans e3).trans e4)⟩
theorem ev_join {a : Str} {p : Addr} {ys : List Str} (h1 : Ev to σ H (.str a)) (h2 : Ev te σ H (.ref p)) (hs : SqL K H p (ys.map V.str)) (hl : (ys.map (·.length)).sum + ys.length * a.length ≤ 16777216) :
    Ev (tM1 (fun x xs H Q => ∃ a p, ∃ ys : List Str, x = .str a ∧ xs = [.ref p] ∧ (SqL K H p (ys.map V.str) ∨ SqT K H p (ys.map V.str)) ∧ (ys.map (·.length)).sum + ys.length * a.length ≤ 16777216 ∧ Q (.str (Txt.join a ys)) H) to te) σ H (.str (Txt.join a ys)) := fun H1 e Q q =>
  h1 H1 e _ fun H2 e2 => ⟨⟨a, rfl⟩, h2 H2 (e.trans e2) _ fun H3 e3 => ⟨a, p, ys, rfl, rfl, .inl (ex_l ((e.trans e2).trans e3) hs), hl, q H3 (e2.trans e3)⟩⟩
theorem ev_fld {a C dx : Addr} {fs : List (Str × V)} {f : Str} (h : Ev ta σ H (.ref a)) (ho : H a = some (.ins C dx fs)) (hc : Cls K C) (hn : NoAttr K C f) (hl : fs.lookup f = some v) : Ev (tFld K ta f) σ H v := fun H1 e _ q =>
  h H1 e _ fun H2 e2 => ⟨a, C, dx, fs, v, rfl, (e.trans e2) _ _ ho, hc, hn, hl, q H2 e2⟩
theorem rv_inS {c : Nat} {w : Str} : RV (fun x y H Q => ∃ (c : Nat) (z : Str), x = .str ⟨#[c]⟩ ∧ y = .str z ∧ Q (.bl (decide (c ∈ z.cps.toList))) H) (.str ⟨#[c]⟩) (.str w) H (.bl (decide (c ∈ w.cps.toList))) := fun H1 _ _ q => ⟨c, w, rfl, rfl, q H1 (Ex.refl H1)⟩
theorem rv_notInS {c : Nat} {w : Str} : RV (fun x y H Q => ∃ (c : Nat) (z : Str), x = .str ⟨#[c]⟩ ∧ y = .str z ∧ Q (.bl (!decide (c ∈ z.cps.toList))) H) (.str ⟨#[c]⟩) (.str w) H (.bl (!decide (c ∈ w.cps.toList))) := fun H1 _ _ q => ⟨c, w, rfl, rfl, q H1 (Ex.refl H1)⟩
/-- list + list, both new -/
theorem el_catLL {xs ys : List V} (h1 : EvL ta σ H xs) (h2 : EvL tb σ H ys) (hl : xs.length + ys.length ≤ 100000) : EvL (tOp rCat ta tb) σ H (xs ++ ys) := fun H1 e Q q =>
  h1 H1 e _ fun p H2 hp e2 h2' => h2 H2 (e.trans e2) _ fun p2 H3 hp2 e3 h3' => ⟨p, p2, xs, ys, rfl, rfl, e3 _ _ h2', h3', sz_of hl, fun l hl => q l _ (fresh_back (e2.trans e3) hl) ((e2.trans e3).trans (Ex.new hl)) upd_same⟩

/-! ### statements -/
variable {D : Ends} {tz : TS}
theorem s_pop {l : Addr} {xs : List V} {y : V} (hl : H l = some (.lst xs)) (ha : Ev ta σ H (.ref l)) (hy : xs[xs.length - 1]? = some y) (k : ∀ H1, Ex H H1 → D.nx σ (upd H1 l (.lst xs.dropLast))) :
    tDrop (tBM0 K "list" rPop ta) D σ H := ha H (Ex.refl H) _ fun H1 e1 => ⟨Or.inl ⟨rfl, xs, sq_of (e1 l _ hl)⟩, l, xs, y, rfl, rfl, e1 l _ hl, hy, k H1 e1⟩
theorem q_pop {l : Addr} {xs : List V} {y : V} (hl : H l = some (.lst xs)) (ha : Ev ta σ H (.ref l)) (hy : xs[xs.length - 1]? = some y) (k : ∀ H1, Ex H H1 → tz D σ (upd H1 l (.lst xs.dropLast))) :
    tSeq (tDrop (tBM0 K "list" rPop ta)) tz D σ H := s_pop (D := { D with nx := tz D }) hl ha hy k
end

/-! ### a list of one's own: new since H0 -/
structure Own (H0 H : Hp) (a : Addr) (xs : List V) : Prop where
  nw : H0 a = none
  at_ : H a = some (.lst xs)
section
variable {K : PySem.W.Frag} {H0 H H' : Hp} {a b : Addr} {xs ys : List V} {o : HO}
theorem Own.sq (h : Own H0 H a xs) : SqL K H a xs := sq_of h.at_
theorem Own.ex (h : Own H0 H a xs) (e : Ex H H') : Own H0 H' a xs := ⟨h.nw, e _ _ h.at_⟩
theorem Own.back {H1 : Hp} (h : Own H1 H a xs) (e : Ex H0 H1) : Own H0 H a xs := ⟨fresh_back e h.nw, h.at_⟩
theorem Own.put (h : Own H0 H a xs) : Own H0 (upd H' a (.lst ys)) a ys := ⟨h.nw, upd_same⟩
theorem Own.off (h : Own H0 H a xs) (n : a ≠ b) : Own H0 (upd H b o) a xs := ⟨h.nw, by rw [upd_ne n]; exact h.at_⟩
theorem Own.ne (h : Own H0 H a xs) (hb : H b = none) : a ≠ b := ne_of_none h.at_ hb
end

/-! ### "0" * n -/
def rMulS : R2 := fun x y H Q => ∃ (z : Str) (n : Int), x = .str z ∧ y = .int n ∧ z.length = 1 ∧ 0 ≤ n ∧ n ≤ 100000 ∧ Q (.str (Txt.mul z n)) H
theorem op_mulS {X : Cx} : OpR X (binaryOp .Mult) rMulS := by
  intro pins s σ H x y v u Q I rx ry h
  obtain ⟨z, n, rfl, rfl, hz, h0, h1, q⟩ := h
  obtain ⟨t, rfl⟩ := rx
  obtain ⟨t2, rfl⟩ := ry
  refine SB.mul ?_ (fun t' k => ⟨.str (Txt.mul z n), H, I.tok k, ⟨t', rfl⟩, q⟩)
  refine ⟨?_, fun h2 _ => ?_, fun h2 _ => ?_⟩
  · rw [decide_eq_false (by omega), decide_eq_false (by omega)]; rfl
  · rw [hz]
    intro c
    have hn : (1 : Int) ≤ n := by omega
    have h3 : n ≤ (2 ^ 63 - 1) := by omega
    have h4 : (1 : Int) ≤ (2 ^ 63 - 1) / n := (Int.le_ediv_iff_mul_le (by omega)).mpr (by omega)
    have c' : ((1 : Nat) : Int) > (2 ^ 63 - 1) / n := c
    omega
  · rw [hz, Nat.one_mul]
    unfold PySem.Builtin.Str.tooLong
    exact decide_eq_false (by
      have : n.toNat ≤ 100000 := by omega
      have h5 : (100000 : Nat) ≤ sizeLine := by decide
      omega)
theorem mul_one (c : Nat) : ∀ n : Nat, (List.replicate n (#[c] : Array Nat)).foldl (· ++ ·) #[] = (List.replicate n c).toArray := by
  have g : ∀ (n : Nat) (acc : List Nat), (List.replicate n (#[c] : Array Nat)).foldl (· ++ ·) acc.toArray = (acc ++ List.replicate n c).toArray := by
    intro n
    induction n with
    | zero => intro acc; simp
    | succ n ih =>
      intro acc
      rw [List.replicate_succ, List.foldl_cons]
      have e : acc.toArray ++ #[c] = (acc ++ [c]).toArray := by simp
      rw [e, ih (acc ++ [c]), List.replicate_succ, List.append_assoc]
      rfl
  intro n
  have h := g n []
  simpa using h
theorem mul_0 (n : Int) (h0 : 0 ≤ n) : Txt.mul ("0" : Str) n = txt (List.replicate n.toNat false) := by
  rw [txt_0]
  unfold Txt.mul
  by_cases h : n < 1
  · have e : n = 0 := by omega
    subst e
    rw [if_pos h]; rfl
  · rw [if_neg h]
    by_cases h2 : n = 1
    · subst h2; rfl
    · have h3 : (n == 1 || (txt [false]).length == 0) = false := by
        rw [txt_len]
        simp [h2]
      rw [h3, if_neg (by decide)]
      show Str.mk ((List.replicate n.toNat (#[48] : Array Nat)).foldl (· ++ ·) #[]) = Str.mk (codes (List.replicate n.toNat false)).toArray
      rw [mul_one]
      unfold codes
      rw [List.map_replicate]
      rfl
section
variable {σ : L2.St} {H : Hp} {te : TE}
theorem rv_mulS {n : Int} (h : 0 ≤ n ∧ n ≤ 100000) : RV rMulS (.str ("0" : Str)) (.int n) H (.str (txt (List.replicate n.toNat false))) := fun H1 _ Q q => by
  refine ⟨"0", n, rfl, rfl, by decide +kernel, h.1, h.2, ?_⟩
  rw [mul_0 n h.1]
  exact q H1 (Ex.refl H1)
end
/-! ### join of pieces -/
def catS (ys : List Str) : List Nat := (ys.map (fun y => y.cps.toList)).flatten
theorem catS_app (a b : List Str) : catS (a ++ b) = catS a ++ catS b := by unfold catS; rw [List.map_append, List.flatten_append]
theorem catS_one (y : Str) : catS [y] = y.cps.toList := by unfold catS; simp
theorem join_fold : ∀ (ps : List Str) (acc : Array Nat), (ps.foldl (fun acc p => acc ++ (Str.empty).cps ++ p.cps) acc) = acc ++ (catS ps).toArray
  | [], acc => by simp [catS]
  | p :: ps, acc => by
    rw [List.foldl_cons, join_fold ps]
    have e : catS (p :: ps) = p.cps.toList ++ catS ps := by unfold catS; simp
    rw [e]
    have e2 : (Str.empty).cps = #[] := rfl
    rw [e2]
    apply Array.toList_inj.mp
    simp
theorem empty_is : ("" : Str) = Str.empty := by decide +kernel
theorem join_cat (ps : List Str) : Txt.join ("" : Str) ps = ⟨(catS ps).toArray⟩ := by
  rw [empty_is]
  show Str.mk ((ps.drop 1).foldl (fun acc p => acc ++ (Str.empty).cps ++ p.cps) (ps.headD Str.empty).cps) = _
  rw [join_fold]
  cases ps with
  | nil => rfl
  | cons p ps =>
    have e : catS (p :: ps) = p.cps.toList ++ catS ps := by unfold catS; simp
    rw [e]
    show Str.mk (p.cps ++ (catS ps).toArray) = _
    congr 1
    apply Array.toList_inj.mp
    simp
theorem catS_sum : ∀ ps : List Str, (ps.map (·.length)).sum = (catS ps).length
  | [] => rfl
  | p :: ps => by
    have e : catS (p :: ps) = p.cps.toList ++ catS ps := by unfold catS; simp
    rw [e, List.map_cons, List.sum_cons, catS_sum ps, List.length_append]
    rfl
end KB
namespace KB
open PySem PySem.Spec PyProof.Rows L2 Evl
/-- z[::-1] -/
def revS (z : Str) : Str := Txt.sliceBy z none none (-1, 0)
theorem revS_len (z : Str) : (revS z).length = z.length := step_rev_len z 0
def tRevS (te : TE) : TE := fun σ H Q => te σ H fun x H1 => ∃ z, x = .str z ∧ z.length ≤ sizeLine ∧ Q (.str (revS z)) H1
section
variable {X : Cx}
theorem pe_revS {e : Expr} {te : TE} {k : Nat} {p1 p2 p3 pos : Pos} (he : PE X e te) : PE X (.Subscript e (.Slice none none (some (.UnaryOp .USub (.Constant (.int 1) k p1) p2)) p3) pos) (tRevS te) := by
  refine ⟨fun pins s σ H Q I h => ?_⟩
  refine Subscript_ (thn (he.run pins s σ H _ I h) fun v s1 ⟨x, H1, I1, r1, q1⟩ => ?_)
  obtain ⟨z, ex, hz, q⟩ := q1
  subst ex
  obtain ⟨t, rfl⟩ := r1
  have hst : PO X (some (.UnaryOp .USub (.Constant (.int 1) k p1) p2)) (tPart (tUn (rU fun i => .int (-i)) (tC (.int 1)))) := po_some (pe_un un_neg pe_int)
  refine wpAny_Slice (thn (po_none.run pins s1 σ H1 (fun o H2 => o = none ∧ H2 = H1) I1 ⟨rfl, rfl⟩) fun vl s2 ⟨l, H2, I2, pl, el, e2⟩ => ?_)
  subst el e2
  refine thn (po_none.run pins s2 σ H2 (fun o H3 => o = none ∧ H3 = H2) I2 ⟨rfl, rfl⟩) fun vu s3 ⟨u, H3, I3, pu, eu, e3⟩ => ?_
  subst eu e3
  refine thn (hst.run pins s3 σ H3 (fun o H4 => o = some (-1) ∧ H4 = H3) I3 ⟨1, rfl, -1, rfl, rfl, rfl⟩) fun vs s4 ⟨o, H4, I4, ps, eo, e4⟩ => ?_
  subst eo e4
  obtain ⟨l, hl1, hl2⟩ := IsPart.raw pl
  obtain ⟨u, hu1, hu2⟩ := IsPart.raw pu
  obtain ⟨st, hs1, hs2⟩ := IsPart.raw ps
  subst hl1 hu1 hs1
  cases l with
  | some _ => cases hl2
  | none =>
    cases u with
    | some _ => cases hu2
    | none =>
      cases st with
      | none => cases hs2
      | some p =>
        obtain ⟨i, tk⟩ := p
        have hi : (-1 : Int) = i := (Option.some.inj hs2).symm
        subst hi
        have I5 : Inv X pins σ H4 { s4 with heap := s4.heap.push { cls := .type "slice", data := .fields #[partValue none, partValue none, partValue (some (-1, tk))] } } := I4.kept (t' := s4.toks) fun b ob q => Heap.get?_push_of_some _ q
        show wpAny (model X.prog X.w) X.A (subscriptTail e (.Slice none none (some (.UnaryOp .USub (.Constant (.int 1) k p1) p2)) p3) (.str z t) (.ref s4.heap.objs.size)) (EP X pins σ Q) X.xe { s4 with heap := s4.heap.push { cls := .type "slice", data := .fields #[partValue none, partValue none, partValue (some (-1, tk))] } }
        refine tail_any (ops := [.str z t, .ref s4.heap.objs.size]) (typeIs_str _ _ _) F.slot_str_getitem.lookup ?_ (by with_unfolding_all rfl)
        refine wpAny_getItem_str_slice (l := none) (u := none) (st := some (-1, tk)) ⟨_, Heap.get?_push_size _ rfl, rfl, rfl⟩ rfl ?_
        have hlen := step_rev_len z tk
        have hq : Q (.str (Txt.sliceBy z none none (-1, tk))) H4 := q
        unfold sliceMade
        unfold Txt.sliceBy at hlen hq
        have hc : ((((some ((-1 : Int), tk)).map (·.1)).getD 1 == 1 && (slicePicked z none none (some (-1, tk))).length == z.length)) = false := rfl
        rw [hc] at hlen hq ⊢
        rw [if_neg Bool.false_ne_true] at hlen hq ⊢
        exact ⟨by rw [hlen]; exact hz, .str _, H4, I5.tok _, ⟨_, rfl⟩, hq⟩
end
theorem ev_revS {σ : L2.St} {H : Hp} {te : TE} {z : Str} (h : Ev te σ H (.str z)) (hl : z.length ≤ 100000) : Ev (tRevS te) σ H (.str (revS z)) := fun H1 e _ q => h H1 e _ fun H2 e2 => ⟨z, rfl, sz_of hl, q H2 e2⟩
theorem mul_1s (n : Int) (h0 : 0 ≤ n) : Txt.mul ("1" : Str) n = txt (List.replicate n.toNat true) := by
  rw [txt_1]
  unfold Txt.mul
  by_cases h : n < 1
  · have e : n = 0 := by omega
    subst e
    rw [if_pos h]; rfl
  · rw [if_neg h]
    by_cases h2 : n = 1
    · subst h2; rfl
    · have h3 : (n == 1 || (txt [true]).length == 0) = false := by
        rw [txt_len]
        simp [h2]
      rw [h3, if_neg (by decide)]
      show Str.mk ((List.replicate n.toNat (#[49] : Array Nat)).foldl (· ++ ·) #[]) = Str.mk (codes (List.replicate n.toNat true)).toArray
      rw [mul_one]
      unfold codes
      rw [List.map_replicate]
      rfl
theorem rv_mulS1 {H : Hp} {n : Int} (h : 0 ≤ n ∧ n ≤ 100000) : RV rMulS (.str ("1" : Str)) (.int n) H (.str (txt (List.replicate n.toNat true))) := fun H1 _ Q q => by
  refine ⟨"1", n, rfl, rfl, by decide +kernel, h.1, h.2, ?_⟩
  rw [mul_1s n h.1]
  exact q H1 (Ex.refl H1)
end KB

namespace KB
open PySem L2 Evl
/-! ### stacks as lists -/
def stk (st : List Int) : List V := st.reverse.map V.int
theorem stk_cons (x : Int) (st : List Int) : stk (x :: st) = stk st ++ [.int x] := by unfold stk; rw [List.reverse_cons, List.map_append]; rfl
theorem stk_len (st : List Int) : (stk st).length = st.length := by unfold stk; rw [List.length_map, List.length_reverse]
theorem stk_last (x : Int) (st : List Int) : atI (stk (x :: st)) (-1) = some (.int x) := by rw [stk_cons]; exact atI_last _ _
theorem stk_top (x : Int) (st : List Int) : (stk (x :: st))[(stk (x :: st)).length - 1]? = some (.int x) := by
  rw [stk_cons, List.length_append, List.length_singleton, Nat.add_sub_cancel]; simp
theorem stk_pop (x : Int) (st : List Int) : (stk (x :: st)).dropLast = stk st := by rw [stk_cons]; simp
theorem stk_cut (st : List Int) (j : Nat) {h : Int} (hh : h = ((st.length - j : Nat) : Int)) : cutV (stk st) none (some h) = stk (st.drop j) := by
  subst hh
  unfold cutV
  rw [HT.sIx_none, HT.sIx_nat, stk_len, Nat.min_eq_left (Nat.sub_le _ _), Nat.sub_zero, List.drop_zero]
  unfold stk
  rw [← List.map_take, List.take_reverse]
  congr 2
  by_cases hj : j ≤ st.length
  · rw [Nat.sub_sub_self hj]
  · rw [show st.length - (st.length - j) = st.length by omega, List.drop_length, List.drop_eq_nil_of_le (by omega)]
theorem stk_emp (st : List Int) : (stk st).isEmpty = st.isEmpty := by
  cases st with
  | nil => rfl
  | cons x r => rw [stk_cons]; simp
theorem atI_six {a0 a1 a2 a3 a4 a5 : Int} (h0 : 0 ≤ a0) (h1 : 0 ≤ a1) (h2 : 0 ≤ a2) (h3 : 0 ≤ a3) (h4 : 0 ≤ a4) (h5 : 0 ≤ a5) {i : Int} (hi : 0 ≤ i) (hi2 : i < 6) :
    ∃ u, 0 ≤ u ∧ atI [V.int a0, .int a1, .int a2, .int a3, .int a4, .int a5] i = some (.int u) := by
  have h : i = 0 ∨ i = 1 ∨ i = 2 ∨ i = 3 ∨ i = 4 ∨ i = 5 := by omega
  rcases h with rfl | rfl | rfl | rfl | rfl | rfl
  · exact ⟨a0, h0, rfl⟩
  · exact ⟨a1, h1, rfl⟩
  · exact ⟨a2, h2, rfl⟩
  · exact ⟨a3, h3, rfl⟩
  · exact ⟨a4, h4, rfl⟩
  · exact ⟨a5, h5, rfl⟩
theorem pV_app (xs : List (Option Int)) (p : Int) : pV (xs ++ [some p]) = pV xs ++ [.int p] := by unfold pV; rw [List.map_append]; rfl
/-! ### a list of ints as data -/
theorem dpAll_int {K : PySem.W.Frag} {H : Hp} : ∀ ns : List Int, DpAll K H (ns.map V.int) (ns.map PyData.int)
  | [] => .nil
  | n :: ns => .cons (.int n) (dpAll_int ns)
theorem canAll_int : ∀ ns : List Int, PyData.canLayAll0 (ns.map PyData.int) = true
  | [] => by simp [PyData.canLayAll0]
  | n :: ns => by simp [PyData.canLayAll0, PyData.canLay0, canAll_int ns]
theorem depthAll_int : ∀ ns : List Int, PyData.depthAll (ns.map PyData.int) = 0
  | [] => by simp [PyData.depthAll]
  | n :: ns => by simp [PyData.depthAll, PyData.depth, depthAll_int ns]
theorem shaped_int (ns : List Int) : SeqAt.shaped (.list (ns.map PyData.int)) = true := by
  unfold SeqAt.shaped
  simp only [PyData.canLay0, canAll_int, PyData.depth, depthAll_int]
  rfl
theorem shaped_nil : SeqAt.shaped (.list []) = true := shaped_int []
theorem eqv_nil (ns : List Int) : PyData.eqv (.list (ns.map PyData.int)) (.list []) = decide (ns = []) := by
  cases ns with
  | nil => simp [PyData.eqv, PyData.eqvAll]
  | cons n r => simp [PyData.eqv, PyData.eqvAll]
theorem rv_neNil {K : PySem.W.Frag} {H : Hp} {a b : Addr} {st : List Int} (h1 : SqL K H a (stk st)) (h2 : SqL K H b []) : RV (rNeD K) (.ref a) (.ref b) H (.bl (!decide (st = []))) := by
  have h := rv_neD (H := H) (x := .ref a) (y := .ref b) (.lst h1 (dpAll_int st.reverse)) (.lst h2 .nil) (shaped_int _) shaped_nil
  rw [eqv_nil] at h
  have e : decide (st.reverse = []) = decide (st = []) := by cases st <;> simp
  rw [e] at h
  exact h
/-! ### the bits, turn by turn -/
def rs (P : List Int) : Nat → List Int
  | 0 => []
  | i + 1 => (run (P.take i)).st
def rb (P : List Int) : Nat → List Bool
  | 0 => []
  | i + 1 => (run (P.take i)).bs
theorem bits_turn {P : List Int} (hg : Good P) {i : Nat} (hi : i ≤ P.length) : ∃ (J : Nat) (p : Int), (∀ j, j < J → ∃ q, (rs P i)[j]? = some q ∧ q ≠ p) ∧ J ≤ (rs P i).length ∧ (J = (rs P i).length ∨ (rs P i)[J]? = some p) ∧
    (rs P i ≠ [] → (pV (par P))[i]? = some (.int p)) ∧ rs P (i + 1) = (i : Int) :: (rs P i).drop J ∧ rb P (i + 1) = rb P i ++ List.replicate J false ++ [true] := by
  cases i with
  | zero =>
    exact ⟨0, 0, fun j h => absurd h (Nat.not_lt_zero _), Nat.le_refl _, .inl rfl, fun h => absurd rfl h, rfl, rfl⟩
  | succ i =>
    have hlt : i < P.length := hi
    obtain ⟨p, hp⟩ : ∃ p, P[i]? = some p := ⟨_, List.getElem?_eq_getElem hlt⟩
    obtain ⟨j, hj, e, er⟩ := good_place hg hp
    refine ⟨j, p, fun l hl => ?_, Nat.le_of_lt hj, .inr e, fun _ => ?_, ?_, ?_⟩
    · have hl' : l < (run (P.take i)).st.length := Nat.lt_trans hl hj
      refine ⟨_, List.getElem?_eq_getElem hl', ?_⟩
      have z := fall_inj (fall_run _).pw (List.getElem?_eq_getElem hl') e hl
      omega
    · unfold pV par
      rw [List.map_cons, List.getElem?_cons_succ, List.map_map, List.getElem?_map, hp]
      rfl
    · show (run (P.take (i + 1))).st = _
      rw [er]; rfl
    · show (run (P.take (i + 1))).bs = _
      rw [er]; rfl
theorem rb_le {P : List Int} {i : Nat} (hi : i ≤ P.length + 1) : (rb P i).length + (rs P i).length ≤ 2 * (P.length + 1) := by
  cases i with
  | zero => simp [rb, rs]
  | succ i =>
    have h := sum_run (P.take i)
    rw [List.length_take] at h
    show (run (P.take i)).bs.length + (run (P.take i)).st.length ≤ _
    omega
/-! ### facts of values, promises -/
def isInt : V → Bool
  | .int _ => true
  | _ => false
section
variable {K : PySem.W.Frag} {H H' : Hp}
/-- a value whose kind is known -/
def Kd (K : PySem.W.Frag) (H : Hp) (x : V) : Prop := ∃ tv b1 b2, TyX K H x tv ∧ PySem.W.kitOne K tv (.type "int") = some b1 ∧ PySem.W.kitOne K tv (.type "bool") = some b2 ∧ (b1 && !b2) = isInt x
theorem Kd.ex {x : V} (e : Ex H H') (h : Kd K H x) : Kd K H' x := by
  obtain ⟨tv, b1, b2, h1, h2⟩ := h
  exact ⟨tv, b1, b2, tyx_ex e h1, h2⟩
theorem kd_int (i : Int) : Kd K H (.int i) := ⟨_, true, false, .base (.int i), kit_ty (by decide +kernel), kit_ty (by decide +kernel), rfl⟩
theorem kd_non : Kd K H .non := ⟨_, false, false, .base .non, kit_ty (by decide +kernel), kit_ty (by decide +kernel), rfl⟩
theorem kd_bl (b : Bool) : Kd K H (.bl b) := ⟨_, true, true, .base (.bl b), kit_ty (by decide +kernel), kit_ty (by decide +kernel), rfl⟩
theorem kd_str (z : Str) : Kd K H (.str z) := ⟨_, false, false, .base (.str z), kit_ty (by decide +kernel), kit_ty (by decide +kernel), rfl⟩
theorem kd_lst {a : Addr} {xs : List V} (h : H a = some (.lst xs)) : Kd K H (.ref a) := ⟨_, false, false, .base (.lst h), kit_ty (by decide +kernel), kit_ty (by decide +kernel), rfl⟩
theorem kd_tup {a : Addr} {xs : List V} (h : H a = some (.tup xs)) : Kd K H (.ref a) := ⟨_, false, false, .base (.tup h), kit_ty (by decide +kernel), kit_ty (by decide +kernel), rfl⟩
theorem kd_o : ∀ x : Option Int, Kd K H (oV x)
  | none => kd_non
  | some i => kd_int i
theorem kd_pV {xs : List (Option Int)} {x : V} (h : x ∈ pV xs) : Kd K H x := by
  obtain ⟨o, _, rfl⟩ := List.mem_map.mp h
  exact kd_o o
end
/-! ### the script's cells -/
def cell (ns : List Int) (k : Nat) : Int := if k < ns.length then (ns.getD k 0 * 48271 + 7919 * (k : Int) + 13) % 1000003 else 7919 * (k : Int) % 1000003
theorem cell_ge (ns : List Int) (k : Nat) : 0 ≤ cell ns k := by
  unfold cell; split <;> omega
theorem cell_lt (ns : List Int) (k : Nat) : cell ns k < 1000003 := by
  unfold cell; split <;> omega
def spCel (K : PySem.W.Frag) : Sp := fun vs H Q _ => ∃ (a : Addr) (ns : List Int) (k : Nat), vs = [.ref a, .int k] ∧ SqL K H a (ns.map V.int) ∧ ∀ H', Ex H H' → Q (.int (cell ns k)) H'
def spWhole (K : PySem.W.Frag) : Sp := fun vs H Q _ => ∃ (x : V), vs = [x] ∧ Kd K H x ∧ ∀ H', Ex H H' → Q (.bl (isInt x)) H'
section
variable {K : PySem.W.Frag} {H : Hp}
theorem sv_cell {a : Addr} {ns : List Int} {i : Int} (k : Nat) (hi : i = (k : Int)) (h : SqL K H a (ns.map V.int)) : SpV (spCel K) [.ref a, .int i] H (.int (cell ns k)) := fun H1 e Q q E => ⟨a, ns, k, by rw [hi], ex_l e h, q⟩
theorem sv_whole {x : V} (h : Kd K H x) : SpV (spWhole K) [x] H (.bl (isInt x)) := fun H1 e Q q E => ⟨x, rfl, h.ex e, q⟩
end
/-! ### the tree that the script tells -/
/-- the greatest number of knots is 160 -/
def spParents (K : PySem.W.Frag) : Sp := fun vs H Q _ => ∃ (a : Addr) (ns : List Int), vs = [.ref a] ∧ SqL K H a (ns.map V.int) ∧ ∀ P : List Int, Good P → P.length < 160 → ∀ p H', H p = none → Ex H H' → H' p = some (.lst (pV (par P))) → Q (.ref p) H'
def spBits (K : PySem.W.Frag) : Sp := fun vs H Q _ => ∃ (a : Addr) (P : List Int), vs = [.ref a] ∧ SqL K H a (pV (par P)) ∧ Good P ∧ P.length < 2000 ∧ ∀ H', Ex H H' → Q (.str (txt (full P))) H'
/-! ### which lists are those of trees -/
theorem pV_inj : ∀ {a b : List (Option Int)}, pV a = pV b → a = b
  | [], [], _ => rfl
  | [], _ :: _, h => by cases h
  | _ :: _, [], h => by cases h
  | x :: a, y :: b, h => by
    have h' : oV x :: pV a = oV y :: pV b := h
    injection h' with h1 h2
    rw [oV_inj h1, pV_inj h2]
theorem par_inj {P Q : List Int} (h : par P = par Q) : P = Q := by
  have h' : (none : Option Int) :: P.map some = none :: Q.map some := h
  injection h' with _ h2
  have h3 := congrArg (List.map (fun o : Option Int => o.getD 0)) h2
  rw [List.map_map, List.map_map] at h3
  have e : ((fun o : Option Int => o.getD 0) ∘ some) = id := rfl
  rw [e, List.map_id, List.map_id] at h3
  exact h3
def IsTree (xs : List V) (P : List Int) : Prop := xs = pV (par P) ∧ Good P ∧ P.length < 2000
theorem IsTree.uniq {xs : List V} {P Q : List Int} (h : IsTree xs P) (h2 : IsTree xs Q) : P = Q := par_inj (pV_inj (h.1.symm.trans h2.1))
open Classical in
noncomputable def bitsV (xs : List V) : Option (List Bool) := if h : ∃ P, IsTree xs P then some (full h.choose) else none
theorem bitsV_some {xs : List V} {P : List Int} (h : IsTree xs P) : bitsV xs = some (full P) := by
  have hx : ∃ P, IsTree xs P := ⟨P, h⟩
  unfold bitsV
  rw [dif_pos hx, hx.choose_spec.uniq h]
theorem bitsV_none {xs : List V} (h : ∀ P, ¬ IsTree xs P) : bitsV xs = none := by
  unfold bitsV
  rw [dif_neg (fun ⟨P, z⟩ => h P z)]
def resV : Option (List Bool) → V
  | some bs => .str (txt bs)
  | none => .non
/-- a thing, and the bits that it tells, if any -/
def Th (K : PySem.W.Frag) (H : Hp) (x : V) (r : Option (List Bool)) : Prop :=
  (∃ (a : Addr) (xs : List V), x = .ref a ∧ H a = some (.lst xs) ∧ xs.length ≤ 4000 ∧ (∀ y ∈ xs, Kd K H y) ∧ r = bitsV xs) ∨ (∃ tv, TyX K H x tv ∧ PySem.W.kitOne K tv (.type "list") = some false ∧ r = none)
theorem Th.ex {K : PySem.W.Frag} {H H' : Hp} {x : V} {r : Option (List Bool)} (e : Ex H H') (h : Th K H x r) : Th K H' x r := by
  rcases h with ⟨a, xs, h1, h2, h3, h4, h5⟩ | ⟨tv, h1, h2, h3⟩
  · exact .inl ⟨a, xs, h1, e _ _ h2, h3, fun y hy => (h4 y hy).ex e, h5⟩
  · exact .inr ⟨tv, tyx_ex e h1, h2, h3⟩
theorem th_tree {K : PySem.W.Frag} {H : Hp} {a : Addr} {P : List Int} (h : H a = some (.lst (pV (par P)))) (hg : Good P) (hl : P.length < 2000) : Th K H (.ref a) (some (full P)) :=
  .inl ⟨a, _, rfl, h, by rw [pV_len, par_len]; omega, fun y hy => kd_pV hy, (bitsV_some ⟨rfl, hg, hl⟩).symm⟩
def spBitsOf (K : PySem.W.Frag) : Sp := fun vs H Q _ => ∃ (x : V) (r : Option (List Bool)), vs = [x] ∧ Th K H x r ∧ ∀ H', Ex H H' → Q (resV r) H'
def spPressed (K : PySem.W.Frag) (C : Addr) : Sp := fun vs H Q E => ∃ (x : V) (r : Option (List Bool)), vs = [x] ∧ Th K H x r ∧ (∀ bs, r = some bs → ∀ H', Ex H H' → Q (.str (txt bs)) H') ∧ (r = none → ∀ H', Ex H H' → E (.ref C) none H')
def spIsTree (K : PySem.W.Frag) : Sp := fun vs H Q _ => ∃ (x : V) (r : Option (List Bool)), vs = [x] ∧ Th K H x r ∧ ∀ H', Ex H H' → Q (.bl r.isSome) H'
section
variable {K : PySem.W.Frag} {H : Hp}
theorem sv_bitsOf {x : V} {r : Option (List Bool)} (h : Th K H x r) : SpV (spBitsOf K) [x] H (resV r) := fun H1 e Q q E => ⟨x, r, rfl, h.ex e, q⟩
theorem sv_isTree {x : V} {r : Option (List Bool)} (h : Th K H x r) : SpV (spIsTree K) [x] H (.bl r.isSome) := fun H1 e Q q E => ⟨x, r, rfl, h.ex e, q⟩
theorem sv_pressed {x : V} {C : Addr} {bs : List Bool} (h : Th K H x (some bs)) : SpV (spPressed K C) [x] H (.str (txt bs)) := fun H1 e Q q E => ⟨x, _, rfl, h.ex e, fun b hb => by cases hb; exact q, fun z => nomatch z⟩
theorem sv_bits {a : Addr} {P : List Int} (h : SqL K H a (pV (par P))) (hg : Good P) (hl : P.length < 2000) : SpV (spBits K) [.ref a] H (.str (txt (full P))) := fun H1 e Q q E => ⟨a, P, rfl, ex_l e h, hg, hl, q⟩
end
theorem pop_to : ∀ (st : List Int) (p : Int), ∃ J, J ≤ st.length ∧ (∀ j, j < J → ∃ q, st[j]? = some q ∧ q ≠ p) ∧ ((J = st.length ∧ p ∉ st) ∨ st[J]? = some p)
  | [], p => ⟨0, Nat.le_refl _, fun j h => absurd h (Nat.not_lt_zero _), .inl ⟨rfl, by simp⟩⟩
  | a :: st, p => by
    by_cases h : a = p
    · exact ⟨0, Nat.zero_le _, fun j h => absurd h (Nat.not_lt_zero _), .inr (by rw [h]; rfl)⟩
    · obtain ⟨J, h1, h2, h3⟩ := pop_to st p
      refine ⟨J + 1, Nat.succ_le_succ h1, fun j hj => ?_, ?_⟩
      · cases j with
        | zero => exact ⟨a, rfl, h⟩
        | succ j =>
          obtain ⟨q, e1, e2⟩ := h2 j (Nat.lt_of_succ_lt_succ hj)
          exact ⟨q, by simpa using e1, e2⟩
      · rcases h3 with ⟨h3, h4⟩ | h3
        · refine .inl ⟨by rw [h3]; rfl, fun z => ?_⟩
          rcases List.mem_cons.mp z with z | z
          · exact h z.symm
          · exact h4 z
        · exact .inr (by simpa using h3)
theorem drop_cons {st : List Int} {j : Nat} {q : Int} (h : st[j]? = some q) : st.drop j = q :: st.drop (j + 1) := by
  obtain ⟨h1, h2⟩ := List.getElem?_eq_some_iff.mp h
  rw [List.drop_eq_getElem_cons h1, h2]
/-- what has been walked of a list is a tree -/
structure Pre (xs : List V) (i : Nat) (P : List Int) : Prop where
  tk : xs.take (i + 1) = pV (par P)
  ln : P.length = i
  gd : Good P
theorem take_pV (P : List Int) (i : Nat) : (pV (par P)).take (i + 1) = pV (par (P.take i)) := by
  unfold pV par
  rw [List.map_cons, List.take_succ_cons, List.map_cons, List.map_take, List.map_take]
theorem Pre.of {xs : List V} {i : Nat} {P Q : List Int} (h : Pre xs i P) (hq : xs = pV (par Q)) : Q.take i = P := by
  have e := h.tk
  rw [hq, take_pV] at e
  exact par_inj (pV_inj e)
theorem pV_at (P : List Int) (i : Nat) : (pV (par P))[i + 1]? = P[i]?.map V.int := by
  unfold pV par
  rw [List.map_cons, List.getElem?_cons_succ, List.map_map, List.getElem?_map]
  rfl
theorem Pre.no {xs : List V} {i : Nat} {P : List Int} (h : Pre xs i P) {y : V} (hy : xs[i + 1]? = some y) (hn : isInt y = false) : bitsV xs = none := bitsV_none fun Q ⟨hq, _, _⟩ => by
  rw [hq, pV_at] at hy
  cases e : Q[i]? with
  | none => rw [e] at hy; cases hy
  | some p =>
    rw [e] at hy
    cases hy
    cases hn
theorem Pre.off {xs : List V} {i : Nat} {P : List Int} (h : Pre xs i P) {p : Int} (hy : xs[i + 1]? = some (.int p)) (hn : p ∉ (run P).st) : bitsV xs = none := bitsV_none fun Q ⟨hq, hg, _⟩ => by
  have e := h.of hq
  rw [hq, pV_at] at hy
  cases e2 : Q[i]? with
  | none => rw [e2] at hy; cases hy
  | some r =>
    rw [e2] at hy
    have e3 : r = p := V.int.inj (Option.some.inj hy)
    subst e3
    have z := hg i r e2
    rw [e] at z
    exact hn z
theorem Pre.more {xs : List V} {i : Nat} {P : List Int} (h : Pre xs i P) {p : Int} (hy : xs[i + 1]? = some (.int p)) (hn : p ∈ (run P).st) : Pre xs (i + 1) (P ++ [p]) :=
  ⟨by rw [take_more hy, h.tk, par_app, pV_app], by rw [List.length_append, h.ln]; rfl, h.gd.app hn⟩
theorem Pre.all {xs : List V} {i : Nat} {P : List Int} (h : Pre xs i P) (hl : xs.length ≤ i + 1) (h2 : xs.length ≤ 2000) : bitsV xs = some (full P) := by
  have e := h.tk
  rw [List.take_of_length_le hl] at e
  refine bitsV_some ⟨e, h.gd, ?_⟩
  have e2 := congrArg List.length e
  rw [pV_len, par_len] at e2
  omega
theorem no_first {xs : List V} {y : V} (hy : xs[0]? = some y) (hn : y ≠ .non) : bitsV xs = none := bitsV_none fun Q ⟨hq, _, _⟩ => by
  rw [hq] at hy
  exact hn (Option.some.inj hy).symm
theorem no_size {xs : List V} (h : ¬ (1 ≤ xs.length ∧ xs.length ≤ 2000)) : bitsV xs = none := bitsV_none fun Q ⟨hq, _, hl⟩ => by
  have e2 := congrArg List.length hq
  rw [pV_len, par_len] at e2
  omega
/-- the pieces of the text so far -/
def Pcs (H0 H : Hp) (a : Addr) (bs : List Bool) : Prop := ∃ ys : List Str, Own H0 H a (ys.map V.str) ∧ catS ys = codes bs ∧ ys.length ≤ bs.length
section
variable {H0 H H' : Hp} {a b : Addr} {bs cs : List Bool} {o : HO}
theorem Pcs.ex (h : Pcs H0 H a bs) (e : Ex H H') : Pcs H0 H' a bs := by
  obtain ⟨ys, h1, h2⟩ := h
  exact ⟨ys, h1.ex e, h2⟩
theorem Pcs.off (h : Pcs H0 H a bs) (n : a ≠ b) : Pcs H0 (upd H b o) a bs := by
  obtain ⟨ys, h1, h2⟩ := h
  exact ⟨ys, h1.off n, h2⟩
theorem pcs_add {ys : List Str} (n : H0 a = none) (h2 : catS ys = codes bs) (h3 : ys.length ≤ bs.length) (hc : 1 ≤ cs.length) : Pcs H0 (upd H a (.lst (ys.map V.str ++ [.str (txt cs)]))) a (bs ++ cs) :=
  ⟨ys ++ [txt cs], ⟨n, by rw [upd_same, List.map_append]; rfl⟩, by rw [catS_app, h2, catS_one, txt_cps, codes_app], by rw [List.length_append, List.length_append, List.length_singleton]; omega⟩
end
section
variable {σ : L2.St} {H : Hp} {te : TE} {D : Ends} {tu tz : TS}
/-- a for over a text's signs -/
theorem s_forS {z : Str} {j : Nat} (h : Ev te σ H (.str z)) (Pv : Nat → L2.St → Hp → Prop) (h0 : ∀ H1, Ex H H1 → Pv 0 σ H1)
    (hs : ∀ i c σ' H', z.cps.toList[i]? = some c → Pv i σ' H' → tu { D with nx := Pv (i + 1), ct := Pv (i + 1), bk := D.nx } (σ'.set j (some (.str ⟨#[c]⟩))) H') (hd : ∀ σ' H', Pv z.length σ' H' → D.nx σ' H') : tFor (iStr te) (gName j) tu D σ H :=
  h H (Ex.refl H) _ fun H1 e => ⟨z, rfl, fun i m σ H => m = z.cps.size - i ∧ i ≤ z.cps.size ∧ Pv i σ H, ⟨_, rfl, Nat.zero_le _, h0 H1 e⟩, by
    rintro i m σ H ⟨rfl, hi, p⟩
    by_cases hlt : i < z.cps.size
    · refine .inr ⟨hlt, Pv (i + 1), fun σ' H' p' => ⟨z.cps.size - (i + 1), by omega, rfl, hlt, p'⟩, fun x H' y => ?_⟩
      obtain ⟨e, c, hc, y⟩ := y
      subst e y
      exact hs i c σ _ (by rw [Array.getElem?_toList]; exact hc) p
    · have e : i = z.cps.size := by omega
      subst e
      exact .inl ⟨Nat.le_refl _, hd σ H p⟩⟩
theorem q_forS {z : Str} {j : Nat} (h : Ev te σ H (.str z)) (Pv : Nat → L2.St → Hp → Prop) (h0 : ∀ H1, Ex H H1 → Pv 0 σ H1)
    (hs : ∀ i c σ' H', z.cps.toList[i]? = some c → Pv i σ' H' → tu { D with nx := Pv (i + 1), ct := Pv (i + 1), bk := tz D } (σ'.set j (some (.str ⟨#[c]⟩))) H') (hd : ∀ σ' H', Pv z.length σ' H' → tz D σ' H') : tSeq (tFor (iStr te) (gName j) tu) tz D σ H :=
  s_forS (D := { D with nx := tz D }) h Pv h0 hs hd
end
/-- a thing, and the parents that its signs tell, if any -/
def Tx (K : PySem.W.Frag) (H : Hp) (x : V) (r : Option (List (Option Int))) : Prop :=
  (∃ z : Str, x = .str z ∧ z.length ≤ 90000 ∧ r = readM z.cps.toList) ∨ (∃ tv, TyX K H x tv ∧ PySem.W.kitOne K tv (.type "str") = some false ∧ r = none)
theorem Tx.ex {K : PySem.W.Frag} {H H' : Hp} {x : V} {r : Option (List (Option Int))} (e : Ex H H') (h : Tx K H x r) : Tx K H' x r := by
  rcases h with h | ⟨tv, h1, h2, h3⟩
  · exact .inl h
  · exact .inr ⟨tv, tyx_ex e h1, h2, h3⟩
theorem tx_full {K : PySem.W.Frag} {H : Hp} {P : List Int} (hg : Good P) (hl : P.length < 2000) : Tx K H (.str (txt (full P))) (some (par P)) :=
  .inl ⟨_, rfl, by rw [txt_len, full_len]; omega, by rw [txt_cps, readM_full hg hl]⟩
def spParentsOf (K : PySem.W.Frag) : Sp := fun vs H Q _ => ∃ (x : V) (r : Option (List (Option Int))), vs = [x] ∧ Tx K H x r ∧ (r = none → ∀ H', Ex H H' → Q .non H') ∧ (∀ ps, r = some ps → ∀ p H', H p = none → Ex H H' → H' p = some (.lst (pV ps)) → Q (.ref p) H')
def spPlain (K : PySem.W.Frag) (C : Addr) : Sp := fun vs H Q E => ∃ (x : V) (r : Option (List (Option Int))), vs = [x] ∧ Tx K H x r ∧ (r = none → ∀ H', Ex H H' → E (.ref C) none H') ∧ (∀ ps, r = some ps → ∀ p H', H p = none → Ex H H' → H' p = some (.lst (pV ps)) → Q (.ref p) H')
section
variable {K : PySem.W.Frag} {H : Hp}
theorem sl_plain {x : V} {C : Addr} {ps : List (Option Int)} (h : Tx K H x (some ps)) : SpL (spPlain K C) [x] H (pV ps) := fun H1 e Q q E => ⟨x, some ps, rfl, h.ex e, (fun z => nomatch z), (fun b hb => by cases hb; exact q)⟩
end
theorem readGo_bad {ps : List (Option Int)} {st : List Int} {c : Nat} {r : List Nat} (h : ps ≠ [] ∧ st = []) : readGo ps st (c :: r) = none := by
  show (if ps ≠ [] ∧ st = [] then none else _) = _
  rw [if_pos h]
theorem readGo_0 {ps : List (Option Int)} {st : List Int} {r : List Nat} (h : ¬ (ps ≠ [] ∧ st = [])) (h2 : st ≠ []) : readGo ps st (48 :: r) = readGo ps st.tail r := by
  show (if ps ≠ [] ∧ st = [] then none else if (48 : Nat) = 49 then _ else if (48 : Nat) = 48 then (if st = [] then none else readGo ps st.tail r) else none) = _
  rw [if_neg h, if_neg (by decide), if_pos rfl, if_neg h2]
theorem readGo_no {ps : List (Option Int)} {st : List Int} {c : Nat} {r : List Nat} (h1 : c ≠ 49) (h2 : ¬ (c = 48 ∧ st ≠ [])) : readGo ps st (c :: r) = none := by
  show (if ps ≠ [] ∧ st = [] then none else if c = 49 then _ else if c = 48 then (if st = [] then none else readGo ps st.tail r) else none) = _
  rw [if_neg h1]
  by_cases h : ps ≠ [] ∧ st = []
  · rw [if_pos h]
  · rw [if_neg h]
    by_cases h3 : c = 48
    · rw [if_pos h3, if_pos (by
        by_cases h4 : st = []
        · exact h4
        · exact absurd ⟨h3, h4⟩ h2)]
    · rw [if_neg h3]
theorem readM_no {cs : List Nat} (h : ¬ (1 ≤ cs.length ∧ cs.length ≤ 4000)) : readM cs = none := by
  unfold readM
  rw [if_pos (by omega)]
theorem readM_go {cs : List Nat} (h : 1 ≤ cs.length ∧ cs.length ≤ 4000) : readM cs = readGo [] [] cs := by
  unfold readM
  rw [if_neg (by omega)]
theorem sign_1 (c : Nat) : decide (V.str ⟨#[c]⟩ = V.str (Str.ofString "1")) = decide (c = 49) := by
  have e : Str.ofString "1" = ⟨#[49]⟩ := by decide +kernel
  rw [e]
  by_cases h : c = 49
  · subst h; simp
  · simp [h]
theorem sign_0 (c : Nat) : decide (V.str ⟨#[c]⟩ = V.str (Str.ofString "0")) = decide (c = 48) := by
  have e : Str.ofString "0" = ⟨#[48]⟩ := by decide +kernel
  rw [e]
  by_cases h : c = 48
  · subst h; simp
  · simp [h]
theorem pV_emp (ps : List (Option Int)) : (pV ps).isEmpty = ps.isEmpty := by cases ps <;> rfl
theorem pV_app' (xs : List (Option Int)) (o : Option Int) : pV (xs ++ [o]) = pV xs ++ [oV o] := by unfold pV; rw [List.map_append]; rfl
section
variable {σ : L2.St} {H : Hp} {ta : TA} {D : Ends} {tz : TS} {sp : Sp} {vs dvs : List V} {E : XK} {i : Nat}
/-- x = f(..), by the promise of f itself -/
theorem q_asgC (h : EvA ta σ H vs) (hs : ∀ H1, Ex H H1 → sp (vs ++ dvs) H1 (fun v H2 => tz D (σ.set i (some v)) H2) E) : tSeq (tAsg (tCall sp dvs E ta) (gName i)) tz D σ H :=
  h H (Ex.refl H) _ fun H1 e => hs H1 e
theorem s_asgC (h : EvA ta σ H vs) (hs : ∀ H1, Ex H H1 → sp (vs ++ dvs) H1 (fun v H2 => D.nx (σ.set i (some v)) H2) E) : tAsg (tCall sp dvs E ta) (gName i) D σ H :=
  h H (Ex.refl H) _ fun H1 e => hs H1 e
theorem s_retC (h : EvA ta σ H vs) (hs : ∀ H1, Ex H H1 → sp (vs ++ dvs) H1 D.rt E) : tRet (tCall sp dvs E ta) D σ H :=
  h H (Ex.refl H) _ fun H1 e => hs H1 e
theorem e_opC {r : R2} {tb : TE} {Q : VK} (h : EvA ta σ H vs) (hs : ∀ H1, Ex H H1 → sp (vs ++ dvs) H1 (fun x H2 => tb σ H2 (fun y H3 => r x y H3 Q)) E) : tOp r (tCall sp dvs E ta) tb σ H Q :=
  h H (Ex.refl H) _ fun H1 e => hs H1 e
end
def spLaw (K : PySem.W.Frag) : Sp := fun vs H Q _ => ∃ (a : Addr) (ns : List Int), vs = [.ref a] ∧ SqL K H a (ns.map V.int) ∧ ns.length ≤ 63 ∧ ∀ H', Q (.bl true) H'
theorem rv_eqNil {K : PySem.W.Frag} {H : Hp} {a b : Addr} {st : List Int} (h1 : SqL K H a (stk st)) (h2 : SqL K H b []) : RV (rEqD K) (.ref a) (.ref b) H (.bl (decide (st = []))) := by
  have h := rv_eqD (H := H) (x := .ref a) (y := .ref b) (.lst h1 (dpAll_int st.reverse)) (.lst h2 .nil) (shaped_int _) shaped_nil
  rw [eqv_nil] at h
  have e : decide (st.reverse = []) = decide (st = []) := by cases st <;> simp
  rw [e] at h
  exact h
section
variable {K : PySem.W.Frag} {σ : L2.St} {H : Hp} {ta tb te : TE} {tr : TA} {Q : List V → Hp → Prop} {R : VK} {x : V} {ys : List V} {D : Ends} {tz : TS} {i : Nat} {r : R2}
theorem e_cons (h : Ev ta σ H x) (k : ∀ H1, Ex H H1 → tr σ H1 (fun xs H2 => Q (x :: xs) H2)) : tCons ta tr σ H Q := h H (Ex.refl H) _ k
theorem e_consL (h : EvL ta σ H ys) (k : ∀ p H1, H p = none → Ex H H1 → H1 p = some (.lst ys) → tr σ H1 (fun xs H2 => Q (.ref p :: xs) H2)) : tCons ta tr σ H Q := h H (Ex.refl H) _ k
theorem e_consU (h : EvU ta σ H ys) (k : ∀ p H1, H p = none → Ex H H1 → H1 p = some (.tup ys) → tr σ H1 (fun xs H2 => Q (.ref p :: xs) H2)) : tCons ta tr σ H Q := h H (Ex.refl H) _ k
theorem e_consX (h : ta σ H (fun x H1 => tr σ H1 (fun xs H2 => Q (x :: xs) H2))) : tCons ta tr σ H Q := h
theorem e_consD (k : ∀ p H1, H p = none → Ex H H1 → H1 p = some (.dK []) → tr σ H1 (fun xs H2 => Q (.ref p :: xs) H2)) : tCons tDNewK tr σ H Q := fun p np => k p _ np (Ex.new np) upd_same
theorem e_nil (h : Q [] H) : tNil σ H Q := h
theorem e_lst (h : tr σ H (fun xs H1 => xs.length ≤ sizeLine ∧ ∀ p, H1 p = none → R (.ref p) (upd H1 p (.lst xs)))) : tLst tr σ H R := h
theorem q_asgX (h : te σ H (fun x H1 => tz D (σ.set i (some x)) H1)) : tSeq (tAsg te (gName i)) tz D σ H := h
theorem s_retX (h : te σ H D.rt) : tRet te D σ H := h
theorem e_op (h : ta σ H (fun x H1 => tb σ H1 (fun y H2 => r x y H2 R))) : tOp r ta tb σ H R := h
theorem eu_tupleL {a : Addr} (h : Ev ta σ H (.ref a)) (hs : SqL K H a ys) : EvU (tCB (fun xs H Q => ∃ p ys, xs = [.ref p] ∧ ((SqL K H p ys ∧ ∀ l, H l = none → Q (.ref l) (upd H l (.tup ys))) ∨ (SqT K H p ys ∧ Q (.ref p) H))) (tCons ta tNil)) σ H ys := fun H1 e Q q =>
  h H1 e _ fun H2 e2 => ⟨a, ys, rfl, .inl ⟨ex_l (e.trans e2) hs, fun l hl => q l _ (fresh_back e2 hl) (e2.trans (Ex.new hl)) upd_same⟩⟩
end
end KB
namespace KB
open PySem L2 Evl
section
variable {X : Cx} {a D : Addr} {oe : Obj} {cls : Value} {d : Option Addr} {pn : List (Addr × Obj)}
def rIsC (K : PySem.W.Frag) (D a : Addr) (cls : Value) (d : Option Addr) : List V → Hp → VK → Prop := fun xs H Q => cls = .ref D ∧ d = none ∧ rIsE K D a xs H Q
theorem call_isC (C : ExcC X.K D) (hz : Zc cls d oe) (hf : ∃ vs, oe.data = .fields vs) : CallR (X.suite a ((a, oe) :: pn)) (.builtin "isinstance") (rIsC X.K D a cls d) := by
  intro pins s σ H xs us Q I r h
  obtain ⟨e1, e2, h⟩ := h
  subst e1 e2
  exact call_isE C hz hf pins s σ H xs us Q I r h
end
section
variable {K : PySem.W.Frag} {σ : L2.St} {H : Hp} {ta tb : TE} {D : Ends} {W : WX} {sp : Sp} {vs : List V} {args : TA}
theorem ev_isC {Dd a : Addr} {c : V} {cv : Value} {b : Bool} (h1 : Ev ta σ H (.ref a)) (h2 : Ev tb σ H c) (hc : ∀ u, RelV c u → u = cv) (hb : PySem.W.kitOne K (.ref Dd) cv = some b) : Ev (tCB (rIsC K Dd a (.ref Dd) none) (tCons ta (tCons tb tNil))) σ H (.bl b) := fun H1 e _ q =>
  h1 H1 e _ fun H2 e2 => h2 H2 (e.trans e2) _ fun H3 e3 => ⟨rfl, rfl, c, cv, b, rfl, hc, hb, q H3 (e2.trans e3)⟩
/-- return f(..) within a try, f may raise -/
theorem s_retS (h : EvA args σ H vs) (hs : ∀ H1, Ex H H1 → sp vs H1 D.rt (WE W σ)) : tRet (tCallS sp (WE W) args) D σ H := h H (Ex.refl H) _ fun H1 e => hs H1 e
theorem s_dropS (h : EvA args σ H vs) (hs : ∀ H1, Ex H H1 → sp vs H1 (fun _ H2 => D.nx σ H2) (WE W σ)) : tDrop (tCallS sp (WE W) args) D σ H := h H (Ex.refl H) _ fun H1 e => hs H1 e
end
theorem kit_ref {K : PySem.W.Frag} {t : Value} {C : Addr} {b : Bool} (hd : PySem.W.hasDictIn K C = true) (ht : PySem.W.typeIn K (.ref C) = some (.type "type")) (h : PySem.W.subIn K t (.ref C) = some b) (hne : (t == .ref C) = true → b = true) : PySem.W.kitOne K t (.ref C) = some b := by
  unfold PySem.W.kitOne
  by_cases e : (t == .ref C) = true
  · rw [if_pos e, hne e]
  · rw [if_neg e]
    obtain ⟨cd, hc, _⟩ := PySem.W.any_some hd
    show (if ((PySem.W.clsIn K C).isSome && PySem.W.typeIn K (.ref C) == some (.type "type")) = true then PySem.W.subIn K t (.ref C) else none) = some b
    rw [hc, ht, if_pos (by rfl)]
    exact h
theorem kit_tyD {K : PySem.W.Frag} {C : Addr} {T : String} {b : Bool} (h : PySem.W.subIn K (.ref C) (.type T) = some b) (hm : PySem.W.kitMeta T = true) : PySem.W.kitOne K (.ref C) (.type T) = some b := by
  unfold PySem.W.kitOne
  rw [if_neg (by intro z; cases z)]
  show (if PySem.W.kitMeta T = true then PySem.W.subIn K (.ref C) (.type T) else none) = some b
  rw [if_pos hm]
  exact h
theorem kit_other {K : PySem.W.Frag} {D C : Addr} (hD : PySem.W.subIn K (.ref D) (.ref D) = some true) (hd : PySem.W.hasDictIn K C = true) (ht : PySem.W.typeIn K (.ref C) = some (.type "type")) (h : PySem.W.subIn K (.ref D) (.ref C) = some false) : PySem.W.kitOne K (.ref D) (.ref C) = some false := by
  refine kit_ref hd ht h fun z => ?_
  have e : Value.ref D = Value.ref C := by simpa using z
  cases e
  rw [hD] at h
  cases h
end KB
namespace KB
open PySem PySem.Spec PyProof.Rows L2 Evl
/-! ### a method, a new instance, within a try: what is raised is wished for at the caller's slots -/
section
variable {X : Cx} {CX : CXT} {k : Nat} {f C : Addr} {fd : FuncData} {ps : List Str} {sp : Sp} {E : L2.St → XK} {x m : Str} {p pos apos : Pos} {e o : Expr} {es : List Expr} {ta : TE} {t : TA}
def tMethX (C : Addr) (m : Str) (sp : Sp) (E : L2.St → XK) (ta : TE) (t : TA) : TE := fun σ H Q => ta σ H fun x H1 => ∃ a dx fs, x = .ref a ∧ H1 a = some (.ins C dx fs) ∧ fs.lookup m = none ∧ t σ H1 fun vs H2 => sp (x :: vs) H2 Q (E σ)
theorem pe_methX {pl : Sem Bool} (he : PE X o ta) (c : Cls X.K C) (hm : Meth X.K C m f) (F : FnOk X.prog X.w X.K X.mg X.base CX k f fd ps sp) (hr : Room k X.A) (hb : Binds X.K fd ps []) (hx : ∀ σ, PassesAt CX X σ (E σ)) (ha : PA X (e :: es) t)
    (hst : starEach (e :: es) X.env = (false, eval e X.env) :: starEach es X.env := by rfl) (hpl : (backTo pos (starEach es X.env)).any (·.1) = false := by rfl)
    (ht : eval (.Call (.Attribute o m apos) (e :: es) [] pos) X.env = (do
      let ov ← eval o X.env
      standAt apos.atName
      let (f, first) ← holding [ov] (getMethod ov m pl)
      callWith pos f first (backTo pos (starEach (e :: es) X.env)) (backToKw pos (keywordEach [] X.env))) := by rfl) :
    PE X (.Call (.Attribute o m apos) (e :: es) [] pos) (tMethX C m sp E ta t) := by
  refine ⟨fun pins s σ H Q I h => ?_⟩
  refine PySem.W.methodCall_KW (pl := pl) (thn (he.run pins s σ H _ I h) fun u s1 ⟨x, H1, I1, rx, a, dx, fs, ex, ea, l, q⟩ => ?_) ht
  subst ex
  obtain rfl : u = Value.ref a := rx
  refine getmeth_ok I1 ea c hm l ?_
  refine PySem.W.callWith_K (first := [.ref a]) (h₀ := X.base) I.ok.mod.kin hm.kp (thn (ha.run pos pins s1 σ H1 _ I1 q) fun us s2 ⟨vs, H2, I2, r, q2⟩ => ⟨I2.kIn, ?_⟩) hst hpl
  exact run_fnS (us := .ref a :: us) (vs := .ref a :: vs) F hr hb (hx σ) I2 (.cons rfl r) q2
def tMakeX (C : Addr) (sp : Sp) (E : L2.St → XK) (t : TA) : TE := fun σ H Q => t σ H fun vs H1 => ∀ x dx, H1 x = none → H1 dx = none → dx ≠ x → sp (.ref x :: vs) (upd (upd H1 dx (.own x)) x (.ins C dx [])) (fun v H2 => v = .non ∧ Q (.ref x) H2) (E σ)
theorem run_makeX {pins : List (Addr × Obj)} {σ : L2.St} {H : Hp} {s : Shared} {Q : VK} {us : List Value} {vs : List V} {E1 : XK} (M : Mk X.K C f) (F : FnOk X.prog X.w X.K X.mg X.base CX k f fd ps sp) (hr : Room (k + 1) X.A) (hb : Binds X.K fd ps [])
    (hx : PassesAt CX X σ E1) (I : Inv X pins σ H s) (r : Vals vs us)
    (h : ∀ x dx, H x = none → H dx = none → dx ≠ x → sp (.ref x :: vs) (upd (upd H dx (.own x)) x (.ins C dx [])) (fun v H2 => v = .non ∧ Q (.ref x) H2) E1) :
    wpAny (model X.prog X.w) X.A (call (.ref C) us) (EP X pins σ Q) X.xe s := by
  have hq := h (s.heap.objs.size + 1) s.heap.objs.size (I.hok.fresh (Nat.le_succ _)) (I.hok.fresh (Nat.le_refl _)) (Nat.ne_of_lt (Nat.lt_succ_self _))
  have I2 := Inv.made (C := C) I
  have r2 : Vals (V.ref (s.heap.objs.size + 1) :: vs) (Value.ref (s.heap.objs.size + 1) :: us) := .cons rfl r
  have hl : (Value.ref (s.heap.objs.size + 1) :: us).length = ps.length := by rw [← r2.length]; exact F.len _ _ _ _ hq
  have b := hb _ (Value.ref (s.heap.objs.size + 1) :: us) I2.kIn (by rw [List.append_nil]; exact hl)
  rw [List.append_nil] at b
  refine wpAny_call (make_map (f := f) I.kIn M.makes M.init (beq_iff_eq.mp M.fn) (codeAny_mono (F.run _ X.stack _ _ ⟨Value.ref (s.heap.objs.size + 1) :: us, []⟩ _ _ _ E1 (hr.make C us [])
    (I2.env0.make C us []) b r2 hq) fun r s' hq' => ?_))
  cases r with
  | error e => exact hx pins _ _ e s' I2 hq'
  | ok fl =>
    cases fl with
    | ret u =>
      obtain ⟨v, H', I3, rv, ev, q3⟩ := I2.after hq'
      subst ev
      exact ⟨rv, ⟨V.ref (s.heap.objs.size + 1), H', I3, rfl, q3⟩⟩
    | next => exact False.elim hq'
    | brk => exact False.elim hq'
    | cont => exact False.elim hq'
theorem pe_makeX (M : Mk X.K C f) (F : FnOk X.prog X.w X.K X.mg X.base CX k f fd ps sp) (hr : Room (k + 1) X.A) (hg : Gl X x) (hm : X.mg x = some (.ref C)) (hb : Binds X.K fd ps []) (hx : ∀ σ, PassesAt CX X σ (E σ))
    (ha : PA X (e :: es) t) (hdb : (x == ("__debug__" : Str)) = false := by decide) (he : starEach (e :: es) X.env = (false, eval e X.env) :: starEach es X.env := by rfl) (hpl : (backTo pos (starEach es X.env)).any (·.1) = false := by rfl) :
    PE X (.Call (.Name x p) (e :: es) [] pos) (tMakeX C sp E t) := by
  refine ⟨fun pins s σ H Q I h => ?_⟩
  refine wpAny_Call_Name_kw (ld_glob I hg hm ?_ hdb)
  refine PySem.W.callWith_K (h₀ := X.base) I.ok.mod.kin M.kp (thn (ha.run pos pins s σ H _ I h) fun us s1 ⟨vs, H1, I1, r, q⟩ => ⟨I1.kIn, ?_⟩) he hpl
  exact run_makeX M F hr hb (hx σ) I1 r q
end
end KB
namespace KB
open PySem L2 Evl
/-! ### the class Blocks -/
def bf (l n : Int) (pp td : Addr) : List (Str × V) := putF "_told" (.ref td) (putF "_parts" (.ref pp) (putF "size" (.int n) (putF "length" (.int l) [])))
theorem ne_ls : ¬ (("length" : Str) = "size") := by decide +kernel
theorem ne_lp : ¬ (("length" : Str) = "_parts") := by decide +kernel
theorem ne_lt : ¬ (("length" : Str) = "_told") := by decide +kernel
theorem ne_sp : ¬ (("size" : Str) = "_parts") := by decide +kernel
theorem ne_st : ¬ (("size" : Str) = "_told") := by decide +kernel
theorem ne_pt : ¬ (("_parts" : Str) = "_told") := by decide +kernel
section
variable {l n : Int} {pp td : Addr}
theorem bf_length : (bf l n pp td).lookup ("length" : Str) = some (.int l) := by
  unfold bf
  rw [lookup_putF, if_neg ne_lt, lookup_putF, if_neg ne_lp, lookup_putF, if_neg ne_ls, lookup_putF, if_pos rfl]
theorem bf_size : (bf l n pp td).lookup ("size" : Str) = some (.int n) := by
  unfold bf
  rw [lookup_putF, if_neg ne_st, lookup_putF, if_neg ne_sp, lookup_putF, if_pos rfl]
theorem bf_parts : (bf l n pp td).lookup ("_parts" : Str) = some (.ref pp) := by
  unfold bf
  rw [lookup_putF, if_neg ne_pt, lookup_putF, if_pos rfl]
theorem bf_told : (bf l n pp td).lookup ("_told" : Str) = some (.ref td) := by
  unfold bf
  rw [lookup_putF, if_pos rfl]
theorem bf_no {m : Str} (h1 : ¬ m = "_told") (h2 : ¬ m = "_parts") (h3 : ¬ m = "size") (h4 : ¬ m = "length") : (bf l n pp td).lookup m = none := by
  unfold bf
  rw [lookup_putF, if_neg h1, lookup_putF, if_neg h2, lookup_putF, if_neg h3, lookup_putF, if_neg h4]
  rfl
end
theorem putF_len (f : Str) (v : V) : ∀ fs : List (Str × V), (putF f v fs).length ≤ fs.length + 1
  | [] => Nat.le_refl _
  | (g, x) :: r => by
    show (if g = f then (g, v) :: r else (g, x) :: putF f v r).length ≤ _
    split
    · exact Nat.le_succ _
    · exact Nat.succ_le_succ (putF_len f v r)
theorem putF_lt {f : Str} {v : V} {fs : List (Str × V)} {k : Nat} (h : fs.length < k) : (putF f v fs).length < k + 1 := Nat.lt_of_le_of_lt (putF_len f v fs) (Nat.succ_lt_succ h)
/-! ### blocks of bits -/
def cnt (l n : Nat) : Nat := (l + n - 1) / n
def cutAt (z : Str) (n j : Nat) : Str := cutS z (some ((j : Int) * n)) (some ((j : Int) * n + n))
def parts (z : Str) (n : Nat) : List V := (List.range (cnt z.length n)).map fun j => V.str (cutAt z n j)
theorem parts_len (z : Str) (n : Nat) : (parts z n).length = cnt z.length n := by unfold parts; rw [List.length_map, List.length_range]
theorem parts_at {z : Str} {n j : Nat} (h : j < cnt z.length n) : (parts z n)[j]? = some (.str (cutAt z n j)) := by
  unfold parts
  rw [List.getElem?_map, List.getElem?_range h]
  rfl
theorem cnt_le (l n : Nat) (hn : 1 ≤ n) : cnt l n ≤ l := by
  unfold cnt
  rw [Nat.div_le_iff_le_mul_add_pred hn]
  have : l * 1 ≤ n * l := by rw [Nat.mul_comm n l]; exact Nat.mul_le_mul_left _ hn
  omega
theorem cnt_pos (l n : Nat) (hl : 1 ≤ l) (hn : 1 ≤ n) : 1 ≤ cnt l n := by
  unfold cnt
  exact (Nat.le_div_iff_mul_le hn).mpr (by omega)
theorem cnt_int (l n : Nat) (hl : 1 ≤ l) : ((l : Int) + n - 1) / n = ((cnt l n : Nat) : Int) := by
  unfold cnt
  rw [Int.natCast_ediv]
  congr 1
  omega
def addK (ks : List Nat) (j : Nat) : List Nat := if j ∈ ks then ks else ks ++ [j]
def dk (ks : List Nat) : List (Key × V) := ks.map fun (k : Nat) => (Sum.inl (k : Int), V.bl true)
theorem dk_put (ks : List Nat) (j : Nat) : putK (dk ks) (Sum.inl (j : Int)) (.bl true) = dk (addK ks j) := by
  unfold putK addK dk
  have h : ((ks.map fun (k : Nat) => ((Sum.inl (k : Int) : Key), V.bl true)).any fun kv => decide (kv.1 = (Sum.inl (j : Int) : Key))) = decide (j ∈ ks) := by
    rw [List.any_map]
    by_cases hj : j ∈ ks
    · rw [decide_eq_true hj, List.any_eq_true]
      exact ⟨j, hj, decide_eq_true rfl⟩
    · rw [decide_eq_false hj, List.any_eq_false]
      intro k hk
      have : ¬ ((Sum.inl (k : Int) : Key) = Sum.inl (j : Int)) := fun e => hj (by
        have e2 : (k : Int) = (j : Int) := Sum.inl.inj e
        have e3 : k = j := by omega
        rw [← e3]; exact hk)
      show ¬ decide ((Sum.inl (k : Int) : Key) = Sum.inl (j : Int)) = true
      rw [decide_eq_false this]
      exact Bool.false_ne_true
  rw [h]
  by_cases hj : j ∈ ks
  · rw [if_pos (decide_eq_true hj), if_pos hj, List.map_map]
    apply List.map_congr_left
    intro k _
    show (if (Sum.inl (k : Int) : Key) = Sum.inl (j : Int) then (Sum.inl (k : Int), V.bl true) else (Sum.inl (k : Int), V.bl true)) = _
    split <;> rfl
  · rw [if_neg (by rw [decide_eq_false hj]; exact Bool.false_ne_true), if_neg hj, List.map_append]
    rfl
theorem dk_len (ks : List Nat) : (dk ks).length = ks.length := List.length_map _
theorem dk_keys (ks : List Nat) : ((dk ks).map fun kv => kV kv.1) = ks.map fun (k : Nat) => V.int (k : Int) := by
  unfold dk
  rw [List.map_map]
  rfl
/-- a Blocks at x: of the text z, in blocks of n; told so far: ks, in the dict at td -/
structure Bk (C : Addr) (H : Hp) (x td : Addr) (z : Str) (n : Nat) (ks : List Nat) : Prop where
  ob : ∃ dx pp, H x = some (.ins C dx (bf z.length n pp td)) ∧ H pp = some (.lst (parts z n))
  dc : H td = some (.dK (dk ks))
section
variable {C x td b : Addr} {H H' F : Hp} {z : Str} {n : Nat} {ks : List Nat} {o : HO}
theorem Bk.ex (e : Ex H H') (h : Bk C H x td z n ks) : Bk C H' x td z n ks := by
  obtain ⟨⟨dx, pp, h1, h2⟩, h3⟩ := h
  exact ⟨⟨dx, pp, e _ _ h1, e _ _ h2⟩, e _ _ h3⟩
theorem Bk.off (h : Bk C H x td z n ks) {ys : List V} (hb : H b = some (.lst ys)) (hp : ys ≠ parts z n) : Bk C (upd H b o) x td z n ks := by
  obtain ⟨⟨dx, pp, h1, h2⟩, h3⟩ := h
  have n1 : x ≠ b := ne_of h1 hb (by intro q; cases q)
  have n2 : pp ≠ b := ne_of h2 hb (by intro q; exact hp (HO.lst.inj q).symm)
  have n3 : td ≠ b := ne_of h3 hb (by intro q; cases q)
  exact ⟨⟨dx, pp, by rw [upd_ne n1]; exact h1, by rw [upd_ne n2]; exact h2⟩, by rw [upd_ne n3]; exact h3⟩
end
/-- all that F holds stays, but for td, which F does not hold -/
def spWF (K : PySem.W.Frag) : Sp := fun vs H Q _ => ∃ (a b : Int) (v : V), vs = [.int a, .int b, v] ∧ Kd K H v ∧ (∀ i, v = .int i → ∀ H', Ex H H' → Q (.bl (decide (a ≤ i) && decide (i ≤ b))) H') ∧ (isInt v = false → ∀ H', Ex H H' → Q (.bl false) H')
def inR (a b : Int) : V → Bool
  | .int i => decide (a ≤ i) && decide (i ≤ b)
  | _ => false
theorem sv_wf {K : PySem.W.Frag} {H : Hp} {a b : Int} {v : V} (h : Kd K H v) : SpV (spWF K) [.int a, .int b, v] H (.bl (inR a b v)) := fun H1 e Q q E =>
  ⟨a, b, v, rfl, h.ex e, (fun i hi => by subst hi; exact q), (fun hv => by
    cases v with
    | int i => cases hv
    | _ => exact q)⟩
def spInit (K : PySem.W.Frag) (C CN : Addr) : Sp := fun vs H Q E => ∃ (x dx : Addr) (z : Str) (v : V), vs = [.ref x, .str z, v] ∧ H x = some (.ins C dx []) ∧ 1 ≤ z.length ∧ z.length ≤ 4000 ∧ Kd K H v ∧
  (∀ n : Nat, v = .int (n : Int) → 1 ≤ n → n ≤ 4000 → ∀ td H', H td = none → (∀ F : Hp, F x = none → Ex F H → Ex F H') → Bk C H' x td z n [] → Q .non H') ∧ (inR 1 4000 v = false → ∀ H', Ex H H' → E (.ref CN) none H')
def spMany (C : Addr) : Sp := fun vs H Q _ => ∃ (x td : Addr) (z : Str) (n : Nat) (ks : List Nat), vs = [.ref x] ∧ Bk C H x td z n ks ∧ ∀ H', Ex H H' → Q (.int ((cnt z.length n : Nat) : Int)) H'
def spAsked (C : Addr) : Sp := fun vs H Q _ => ∃ (x td : Addr) (z : Str) (n : Nat) (ks : List Nat), vs = [.ref x] ∧ Bk C H x td z n ks ∧ ∀ p H', H p = none → Ex H H' → H' p = some (.lst (ks.map fun (k : Nat) => V.int (k : Int))) → Q (.ref p) H'
def spPart (K : PySem.W.Frag) (C CN : Addr) : Sp := fun vs H Q E => ∃ (x td : Addr) (z : Str) (n : Nat) (ks : List Nat) (v : V), vs = [.ref x, v] ∧ Bk C H x td z n ks ∧ 1 ≤ n ∧ 1 ≤ z.length ∧ z.length ≤ 4000 ∧ ks.length ≤ 9000 ∧ Kd K H v ∧
  (∀ j : Nat, v = .int (j : Int) → j < cnt z.length n → ∀ H', (∀ F : Hp, F td = none → Ex F H → Ex F H') → Bk C H' x td z n (addK ks j) → Q (.str (cutAt z n j)) H') ∧
  (inR 0 ((cnt z.length n : Int) - 1) v = false → ∀ H', Ex H H' → E (.ref CN) none H')
end KB
namespace KB
open PySem L2 Evl
section
variable {K : PySem.W.Frag} {σ : L2.St} {H : Hp} {ta tv te : TE} {y : V} {a C dx : Addr} {fs : List (Str × V)} {f : Str} {D : Ends} {tz : TS} {ys : List V}
theorem q_fld (hv : Ev tv σ H y) (ha : Ev ta σ H (.ref a)) (ho : H a = some (.ins C dx fs)) (hc : Cls K C) (hn : NoAttr K C f) (hl : fs.length < 1000) (k : ∀ H1, Ex H H1 → tz D σ (upd H1 a (.ins C dx (putF f y fs)))) : tSeq (sFld K ta tv f) tz D σ H :=
  hv H (Ex.refl H) _ fun H1 e1 => ha H1 e1 _ fun H2 e2 => ⟨a, C, dx, fs, rfl, (e1.trans e2) _ _ ho, hc, hn, hl, k H2 (e1.trans e2)⟩
theorem q_fldL (hv : EvL tv σ H ys) (ha : Ev ta σ H (.ref a)) (ho : H a = some (.ins C dx fs)) (hc : Cls K C) (hn : NoAttr K C f) (hl : fs.length < 1000) (k : ∀ p H1, H p = none → Ex H H1 → H1 p = some (.lst ys) → tz D σ (upd H1 a (.ins C dx (putF f (.ref p) fs)))) : tSeq (sFld K ta tv f) tz D σ H :=
  hv H (Ex.refl H) _ fun p H1 hp e1 h1 => ha H1 e1 _ fun H2 e2 => ⟨a, C, dx, fs, rfl, (e1.trans e2) _ _ ho, hc, hn, hl, k p H2 hp (e1.trans e2) (e2 _ _ h1)⟩
theorem s_fldD (ha : Ev ta σ H (.ref a)) (ho : H a = some (.ins C dx fs)) (hc : Cls K C) (hn : NoAttr K C f) (hl : fs.length < 1000) (k : ∀ p H1, H p = none → Ex H H1 → H1 p = some (.dK []) → D.nx σ (upd H1 a (.ins C dx (putF f (.ref p) fs)))) : sFld K ta tDNewK f D σ H := fun p hp =>
  ha _ (Ex.new hp) _ fun H2 e2 => ⟨a, C, dx, fs, rfl, ((Ex.new hp).trans e2) _ _ ho, hc, hn, hl, k p H2 hp ((Ex.new hp).trans e2) (e2 _ _ upd_same)⟩
theorem el_lcR3 {tr : TA} {j : Nat} {vs : List Nat} {lo hi c : Int} {n : Nat} (v : Nat → V) (h : EvA tr σ H [.int lo, .int hi, .int c]) (hrg : RgC lo hi c n) (hn : n ≤ 40000) (hw : ∀ x, wipe ((wipe σ vs).set j (some x)) vs = wipe σ vs)
    (he : ∀ (i : Nat) H1, Ex H H1 → i < n → Ev te ((wipe σ vs).set j (some (.int (lo + (i : Nat) * c)))) H1 (v i)) : EvL (tLc (iRng3 tr) (gName j) tYes te vs) σ H ((List.range n).map v) := fun H0 e Q q => h H0 e _ fun H1 e1 => ⟨lo, hi, c, n, rfl, hrg, fun Dl hD =>
  ⟨fun i m H' => m = n - i ∧ i ≤ n ∧ Ex H1 H' ∧ H' Dl = some (.lst ((List.range i).map v)), ⟨n, by simp, Nat.zero_le _, Ex.new hD, upd_same⟩, by
    rintro i m H' ⟨rfl, hi', e2, hd⟩
    by_cases hlt : i < n
    · refine .inr ⟨hlt, fun H'' => Ex H1 H'' ∧ H'' Dl = some (.lst ((List.range (i + 1)).map v)), fun H'' p => ⟨n - (i + 1), by omega, rfl, hlt, p⟩, fun x H'' y => ?_⟩
      obtain ⟨e3, y⟩ := y
      subst e3 y
      refine ⟨hw _, ?_⟩
      unfold tYes
      dsimp only
      rw [if_pos rfl]
      refine he i H1 (e.trans e1) hlt _ e2 _ fun H3 e3 => ⟨_, e3 _ _ hd, ?_, Ex.mut (e2.trans e3) hD, ?_⟩
      · rw [List.length_map, List.length_range]
        exact sz_lt (by omega)
      · rw [upd_same, List.range_succ, List.map_append]
        rfl
    · have ei : i = n := by omega
      subst ei
      exact .inl ⟨Nat.le_refl _, q Dl H' (fresh_back e1 hD) (e1.trans e2) hd⟩⟩⟩
end
theorem rg_cut {l n : Nat} (hl : 1 ≤ l) (hl2 : l ≤ 100000) (hn : 1 ≤ n) (hn2 : n ≤ 100000) : RgC 0 (l : Int) (n : Int) (cnt l n) := by
  have hsz : Builtin.Range.rangeSize 0 (l : Int) (n : Int) = ((cnt l n : Nat) : Int) := by
    unfold Builtin.Range.rangeSize
    rw [if_pos (by omega), if_pos (by omega)]
    unfold cnt
    have e : (l : Int) - 0 - 1 = ((l - 1 : Nat) : Int) := by omega
    rw [e]
    have e2 : ((l - 1 : Nat) : Int) / (n : Int) = (((l - 1) / n : Nat) : Int) := by rw [Int.natCast_ediv]
    rw [e2]
    have e3 : (l + n - 1) / n = (l - 1) / n + 1 := by
      rw [show l + n - 1 = (l - 1) + n by omega, Nat.add_div_right _ hn]
    rw [e3]
    rfl
  refine ⟨by omega, by omega, ?_, hsz⟩
  have hc := cnt_le l n hn
  unfold Builtin.Range.small
  rw [hsz]
  simp only [Builtin.Range.rangeFitsLong, Bool.and_eq_true, Bool.or_eq_true, decide_eq_true_eq, beq_iff_eq, show ((n : Int) > 0) by omega, if_true]
  omega
end KB
namespace KB
open PySem L2 Evl
section
variable {σ : L2.St} {H : Hp} {td ty tv te : TE} {v : V} {d : Addr} {kvs : List (Key × V)} {k : Key} {D : Ends} {tz : TS}
theorem el_listD (h : Ev te σ H (.ref d)) (hd : H d = some (.dK kvs)) : EvL (tCB rListD (tCons te tNil)) σ H (kvs.map fun kv => kV kv.1) := fun H1 e _ q =>
  h H1 e _ fun H2 e2 => ⟨d, kvs, rfl, (e.trans e2) _ _ hd, fun p hp => q p _ (fresh_back e2 hp) (e2.trans (Ex.new hp)) upd_same⟩
theorem q_dput (hv : Ev tv σ H v) (hd : Ev td σ H (.ref d)) (hk : Ev ty σ H (kV k)) (h : H d = some (.dK kvs)) (hl : kvs.length < 100000) (q : ∀ H1, Ex H H1 → tz D σ (upd H1 d (.dK (putK kvs k v)))) : tSeq (sDPut td ty tv) tz D σ H :=
  hv H (Ex.refl H) _ fun H1 e1 => hd H1 e1 _ fun H2 e2 => hk H2 (e1.trans e2) _ fun H3 e3 => ⟨d, _, rfl, DPut.k (((e1.trans e2).trans e3) _ _ h) (sz_lt hl), q H3 ((e1.trans e2).trans e3)⟩
end
end KB
namespace KB
open PySem L2 Evl
section
variable {K : PySem.W.Frag} {σ : L2.St} {H : Hp} {ta te : TE} {args : TA} {D : Ends} {tz tu : TS} {W : WX} {sp : Sp} {vs ys xs : List V} {C a dx l : Addr} {fs : List (Str × V)} {m : Str} {v y : V} {E : XK} {t : TE}
theorem s_dropM (h : EvA args σ H vs) (hs : ∀ H1 x dx, Ex H H1 → H1 x = none → H1 dx = none → dx ≠ x → sp (.ref x :: vs) (upd (upd H1 dx (.own x)) x (.ins C dx [])) (fun v H2 => v = .non ∧ D.nx σ H2) (WE W σ)) : tDrop (tMakeX C sp (WE W) args) D σ H :=
  h H (Ex.refl H) _ fun H1 e x dx h1 h2 h3 => hs H1 x dx e h1 h2 h3
theorem q_asgM {i : Nat} (h : EvA args σ H vs) (hs : ∀ H1 x dx, Ex H H1 → H1 x = none → H1 dx = none → dx ≠ x → sp (.ref x :: (vs ++ [])) (upd (upd H1 dx (.own x)) x (.ins C dx [])) (fun v H2 => v = .non ∧ tz D (σ.set i (some (.ref x))) H2) E) : tSeq (tAsg (tMake C sp [] E args) (gName i)) tz D σ H :=
  h H (Ex.refl H) _ fun H1 e x dx h1 h2 h3 => hs H1 x dx e h1 h2 h3
theorem s_retMX (ho : Ev ta σ H (.ref a)) (hi : H a = some (.ins C dx fs)) (hl : fs.lookup m = none) (h : EvA args σ H vs) (hs : ∀ H1, Ex H H1 → sp (.ref a :: vs) H1 D.rt (WE W σ)) : tRet (tMethX C m sp (WE W) ta args) D σ H :=
  ho H (Ex.refl H) _ fun H1 e1 => ⟨a, dx, fs, rfl, e1 _ _ hi, hl, h H1 e1 _ fun H2 e2 => hs H2 (e1.trans e2)⟩
theorem el_meth0 (ho : Ev ta σ H (.ref a)) (hi : H a = some (.ins C dx fs)) (hl : fs.lookup m = none) (hs : SpL sp [.ref a] H ys) : EvL (tMeth C m sp [] E ta tNil) σ H ys := fun H1 e Q q =>
  ho H1 e _ fun H2 e2 => ⟨a, dx, fs, rfl, (e.trans e2) _ _ hi, hl, hs H2 (e.trans e2) Q (fun p H3 hp e3 h3 => q p H3 (fresh_back e2 hp) (e2.trans e3) h3) E⟩
theorem ev_meth0 (ho : Ev ta σ H (.ref a)) (hi : H a = some (.ins C dx fs)) (hl : fs.lookup m = none) (hs : SpV sp [.ref a] H v) : Ev (tMeth C m sp [] E ta tNil) σ H v := fun H1 e Q q =>
  ho H1 e _ fun H2 e2 => ⟨a, dx, fs, rfl, (e.trans e2) _ _ hi, hl, hs H2 (e.trans e2) Q (fun H3 e3 => q H3 (e2.trans e3)) E⟩
theorem q_whenX (h : t σ H (fun x H1 => ∃ k, x = .bl k ∧ (if k = true then tu { D with nx := tz D } σ H1 else tz D σ H1))) : tSeq (tIfS (tTest t) tu tNext) tz D σ H := h
theorem s_whenX (h : t σ H (fun x H1 => ∃ k, x = .bl k ∧ (if k = true then tu D σ H1 else D.nx σ H1))) : tIfS (tTest t) tu tNext D σ H := h
theorem q_appX (ha : Ev ta σ H (.ref l)) (hl : H l = some (.lst xs)) (h : ∀ H1, Ex H H1 → te σ H1 (fun y H2 => rAppend (.ref l) [y] H2 (fun _ H3 => tz D σ H3))) :
    tSeq (tDrop (tBM K "list" rAppend ta (tCons te tNil))) tz D σ H := ha H (Ex.refl H) _ fun H1 e1 =>
  ⟨Or.inl ⟨rfl, xs, sq_of (e1 l _ hl)⟩, h H1 e1⟩
theorem s_appL1 (h : EvL ta σ H ys) (hz : ys.length < 100000) (he : ∀ H', Ev te σ H' v) (k : ∀ p H1, H p = none → Ex H H1 → D.nx σ (upd H1 p (.lst (ys ++ [v])))) : tDrop (tBM K "list" rAppend ta (tCons te tNil)) D σ H :=
  h H (Ex.refl H) _ fun p H1 hp e1 h1 => ⟨Or.inl ⟨rfl, ys, sq_of h1⟩, he H1 H1 (Ex.refl H1) _ fun H2 e2 => ⟨p, ys, v, rfl, rfl, e2 _ _ h1, sz_lt hz, k p H2 hp (e1.trans e2)⟩⟩
end
def spNoSize : Sp := fun vs H Q _ => ∃ (z : Str) (c : Int), vs = [.str z, .int c] ∧ 1 ≤ z.length ∧ z.length ≤ 4000 ∧ 0 ≤ c ∧ ∀ H', Ex H H' → Q (.bl true) H'
def spNumber (K : PySem.W.Frag) : Sp := fun vs H Q _ => ∃ (c m : Int), vs = [.int c, .int m] ∧ 0 ≤ c ∧ 1 ≤ m ∧ ∀ v H', Ex H H' → Kd K H' v → scal v .non = true ∨ isInt v = false → Q v H'
def spLPart (K : PySem.W.Frag) (C : Addr) : Sp := fun vs H Q _ => ∃ (x td : Addr) (z : Str) (n : Nat) (ks : List Nat) (v : V), vs = [.ref x, v] ∧ Bk C H x td z n ks ∧ 1 ≤ n ∧ 1 ≤ z.length ∧ z.length ≤ 4000 ∧ ks.length ≤ 9000 ∧ Kd K H v ∧
  (∀ j : Nat, v = .int (j : Int) → j < cnt z.length n → ∀ H', (∀ F : Hp, F td = none → Ex F H → Ex F H') → Bk C H' x td z n (addK ks j) → Q (.str (cutAt z n j)) H') ∧
  (inR 0 ((cnt z.length n : Int) - 1) v = false → ∀ H', Ex H H' → Q .non H')
theorem sv_noSize {H : Hp} {z : Str} {c : Int} (h1 : 1 ≤ z.length) (h2 : z.length ≤ 4000) (h3 : 0 ≤ c) : SpV spNoSize [.str z, .int c] H (.bl true) := fun H1 e Q q E => ⟨z, c, rfl, h1, h2, h3, q⟩
theorem sl_asked {C x td : Addr} {H : Hp} {z : Str} {n : Nat} {ks : List Nat} (h : Bk C H x td z n ks) : SpL (spAsked C) [.ref x] H (ks.map fun (k : Nat) => V.int (k : Int)) := fun H1 e Q q E => ⟨x, td, z, n, ks, rfl, h.ex e, q⟩
theorem sv_many {C x td : Addr} {H : Hp} {z : Str} {n : Nat} {ks : List Nat} (h : Bk C H x td z n ks) : SpV (spMany C) [.ref x] H (.int ((cnt z.length n : Nat) : Int)) := fun H1 e Q q E => ⟨x, td, z, n, ks, rfl, h.ex e, q⟩
end KB
namespace KB
open PySem L2 Evl
def nints (l : List Nat) : List V := l.map fun (k : Nat) => V.int (k : Int)
theorem nints_len (l : List Nat) : (nints l).length = l.length := List.length_map _
theorem nints_map (l : List Nat) : nints l = (l.map fun (k : Nat) => (k : Int)).map V.int := by unfold nints; rw [List.map_map]; rfl
theorem inV_ints (j : Nat) : ∀ l : List Nat, inV (.int (j : Int)) (nints l) = decide (j ∈ l)
  | [] => by simp [inV, nints]
  | k :: l => by
    have ih := inV_ints j l
    unfold inV at ih ⊢
    show (eqV (.int (k : Int)) (.int (j : Int)) || (nints l).any fun y => eqV y (.int (j : Int))) = _
    rw [ih]
    show (((k : Int) == (j : Int)) || decide (j ∈ l)) = _
    by_cases h : j = k
    · subst h; simp
    · have h2 : ((k : Int) == (j : Int)) = false := by
        rw [beq_eq_false_iff_ne]
        omega
      rw [h2, Bool.false_or]
      simp [h]
theorem flat_ints : ∀ l : List Nat, (nints l).all flatV = true
  | [] => rfl
  | k :: l => by
    show (flatV (.int (k : Int)) && (nints l).all flatV) = true
    rw [flat_ints l]
    rfl
theorem rv_neI {K : PySem.W.Frag} {H : Hp} {a b : Addr} {l : List Nat} (h1 : SqL K H a (nints l)) (h2 : SqL K H b (nints l)) : RV (rNeD K) (.ref a) (.ref b) H (.bl false) := by
  rw [nints_map] at h1 h2
  have h := rv_neD (H := H) (x := .ref a) (y := .ref b) (.lst h1 (dpAll_int _)) (.lst h2 (dpAll_int _)) (shaped_int _) (shaped_int _)
  rw [SeqAt.eqv_refl _ (SeqAt.canLay_of_shaped (shaped_int _))] at h
  exact h
/-- a pair of alike lists, which nothing changes -/
def Pr (F : Hp) (p : Addr) : Prop := ∃ (a b : Addr) (l : List Nat), F p = some (.lst [.ref a, .ref b]) ∧ F a = some (.lst (nints l)) ∧ F b = some (.lst (nints l))
theorem Pr.ex {F F' : Hp} {p : Addr} (e : Ex F F') (h : Pr F p) : Pr F' p := by
  obtain ⟨a, b, l, h1, h2, h3⟩ := h
  exact ⟨a, b, l, e _ _ h1, e _ _ h2, e _ _ h3⟩
theorem grow {F H' : Hp} {a : Addr} {o : HO} (e : Ex F H') (h : H' a = some o) : Ex (upd F a o) H' := fun b u hb => by
  by_cases hba : b = a
  · subst hba
    rw [upd_same] at hb
    cases hb
    exact h
  · rw [upd_ne hba] at hb
    exact e _ _ hb
theorem kept_but {H1 H2 : Hp} {td : Addr} (kp : ∀ F : Hp, F td = none → Ex F H1 → Ex F H2) : ∀ a o, a ≠ td → H1 a = some o → H2 a = some o := fun a o hn h =>
  kp (fun b => if b = td then none else H1 b) (if_pos rfl) (fun b u hb0 => by
    have hb : (if b = td then none else H1 b) = some u := hb0
    by_cases hbt : b = td
    · rw [if_pos hbt] at hb; cases hb
    · rw [if_neg hbt] at hb; exact hb) a o (by show (if a = td then none else H1 a) = some o; rw [if_neg hn]; exact h)
theorem bk_of {C : Addr} {F H : Hp} {x td dx pp : Addr} {z : Str} {n : Nat} {ks : List Nat} (e : Ex F H) (h1 : F x = some (.ins C dx (bf z.length n pp td))) (h2 : F pp = some (.lst (parts z n))) (h3 : H td = some (.dK (dk ks))) : Bk C H x td z n ks := ⟨⟨dx, pp, e _ _ h1, e _ _ h2⟩, h3⟩
def spWell (K : PySem.W.Frag) (C : Addr) : Sp := fun vs H Q _ => ∃ (x pc pw ph td dx pp : Addr) (z : Str) (n : Nat) (cs : List Int) (F : Hp), vs = [.ref x, .str z, .ref pc, .ref pw, .ref ph] ∧ Ex F H ∧ F td = none ∧ F pw = none ∧ F ph = none ∧ pw ≠ ph ∧
  F x = some (.ins C dx (bf z.length n pp td)) ∧ F pp = some (.lst (parts z n)) ∧ SqL K F pc (cs.map V.int) ∧ (∀ c ∈ cs, 0 ≤ c) ∧ cs.length ≤ 60 ∧ H td = some (.dK (dk [])) ∧ H pw = some (.lst []) ∧ H ph = some (.lst []) ∧ 1 ≤ n ∧ n ≤ 4000 ∧ 1 ≤ z.length ∧ z.length ≤ 4000 ∧
  ∀ (H' F' : Hp) (ks : List Nat) (prs : List Addr), Ex F F' → Ex F' H' → F' td = none → F' ph = none → ks.length ≤ 60 → H' td = some (.dK (dk ks)) → H' ph = some (.lst (prs.map V.ref)) → prs.length ≤ 60 → (∀ p ∈ prs, Pr F' p) → Q (.bl true) H'
theorem addK_len (ks : List Nat) (j : Nat) : (addK ks j).length ≤ ks.length + 1 := by
  unfold addK
  split
  · exact Nat.le_succ _
  · rw [List.length_append]; exact Nat.le_refl _
end KB
namespace KB
open PySem L2 Evl
theorem cutAt_list (z : Str) (n j : Nat) : (cutAt z n j).cps.toList = (z.cps.toList.drop (min (j * n) z.length)).take (min (j * n + n) z.length - min (j * n) z.length) := by
  unfold cutAt cutS
  have e1 : ((j : Int) * (n : Int)) = ((j * n : Nat) : Int) := by rw [Int.natCast_mul]
  have e2 : ((j : Int) * (n : Int) + (n : Int)) = ((j * n + n : Nat) : Int) := by rw [e1]; omega
  rw [e2, e1, HT.sIx_nat, HT.sIx_nat]
theorem cat_cuts (z : Str) (n : Nat) : ∀ m : Nat, catS ((List.range m).map (cutAt z n)) = z.cps.toList.take (min (m * n) z.length)
  | 0 => by simp [catS]
  | m + 1 => by
    rw [List.range_succ, List.map_append, catS_app, cat_cuts z n m]
    show _ ++ catS [cutAt z n m] = _
    rw [catS_one, cutAt_list, ← List.take_add]
    congr 1
    have : (m + 1) * n = m * n + n := Nat.succ_mul m n
    rw [this]
    omega
theorem join_cuts (z : Str) (n : Nat) (hn : 1 ≤ n) : Txt.join ("" : Str) ((List.range (cnt z.length n)).map (cutAt z n)) = z := by
  rw [join_cat, cat_cuts]
  have h : z.length ≤ cnt z.length n * n := by
    unfold cnt
    have h1 := Nat.div_add_mod (z.length + n - 1) n
    have h2 := Nat.mod_lt (z.length + n - 1) (show 0 < n by omega)
    have h3 : n * ((z.length + n - 1) / n) = (z.length + n - 1) / n * n := Nat.mul_comm _ _
    omega
  rw [Nat.min_eq_right h, List.take_of_length_le (show z.cps.toList.length ≤ z.length from Nat.le_refl _)]
theorem sum_cuts (z : Str) (n : Nat) (m : Nat) : (((List.range m).map (cutAt z n)).map (·.length)).sum ≤ z.length := by
  rw [catS_sum, cat_cuts, List.length_take]
  have : z.cps.toList.length = z.length := rfl
  omega
section
variable {σ : L2.St} {H : Hp} {te : TE} {args : TA} {D : Ends} {tz tu : TS} {sp : Sp} {dvs : List V} {E : XK} {R : VK}
theorem et_yes {σ : L2.St} {H : Hp} : EvT tYes σ H true := fun H1 _ _ q => q H1 (Ex.refl H1)
theorem q_whenN (h : te σ H (fun x H1 => ∃ c, x = .bl c ∧ (if (!c) = true then tu { D with nx := tz D } σ H1 else tz D σ H1))) : tSeq (tIfS (tNot (tB te)) tu tNext) tz D σ H := h
theorem e_call (h : args σ H (fun vs H1 => sp (vs ++ dvs) H1 R E)) : tCall sp dvs E args σ H R := h
end
end KB
namespace KB
open PySem L2 Evl
/-- a heap without two of its objects -/
def less (H : Hp) (a b : Addr) : Hp := fun d => if d = a then none else if d = b then none else H d
theorem less_ex (H : Hp) (a b : Addr) : Ex (less H a b) H := fun d u h => by
  have h' : (if d = a then none else if d = b then none else H d) = some u := h
  split at h'
  · cases h'
  · split at h'
    · cases h'
    · exact h'
theorem less_a (H : Hp) (a b : Addr) : less H a b a = none := if_pos rfl
theorem less_b (H : Hp) (a b : Addr) : less H a b b = none := by
  show (if b = a then none else if b = b then none else H b) = none
  split
  · rfl
  · rw [if_pos rfl]
theorem less_at {H : Hp} {a b d : Addr} {o : HO} (h : H d = some o) (h1 : d ≠ a) (h2 : d ≠ b) : less H a b d = some o := by
  show (if d = a then none else if d = b then none else H d) = some o
  rw [if_neg h1, if_neg h2]
  exact h
theorem less_no {H : Hp} {a b d : Addr} (h : H d = none) : less H a b d = none := by
  show (if d = a then none else if d = b then none else H d) = none
  split
  · rfl
  · split
    · rfl
    · exact h
theorem init_at {K : PySem.W.Frag} {C CN : Addr} {H : Hp} {x dx : Addr} {z : Str} {i : Int} {Q : VK} {E : XK} (nx : H x = none) (ndx : H dx = none) (nxd : dx ≠ x) (hz1 : 1 ≤ z.length) (hz2 : z.length ≤ 4000) (hi : 1 ≤ i ∧ i ≤ 4000)
    (k : ∀ (n : Nat) (td : Addr) (H' : Hp), i = (n : Int) → 1 ≤ n → n ≤ 4000 → H td = none → Ex H H' → Bk C H' x td z n [] → Q .non H') : spInit K C CN [.ref x, .str z, .int i] (upd (upd H dx (.own x)) x (.ins C dx [])) Q E := by
  have xo : Ex H (upd (upd H dx (.own x)) x (.ins C dx [])) := (Ex.new ndx).trans (Ex.new (by rw [upd_ne nxd.symm]; exact nx))
  refine ⟨x, dx, z, .int i, rfl, upd_same, hz1, hz2, kd_int _, fun n hn h1 h2 td H' ntd kp hB => ?_, fun hr0 => ?_⟩
  · exact k n td H' (V.int.inj hn) h1 h2 (fresh_back xo ntd) (kp H nx xo) hB
  · exfalso
    have hr1 : (decide ((1 : Int) ≤ i) && decide (i ≤ 4000)) = false := hr0
    rw [decide_eq_true hi.1, decide_eq_true hi.2] at hr1
    cases hr1
end KB
namespace KB
open PySem L2 Evl
theorem Bk.near {C x td b : Addr} {H : Hp} {z : Str} {n : Nat} {ks : List Nat} {ys : List V} {o : HO} (h : Bk C H x td z n ks) (hb : H b = some (.lst ys)) (hl : ys.length ≠ cnt z.length n) : Bk C (upd H b o) x td z n ks := h.off hb (fun e => hl (by rw [e, parts_len]))
end KB
namespace KB
open PySem L2 Evl
section
variable {σ : L2.St} {H : Hp} {ta te : TE} {args : TA} {R : VK} {sp : Sp} {vs : List V} {E : XK} {C a dx : Addr} {m : Str} {fs : List (Str × V)}
theorem e_lcR1 {ws : List Nat} {j n : Nat} (h : EvA args σ H [.int (n : Int)]) (hn : n ≤ 40000) (hw : ∀ x, wipe ((wipe σ ws).set j (some x)) ws = wipe σ ws)
    (k : ∀ H1 Dl, Ex H H1 → H1 Dl = none → ∃ Pv : Nat → Hp → Prop, Pv 0 (upd H1 Dl (.lst [])) ∧ (∀ i H', i < n → Pv i H' → te ((wipe σ ws).set j (some (.int (i : Int)))) H' (fun y H4 => ∃ acc, H4 Dl = some (.lst acc) ∧ acc.length < sizeLine ∧ Pv (i + 1) (upd H4 Dl (.lst (acc ++ [y]))))) ∧ (∀ H', Pv n H' → R (.ref Dl) H')) :
    tLc (iRng1 args) (gName j) tYes te ws σ H R := h H (Ex.refl H) _ fun H1 e1 => ⟨(n : Int), rfl, by omega, by omega, fun Dl hD => by
  obtain ⟨Pv, h0, hs, hd⟩ := k H1 Dl e1 hD
  refine lc_range (lo := 0) (n := (n : Int).toNat) Pv h0 (fun i H' hi p => ?_) (fun H' p => hd H' (by rw [Int.toNat_natCast] at p; exact p))
  have e0 : (0 : Int) + (i : Int) = (i : Int) := Int.zero_add _
  show wipe ((wipe σ ws).set j (some (.int ((0 : Int) + (i : Int))))) ws = wipe σ ws ∧ _
  rw [e0]
  refine ⟨hw _, ?_⟩
  unfold tYes
  dsimp only
  rw [if_pos rfl]
  exact hs i H' (by omega) p⟩
theorem e_meth (ho : Ev ta σ H (.ref a)) (hi : H a = some (.ins C dx fs)) (hl : fs.lookup m = none) (h : EvA args σ H vs) (hs : ∀ H1, Ex H H1 → sp (.ref a :: (vs ++ [])) H1 R E) : tMeth C m sp [] E ta args σ H R :=
  ho H (Ex.refl H) _ fun H1 e1 => ⟨a, dx, fs, rfl, e1 _ _ hi, hl, h H1 e1 _ fun H2 e2 => hs H2 (e1.trans e2)⟩
end
end KB

namespace LW
open PySem PySem.Spec PyProof.Rows L2 Evl KB
def topS (i : Nat) : Stmt := PySem.Challenge.pw_knotbits_k04_blocks_cut.main.body.getD i (.Pass ⟨0, 0, 0, 0⟩)
abbrev s_is_whole : Stmt := topS 5
abbrev s_is_whole_from : Stmt := topS 6
abbrev s_Blocks___init__ : Stmt := inClass (topS 9) 0
abbrev s_Blocks_many : Stmt := inClass (topS 9) 1
abbrev s_Blocks_part : Stmt := inClass (topS 9) 2
abbrev s_Blocks_asked : Stmt := inClass (topS 9) 3
abbrev s_law_cell_at : Stmt := topS 11
abbrev s_law_whole : Stmt := topS 12
abbrev s_law_parents : Stmt := topS 13
abbrev s_law_bits : Stmt := topS 14
abbrev s_law_no_size : Stmt := topS 15
abbrev s_law_part : Stmt := topS 16
abbrev s_law_number : Stmt := topS 17
abbrev s_law_asked_well : Stmt := topS 18
abbrev s_law : Stmt := topS 19
structure Adr where
  f_is_whole : Addr
  d_is_whole : FuncData
  f_is_whole_from : Addr
  d_is_whole_from : FuncData
  f_Blocks___init__ : Addr
  d_Blocks___init__ : FuncData
  f_Blocks_many : Addr
  d_Blocks_many : FuncData
  f_Blocks_part : Addr
  d_Blocks_part : FuncData
  f_Blocks_asked : Addr
  d_Blocks_asked : FuncData
  f_law_cell_at : Addr
  d_law_cell_at : FuncData
  f_law_whole : Addr
  d_law_whole : FuncData
  f_law_parents : Addr
  d_law_parents : FuncData
  f_law_bits : Addr
  d_law_bits : FuncData
  f_law_no_size : Addr
  d_law_no_size : FuncData
  f_law_part : Addr
  d_law_part : FuncData
  f_law_number : Addr
  d_law_number : FuncData
  f_law_asked_well : Addr
  d_law_asked_well : FuncData
  f_law : Addr
  d_law : FuncData
  c_KnotError : Addr
  c_NoSize : Addr
  c_NoBlock : Addr
  c_Blocks : Addr
  t_MOST_SIZE : Tok
structure Txt (K : PySem.W.Frag) (mg : Str → Option Value) (A : Adr) : Prop where
  F_is_whole : Fun K "is_whole" "is_whole" s_is_whole A.f_is_whole A.d_is_whole
  g_is_whole : mg "is_whole" = some (.ref A.f_is_whole)
  s_is_whole : Binds K A.d_is_whole ["thing"] []
  F_is_whole_from : Fun K "is_whole_from" "is_whole_from" s_is_whole_from A.f_is_whole_from A.d_is_whole_from
  g_is_whole_from : mg "is_whole_from" = some (.ref A.f_is_whole_from)
  s_is_whole_from : Binds K A.d_is_whole_from ["least", "most", "thing"] []
  F_Blocks___init__ : Fun K "__init__" "Blocks.__init__" s_Blocks___init__ A.f_Blocks___init__ A.d_Blocks___init__
  s_Blocks___init__ : Binds K A.d_Blocks___init__ ["self", "bits", "size"] []
  F_Blocks_many : Fun K "many" "Blocks.many" s_Blocks_many A.f_Blocks_many A.d_Blocks_many
  m_Blocks_many : Meth K A.c_Blocks "many" A.f_Blocks_many
  s_Blocks_many : Binds K A.d_Blocks_many ["self"] []
  F_Blocks_part : Fun K "part" "Blocks.part" s_Blocks_part A.f_Blocks_part A.d_Blocks_part
  m_Blocks_part : Meth K A.c_Blocks "part" A.f_Blocks_part
  s_Blocks_part : Binds K A.d_Blocks_part ["self", "number"] []
  F_Blocks_asked : Fun K "asked" "Blocks.asked" s_Blocks_asked A.f_Blocks_asked A.d_Blocks_asked
  m_Blocks_asked : Meth K A.c_Blocks "asked" A.f_Blocks_asked
  s_Blocks_asked : Binds K A.d_Blocks_asked ["self"] []
  F_law_cell_at : Fun K "_law_cell_at" "_law_cell_at" s_law_cell_at A.f_law_cell_at A.d_law_cell_at
  g_law_cell_at : mg "_law_cell_at" = some (.ref A.f_law_cell_at)
  s_law_cell_at : Binds K A.d_law_cell_at ["_law_script", "_law_k"] []
  F_law_whole : Fun K "_law_whole" "_law_whole" s_law_whole A.f_law_whole A.d_law_whole
  g_law_whole : mg "_law_whole" = some (.ref A.f_law_whole)
  s_law_whole : Binds K A.d_law_whole ["_law_found"] []
  F_law_parents : Fun K "_law_parents" "_law_parents" s_law_parents A.f_law_parents A.d_law_parents
  g_law_parents : mg "_law_parents" = some (.ref A.f_law_parents)
  s_law_parents : Binds K A.d_law_parents ["_law_script"] []
  F_law_bits : Fun K "_law_bits" "_law_bits" s_law_bits A.f_law_bits A.d_law_bits
  g_law_bits : mg "_law_bits" = some (.ref A.f_law_bits)
  s_law_bits : Binds K A.d_law_bits ["_law_parents_here"] []
  F_law_no_size : Fun K "_law_no_size" "_law_no_size" s_law_no_size A.f_law_no_size A.d_law_no_size
  g_law_no_size : mg "_law_no_size" = some (.ref A.f_law_no_size)
  s_law_no_size : Binds K A.d_law_no_size ["_law_bits_here", "_law_cell"] []
  F_law_part : Fun K "_law_part" "_law_part" s_law_part A.f_law_part A.d_law_part
  g_law_part : mg "_law_part" = some (.ref A.f_law_part)
  s_law_part : Binds K A.d_law_part ["_law_blocks", "_law_number_here"] []
  F_law_number : Fun K "_law_number" "_law_number" s_law_number A.f_law_number A.d_law_number
  g_law_number : mg "_law_number" = some (.ref A.f_law_number)
  s_law_number : Binds K A.d_law_number ["_law_cell", "_law_many"] []
  F_law_asked_well : Fun K "_law_asked_well" "_law_asked_well" s_law_asked_well A.f_law_asked_well A.d_law_asked_well
  g_law_asked_well : mg "_law_asked_well" = some (.ref A.f_law_asked_well)
  s_law_asked_well : Binds K A.d_law_asked_well ["_law_blocks", "_law_bits_here", "_law_cells", "_law_want", "_law_held"] []
  F_law : Fun K "law" "law" s_law A.f_law A.d_law
  g_law : mg "law" = some (.ref A.f_law)
  s_law : Binds K A.d_law ["_law_script"] []
  b_ValueError : mg "ValueError" = none
  b_bool : mg "bool" = none
  b_int : mg "int" = none
  b_isinstance : mg "isinstance" = none
  b_len : mg "len" = none
  b_list : mg "list" = none
  b_min : mg "min" = none
  b_range : mg "range" = none
  c_MOST_SIZE : mg "MOST_SIZE" = some (.int 4000 A.t_MOST_SIZE)
  g_Blocks : mg "Blocks" = some (.ref A.c_Blocks)
  cl_Blocks : Cls K A.c_Blocks
  mk_Blocks : Mk K A.c_Blocks A.f_Blocks___init__
  n_Blocks_length : NoAttr K A.c_Blocks "length"
  n_Blocks_size : NoAttr K A.c_Blocks "size"
  n_Blocks__parts : NoAttr K A.c_Blocks "_parts"
  n_Blocks__told : NoAttr K A.c_Blocks "_told"
  g_KnotError : mg "KnotError" = some (.ref A.c_KnotError)
  x_KnotError : PySem.W.excIn K A.c_KnotError [.type "ValueError", .type "Exception", .type "BaseException", .type "object"] "ValueError.__new__" = true
  k_KnotError : PySem.W.keepIn K (.ref A.c_KnotError) = true
  e_KnotError : PySem.W.subIn K (.ref A.c_KnotError) (.type "BaseException") = some true
  t_KnotError : PySem.W.typeIn K (.ref A.c_KnotError) = some (.type "type")
  g_NoSize : mg "NoSize" = some (.ref A.c_NoSize)
  x_NoSize : PySem.W.excIn K A.c_NoSize [.type "ValueError", .type "Exception", .type "BaseException", .type "object"] "ValueError.__new__" = true
  k_NoSize : PySem.W.keepIn K (.ref A.c_NoSize) = true
  e_NoSize : PySem.W.subIn K (.ref A.c_NoSize) (.type "BaseException") = some true
  t_NoSize : PySem.W.typeIn K (.ref A.c_NoSize) = some (.type "type")
  g_NoBlock : mg "NoBlock" = some (.ref A.c_NoBlock)
  x_NoBlock : PySem.W.excIn K A.c_NoBlock [.type "ValueError", .type "Exception", .type "BaseException", .type "object"] "ValueError.__new__" = true
  k_NoBlock : PySem.W.keepIn K (.ref A.c_NoBlock) = true
  e_NoBlock : PySem.W.subIn K (.ref A.c_NoBlock) (.type "BaseException") = some true
  t_NoBlock : PySem.W.typeIn K (.ref A.c_NoBlock) = some (.type "type")
  h_KnotError : PySem.W.hasDictIn K A.c_KnotError = true
  u_NoSize_KnotError : PySem.W.subIn K (.ref A.c_NoSize) (.ref A.c_KnotError) = some true
  h_NoSize : PySem.W.hasDictIn K A.c_NoSize = true
  u_NoSize_NoSize : PySem.W.subIn K (.ref A.c_NoSize) (.ref A.c_NoSize) = some true
  h_NoBlock : PySem.W.hasDictIn K A.c_NoBlock = true
  u_NoSize_NoBlock : PySem.W.subIn K (.ref A.c_NoSize) (.ref A.c_NoBlock) = some false
  u_NoBlock_NoBlock : PySem.W.subIn K (.ref A.c_NoBlock) (.ref A.c_NoBlock) = some true
  u_NoSize_ValueError : PySem.W.subIn K (.ref A.c_NoSize) (.type "ValueError") = some true
  ec_NoSize : ExcC K A.c_NoSize
section
variable {P : Program} {w : World} {K : PySem.W.Frag} {mg : Str → Option Value} {base : Heap} {A : Adr}
theorem sc_is_whole : FnScope ["thing"] ["thing"] (defScope s_is_whole) := ⟨rfl, rfl, rfl, by decide +kernel, rfl, by decide +kernel, by decide +kernel⟩
theorem ok_is_whole (T : Txt K mg A) : FnOk P w K mg base CX0 1 A.f_is_whole A.d_is_whole ["thing"] (spWhole K) := by
  refine T.F_is_whole.ok sc_is_whole (fun vs H Q E h => ?_) (fun cdv A' outer s H vs Q E hr h => ?_)
  · obtain ⟨x, rfl, _⟩ := h
    rfl
  · obtain ⟨x, rfl, ⟨tv, b1, b2, h1, h2, h3, h4⟩, q⟩ := h
    refine ⟨_, (pss_one (ps_ret (pe_and (pe_callB call_isi (by rfl) T.b_isinstance (by decide +kernel) (pa_cons (pv 0) (pa_cons (pe_bltn (v := .ty "int") (by rfl) T.b_int (by decide +kernel) rfl) pa_nil))) (pe_one (pe_not (pe_callB call_isi (by rfl) T.b_isinstance (by decide +kernel) (pa_cons (pv 0) (pa_cons (pe_bltn (v := .ty "bool") (by rfl) T.b_bool (by decide +kernel) rfl) pa_nil)))))))), ?_⟩
    refine s_ret (ev_andV (ev_isi (ev_var rfl) ev_c (.ty _) h1 h2) (fun hb => (ev_notV (ev_isi (ev_var rfl) ev_c (.ty _) h1 h3)))) fun H2 e2 => ?_
    rw [h4]
    exact q H2 e2

theorem sc_is_whole_from : FnScope ["least", "most", "thing"] ["least", "most", "thing"] (defScope s_is_whole_from) := ⟨rfl, rfl, rfl, by decide +kernel, rfl, by decide +kernel, by decide +kernel⟩
theorem ok_is_whole_from (T : Txt K mg A) : FnOk P w K mg base CX0 2 A.f_is_whole_from A.d_is_whole_from ["least", "most", "thing"] (spWF K) := by
  refine T.F_is_whole_from.ok sc_is_whole_from (fun vs H Q E h => ?_) (fun cdv A' outer s H vs Q E hr h => ?_)
  · obtain ⟨a, b, v, rfl, _⟩ := h
    rfl
  · obtain ⟨a, b, v, rfl, hk, q1, q2⟩ := h
    refine ⟨_, (pss_one (ps_ret (pe_and (pe_call (ok_is_whole T) (hr.mono (by decide)) (by rfl) T.g_is_whole T.F_is_whole.kp T.s_is_whole .nil pass0 (pa_cons (pv 2) pa_nil)) (pe_one (pe_chain op_le op_le (pv 0) (pv 2) (pv 1)))))), ?_⟩
    cases v with
    | int i => exact s_ret (ev_andV (ev_call (ea_cons (ev_var rfl) ea_nil) (sv_whole hk)) (fun hb => (ev_chain (ev_var rfl) (ev_var rfl) rv_I0 (fun hb => (ev_var rfl)) (fun hb => rv_I0)))) fun H1 e1 => q1 i rfl H1 e1
    | _ => exact s_ret (ev_andV (b := true) (ev_call (ea_cons (ev_var rfl) ea_nil) (sv_whole hk)) (fun hb => nomatch hb)) fun H1 e1 => q2 rfl H1 e1

theorem sc_Blocks___init__ : FnScope ["self", "bits", "size", "first"] ["self", "bits", "size"] (defScope s_Blocks___init__) := ⟨rfl, rfl, rfl, by decide +kernel, rfl, by decide +kernel, by decide +kernel⟩
theorem ok_Blocks___init__ (T : Txt K mg A) : FnOk P w K mg base (L2.CX P w) 3 A.f_Blocks___init__ A.d_Blocks___init__ ["self", "bits", "size"] (spInit K A.c_Blocks A.c_NoSize) := by
  refine T.F_Blocks___init__.okX sc_Blocks___init__ (fun vs H Q E h => ?_) (fun cdv A' outer s H vs Q E hr h => ?_)
  · obtain ⟨x, dx, z, v, rfl, _⟩ := h
    rfl
  · obtain ⟨x, dx, z, v, rfl, hx, hz1, hz2, hk, q, qn⟩ := h
    refine ⟨_, (pss_cons (ps_if (pt_not (pt_val (pe_call (ok_is_whole_from T) (hr.mono (by decide)) (by rfl) T.g_is_whole_from T.F_is_whole_from.kp T.s_is_whole_from .nil pass0 (pa_cons pe_int (pa_cons (pe_glob (v := .int 4000) (by rfl) T.c_MOST_SIZE ⟨_, rfl⟩) (pa_cons (pv 2) pa_nil)))))) (pss_one (ps_raise rfl (takes_of rfl rfl rfl rfl) (pmk_own PySem.F.excBase_ValueError T.x_NoSize T.g_NoSize T.k_NoSize (raises_own T.e_NoSize T.t_NoSize) (by exact rfl)))) pss_nil) (pss_cons (ps_fld (pv 0) (pe_callB call_len_str (by rfl) T.b_len PySem.boot_len (pa_cons (pv 1) pa_nil)) rfl) (pss_cons (ps_fld (pv 0) (pv 2) rfl) (pss_cons (ps_fld (pv 0) (pe_lc (own := [("first", 3)]) (g := gName 3) (tt := tYes) rfl sc_Blocks___init__.nd (pi_range3 (by rfl) T.b_range (pa_cons pe_int (pa_cons (pe_callB call_len_str (by rfl) T.b_len PySem.boot_len (pa_cons (pv 1) pa_nil)) (pa_cons (pv 2) pa_nil)))) (blkOk_by (N := ["self", "bits", "size", "first"]) (sc := defScope s_Blocks___init__) (by decide +kernel)) (fun _ _ _ _ _ => pg_name (i := 3) sc_Blocks___init__.nd rfl (Or.inl rfl)) (fun _ _ _ _ _ => pts_nil) (fun _ _ _ _ _ => (pe_slice sl_str (pv 1) (po_some (pv 3)) (po_some (pe_op op_add (pv 3) (pv 2)))))) rfl) (pss_one (ps_fld (pv 0) pe_dnewK rfl)))))), ?_⟩
    refine q_when (et_not (et_B (ev_call (ea_cons ev_c (ea_cons ev_c (ea_cons (ev_var rfl) ea_nil))) (sv_wf hk)))) (fun hb H1 e1 => ?_) (fun hb H1 e1 => ?_)
    · exact qn (by simpa using hb) H1 e1
    obtain ⟨n, rfl, hn1, hn2⟩ : ∃ n : Nat, v = .int (n : Int) ∧ 1 ≤ n ∧ n ≤ 4000 := by
      have hb' : inR 1 4000 v = true := by simpa using hb
      cases v with
      | int i =>
        have h2 : (decide (1 ≤ i) && decide (i ≤ 4000)) = true := hb'
        rw [Bool.and_eq_true, decide_eq_true_eq, decide_eq_true_eq] at h2
        exact ⟨i.toNat, by rw [Int.toNat_of_nonneg (by omega)], by omega, by omega⟩
      | _ => cases hb'
    clear hb
    refine q_fld (ev_lenS (ev_var rfl) (by omega)) (ev_var rfl) (e1 _ _ hx) T.cl_Blocks T.n_Blocks_length (by decide) fun H2 e2 => ?_
    have l1 : ∀ v1 : V, (putF "length" v1 ([] : List (Str × V))).length < 2 := fun v1 => putF_lt (by decide)
    have l2 : ∀ v1 v2 : V, (putF "size" v2 (putF "length" v1 ([] : List (Str × V)))).length < 3 := fun v1 v2 => putF_lt (l1 v1)
    have l3 : ∀ v1 v2 v3 : V, (putF "_parts" v3 (putF "size" v2 (putF "length" v1 ([] : List (Str × V))))).length < 4 := fun v1 v2 v3 => putF_lt (l2 v1 v2)
    refine q_fld (ev_var rfl) (ev_var rfl) upd_same T.cl_Blocks T.n_Blocks_size (Nat.lt_trans (l1 _) (by decide)) fun H3 e3 => ?_
    refine q_fldL (el_lcR3 (fun i => .str (cutAt z n i)) (ea_cons ev_c (ea_cons (ev_lenS (ev_var rfl) (by omega)) (ea_cons (ev_var rfl) ea_nil))) (rg_cut hz1 (by omega) hn1 (by omega)) (Nat.le_trans (cnt_le _ _ hn1) (by omega)) (fun x => rfl) (fun i H1 e hi => ev_is (ev_slS (ev_var rfl) (eo_some (ev_var rfl)) (eo_some (ev_op (ev_var rfl) (ev_var rfl) rv_I0)) (by omega)) (by rw [Int.zero_add]; rfl)))
      (ev_var rfl) upd_same T.cl_Blocks T.n_Blocks__parts (Nat.lt_trans (l2 _ _) (by decide)) fun pp H4 np e4 h4 => ?_
    refine s_fldD (ev_var rfl) upd_same T.cl_Blocks T.n_Blocks__told (Nat.lt_trans (l3 _ _ _) (by decide)) fun td H5 nt e5 h5 => ?_
    have npx : pp ≠ x := fun z' => by rw [z', upd_same] at np; cases np
    have ntx : td ≠ x := fun z' => by rw [z', upd_same] at nt; cases nt
    have h4' : (upd H4 x (.ins A.c_Blocks dx (putF "_parts" (.ref pp) (putF "size" (.int (n : Int)) (putF "length" (.int (z.length : Int)) []))))) pp = some (.lst (parts z n)) := by rw [upd_ne npx]; exact h4
    refine q n rfl hn1 hn2 td _ ?_ ?_ ?_
    · rw [upd_ne ntx] at nt
      have n3 := fresh_back e4 nt
      rw [upd_ne ntx] at n3
      have n2 := fresh_back e3 n3
      rw [upd_ne ntx] at n2
      exact fresh_back e1 (fresh_back e2 n2)
    · intro F hF e
      exact ((((((((e.trans e1).trans e2).mut hF).trans e3).mut hF).trans e4).mut hF).trans e5).mut hF
    · refine ⟨⟨dx, pp, upd_same, ?_⟩, ?_⟩
      · rw [upd_ne npx]
        exact e5 _ _ h4'
      · rw [upd_ne ntx]
        exact h5

theorem sc_Blocks_many : FnScope ["self"] ["self"] (defScope s_Blocks_many) := ⟨rfl, rfl, rfl, by decide +kernel, rfl, by decide +kernel, by decide +kernel⟩
theorem ok_Blocks_many (T : Txt K mg A) : FnOk P w K mg base CX0 1 A.f_Blocks_many A.d_Blocks_many ["self"] (spMany A.c_Blocks) := by
  refine T.F_Blocks_many.ok sc_Blocks_many (fun vs H Q E h => ?_) (fun cdv A' outer s H vs Q E hr h => ?_)
  · obtain ⟨x, td, z, n, ks, rfl, _⟩ := h
    rfl
  · obtain ⟨x, td, z, n, ks, rfl, ⟨⟨dx, pp, h1, h2⟩, h3⟩, q⟩ := h
    refine ⟨_, (pss_one (ps_ret (pe_callB call_len_seq (by rfl) T.b_len PySem.boot_len (pa_cons (pe_fld (pv 0) rfl) pa_nil)))), ?_⟩
    refine s_ret (ev_len (ev_fld (ev_var rfl) h1 T.cl_Blocks T.n_Blocks__parts bf_parts) (sq_of h2)) fun H1 e1 => ?_
    rw [parts_len]
    exact q H1 e1

theorem sc_Blocks_part : FnScope ["self", "number"] ["self", "number"] (defScope s_Blocks_part) := ⟨rfl, rfl, rfl, by decide +kernel, rfl, by decide +kernel, by decide +kernel⟩
theorem ok_Blocks_part (T : Txt K mg A) : FnOk P w K mg base (L2.CX P w) 3 A.f_Blocks_part A.d_Blocks_part ["self", "number"] (spPart K A.c_Blocks A.c_NoBlock) := by
  refine T.F_Blocks_part.okX sc_Blocks_part (fun vs H Q E h => ?_) (fun cdv A' outer s H vs Q E hr h => ?_)
  · obtain ⟨x, td, z, n, ks, v, rfl, _⟩ := h
    rfl
  · obtain ⟨x, td, z, n, ks, v, rfl, hB, hn1, hz1, hz2, hks, hk, q, qn⟩ := h
    obtain ⟨⟨dx, pp, h1, h2⟩, h3⟩ := id hB
    have hu := hu_of hr
    refine ⟨_, (pss_cons (ps_if (pt_not (pt_val (pe_call (ok_is_whole_from T) (hr.mono (by decide)) (by rfl) T.g_is_whole_from T.F_is_whole_from.kp T.s_is_whole_from .nil pass0 (pa_cons pe_int (pa_cons (pe_op op_sub (pe_callB call_len_seq (by rfl) T.b_len PySem.boot_len (pa_cons (pe_fld (pv 0) rfl) pa_nil)) pe_int) (pa_cons (pv 1) pa_nil)))))) (pss_one (ps_raise rfl (takes_of rfl rfl rfl rfl) (pmk_own PySem.F.excBase_ValueError T.x_NoBlock T.g_NoBlock T.k_NoBlock (raises_own T.e_NoBlock T.t_NoBlock) (by exact rfl)))) pss_nil) (pss_cons (ps_dput hu (pe_fld (pv 0) rfl) (pv 1) pe_bl rfl) (pss_one (ps_ret (pe_ix ix_list (pe_fld (pv 0) rfl) (pv 1) (fun _ _ => rfl)))))), ?_⟩
    refine q_when (et_not (et_B (ev_call (ea_cons ev_c (ea_cons (ev_op (ev_len (ev_fld (ev_var rfl) h1 T.cl_Blocks T.n_Blocks__parts bf_parts) (sq_of h2)) ev_c rv_I0) (ea_cons (ev_var rfl) ea_nil))) (sv_wf hk)))) (fun hb H1 e1 => ?_) (fun hb H1 e1 => ?_)
    · rw [parts_len] at hb
      exact qn (by simpa using hb) H1 e1
    rw [parts_len] at hb
    obtain ⟨j, rfl, hj⟩ : ∃ j : Nat, v = .int (j : Int) ∧ j < cnt z.length n := by
      have hb' : inR 0 ((cnt z.length n : Int) - 1) v = true := by simpa using hb
      cases v with
      | int i =>
        have h2 : (decide (0 ≤ i) && decide (i ≤ (cnt z.length n : Int) - 1)) = true := hb'
        rw [Bool.and_eq_true, decide_eq_true_eq, decide_eq_true_eq] at h2
        exact ⟨i.toNat, by rw [Int.toNat_of_nonneg (by omega)], by omega⟩
      | _ => cases hb'
    clear hb
    refine q_dput (k := Sum.inl (j : Int)) ev_c (ev_fld (ev_var rfl) (e1 _ _ h1) T.cl_Blocks T.n_Blocks__told bf_told) (ev_var rfl) (e1 _ _ h3) (by rw [dk_len]; omega) fun H2 e2 => ?_
    rw [dk_put]
    have nxt : x ≠ td := ne_of h1 h3 (by intro z'; cases z')
    have npt : pp ≠ td := ne_of h2 h3 (by intro z'; cases z')
    have g1 : (upd H2 td (.dK (dk (addK ks j)))) x = some (.ins A.c_Blocks dx (bf z.length n pp td)) := by rw [upd_ne nxt]; exact e2 _ _ (e1 _ _ h1)
    have g2 : (upd H2 td (.dK (dk (addK ks j)))) pp = some (.lst (parts z n)) := by rw [upd_ne npt]; exact e2 _ _ (e1 _ _ h2)
    refine s_ret (ev_op (ev_fld (ev_var rfl) g1 T.cl_Blocks T.n_Blocks__parts bf_parts) (ev_var rfl) (rv_ixL (sq_of g2) (atI_nat (parts_at hj)))) fun H3 e3 => ?_
    refine q j rfl hj H3 (fun F hF e => (((e.trans e1).trans e2).mut hF).trans e3) ?_
    exact ⟨⟨dx, pp, e3 _ _ g1, e3 _ _ g2⟩, e3 _ _ upd_same⟩

theorem sc_Blocks_asked : FnScope ["self"] ["self"] (defScope s_Blocks_asked) := ⟨rfl, rfl, rfl, by decide +kernel, rfl, by decide +kernel, by decide +kernel⟩
theorem ok_Blocks_asked (T : Txt K mg A) : FnOk P w K mg base CX0 1 A.f_Blocks_asked A.d_Blocks_asked ["self"] (spAsked A.c_Blocks) := by
  refine T.F_Blocks_asked.ok sc_Blocks_asked (fun vs H Q E h => ?_) (fun cdv A' outer s H vs Q E hr h => ?_)
  · obtain ⟨x, td, z, n, ks, rfl, _⟩ := h
    rfl
  · obtain ⟨x, td, z, n, ks, rfl, ⟨⟨dx, pp, h1, h2⟩, h3⟩, q⟩ := h
    refine ⟨_, (pss_one (ps_ret (pe_callTy (call_list_dK rfl) (by rfl) T.b_list (by decide +kernel) (pa_cons (pe_fld (pv 0) rfl) pa_nil)))), ?_⟩
    refine s_retL (el_listD (ev_fld (ev_var rfl) h1 T.cl_Blocks T.n_Blocks__told bf_told) h3) fun p H1 np e1 hp => ?_
    rw [dk_keys] at hp
    exact q p H1 np e1 hp

theorem sc_law_cell_at : FnScope ["_law_script", "_law_k"] ["_law_script", "_law_k"] (defScope s_law_cell_at) := ⟨rfl, rfl, rfl, by decide +kernel, rfl, by decide +kernel, by decide +kernel⟩
theorem ok_law_cell_at (T : Txt K mg A) : FnOk P w K mg base CX0 1 A.f_law_cell_at A.d_law_cell_at ["_law_script", "_law_k"] (spCel K) := by
  refine T.F_law_cell_at.ok sc_law_cell_at (fun vs H Q E h => ?_) (fun cdv A' outer s H vs Q E hr h => ?_)
  · obtain ⟨a, ns, k, rfl, _⟩ := h
    rfl
  · obtain ⟨a, ns, k, rfl, hS, q⟩ := h
    refine ⟨_, (pss_cons (ps_if (pt_cmpR op_lt (pv 1) (pe_callB call_len_seq (by rfl) T.b_len PySem.boot_len (pa_cons (pv 0) pa_nil)) (nomark _)) (pss_one (ps_ret (pe_op op_mod (pe_op op_add (pe_op op_add (pe_op op_mul (pe_ix ix_list (pv 0) (pv 1) (fun _ _ => rfl)) pe_int) (pe_op op_mul pe_int (pv 1))) pe_int) pe_int))) pss_nil) (pss_one (ps_ret (pe_op op_mod (pe_op op_mul pe_int (pv 1)) pe_int)))), ?_⟩
    refine q_when (et_test (ev_op (ev_var rfl) (ev_len (ev_var rfl) hS) rv_I0)) (fun hb H1 e1 => ?_) (fun hb H1 e1 => ?_)
    · have hk : k < ns.length := by
        have z := of_decide_eq_true hb
        rw [List.length_map] at z
        omega
      have hx : (ns.map V.int)[k]? = some (.int (ns.getD k 0)) := by
        rw [List.getElem?_map, List.getElem?_eq_getElem hk, List.getD_eq_getElem?_getD, List.getElem?_eq_getElem hk]
        rfl
      have hS1 := ex_l e1 hS
      refine s_ret (ev_op (ev_op (ev_op (ev_op (ev_op (ev_var rfl) (ev_var rfl) (rv_ixL hS1 (atI_nat hx))) ev_c (rv_I (.inr ⟨by decide, by decide⟩))) (ev_op ev_c (ev_var rfl) (rv_I (.inl ⟨by decide, by decide⟩))) rv_I0) ev_c rv_I0) ev_c (rv_I (by decide))) fun H2 e2 => ?_
      have z := q H2 (e1.trans e2)
      unfold cell at z
      rw [if_pos hk] at z
      exact z
    · have hk : ¬ k < ns.length := by
        have z := of_decide_eq_false hb
        rw [List.length_map] at z
        omega
      refine s_ret (ev_op (ev_op ev_c (ev_var rfl) (rv_I (.inl ⟨by decide, by decide⟩))) ev_c (rv_I (by decide))) fun H2 e2 => ?_
      have z := q H2 (e1.trans e2)
      unfold cell at z
      rw [if_neg hk] at z
      exact z

theorem sc_law_whole : FnScope ["_law_found"] ["_law_found"] (defScope s_law_whole) := ⟨rfl, rfl, rfl, by decide +kernel, rfl, by decide +kernel, by decide +kernel⟩
theorem ok_law_whole (T : Txt K mg A) : FnOk P w K mg base CX0 1 A.f_law_whole A.d_law_whole ["_law_found"] (spWhole K) := by
  refine T.F_law_whole.ok sc_law_whole (fun vs H Q E h => ?_) (fun cdv A' outer s H vs Q E hr h => ?_)
  · obtain ⟨x, rfl, _⟩ := h
    rfl
  · obtain ⟨x, rfl, ⟨tv, b1, b2, h1, h2, h3, h4⟩, q⟩ := h
    refine ⟨_, (pss_one (ps_ret (pe_and (pe_callB call_isi (by rfl) T.b_isinstance (by decide +kernel) (pa_cons (pv 0) (pa_cons (pe_bltn (v := .ty "int") (by rfl) T.b_int (by decide +kernel) rfl) pa_nil))) (pe_one (pe_not (pe_callB call_isi (by rfl) T.b_isinstance (by decide +kernel) (pa_cons (pv 0) (pa_cons (pe_bltn (v := .ty "bool") (by rfl) T.b_bool (by decide +kernel) rfl) pa_nil)))))))), ?_⟩
    refine s_ret (ev_andV (ev_isi (ev_var rfl) ev_c (.ty _) h1 h2) (fun hb => (ev_notV (ev_isi (ev_var rfl) ev_c (.ty _) h1 h3)))) fun H2 e2 => ?_
    rw [h4]
    exact q H2 e2

theorem sc_law_parents : FnScope ["_law_script", "_law_many", "_law_shape", "_law_parents_here", "_law_way", "_law_k", "_law_cell", "_law_up"] ["_law_script"] (defScope s_law_parents) := ⟨rfl, rfl, rfl, by decide +kernel, rfl, by decide +kernel, by decide +kernel⟩
theorem ok_law_parents (T : Txt K mg A) : FnOk P w K mg base CX0 2 A.f_law_parents A.d_law_parents ["_law_script"] (spParents K) := by
  refine T.F_law_parents.ok sc_law_parents (fun vs H Q E h => ?_) (fun cdv A' outer s H vs Q E hr h => ?_)
  · obtain ⟨a, ns, rfl, _⟩ := h
    rfl
  · obtain ⟨a, ns, rfl, hS, q⟩ := h
    refine ⟨_, (pss_cons (ps_set (i := 1) sc_law_parents.nd rfl (Or.inl rfl) (pe_op op_add pe_int (pe_op op_mod (pe_call (ok_law_cell_at T) (hr.mono (by decide)) (by rfl) T.g_law_cell_at T.F_law_cell_at.kp T.s_law_cell_at .nil pass0 (pa_cons (pv 0) (pa_cons pe_int pa_nil))) pe_int))) (pss_cut (ps_if (pt_cmpR op_eq (pe_op op_mod (pe_call (ok_law_cell_at T) (hr.mono (by decide)) (by rfl) T.g_law_cell_at T.F_law_cell_at.kp T.s_law_cell_at .nil pass0 (pa_cons (pv 0) (pa_cons pe_int pa_nil))) pe_int) pe_int (nomark _)) (pss_one (ps_set (i := 1) sc_law_parents.nd rfl (Or.inl rfl) (pe_op op_add pe_int (pe_op op_mod (pe_call (ok_law_cell_at T) (hr.mono (by decide)) (by rfl) T.g_law_cell_at T.F_law_cell_at.kp T.s_law_cell_at .nil pass0 (pa_cons (pv 0) (pa_cons pe_int pa_nil))) pe_int)))) pss_nil) (pss_cons (ps_set (i := 2) sc_law_parents.nd rfl (Or.inl rfl) (pe_op op_mod (pe_op op_fdiv (pe_call (ok_law_cell_at T) (hr.mono (by decide)) (by rfl) T.g_law_cell_at T.F_law_cell_at.kp T.s_law_cell_at .nil pass0 (pa_cons (pv 0) (pa_cons pe_int pa_nil))) pe_int) pe_int)) (pss_cons (ps_set (i := 3) sc_law_parents.nd rfl (Or.inl rfl) (pe_lst (pa_cons pe_non pa_nil))) (pss_cons (ps_set (i := 4) sc_law_parents.nd rfl (Or.inl rfl) (pe_lst (pa_cons pe_int pa_nil))) (pss_cons (ps_for PassesOwn.never rfl (pi_range2 (by rfl) T.b_range (pa_cons pe_int (pa_cons (pv 1) pa_nil))) (pg_name (i := 5) sc_law_parents.nd rfl (Or.inl rfl)) (pss_cons (ps_set (i := 6) sc_law_parents.nd rfl (Or.inl rfl) (pe_op op_add (pe_call (ok_law_cell_at T) (hr.mono (by decide)) (by rfl) T.g_law_cell_at T.F_law_cell_at.kp T.s_law_cell_at .nil pass0 (pa_cons (pv 0) (pa_cons (pe_op op_add pe_int (pe_op op_mod (pv 5) pe_int)) pa_nil))) (pe_op op_mul (pe_op op_mul pe_int (pv 5)) (pe_op op_add pe_int (pe_op op_fdiv (pv 5) pe_int))))) (pss_cons (ps_set (i := 7) sc_law_parents.nd rfl (Or.inl rfl) (pe_ix ix_list (pe_lst (pa_cons (pe_op op_mod (pv 6) pe_int) (pa_cons (pe_op op_mod (pv 6) pe_int) (pa_cons pe_int (pa_cons (pe_op op_sub (pe_callB call_len_seq (by rfl) T.b_len PySem.boot_len (pa_cons (pv 4) pa_nil)) pe_int) (pa_cons (pe_op op_mod (pv 6) (pe_callB call_len_seq (by rfl) T.b_len PySem.boot_len (pa_cons (pv 4) pa_nil))) (pa_cons (pe_op op_mul (pe_op op_fdiv (pe_op op_mod (pv 6) pe_int) pe_int) pe_int) pa_nil))))))) (pv 2) (fun _ _ => rfl))) (pss_cons (ps_set (i := 4) sc_law_parents.nd rfl (Or.inl rfl) (pe_slice sl_list (pv 4) po_none (po_some (pe_op op_sub (pe_callB call_len_seq (by rfl) T.b_len PySem.boot_len (pa_cons (pv 4) pa_nil)) (pe_callB (call_min2 rfl) (by rfl) T.b_min (by decide +kernel) (pa_cons (pv 7) (pa_cons (pe_op op_sub (pe_callB call_len_seq (by rfl) T.b_len PySem.boot_len (pa_cons (pv 4) pa_nil)) pe_int) pa_nil))))))) (pss_cons (ps_expr (pe_bm PySem.F.plainAttrs_list PySem.F.slot_list_append PySem.F.type_list_append mt_append (pv 3) (pa_cons (pe_ix ix_list (pv 4) (pe_un un_neg pe_int) (fun _ _ => rfl)) pa_nil))) (pss_one (ps_expr (pe_bm PySem.F.plainAttrs_list PySem.F.slot_list_append PySem.F.type_list_append mt_append (pv 4) (pa_cons (pv 5) pa_nil))))))))) (pss_one (ps_ret (pv 3))))))))), ?_⟩
    have g0 := cell_ge ns 0
    have g1 := cell_ge ns 1
    -- how many
    refine q_asg (ev_op ev_c (ev_op (ev_call (ea_cons (ev_var rfl) (ea_cons ev_c ea_nil)) (sv_cell 0 rfl hS)) ev_c (rv_I (by decide))) rv_I0) fun H1 e1 => ?_
    have hS1 := ex_l e1 hS
    refine q_cut (M := fun σ H2 => ∃ m : Int, 1 ≤ m ∧ m ≤ 160 ∧ Ex H H2 ∧ σ = [some (.ref a), some (.int m), none, none, none, none, none, none]) ?_ ?_
    · refine s_when (et_test (ev_op (ev_op (ev_call (ea_cons (ev_var rfl) (ea_cons ev_c ea_nil)) (sv_cell 1 rfl hS1)) ev_c (rv_I (by decide))) ev_c (rv_eq rfl))) (fun hb H2 e2 => ?_) (fun hb H2 e2 => ?_)
      · refine s_asg (ev_op ev_c (ev_op (ev_call (ea_cons (ev_var rfl) (ea_cons ev_c ea_nil)) (sv_cell 0 rfl (ex_l e2 hS1))) ev_c (rv_I (by decide))) rv_I0) fun H3 e3 => ?_
        exact ⟨_, by omega, by omega, (e1.trans e2).trans e3, rfl⟩
      · exact ⟨_, by omega, by omega, e1.trans e2, rfl⟩
    rintro σ H2 ⟨m, hm1, hm2, e2, rfl⟩
    have hS2 := ex_l e2 hS
    -- the shape
    refine q_asg (ev_op (ev_op (ev_call (ea_cons (ev_var rfl) (ea_cons ev_c ea_nil)) (sv_cell 1 rfl hS2)) ev_c (rv_I ⟨by decide, by decide⟩)) ev_c (rv_I (by decide))) fun H3 e3 => ?_
    have e03 := e2.trans e3
    have hS3 := ex_l e03 hS
    generalize hsh : cell ns 1 / 3 % 6 = sh
    have hs0 : 0 ≤ sh := by omega
    have hs1 : sh < 6 := by omega
    refine q_asgL (el_lst (ea_cons ev_c ea_nil) (by simp)) fun pp H4 np e4 h4 => ?_
    have e04 := e03.trans e4
    refine q_asgL (el_lst (ea_cons ev_c ea_nil) (by simp)) fun pw H5 nw e5 h5 => ?_
    have e05 := e04.trans e5
    have npw : pp ≠ pw := ne_of_none h4 nw
    have np0 : H pp = none := fresh_back e03 np
    have nw0 : H pw = none := fresh_back e04 nw
    -- the loop
    refine q_forR2 (ea_cons ev_c (ea_cons (ev_var rfl) ea_nil)) ⟨by omega, by omega, by omega, by omega⟩
      (fun (i : Nat) (σ' : L2.St) (H' : Hp) => ∃ (P : List Int) (pw : Addr) (y5 y6 y7 : Option V), P.length = i ∧ Good P ∧ Ex H H' ∧ Own H H' pp (pV (par P)) ∧ Own H H' pw (stk (run P).st) ∧ pp ≠ pw ∧
        σ' = [some (.ref a), some (.int m), some (.int sh), some (.ref pp), some (.ref pw), y5, y6, y7]) ?_ ?_ ?_
    · intro H6 e6
      exact ⟨[], pw, none, none, none, rfl, good_nil, e05.trans e6, ⟨np0, e6 _ _ (e5 _ _ h4)⟩, ⟨nw0, e6 _ _ h5⟩, npw, rfl⟩
    · rintro i σ' H6 hi ⟨P, pw, y5, y6, y7, hl, hg, e6, ho, hw, npw, rfl⟩
      have hS6 := ex_l e6 hS
      have hlen := stk_len (run P).st
      have hpos := run_pos P
      have hle := st_le P
      refine q_asg (ev_op (ev_call (ea_cons (ev_var rfl) (ea_cons (ev_op ev_c (ev_op (ev_var rfl) ev_c (rv_I (by decide))) rv_I0) ea_nil)) (sv_cell (2 + (1 + i) % 23) (by omega) hS6)) (ev_op (ev_op ev_c (ev_var rfl) (rv_I (.inl ⟨by decide, by decide⟩))) (ev_op ev_c (ev_op (ev_var rfl) ev_c (rv_I ⟨by decide, by decide⟩)) rv_I0) (rv_I (.inr ⟨by omega, by omega⟩))) rv_I0) fun H7 e7 => ?_
      generalize cell ns (2 + (1 + i) % 23) + 7919 * (1 + (i : Int)) * (1 + (1 + (i : Int)) / 23) = c
      have hw7 := hw.ex e7
      have ho7 := ho.ex e7
      obtain ⟨u, hu0, hu⟩ := atI_six (a0 := c % 3) (a1 := c % 2) (a2 := 0) (a3 := ((stk (run P).st).length : Int) - 1) (a4 := c % ((stk (run P).st).length : Int)) (a5 := c % 7 / 5 * 9)
        (by omega) (by omega) (by omega) (by omega) (Int.emod_nonneg _ (by omega)) (by omega) hs0 hs1
      refine q_asg (ev_opL1 (el_lst (ea_cons (ev_op (ev_var rfl) ev_c (rv_I (by decide))) (ea_cons (ev_op (ev_var rfl) ev_c (rv_I (by decide))) (ea_cons ev_c (ea_cons (ev_op (ev_len (ev_var rfl) hw7.sq) ev_c rv_I0) (ea_cons (ev_op (ev_var rfl) (ev_len (ev_var rfl) hw7.sq) (rv_I (by omega))) (ea_cons (ev_op (ev_op (ev_op (ev_var rfl) ev_c (rv_I (by decide))) ev_c (rv_I ⟨by decide, by decide⟩)) ev_c (rv_I (.inr ⟨by decide, by decide⟩))) ea_nil)))))) (by simp)) (fun _ e1 => Ev.mono e1 (ev_var rfl)) (fun _ _ hp e1 => rv_ixL (sq_of hp) hu)) fun H8 e8 => ?_
      have hw8 := hw7.ex e8
      have ho8 := ho7.ex e8
      refine q_asgL (el_sl (ev_var rfl) eo_none (eo_some (ev_op (ev_len (ev_var rfl) hw8.sq) (ev_min2 (ev_var rfl) (ev_op (ev_len (ev_var rfl) hw8.sq) ev_c rv_I0)) rv_I0)) hw8.sq) fun pv' H9 nv e9 h9 => ?_
      obtain ⟨j, hj, ej⟩ : ∃ j : Nat, j < (run P).st.length ∧ ((stk (run P).st).length : Int) - min u (((stk (run P).st).length : Int) - 1) = (((run P).st.length - j : Nat) : Int) :=
        ⟨(min u ((run P).st.length - 1)).toNat, by omega, by omega⟩
      rw [stk_cut _ j ej] at h9
      have ho9 := ho8.ex e9
      have e69 := ((e6.trans e7).trans e8).trans e9
      have hv9 : Own H H9 pv' (stk ((run P).st.drop j)) := ⟨fresh_back ((e6.trans e7).trans e8) nv, h9⟩
      have npv : pp ≠ pv' := ho8.ne nv
      obtain ⟨p, hp⟩ : ∃ p, (run P).st[j]? = some p := ⟨_, List.getElem?_eq_getElem hj⟩
      have hd : (run P).st.drop j = p :: (run P).st.drop (j + 1) := by
        obtain ⟨h1, h2⟩ := List.getElem?_eq_some_iff.mp hp
        rw [List.drop_eq_getElem_cons h1, h2]
      refine q_app ho9.at_ (ev_var rfl) (ev_op (ev_var rfl) (ev_un ev_c ru_neg) (rv_ixL hv9.sq (by rw [hd]; exact stk_last _ _))) (by rw [pV_len, par_len]; omega) fun H10 e10 => ?_
      have hv10 : Own H (upd H10 pp (.lst (pV (par P) ++ [.int p]))) pv' (stk ((run P).st.drop j)) := (hv9.ex e10).off npv.symm
      refine s_app hv10.at_ (ev_var rfl) (ev_var rfl) (by rw [stk_len, List.length_drop]; omega) fun H11 e11 => ?_
      have ho10 : Own H (upd H10 pp (.lst (pV (par P) ++ [.int p]))) pp (pV (par P) ++ [.int p]) := ho.put
      have hm : p ∈ (run P).st := List.mem_of_getElem? hp
      have er : run (P ++ [p]) = ⟨(run P).k :: (run P).st.drop j, (run P).bs ++ List.replicate j false ++ [true], (run P).k + 1⟩ := by rw [run_app, adv_place (fall_run _) hp]
      refine ⟨P ++ [p], pv', _, _, _, by rw [List.length_append, hl]; rfl, hg.app hm, ?_, ?_, ?_, npv, rfl⟩
      · exact Ex.mut (((e69.trans e10).mut ho.nw).trans e11) hv9.nw
      · rw [par_app, pV_app]
        exact (ho10.ex e11).off npv
      · rw [er, stk_cons, run_k, hl]
        have z : Own H (upd H11 pv' (.lst (stk ((run P).st.drop j) ++ [.int (1 + (i : Int))]))) pv' (stk ((run P).st.drop j) ++ [.int (1 + (i : Int))]) := hv9.put
        rw [Int.add_comm] at z
        rw [Int.add_comm (i : Int) 1]
        rw [Int.add_comm] at z
        exact z
    · rintro σ' H6 ⟨P, pw, y5, y6, y7, hl, hg, e6, ho, hw, npw, rfl⟩
      refine s_ret (ev_var rfl) fun H7 e7 => ?_
      exact q P hg (by omega) pp H7 np0 (e6.trans e7) (e7 _ _ ho.at_)

theorem sc_law_bits : FnScope ["_law_parents_here", "_law_bits_here", "_law_way", "_law_k"] ["_law_parents_here"] (defScope s_law_bits) := ⟨rfl, rfl, rfl, by decide +kernel, rfl, by decide +kernel, by decide +kernel⟩
theorem ok_law_bits (T : Txt K mg A) : FnOk P w K mg base CX0 2 A.f_law_bits A.d_law_bits ["_law_parents_here"] (spBits K) := by
  refine T.F_law_bits.ok sc_law_bits (fun vs H Q E h => ?_) (fun cdv A' outer s H vs Q E hr h => ?_)
  · obtain ⟨a, P, rfl, _⟩ := h
    rfl
  · obtain ⟨a, P, rfl, hS, hg, hl, q⟩ := h
    refine ⟨_, (pss_cons (ps_set (i := 1) sc_law_bits.nd rfl (Or.inl rfl) pe_str) (pss_cons (ps_set (i := 2) sc_law_bits.nd rfl (Or.inl rfl) (pe_lst pa_nil)) (pss_cons (ps_for PassesOwn.never rfl (pi_range1 (by rfl) T.b_range (pa_cons (pe_callB call_len_seq (by rfl) T.b_len PySem.boot_len (pa_cons (pv 0) pa_nil)) pa_nil)) (pg_name (i := 3) sc_law_bits.nd rfl (Or.inl rfl)) (pss_cons (ps_while PassesOwn.never (PW.pt (pw_and (pt_cmpR (op_neD hr.units) (pv 2) (pe_lst pa_nil) (nomark _)) (pw_and1 (pt_cmpR op_ne (pe_ix ix_list (pv 2) (pe_un un_neg pe_int) (fun _ _ => rfl)) (pe_ix ix_list (pv 0) (pv 3) (fun _ _ => rfl)) (nomark _))))) (pss_cons (ps_expr (pe_bm0 PySem.F.plainAttrs_list PySem.F.slot_list_pop PySem.F.type_list_pop mt_pop (pv 2))) (pss_one (ps_set (i := 1) sc_law_bits.nd rfl (Or.inl rfl) (pe_op op_add_str (pv 1) pe_str))))) (pss_cons (ps_expr (pe_bm PySem.F.plainAttrs_list PySem.F.slot_list_append PySem.F.type_list_append mt_append (pv 2) (pa_cons (pv 3) pa_nil))) (pss_one (ps_set (i := 1) sc_law_bits.nd rfl (Or.inl rfl) (pe_op op_add_str (pv 1) pe_str)))))) (pss_one (ps_ret (pe_op op_add_str (pv 1) (pe_op op_mulS pe_str (pe_callB call_len_seq (by rfl) T.b_len PySem.boot_len (pa_cons (pv 2) pa_nil))))))))), ?_⟩
    have hpl : (pV (par P)).length = P.length + 1 := by rw [pV_len, par_len]
    refine q_asg ev_c fun H1 e1 => ?_
    refine q_asgL (el_lst ea_nil (by decide)) fun pw H2 nw e2 h2 => ?_
    have e02 := e1.trans e2
    refine q_forR1 (ea_cons (ev_len (ev_var rfl) (ex_l e02 hS)) ea_nil) ⟨by omega, by omega⟩
      (fun (i : Nat) (σ' : L2.St) (H' : Hp) => ∃ (y3 : Option V), i ≤ P.length + 1 ∧ Ex H H' ∧ Own H H' pw (stk (rs P i)) ∧ σ' = [some (.ref a), some (.str (txt (rb P i))), some (.ref pw), y3]) ?_ ?_ ?_
    · intro H3 e3
      exact ⟨none, Nat.zero_le _, e02.trans e3, ⟨fresh_back e1 nw, e3 _ _ h2⟩, rfl⟩
    · rintro i σ' H3 hi ⟨y3, hi1, e3, hw, rfl⟩
      obtain ⟨J, p, hJ, hJl, hJe, hx, ers, erb⟩ := bits_turn hg (i := i) (by omega)
      have hbl := rb_le (P := P) hi1
      refine q_while (fun (m : Nat) (σ2 : L2.St) (H4 : Hp) => ∃ j, j ≤ J ∧ m = J - j ∧ Ex H H4 ∧ Own H H4 pw (stk ((rs P i).drop j)) ∧ σ2 = [some (.ref a), some (.str (txt (rb P i ++ List.replicate j false))), some (.ref pw), some (.int (i : Int))]) J ?_ ?_
      · refine ⟨0, Nat.zero_le _, rfl, e3, hw, ?_⟩
        show _ = ([some (V.ref a), some (V.str (txt (rb P i ++ []))), _, _] : L2.St)
        rw [List.append_nil]; rfl
      · rintro m σ2 H4 ⟨j, hj, rfl, e4, hw4, rfl⟩
        have hS4 := ex_l e4 hS
        have hnx : ∀ qq, (rs P i)[j]? = some qq → (rs P i).drop j = qq :: (rs P i).drop (j + 1) := fun qq hq => by
          obtain ⟨h1, h2⟩ := List.getElem?_eq_some_iff.mp hq
          rw [List.drop_eq_getElem_cons h1, h2]
        refine ⟨decide (j < J), ?_, fun hb H5 e5 => ?_, fun hb H5 e5 => ?_⟩
        · by_cases hjl : j < (rs P i).length
          · obtain ⟨qq, hq⟩ : ∃ qq, (rs P i)[j]? = some qq := ⟨_, List.getElem?_eq_getElem hjl⟩
            rw [hnx qq hq] at hw4
            have hne : rs P i ≠ [] := fun z => by rw [z] at hq; simp at hq
            refine et_is (et_and (et_test (ev_opL (ev_var rfl) (el_lst ea_nil (by decide)) (fun _ _ hp e1 => rv_neNil (ex_l e1 hw4.sq) (sq_of hp)))) (fun hb => (et_test (ev_op (ev_op (ev_var rfl) (ev_un ev_c ru_neg) (rv_ixL hw4.sq (stk_last _ _))) (ev_op (ev_var rfl) (ev_var rfl) (rv_ixL hS4 (atI_nat (hx hne)))) (rv_ne rfl))))) ?_
            show (true && !decide (V.int qq = V.int p)) = decide (j < J)
            rw [Bool.true_and]
            by_cases hjJ : j < J
            · obtain ⟨q2, hq2, hqp⟩ := hJ j hjJ
              rw [hq] at hq2
              cases hq2
              rw [decide_eq_true hjJ, decide_eq_false (fun e => hqp (V.int.inj e))]
              rfl
            · have ej : j = J := by omega
              subst ej
              rcases hJe with hJe | hJe
              · omega
              · rw [hq] at hJe
                cases hJe
                rw [decide_eq_false hjJ, decide_eq_true rfl]
                rfl
          · have hd : (rs P i).drop j = [] := List.drop_eq_nil_of_le (by omega)
            rw [hd] at hw4
            rw [decide_eq_false (show ¬ j < J by omega)]
            exact et_is (et_and (et_test (ev_opL (ev_var rfl) (el_lst ea_nil (by decide)) (fun _ _ hp e1 => rv_neNil (ex_l e1 hw4.sq) (sq_of hp)))) (b := true) (fun hb => nomatch hb)) rfl
        · have hjJ : j < J := of_decide_eq_true hb
          obtain ⟨qq, hq, hqp⟩ := hJ j hjJ
          rw [hnx qq hq] at hw4
          refine ⟨_, fun σ3 H6 h => h, ?_⟩
          have hw5 := hw4.ex e5
          refine q_pop hw5.at_ (ev_var rfl) (stk_top _ _) fun H6 e6 => ?_
          rw [stk_pop]
          refine s_asg (ev_op (ev_var rfl) ev_c (rv_addS (by rw [txt_len, List.length_append, List.length_replicate]; show _ + 1 ≤ _; omega))) fun H7 e7 => ?_
          refine ⟨J - (j + 1), by omega, j + 1, hjJ, rfl, ?_, ?_, ?_⟩
          · exact (((e4.trans e5).trans e6).mut hw.nw).trans e7
          · have z : Own H (upd H6 pw (.lst (stk ((rs P i).drop (j + 1))))) pw _ := hw5.put
            exact z.ex e7
          · rw [txt_0, txt_app, List.append_assoc, ← List.replicate_succ']
            rfl
        · have ej : j = J := by
            have z := of_decide_eq_false hb
            omega
          subst ej
          have hw5 := hw4.ex e5
          refine q_app hw5.at_ (ev_var rfl) (ev_var rfl) (by rw [stk_len, List.length_drop]; omega) fun H6 e6 => ?_
          refine s_asg (ev_op (ev_var rfl) ev_c (rv_addS (by rw [txt_len, List.length_append, List.length_replicate]; show _ + 1 ≤ _; omega))) fun H7 e7 => ?_
          refine ⟨some (.int (i : Int)), by omega, ?_, ?_, ?_⟩
          · exact (((e4.trans e5).trans e6).mut hw.nw).trans e7
          · rw [ers, stk_cons]
            have z : Own H (upd H6 pw (.lst (stk ((rs P i).drop j) ++ [.int (i : Int)]))) pw _ := hw5.put
            exact z.ex e7
          · rw [erb, txt_1, txt_app]
            rfl
    · rintro σ' H3 ⟨y3, hi1, e3, hw, rfl⟩
      have en : ((pV (par P)).length : Int).toNat = P.length + 1 := by omega
      rw [en] at hw
      rw [en]
      have hbl := rb_le (P := P) (Nat.le_refl (P.length + 1))
      refine s_ret (ev_op (ev_var rfl) (ev_op ev_c (ev_len (ev_var rfl) hw.sq) (rv_mulS (⟨by omega, by rw [stk_len]; omega⟩))) (rv_addS (by rw [txt_len, txt_len, List.length_replicate, stk_len]; omega))) fun H4 e4 => ?_
      rw [txt_app, stk_len]
      have z := q H4 (e3.trans e4)
      have ef : full P = rb P (P.length + 1) ++ List.replicate ((rs P (P.length + 1)).length : Int).toNat false := by
        show _ = (run (P.take P.length)).bs ++ List.replicate (((run (P.take P.length)).st.length : Nat) : Int).toNat false
        rw [List.take_length, Int.toNat_natCast]
        rfl
      rw [ef] at z
      exact z

theorem sc_law_no_size : FnScope ["_law_bits_here", "_law_cell", "_law_size", "e"] ["_law_bits_here", "_law_cell"] (defScope s_law_no_size) := ⟨rfl, rfl, rfl, by decide +kernel, rfl, by decide +kernel, by decide +kernel⟩
theorem ok_law_no_size (T : Txt K mg A) : FnOk P w K mg base CX0 5 A.f_law_no_size A.d_law_no_size ["_law_bits_here", "_law_cell"] spNoSize := by
  refine T.F_law_no_size.ok sc_law_no_size (fun vs H Q E h => ?_) (fun cdv A' outer s H vs Q E hr h => ?_)
  · obtain ⟨z, c, rfl, _⟩ := h
    rfl
  · obtain ⟨z, c, rfl, hz1, hz2, hc, q⟩ := h
    refine ⟨_, (pss_cons (ps_set (i := 2) sc_law_no_size.nd rfl (Or.inl rfl) (pe_ix ix_list (pe_lst (pa_cons pe_int (pa_cons (pe_op op_sub (pe_un un_neg pe_int) (pe_op op_mod (pe_op op_fdiv (pv 1) pe_int) pe_int)) (pa_cons (pe_op op_add pe_int (pe_op op_mod (pe_op op_fdiv (pv 1) pe_int) (pe_op op_pow pe_int pe_int))) (pa_cons pe_bl (pa_cons pe_bl (pa_cons pe_non (pa_cons pe_str (pa_cons (pe_lst (pa_cons pe_int pa_nil)) (pa_cons (pe_tup (pa_cons pe_int pa_nil)) pa_nil)))))))))) (pe_op op_mod (pv 1) pe_int) (fun _ _ => rfl))) (pss_cons (ps_try_as (i := 3) (c := .ref A.c_KnotError) (Wout := fun _ _ _ _ => False) rfl rfl sc_law_no_size.nd rfl rfl ⟨rfl, by decide, Or.inl T.g_KnotError⟩ takes0 (fun W pn xe tk _ => (pss_one (ps_expr (pe_makeX T.mk_Blocks (ok_Blocks___init__ T) (hr.mono (by decide)) (by rfl) T.g_Blocks T.s_Blocks___init__ (fun σ => passAt tk σ) (pa_cons (pv 0) (pa_cons (pv 2) pa_nil)))))) (fun a oe cls d pn hz hf => (pss_one (ps_ret (pe_and (pe_callB (call_isC T.ec_NoSize hz hf) (by rfl) T.b_isinstance (by decide +kernel) (pa_cons (pv 3) (pa_cons (pe_glob (v := .ref A.c_NoSize) (by rfl) T.g_NoSize rfl) pa_nil))) (pe_and (pe_not (pe_callB (call_isC T.ec_NoSize hz hf) (by rfl) T.b_isinstance (by decide +kernel) (pa_cons (pv 3) (pa_cons (pe_glob (v := .ref A.c_NoBlock) (by rfl) T.g_NoBlock rfl) pa_nil)))) (pe_one (pe_callB (call_isC T.ec_NoSize hz hf) (by rfl) T.b_isinstance (by decide +kernel) (pa_cons (pv 3) (pa_cons (pe_bltn (v := .ty "ValueError") (by rfl) T.b_ValueError (by decide +kernel) rfl) pa_nil)))))))))) (pss_one (ps_ret pe_bl)))), ?_⟩
    refine q_asgX (e_op (e_lst (e_cons ev_c fun Ha ea => e_cons (ev_op (ev_un ev_c ru_neg) (ev_op (ev_op (ev_var rfl) ev_c (rv_I ⟨by decide, by decide⟩)) ev_c (rv_I (by decide))) rv_I0) fun Hb eb => e_cons (ev_op ev_c (ev_op (ev_op (ev_var rfl) ev_c (rv_I ⟨by decide, by decide⟩)) (ev_op ev_c ev_c (rv_I ⟨by decide, by decide, by decide⟩)) (rv_I (by decide))) rv_I0) fun Hc ec => e_cons ev_c fun Hd ed => e_cons ev_c fun He ee => e_cons ev_c fun Hf ef => e_cons ev_c fun Hg eg =>
      e_consL (el_lst (ea_cons ev_c ea_nil) (by simp)) fun pa Hh na eh ha => e_consU (eu_tup (ea_cons ev_c ea_nil) (by simp)) fun pb Hi nb ei hb => e_nil ⟨by show 9 ≤ sizeLine; decide, fun pt nt => ?_⟩)))
    have hz8 : ∀ Hx, Ev (tOp (rI (fun x j => 0 < j) fun i j => V.int (i % j)) (tVar 1) (tC (.int 9))) [some (.str z), some (.int c), none, none] Hx (.int (c % 9)) := fun Hx => (ev_op (ev_var rfl) ev_c (rv_I (by decide)))
    have hw : 0 ≤ c % 9 ∧ c % 9 < 9 := by omega
    have ha9 := ei _ _ ha
    obtain ⟨v, hvi, hvk, hvr⟩ : ∃ v, atI [V.int 0, .int (-1 - c / 9 % 99), .int (4001 + c / 9 % (10 ^ (20 : Int).toNat)), .bl true, .bl false, .non, .str (Str.ofString "3"), .ref pa, .ref pb] (c % 9) = some v ∧ (∀ H', Ex Hi H' → Kd K H' v) ∧ inR 1 4000 v = false := by
      have g1 : 0 ≤ c / 9 % 99 := by omega
      have g2 : 0 ≤ c / 9 % ((10 : Int) ^ (20 : Int).toNat) := Int.emod_nonneg _ (by decide)
      generalize c / 9 % 99 = u1 at g1 ⊢
      generalize c / 9 % ((10 : Int) ^ (20 : Int).toNat) = u2 at g2 ⊢
      generalize c % 9 = way at hw ⊢
      have hcs : way = 0 ∨ way = 1 ∨ way = 2 ∨ way = 3 ∨ way = 4 ∨ way = 5 ∨ way = 6 ∨ way = 7 ∨ way = 8 := by omega
      rcases hcs with rfl | rfl | rfl | rfl | rfl | rfl | rfl | rfl | rfl
      · exact ⟨_, rfl, fun _ _ => kd_int _, rfl⟩
      · refine ⟨_, rfl, fun _ _ => kd_int _, ?_⟩
        show (decide ((1 : Int) ≤ -1 - u1) && _) = false
        rw [decide_eq_false (by omega)]
        rfl
      · refine ⟨_, rfl, fun _ _ => kd_int _, ?_⟩
        show (_ && decide (4001 + u2 ≤ 4000)) = false
        rw [decide_eq_false (show ¬ 4001 + u2 ≤ 4000 by omega), Bool.and_false]
      · exact ⟨_, rfl, fun _ _ => kd_bl _, rfl⟩
      · exact ⟨_, rfl, fun _ _ => kd_bl _, rfl⟩
      · exact ⟨_, rfl, fun _ _ => kd_non, rfl⟩
      · exact ⟨_, rfl, fun _ _ => kd_str _, rfl⟩
      · exact ⟨_, rfl, fun _ e => kd_lst (e _ _ ha9), rfl⟩
      · exact ⟨_, rfl, fun _ e => kd_tup (e _ _ hb), rfl⟩
    have x5 := Ex.new (o := .lst [V.int 0, .int (-1 - c / 9 % 99), .int (4001 + c / 9 % (10 ^ (20 : Int).toNat)), .bl true, .bl false, .non, .str (Str.ofString "3"), .ref pa, .ref pb]) nt
    have k5 : (upd Hi pt (.lst [V.int 0, .int (-1 - c / 9 % 99), .int (4001 + c / 9 % (10 ^ (20 : Int).toNat)), .bl true, .bl false, .non, .str (Str.ofString "3"), .ref pa, .ref pb])) pt = some (.lst [V.int 0, .int (-1 - c / 9 % 99), .int (4001 + c / 9 % (10 ^ (20 : Int).toNat)), .bl true, .bl false, .non, .str (Str.ofString "3"), .ref pa, .ref pb]) := upd_same
    generalize [V.int 0, .int (-1 - c / 9 % 99), .int (4001 + c / 9 % (10 ^ (20 : Int).toNat)), .bl true, .bl false, .non, .str (Str.ofString "3"), .ref pa, .ref pb] = things at hvi x5 k5 ⊢
    refine hz8 _ _ (Ex.refl _) _ fun H2 e2 => ⟨pt, _, _, v, rfl, rfl, sq_of (e2 _ _ k5), hvi, ?_⟩
    have eHi : Ex H Hi := ((((((((ea.trans eb).trans ec).trans ed).trans ee).trans ef).trans eg).trans eh).trans ei)
    have e02 := (eHi.trans x5).trans e2
    refine s_dropM (ea_cons (ev_var rfl) (ea_cons (ev_var rfl) ea_nil)) fun H3 x dx e3 nx ndx nxd => ?_
    have xo : Ex H3 (upd (upd H3 dx (.own x)) x (.ins A.c_Blocks dx [])) := (Ex.new ndx).trans (Ex.new (by rw [upd_ne nxd.symm]; exact nx))
    refine ⟨x, dx, z, v, rfl, upd_same, hz1, hz2, hvk _ (((x5.trans e2).trans e3).trans xo), fun n hn h1 h2 => ?_, fun _ H4 e4 => ?_⟩
    · subst hn
      exfalso
      have hvr' : (decide ((1 : Int) ≤ (n : Int)) && decide ((n : Int) ≤ 4000)) = false := hvr
      rw [decide_eq_true (by omega), decide_eq_true (by omega)] at hvr'
      cases hvr'
    · refine ⟨true, PySem.W.exm_ref T.e_KnotError T.h_KnotError T.t_KnotError T.u_NoSize_KnotError, fun _ a na => ?_, fun z' => nomatch z'⟩
      refine s_ret (v := .bl true) (ev_is (ev_andV (ev_isC (ev_var rfl) ev_c (fun _ z => z) (kit_ref T.h_NoSize T.t_NoSize T.u_NoSize_NoSize (fun _ => rfl))) (fun _ => ev_andV (ev_notV (ev_isC (ev_var rfl) ev_c (fun _ z => z) (kit_other T.u_NoSize_NoSize T.h_NoBlock T.t_NoBlock T.u_NoSize_NoBlock)))
        (fun _ => ev_isC (ev_var rfl) ev_c (fun _ z => z) (kit_tyD T.u_NoSize_ValueError (by decide +kernel))))) rfl) fun H5 e5 => ?_
      exact q H5 ((((e02.trans e3).trans xo).trans e4).trans e5)

theorem sc_law_part : FnScope ["_law_blocks", "_law_number_here"] ["_law_blocks", "_law_number_here"] (defScope s_law_part) := ⟨rfl, rfl, rfl, by decide +kernel, rfl, by decide +kernel, by decide +kernel⟩
theorem ok_law_part (T : Txt K mg A) : FnOk P w K mg base CX0 4 A.f_law_part A.d_law_part ["_law_blocks", "_law_number_here"] (spLPart K A.c_Blocks) := by
  refine T.F_law_part.ok sc_law_part (fun vs H Q E h => ?_) (fun cdv A' outer s H vs Q E hr h => ?_)
  · obtain ⟨x, td, z, n, ks, v, rfl, _⟩ := h
    rfl
  · obtain ⟨x, td, z, n, ks, v, rfl, hB, hn1, hz1, hz2, hks, hk, q, qn⟩ := h
    obtain ⟨⟨dx, pp, h1, h2⟩, h3⟩ := id hB
    refine ⟨_, (pss_one (ps_try_only (c := .ref A.c_NoBlock) (Wout := fun _ _ _ _ => False) rfl rfl ⟨rfl, by decide, Or.inl T.g_NoBlock⟩ takes0 (fun W pn xe tk _ => (pss_one (ps_ret (pe_methX (pv 0) T.cl_Blocks T.m_Blocks_part (ok_Blocks_part T) (hr.mono (by decide)) T.s_Blocks_part (fun σ => passAt tk σ) (pa_cons (pv 1) pa_nil))))) (fun a oe cls d pn hz hf => (pss_one (ps_ret pe_non))))), ?_⟩
    refine s_retMX (ev_var rfl) h1 (bf_no (by decide +kernel) (by decide +kernel) (by decide +kernel) (by decide +kernel)) (ea_cons (ev_var rfl) ea_nil) fun H1 e1 => ?_
    refine ⟨x, td, z, n, ks, v, rfl, hB.ex e1, hn1, hz1, hz2, hks, hk.ex e1, fun j hj hl H2 kp hB2 => q j hj hl H2 (fun F hF e => kp F hF (e.trans e1)) hB2, fun hr0 H2 e2 => ?_⟩
    refine ⟨true, PySem.W.exm_ref T.e_NoBlock T.h_NoBlock T.t_NoBlock T.u_NoBlock_NoBlock, fun _ a na => ?_, fun z' => nomatch z'⟩
    exact s_ret ev_c fun H3 e3 => qn hr0 H3 ((e1.trans e2).trans e3)

theorem sc_law_number : FnScope ["_law_cell", "_law_many", "_law_more"] ["_law_cell", "_law_many"] (defScope s_law_number) := ⟨rfl, rfl, rfl, by decide +kernel, rfl, by decide +kernel, by decide +kernel⟩
theorem ok_law_number (T : Txt K mg A) : FnOk P w K mg base CX0 1 A.f_law_number A.d_law_number ["_law_cell", "_law_many"] (spNumber K) := by
  refine T.F_law_number.ok sc_law_number (fun vs H Q E h => ?_) (fun cdv A' outer s H vs Q E hr h => ?_)
  · obtain ⟨c, m, rfl, _⟩ := h
    rfl
  · obtain ⟨c, m, rfl, hc, hm, q⟩ := h
    refine ⟨_, (pss_cons (ps_if (pt_cmpR op_gt (pe_op op_mod (pv 0) pe_int) pe_int (nomark _)) (pss_one (ps_ret (pe_op op_mod (pe_op op_fdiv (pv 0) pe_int) (pv 1)))) pss_nil) (pss_cons (ps_set (i := 2) sc_law_number.nd rfl (Or.inl rfl) (pe_op op_mod (pe_op op_fdiv (pv 0) pe_int) pe_int)) (pss_one (ps_ret (pe_ix ix_list (pe_lst (pa_cons (pv 1) (pa_cons (pe_op op_add (pv 1) (pv 2)) (pa_cons (pe_un un_neg pe_int) (pa_cons (pe_op op_sub (pe_un un_neg pe_int) (pv 2)) (pa_cons pe_bl (pa_cons pe_bl (pa_cons pe_non (pa_cons pe_str (pa_cons (pe_lst (pa_cons pe_int pa_nil)) (pa_cons (pe_op op_pow pe_int pe_int) pa_nil))))))))))) (pe_op op_mod (pe_op op_fdiv (pv 0) pe_int) pe_int) (fun _ _ => rfl)))))), ?_⟩
    refine q_when (et_test (ev_op (ev_op (ev_var rfl) ev_c (rv_I (by decide))) ev_c rv_I0)) (fun hb H1 e1 => ?_) (fun hb H1 e1 => ?_)
    · exact s_ret (ev_op (ev_op (ev_var rfl) ev_c (rv_I ⟨by decide, by decide⟩)) (ev_var rfl) (rv_I (by omega))) fun H2 e2 => q _ H2 (e1.trans e2) (kd_int _) (.inl rfl)
    refine q_asg (ev_op (ev_op (ev_var rfl) ev_c (rv_I ⟨by decide, by decide⟩)) ev_c (rv_I (by decide))) fun H2 e2 => ?_
    have e02 := e1.trans e2
    generalize c / 50 % 9 = mo
    refine s_retX (e_op (e_lst (e_cons (ev_var rfl) fun Ha ea => e_cons (ev_op (ev_var rfl) (ev_var rfl) rv_I0) fun Hb eb => e_cons (ev_un ev_c ru_neg) fun Hc ec => e_cons (ev_op (ev_un ev_c ru_neg) (ev_var rfl) rv_I0) fun Hd ed => e_cons ev_c fun He ee => e_cons ev_c fun Hf ef => e_cons ev_c fun Hg eg => e_cons ev_c fun Hh eh =>
      e_consL (el_lst (ea_cons ev_c ea_nil) (by simp)) fun pa Hi na ei ha => e_cons (ev_op ev_c ev_c (rv_I ⟨by decide, by decide, by decide⟩)) fun Hj ej => e_nil ⟨by show 10 ≤ sizeLine; decide, fun pt nt => ?_⟩)))
    have hz8 : ∀ Hx, Ev (tOp (rI (fun x j => 0 < j) fun i j => V.int (i % j)) (tOp (rI CDiv fun i j => V.int (i / j)) (tVar 0) (tC (.int 5))) (tC (.int 10))) [some (.int c), some (.int m), some (.int mo)] Hx (.int (c / 5 % 10)) := fun Hx => (ev_op (ev_op (ev_var rfl) ev_c (rv_I ⟨by decide, by decide⟩)) ev_c (rv_I (by decide)))
    have hw : 0 ≤ c / 5 % 10 ∧ c / 5 % 10 < 10 := by omega
    generalize c / 5 % 10 = way at hw hz8
    have ha9 := ej _ _ ha
    generalize ((10 : Int) ^ (20 : Int).toNat) = big at nt ⊢
    obtain ⟨v, hvi, hvk, hvs⟩ : ∃ v, atI [V.int m, .int (m + mo), .int (-1), .int (-1 - mo), .bl true, .bl false, .non, .str (Str.ofString "0"), .ref pa, .int big] way = some v ∧ (∀ H', Ex Hj H' → Kd K H' v) ∧ (scal v .non = true ∨ isInt v = false) := by
      have hcs : way = 0 ∨ way = 1 ∨ way = 2 ∨ way = 3 ∨ way = 4 ∨ way = 5 ∨ way = 6 ∨ way = 7 ∨ way = 8 ∨ way = 9 := by omega
      rcases hcs with rfl | rfl | rfl | rfl | rfl | rfl | rfl | rfl | rfl | rfl
      · exact ⟨_, rfl, fun _ _ => kd_int _, .inl rfl⟩
      · exact ⟨_, rfl, fun _ _ => kd_int _, .inl rfl⟩
      · exact ⟨_, rfl, fun _ _ => kd_int _, .inl rfl⟩
      · exact ⟨_, rfl, fun _ _ => kd_int _, .inl rfl⟩
      · exact ⟨_, rfl, fun _ _ => kd_bl _, .inl rfl⟩
      · exact ⟨_, rfl, fun _ _ => kd_bl _, .inl rfl⟩
      · exact ⟨_, rfl, fun _ _ => kd_non, .inl rfl⟩
      · exact ⟨_, rfl, fun _ _ => kd_str _, .inl rfl⟩
      · exact ⟨_, rfl, fun _ e => kd_lst (e _ _ ha9), .inr rfl⟩
      · exact ⟨_, rfl, fun _ _ => kd_int _, .inl rfl⟩
    have x5 := Ex.new (o := .lst [V.int m, .int (m + mo), .int (-1), .int (-1 - mo), .bl true, .bl false, .non, .str (Str.ofString "0"), .ref pa, .int big]) nt
    have eHj : Ex H Hj := ((((((((((e02.trans ea).trans eb).trans ec).trans ed).trans ee).trans ef).trans eg).trans eh).trans ei).trans ej)
    refine hz8 _ _ (Ex.refl _) _ fun H3 e3 => ⟨pt, _, _, v, rfl, rfl, sq_of (e3 _ _ upd_same), hvi, ?_⟩
    exact q v H3 ((eHj.trans x5).trans e3) (hvk _ (x5.trans e3)) hvs

theorem sc_law_asked_well : FnScope ["_law_blocks", "_law_bits_here", "_law_cells", "_law_want", "_law_held", "_law_size", "_law_many", "_law_cell", "_law_number_here", "_law_due", "_law_found"] ["_law_blocks", "_law_bits_here", "_law_cells", "_law_want", "_law_held"] (defScope s_law_asked_well) := ⟨rfl, rfl, rfl, by decide +kernel, rfl, by decide +kernel, by decide +kernel⟩
theorem ok_law_asked_well (T : Txt K mg A) : FnOk P w K mg base CX0 5 A.f_law_asked_well A.d_law_asked_well ["_law_blocks", "_law_bits_here", "_law_cells", "_law_want", "_law_held"] (spWell K A.c_Blocks) := by
  refine T.F_law_asked_well.ok sc_law_asked_well (fun vs H Q E h => ?_) (fun cdv A' outer s H vs Q E hr h => ?_)
  · obtain ⟨x, pc, pw, ph, td, dx, pp, z, n, cs, F, rfl, _⟩ := h
    rfl
  · obtain ⟨x, pc, pw, ph, td, dx, pp, z, n, cs, F, rfl, eF, ftd, fpw, fph, nwh, fx, fpp, fpc, hc0, hcl, htd, hpw, hph, hn1, hn2, hz1, hz2, q⟩ := h
    refine ⟨_, (pss_cons (ps_set (i := 5) sc_law_asked_well.nd rfl (Or.inl rfl) (pe_fld (pv 0) rfl)) (pss_cons (ps_set (i := 6) sc_law_asked_well.nd rfl (Or.inl rfl) (pe_op op_fdiv (pe_op op_sub (pe_op op_add (pe_callB call_len_str (by rfl) T.b_len PySem.boot_len (pa_cons (pv 1) pa_nil)) (pv 5)) pe_int) (pv 5))) (pss_cons (ps_for PassesOwn.never rfl (pi_list (pv 2)) (pg_name (i := 7) sc_law_asked_well.nd rfl (Or.inl rfl)) (pss_cons (ps_set (i := 8) sc_law_asked_well.nd rfl (Or.inl rfl) (pe_call (ok_law_number T) (hr.mono (by decide)) (by rfl) T.g_law_number T.F_law_number.kp T.s_law_number .nil pass0 (pa_cons (pv 7) (pa_cons (pv 6) pa_nil)))) (pss_cons (ps_set (i := 9) sc_law_asked_well.nd rfl (Or.inl rfl) pe_non) (pss_cut (ps_if (PW.pt (pw_and (pt_val (pe_call (ok_law_whole T) (hr.mono (by decide)) (by rfl) T.g_law_whole T.F_law_whole.kp T.s_law_whole .nil pass0 (pa_cons (pv 8) pa_nil))) (pw_and1 (pt_chain op_le op_lt pe_int (pv 8) (pv 6))))) (pss_cons (ps_set (i := 9) sc_law_asked_well.nd rfl (Or.inl rfl) (pe_slice sl_str (pv 1) (po_some (pe_op op_mul (pv 8) (pv 5))) (po_some (pe_op op_add (pe_op op_mul (pv 8) (pv 5)) (pv 5))))) (pss_one (ps_if (pt_cmpR op_notIn_seq (pv 8) (pv 3) (by rfl)) (pss_one (ps_expr (pe_bm PySem.F.plainAttrs_list PySem.F.slot_list_append PySem.F.type_list_append mt_append (pv 3) (pa_cons (pv 8) pa_nil)))) pss_nil))) pss_nil) (pss_cut (ps_if (pt_cmpR op_ne (pe_call (ok_law_part T) (hr.mono (by decide)) (by rfl) T.g_law_part T.F_law_part.kp T.s_law_part .nil pass0 (pa_cons (pv 0) (pa_cons (pv 8) pa_nil))) (pv 9) (nomark _)) (pss_one (ps_ret pe_bl)) pss_nil) (pss_cons (ps_set (i := 10) sc_law_asked_well.nd rfl (Or.inl rfl) (pe_meth0 (pv 0) T.cl_Blocks T.m_Blocks_asked (ok_Blocks_asked T) (hr.mono (by decide)) T.s_Blocks_asked .nil pass0)) (pss_cons (ps_if (PW.pt (pw_or (pt_not (pt_val (pe_callB call_isi (by rfl) T.b_isinstance (by decide +kernel) (pa_cons (pv 10) (pa_cons (pe_bltn (v := .ty "list") (by rfl) T.b_list (by decide +kernel) rfl) pa_nil))))) (pw_or1 (pt_cmpR (op_neD hr.units) (pv 10) (pv 3) (nomark _))))) (pss_one (ps_ret pe_bl)) pss_nil) (pss_cons (ps_expr (pe_bm PySem.F.plainAttrs_list PySem.F.slot_list_append PySem.F.type_list_append mt_append (pv 4) (pa_cons (pe_lst (pa_cons (pv 10) (pa_cons (pe_callTy call_list_of (by rfl) T.b_list (by decide +kernel) (pa_cons (pv 10) pa_nil)) pa_nil))) pa_nil))) (pss_one (ps_if (pt_cmpR op_eq (pe_op op_mod (pe_op op_fdiv (pv 7) pe_int) pe_int) pe_int (nomark _)) (pss_one (ps_expr (pe_bm PySem.F.plainAttrs_list PySem.F.slot_list_append PySem.F.type_list_append mt_append (pe_meth0 (pv 0) T.cl_Blocks T.m_Blocks_asked (ok_Blocks_asked T) (hr.mono (by decide)) T.s_Blocks_asked .nil pass0) (pa_cons (pe_un un_neg pe_int) pa_nil)))) pss_nil)))))))))) (pss_one (ps_ret pe_bl))))), ?_⟩
    have ntw : td ≠ pw := ne_of htd hpw (by intro z'; cases z')
    have nth : td ≠ ph := ne_of htd hph (by intro z'; cases z')
    refine q_asg (ev_fld (ev_var rfl) (eF _ _ fx) T.cl_Blocks T.n_Blocks_size bf_size) fun H1 e1 => ?_
    refine q_asg (ev_op (ev_op (ev_op (ev_lenS (ev_var rfl) (by omega)) (ev_var rfl) rv_I0) ev_c rv_I0) (ev_var rfl) (rv_I ⟨by omega, by omega⟩)) fun H2 e2 => ?_
    rw [cnt_int _ _ hz1]
    have e02 := e1.trans e2
    have hcp := cnt_pos z.length n hz1 hn1
    have hcle := cnt_le z.length n hn1
    refine q_forLn (ev_var rfl) (ex_l (eF.trans e02) fpc)
      (fun (i : Nat) (σ' : L2.St) (H' : Hp) => ∃ (F' : Hp) (ks : List Nat) (prs : List Addr) (y7 y8 y9 y10 : Option V), Ex F F' ∧ Ex F' H' ∧ F' td = none ∧ F' pw = none ∧ F' ph = none ∧ H' td = some (.dK (dk ks)) ∧ H' pw = some (.lst (nints ks)) ∧ H' ph = some (.lst (prs.map V.ref)) ∧
        (∀ p ∈ prs, Pr F' p) ∧ ks.length ≤ i ∧ prs.length = i ∧ σ' = [some (.ref x), some (.str z), some (.ref pc), some (.ref pw), some (.ref ph), some (.int (n : Int)), some (.int ((cnt z.length n : Nat) : Int)), y7, y8, y9, y10]) ?_ ?_ ?_ ?_
    · intro H3 e3
      exact ⟨F, [], [], none, none, none, none, Ex.refl F, (eF.trans e02).trans e3, ftd, fpw, fph, e3 _ _ (e02 _ _ htd), e3 _ _ (e02 _ _ hpw), e3 _ _ (e02 _ _ hph), (fun p hp => by cases hp), Nat.le_refl _, rfl, rfl⟩
    · rintro i σ' H3 hi ⟨F', ks, prs, y7, y8, y9, y10, eFF, eFH, gtd, gpw, gph, htd3, hpw3, hph3, hpr, hkl, hpl, rfl⟩
      exact ex_l (eFF.trans eFH) fpc
    · rintro i cv σ' H3 hcv ⟨F', ks, prs, y7, y8, y9, y10, eFF, eFH, gtd, gpw, gph, htd3, hpw3, hph3, hpr, hkl, hpl, rfl⟩
      have hil : i < cs.length := by
        have := (List.getElem?_eq_some_iff.mp hcv).1
        rw [List.length_map] at this
        exact this
      obtain ⟨c, rfl, hc⟩ : ∃ c, cv = V.int c ∧ 0 ≤ c := by
        rw [List.getElem?_map, List.getElem?_eq_getElem hil] at hcv
        exact ⟨_, (Option.some.inj hcv).symm, hc0 _ (List.getElem_mem hil)⟩
      refine q_asgC (ea_cons (ev_var rfl) (ea_cons (ev_var rfl) ea_nil)) fun H4 e4 => ⟨c, _, rfl, hc, by omega, fun v H5 e5 hk hsc => ?_⟩
      refine q_asg ev_c fun H6 e6 => ?_
      have e36 := (e4.trans e5).trans e6
      refine q_cut (M := fun σ H' => ∃ (due : V) (kw : List Nat), Ex F' H' ∧ H' td = some (.dK (dk ks)) ∧ H' pw = some (.lst (nints kw)) ∧ H' ph = some (.lst (prs.map V.ref)) ∧ Kd K H' v ∧ kw.length ≤ i + 1 ∧
        ((∃ j : Nat, v = .int (j : Int) ∧ j < cnt z.length n ∧ due = .str (cutAt z n j) ∧ kw = addK ks j) ∨ (inR 0 ((cnt z.length n : Int) - 1) v = false ∧ due = .non ∧ kw = ks)) ∧
        σ = [some (.ref x), some (.str z), some (.ref pc), some (.ref pw), some (.ref ph), some (.int (n : Int)), some (.int ((cnt z.length n : Nat) : Int)), some (.int c), some v, some due, y10]) ?_ ?_
      · have hk6 := hk.ex e6
        have out : inR 0 ((cnt z.length n : Int) - 1) v = false → ∀ H7, Ex H6 H7 → (∃ (due : V) (kw : List Nat), Ex F' H7 ∧ H7 td = some (.dK (dk ks)) ∧ H7 pw = some (.lst (nints kw)) ∧ H7 ph = some (.lst (prs.map V.ref)) ∧ Kd K H7 v ∧ kw.length ≤ i + 1 ∧
          ((∃ j : Nat, v = .int (j : Int) ∧ j < cnt z.length n ∧ due = .str (cutAt z n j) ∧ kw = addK ks j) ∨ (inR 0 ((cnt z.length n : Int) - 1) v = false ∧ due = .non ∧ kw = ks)) ∧
          ([some (.ref x), some (.str z), some (.ref pc), some (.ref pw), some (.ref ph), some (.int (n : Int)), some (.int ((cnt z.length n : Nat) : Int)), some (.int c), some v, some V.non, y10] : L2.St) = [some (.ref x), some (.str z), some (.ref pc), some (.ref pw), some (.ref ph), some (.int (n : Int)), some (.int ((cnt z.length n : Nat) : Int)), some (.int c), some v, some due, y10]) := fun ho H7 e7 => by
          have e37 := e36.trans e7
          exact ⟨.non, ks, eFH.trans e37, e37 _ _ htd3, e37 _ _ hpw3, e37 _ _ hph3, hk6.ex e7, by omega, .inr ⟨ho, rfl, rfl⟩, rfl⟩
        by_cases hvi : isInt v = true
        · obtain ⟨iv, rfl⟩ : ∃ iv, v = .int iv := by
            cases v with
            | int iv => exact ⟨iv, rfl⟩
            | _ => cases hvi
          refine s_when (et_and (et_B (ev_call (ea_cons (ev_var rfl) ea_nil) (sv_whole (kd_int iv)))) (fun hb => (et_test (ev_chain ev_c (ev_var rfl) rv_I0 (fun hb => (ev_var rfl)) (fun hb => rv_I0))))) (fun hb H7 e7 => ?_) (fun hb H7 e7 => ?_)
          · have hb' : (decide ((0 : Int) ≤ iv) && decide (iv < ((cnt z.length n : Nat) : Int))) = true := by simpa [KB.isInt] using hb
            rw [Bool.and_eq_true, decide_eq_true_eq, decide_eq_true_eq] at hb'
            obtain ⟨j, rfl⟩ : ∃ j : Nat, iv = (j : Int) := ⟨iv.toNat, by omega⟩
            have hj : j < cnt z.length n := by omega
            have e37 := e36.trans e7
            refine q_asg (ev_slS (ev_var rfl) (eo_some (ev_op (ev_var rfl) (ev_var rfl) (rv_I (.inr ⟨by omega, by omega⟩)))) (eo_some (ev_op (ev_op (ev_var rfl) (ev_var rfl) (rv_I (.inr ⟨by omega, by omega⟩))) (ev_var rfl) rv_I0)) (by omega)) fun H8 e8 => ?_
            have e38 := e37.trans e8
            have hpw8 := e38 _ _ hpw3
            refine s_when (et_test (ev_op (ev_var rfl) (ev_var rfl) (rv_niL (sq_of hpw8) rfl (flat_ints _)))) (fun hb2 H9 e9 => ?_) (fun hb2 H9 e9 => ?_)
            · have hnin : j ∉ ks := by
                rw [inV_ints] at hb2
                intro hin
                rw [decide_eq_true hin] at hb2
                cases hb2
              have hpw9 := e9 _ _ hpw8
              refine s_app hpw9 (ev_var rfl) (ev_var rfl) (by rw [nints_len]; omega) fun H10 e10 => ?_
              have e310 := (e38.trans e9).trans e10
              have ha : addK ks j = ks ++ [j] := by unfold addK; rw [if_neg hnin]
              refine ⟨.str (cutAt z n j), addK ks j, (eFH.trans e310).mut gpw, by rw [upd_ne ntw]; exact e310 _ _ htd3, ?_, by rw [upd_ne nwh.symm]; exact e310 _ _ hph3, kd_int _, Nat.le_trans (addK_len _ _) (by omega), .inl ⟨j, rfl, hj, rfl, rfl⟩, rfl⟩
              rw [upd_same, ha]
              unfold nints
              rw [List.map_append]
              rfl
            · have hin : j ∈ ks := by
                rw [inV_ints] at hb2
                by_cases hin : j ∈ ks
                · exact hin
                · rw [decide_eq_false hin] at hb2
                  cases hb2
              have e39 := e38.trans e9
              have ha : addK ks j = ks := by unfold addK; rw [if_pos hin]
              exact ⟨.str (cutAt z n j), addK ks j, eFH.trans e39, e39 _ _ htd3, by rw [ha]; exact e39 _ _ hpw3, e39 _ _ hph3, kd_int _, Nat.le_trans (addK_len _ _) (by omega), .inl ⟨j, rfl, hj, rfl, rfl⟩, rfl⟩
          · refine out ?_ H7 e7
            have hb' : (decide ((0 : Int) ≤ iv) && decide (iv < ((cnt z.length n : Nat) : Int))) = false := by simpa [KB.isInt] using hb
            show (decide ((0 : Int) ≤ iv) && decide (iv ≤ ((cnt z.length n : Nat) : Int) - 1)) = false
            have e9 : decide (iv ≤ ((cnt z.length n : Nat) : Int) - 1) = decide (iv < ((cnt z.length n : Nat) : Int)) := by
              by_cases h9 : iv < ((cnt z.length n : Nat) : Int)
              · rw [decide_eq_true h9, decide_eq_true (by omega)]
              · rw [decide_eq_false h9, decide_eq_false (by omega)]
            rw [e9]
            exact hb'
        · have hvf : isInt v = false := by simpa using hvi
          refine s_when (b := false) (et_is (et_and (et_B (ev_call (ea_cons (ev_var rfl) ea_nil) (sv_whole hk6))) (b := true) (fun hb => by rw [hvf] at hb; cases hb)) (by rw [hvf]; rfl)) (fun hb => nomatch hb) (fun hb H7 e7 => ?_)
          exact out (by cases v <;> first | rfl | cases hvf) H7 e7
      · rintro σ H7 ⟨due, kw, eFH7, htd7, hpw7, hph7, hk7, hkwl, hdue, rfl⟩
        have f'x := eFF _ _ fx
        have f'pp := eFF _ _ fpp
        have hB7 := bk_of eFH7 f'x f'pp htd7
        refine q_cut (M := fun σ H' => Ex F' H' ∧ H' td = some (.dK (dk kw)) ∧ H' pw = some (.lst (nints kw)) ∧ H' ph = some (.lst (prs.map V.ref)) ∧
          σ = [some (.ref x), some (.str z), some (.ref pc), some (.ref pw), some (.ref ph), some (.int (n : Int)), some (.int ((cnt z.length n : Nat) : Int)), some (.int c), some v, some due, y10]) ?_ ?_
        · refine s_whenX (e_opC (ea_cons (ev_var rfl) (ea_cons (ev_var rfl) ea_nil)) fun H8 e8 => ⟨x, td, z, n, ks, v, rfl, hB7.ex e8, hn1, hz1, hz2, by omega, hk7.ex e8, fun j hj hjl H9 kp hB9 => ?_, fun ho H9 e9 => ?_⟩)
          · obtain ⟨j', hj', hjl', rfl, rfl⟩ : ∃ j : Nat, v = .int (j : Int) ∧ j < cnt z.length n ∧ due = .str (cutAt z n j) ∧ kw = addK ks j := by
              rcases hdue with h | ⟨h1, _, _⟩
              · exact h
              · subst hj
                exfalso
                have h1' : (decide ((0 : Int) ≤ (j : Int)) && decide ((j : Int) ≤ ((cnt z.length n : Nat) : Int) - 1)) = false := h1
                rw [decide_eq_true (by omega), decide_eq_true (by omega)] at h1'
                cases h1'
            have ejj : j' = j := by
              rw [hj'] at hj
              have := V.int.inj hj
              omega
            subst ejj
            have kb := kept_but kp
            refine ⟨_, rfl, rfl, _, rfl, ?_⟩
            rw [decide_eq_true rfl]
            exact iteF ⟨kp F' gtd (eFH7.trans e8), hB9.dc, kb _ _ ntw.symm (e8 _ _ hpw7), kb _ _ nth.symm (e8 _ _ hph7), rfl⟩
          · rcases hdue with ⟨j, hj, hjl, _, _⟩ | ⟨_, rfl, rfl⟩
            · subst hj
              exfalso
              have h1' : (decide ((0 : Int) ≤ (j : Int)) && decide ((j : Int) ≤ ((cnt z.length n : Nat) : Int) - 1)) = false := ho
              rw [decide_eq_true (by omega), decide_eq_true (by omega)] at h1'
              cases h1'
            · have e79 := e8.trans e9
              exact ⟨_, rfl, rfl, _, rfl, iteF ⟨eFH7.trans e79, e79 _ _ htd7, e79 _ _ hpw7, e79 _ _ hph7, rfl⟩⟩
        rintro σ H9 ⟨eFH9, htd9, hpw9, hph9, rfl⟩
        have hB9 := bk_of eFH9 f'x f'pp htd9
        refine q_asgL (el_meth0 (ev_var rfl) (eFH9 _ _ f'x) (bf_no (by decide +kernel) (by decide +kernel) (by decide +kernel) (by decide +kernel)) (sl_asked hB9)) fun pf H10 nf e10 hf => ?_
        have hf' : H10 pf = some (.lst (nints kw)) := hf
        refine q_when (b := false) (et_is (et_or (et_not (et_B (ev_isi (ev_var rfl) ev_c (.ty _) (TyX.base (TyOf.lst hf')) (kit_ty (by decide +kernel : kitB "list" "list" = some true))))) (fun hb => (et_test (ev_op (ev_var rfl) (ev_var rfl) (rv_neI (sq_of hf') (sq_of (e10 _ _ hpw9))))))) rfl) (fun hb => nomatch hb) (fun hb H11 e11 => ?_)
        have e911 := e10.trans e11
        have hph11 := e911 _ _ hph9
        refine q_appX (ev_var rfl) hph11 fun H12 e12 => e_lst (e_cons (ev_var rfl) fun H13 e13 => e_consL (el_list (ev_var rfl) (sq_of (e13 _ _ (e12 _ _ (e11 _ _ hf'))))) fun pg H14 ng e14 hg => e_nil ⟨by show 2 ≤ sizeLine; decide, fun pp2 np2 => ?_⟩)
        have e1114 := (e12.trans e13).trans e14
        have e914 := e911.trans e1114
        have x2 := Ex.new (o := .lst [.ref pf, .ref pg]) np2
        refine ⟨ph, _, _, rfl, rfl, x2 _ _ (e1114 _ _ hph11), by rw [List.length_map]; exact sz_lt (by omega), ?_⟩
        have k11f := e11 _ _ hf'
        have k13f := e13 _ _ (e12 _ _ k11f)
        have k14f := e14 _ _ k13f
        have e913 := (e911.trans e12).trans e13
        have nfg : pf ≠ pg := ne_of_none k13f ng
        have nf2 : pf ≠ pp2 := ne_of_none k14f np2
        have ng2 : pg ≠ pp2 := ne_of_none hg np2
        have f'f : F' pf = none := fresh_back eFH9 nf
        have f'g : F' pg = none := fresh_back (eFH9.trans e913) ng
        have f'2 : F' pp2 = none := fresh_back (eFH9.trans e914) np2
        have tdf : td ≠ pf := ne_of_none htd9 nf
        have tdg : td ≠ pg := ne_of_none (e913 _ _ htd9) ng
        have td2 : td ≠ pp2 := ne_of_none (e914 _ _ htd9) np2
        have pwf : pw ≠ pf := ne_of_none hpw9 nf
        have pwg : pw ≠ pg := ne_of_none (e913 _ _ hpw9) ng
        have pw2 : pw ≠ pp2 := ne_of_none (e914 _ _ hpw9) np2
        have phf : ph ≠ pf := ne_of_none hph9 nf
        have phg : ph ≠ pg := ne_of_none (e913 _ _ hph9) ng
        have ph2 : ph ≠ pp2 := ne_of_none (e914 _ _ hph9) np2
        have xF : Ex F' (upd (upd (upd F' pf (.lst (nints kw))) pg (.lst (nints kw))) pp2 (.lst [.ref pf, .ref pg])) := ((Ex.new f'f).trans (Ex.new (by rw [upd_ne nfg.symm]; exact f'g))).trans (Ex.new (by rw [upd_ne ng2.symm, upd_ne nf2.symm]; exact f'2))
        have xH : Ex (upd (upd (upd F' pf (.lst (nints kw))) pg (.lst (nints kw))) pp2 (.lst [.ref pf, .ref pg])) (upd H14 pp2 (.lst [.ref pf, .ref pg])) := grow (grow (grow ((eFH9.trans e914).trans x2) (x2 _ _ k14f)) (x2 _ _ hg)) upd_same
        have o1 : (upd (upd (upd F' pf (.lst (nints kw))) pg (.lst (nints kw))) pp2 (.lst [.ref pf, .ref pg])) td = none := by rw [upd_ne td2, upd_ne tdg, upd_ne tdf]; exact gtd
        have o2 : (upd (upd (upd F' pf (.lst (nints kw))) pg (.lst (nints kw))) pp2 (.lst [.ref pf, .ref pg])) pw = none := by rw [upd_ne pw2, upd_ne pwg, upd_ne pwf]; exact gpw
        have o3 : (upd (upd (upd F' pf (.lst (nints kw))) pg (.lst (nints kw))) pp2 (.lst [.ref pf, .ref pg])) ph = none := by rw [upd_ne ph2, upd_ne phg, upd_ne phf]; exact gph
        have o4 : Pr (upd (upd (upd F' pf (.lst (nints kw))) pg (.lst (nints kw))) pp2 (.lst [.ref pf, .ref pg])) pp2 := ⟨pf, pg, kw, upd_same, by rw [upd_ne nf2, upd_ne nfg, upd_same], by rw [upd_ne ng2, upd_same]⟩
        have hptd : (upd H14 pp2 (.lst [.ref pf, .ref pg])) td = some (.dK (dk kw)) := x2 _ _ (e914 _ _ htd9)
        have hppw : (upd H14 pp2 (.lst [.ref pf, .ref pg])) pw = some (.lst (nints kw)) := x2 _ _ (e914 _ _ hpw9)
        generalize upd (upd (upd F' pf (.lst (nints kw))) pg (.lst (nints kw))) pp2 (.lst [.ref pf, .ref pg]) = F2 at xF xH o1 o2 o3 o4
        generalize upd H14 pp2 (.lst [.ref pf, .ref pg]) = Hb at xH hptd hppw ⊢
        have e2b : Ex F2 (upd Hb ph (.lst (prs.map V.ref ++ [V.ref pp2]))) := xH.mut o3
        have fin : ∀ Hs, Ex (upd Hb ph (.lst (prs.map V.ref ++ [V.ref pp2]))) Hs → ∃ (F' : Hp) (ks : List Nat) (prs : List Addr) (y7 y8 y9 y10 : Option V), Ex F F' ∧ Ex F' Hs ∧ F' td = none ∧ F' pw = none ∧ F' ph = none ∧ Hs td = some (.dK (dk ks)) ∧ Hs pw = some (.lst (nints ks)) ∧ Hs ph = some (.lst (prs.map V.ref)) ∧
            (∀ p ∈ prs, Pr F' p) ∧ ks.length ≤ i + 1 ∧ prs.length = i + 1 ∧
            ([some (.ref x), some (.str z), some (.ref pc), some (.ref pw), some (.ref ph), some (.int (n : Int)), some (.int ((cnt z.length n : Nat) : Int)), some (.int c), some v, some due, some (.ref pf)] : L2.St) = [some (.ref x), some (.str z), some (.ref pc), some (.ref pw), some (.ref ph), some (.int (n : Int)), some (.int ((cnt z.length n : Nat) : Int)), y7, y8, y9, y10] := fun Hs es => by
          refine ⟨F2, kw, prs ++ [pp2], _, _, _, _, eFF.trans xF, e2b.trans es, o1, o2, o3, es _ _ (by rw [upd_ne nth]; exact hptd), es _ _ (by rw [upd_ne nwh]; exact hppw), es _ _ (by rw [upd_same, List.map_append]; rfl), fun p hp => ?_, hkwl, by rw [List.length_append, hpl]; rfl, rfl⟩
          rcases List.mem_append.mp hp with h | h
          · exact (hpr p h).ex xF
          · rw [List.mem_singleton.mp h]
            exact o4
        refine s_when (et_test (ev_op (ev_op (ev_op (ev_var rfl) ev_c (rv_I ⟨by decide, by decide⟩)) ev_c (rv_I (by decide))) ev_c (rv_eq rfl))) (fun hb H15 e15 => ?_) (fun hb H15 e15 => fin _ e15)
        have hB15 : Bk A.c_Blocks H15 x td z n kw := bk_of (e2b.trans e15) (xF _ _ f'x) (xF _ _ f'pp) (e15 _ _ (by rw [upd_ne nth]; exact hptd))
        refine s_appL1 (el_meth0 (ev_var rfl) ((e2b.trans e15) _ _ (xF _ _ f'x)) (bf_no (by decide +kernel) (by decide +kernel) (by decide +kernel) (by decide +kernel)) (sl_asked hB15)) (by rw [List.length_map]; omega) (fun H' => (ev_un ev_c ru_neg)) fun p5 H16 n5 e16 => ?_
        exact fin _ ((e15.trans e16).mut (fresh_back e15 n5))
    · rintro σ' H3 ⟨F', ks, prs, y7, y8, y9, y10, eFF, eFH, gtd, gpw, gph, htd3, hpw3, hph3, hpr, hkl, hpl, rfl⟩
      rw [List.length_map] at hkl hpl
      exact s_ret ev_c fun H4 e4 => q H4 F' ks prs eFF (eFH.trans e4) gtd gph (by omega) (e4 _ _ htd3) (e4 _ _ hph3) (by omega) hpr

theorem sc_law : FnScope ["_law_script", "_law_bits_here", "_law_cell", "_law_size", "_law_blocks", "_law_other", "_law_held", "_law_many", "_law_cells", "_law_pair", "_law_k"] ["_law_script"] (defScope s_law) := ⟨rfl, rfl, rfl, by decide +kernel, rfl, by decide +kernel, by decide +kernel⟩
theorem ok_law (T : Txt K mg A) : FnOk P w K mg base CX0 6 A.f_law A.d_law ["_law_script"] (spLaw K) := by
  refine T.F_law.ok sc_law (fun vs H Q E h => ?_) (fun cdv A' outer s H vs Q E hr h => ?_)
  · obtain ⟨a, ns, rfl, _⟩ := h
    rfl
  · obtain ⟨a, ns, rfl, hS, hlen, q⟩ := h
    refine ⟨_, (pss_cons (ps_set (i := 1) sc_law.nd rfl (Or.inl rfl) (pe_call (ok_law_bits T) (hr.mono (by decide)) (by rfl) T.g_law_bits T.F_law_bits.kp T.s_law_bits .nil pass0 (pa_cons (pe_call (ok_law_parents T) (hr.mono (by decide)) (by rfl) T.g_law_parents T.F_law_parents.kp T.s_law_parents .nil pass0 (pa_cons (pv 0) pa_nil)) pa_nil))) (pss_cons (ps_set (i := 2) sc_law.nd rfl (Or.inl rfl) (pe_call (ok_law_cell_at T) (hr.mono (by decide)) (by rfl) T.g_law_cell_at T.F_law_cell_at.kp T.s_law_cell_at .nil pass0 (pa_cons (pv 0) (pa_cons pe_int pa_nil)))) (pss_cons (ps_if (PW.pt (pw_and (pt_cmpR op_eq (pe_op op_mod (pv 2) pe_int) pe_int (nomark _)) (pw_and1 (pt_not (pt_val (pe_call (ok_law_no_size T) (hr.mono (by decide)) (by rfl) T.g_law_no_size T.F_law_no_size.kp T.s_law_no_size .nil pass0 (pa_cons (pv 1) (pa_cons (pe_op op_fdiv (pv 2) pe_int) pa_nil)))))))) (pss_one (ps_ret pe_bl)) pss_nil) (pss_cons (ps_set (i := 3) sc_law.nd rfl (Or.inl rfl) (pe_op op_add pe_int (pe_op op_mod (pe_op op_fdiv (pv 2) pe_int) pe_int))) (pss_cut (ps_if (pt_cmpR op_eq (pe_op op_mod (pe_op op_fdiv (pv 2) pe_int) pe_int) pe_int (nomark _)) (pss_one (ps_set (i := 3) sc_law.nd rfl (Or.inl rfl) (pe_op op_add pe_int (pe_op op_mod (pe_op op_fdiv (pv 2) pe_int) pe_int)))) pss_nil) (pss_cons (ps_set (i := 4) sc_law.nd rfl (Or.inl rfl) (pe_make T.mk_Blocks (ok_Blocks___init__ T) (hr.mono (by decide)) (by rfl) T.g_Blocks T.s_Blocks___init__ .nil passL (pa_cons (pv 1) (pa_cons (pv 3) pa_nil)))) (pss_cons (ps_set (i := 5) sc_law.nd rfl (Or.inr rfl) (pe_make T.mk_Blocks (ok_Blocks___init__ T) (hr.mono (by decide)) (by rfl) T.g_Blocks T.s_Blocks___init__ .nil passL (pa_cons (pv 1) (pa_cons (pe_op op_add pe_int (pe_op op_mod (pv 2) pe_int)) pa_nil)))) (pss_cons (ps_set (i := 6) sc_law.nd rfl (Or.inl rfl) (pe_lst pa_nil)) (pss_cons (ps_set (i := 7) sc_law.nd rfl (Or.inl rfl) (pe_op op_fdiv (pe_op op_sub (pe_op op_add (pe_callB call_len_str (by rfl) T.b_len PySem.boot_len (pa_cons (pv 1) pa_nil)) (pv 3)) pe_int) (pv 3))) (pss_cons (ps_if (PW.pt (pw_or (pt_cmpR op_ne (pe_fld (pv 4) rfl) (pe_callB call_len_str (by rfl) T.b_len PySem.boot_len (pa_cons (pv 1) pa_nil)) (nomark _)) (pw_or1 (pt_cmpR op_ne (pe_fld (pv 4) rfl) (pv 3) (nomark _))))) (pss_one (ps_ret pe_bl)) pss_nil) (pss_cons (ps_if (PW.pt (pw_and (pt_cmpR op_eq (pe_op op_mod (pe_op op_fdiv (pv 2) pe_int) pe_int) pe_int (nomark _)) (pw_and1 (PW.pt (pw_or (pt_cmpR op_ne (pe_meth0 (pv 4) T.cl_Blocks T.m_Blocks_many (ok_Blocks_many T) (hr.mono (by decide)) T.s_Blocks_many .nil pass0) (pv 7) (nomark _)) (pw_or1 (pt_cmpR (op_neD hr.units) (pe_meth0 (pv 4) T.cl_Blocks T.m_Blocks_asked (ok_Blocks_asked T) (hr.mono (by decide)) T.s_Blocks_asked .nil pass0) (pe_lst pa_nil) (nomark _)))))))) (pss_one (ps_ret pe_bl)) pss_nil) (pss_cons (ps_setLc (i := 8) (own := [("_law_k", 10)]) (g := gName 10) (tt := tYes) rfl sc_law.nd rfl rfl (sw_true rfl rfl rfl (by decide +kernel)) (pi_range1 (by rfl) T.b_range (pa_cons pe_int pa_nil)) (blkOk_by (N := ["_law_script", "_law_bits_here", "_law_cell", "_law_size", "_law_blocks", "_law_other", "_law_held", "_law_many", "_law_cells", "_law_pair", "_law_k"]) (sc := defScope s_law) (by decide +kernel)) (fun _ _ _ _ _ => pg_name (i := 10) sc_law.nd rfl (Or.inl rfl)) (fun _ _ _ _ _ => pts_nil) (fun _ _ _ _ _ => (pe_call (ok_law_cell_at T) (hr.mono (by decide)) (by rfl) T.g_law_cell_at T.F_law_cell_at.kp T.s_law_cell_at .nil pass0 (pa_cons (pv 0) (pa_cons (pe_op op_add pe_int (pv 10)) pa_nil))))) (pss_cons (ps_if (pt_not (pt_val (pe_call (ok_law_asked_well T) (hr.mono (by decide)) (by rfl) T.g_law_asked_well T.F_law_asked_well.kp T.s_law_asked_well .nil pass0 (pa_cons (pv 4) (pa_cons (pv 1) (pa_cons (pv 8) (pa_cons (pe_lst pa_nil) (pa_cons (pv 6) pa_nil)))))))) (pss_one (ps_ret pe_bl)) pss_nil) (pss_cons (ps_for PassesOwn.never rfl (pi_list (pv 6)) (pg_name (i := 9) sc_law.nd rfl (Or.inl rfl)) (pss_one (ps_if (pt_cmpR (op_neD hr.units) (pe_ix ix_list (pv 9) pe_int (fun _ _ => rfl)) (pe_ix ix_list (pv 9) pe_int (fun _ _ => rfl)) (nomark _)) (pss_one (ps_ret pe_bl)) pss_nil))) (pss_cons (ps_if (PW.pt (pw_or (pt_cmpR (op_neD hr.units) (pe_meth0 (pv 5) T.cl_Blocks T.m_Blocks_asked (ok_Blocks_asked T) (hr.mono (by decide)) T.s_Blocks_asked .nil pass0) (pe_lst pa_nil) (nomark _)) (pw_or (pt_not (pt_val (pe_call (ok_law_whole T) (hr.mono (by decide)) (by rfl) T.g_law_whole T.F_law_whole.kp T.s_law_whole .nil pass0 (pa_cons (pe_meth0 (pv 4) T.cl_Blocks T.m_Blocks_many (ok_Blocks_many T) (hr.mono (by decide)) T.s_Blocks_many .nil pass0) pa_nil)))) (pw_or1 (pt_cmpR op_ne (pe_meth0 (pv 4) T.cl_Blocks T.m_Blocks_many (ok_Blocks_many T) (hr.mono (by decide)) T.s_Blocks_many .nil pass0) (pv 7) (nomark _)))))) (pss_one (ps_ret pe_bl)) pss_nil) (pss_one (ps_ret (pe_cmpR op_eq (pe_join pe_str (pe_lc (own := [("_law_k", 10)]) (g := gName 10) (tt := tYes) rfl sc_law.nd (pi_range1 (by rfl) T.b_range (pa_cons (pe_meth0 (pv 5) T.cl_Blocks T.m_Blocks_many (ok_Blocks_many T) (hr.mono (by decide)) T.s_Blocks_many .nil pass0) pa_nil)) (blkOk_by (N := ["_law_script", "_law_bits_here", "_law_cell", "_law_size", "_law_blocks", "_law_other", "_law_held", "_law_many", "_law_cells", "_law_pair", "_law_k"]) (sc := defScope s_law) (by decide +kernel)) (fun _ _ _ _ _ => pg_name (i := 10) sc_law.nd rfl (Or.inl rfl)) (fun _ _ _ _ _ => pts_nil) (fun _ _ _ _ _ => (pe_meth (pv 5) T.cl_Blocks T.m_Blocks_part (ok_Blocks_part T) (hr.mono (by decide)) T.s_Blocks_part .nil passL (pa_cons (pv 10) pa_nil))))) (pv 1) (nomark _))))))))))))))))))), ?_⟩
    refine ⟨.ref a, rfl, a, ns, rfl, hS, fun P hg hl p H2 np e2 hp2 => ⟨p, P, rfl, sq_of hp2, hg, by omega, fun H3 e3 => ?_⟩⟩
    have hzl : (txt (full P)).length = 2 * (P.length + 1) := by rw [txt_len, full_len]
    have hz1 : 1 ≤ (txt (full P)).length := by omega
    have hz2 : (txt (full P)).length ≤ 4000 := by omega
    have e03 := e2.trans e3
    show tSeq _ _ _ ([some (V.ref a), some (V.str (txt (full P))), none, none, none, none, none, none, none, none, none] : L2.St) H3
    generalize txt (full P) = z at hzl hz1 hz2 ⊢
    have g26 := cell_ge ns 26
    refine q_asg (ev_call (ea_cons (ev_var rfl) (ea_cons ev_c ea_nil)) (sv_cell 26 rfl (ex_l e03 hS))) fun H4 e4 => ?_
    generalize cell ns 26 = c at g26 ⊢
    refine q_when (b := false) (et_is (et_and (et_test (ev_op (ev_op (ev_var rfl) ev_c (rv_I (by decide))) ev_c (rv_eq rfl))) (fun hb => (et_not (et_B (ev_call (ea_cons (ev_var rfl) (ea_cons (ev_op (ev_var rfl) ev_c (rv_I ⟨by decide, by decide⟩)) ea_nil)) (sv_noSize hz1 hz2 (by omega))))))) (by simp)) (fun hb => nomatch hb) (fun hb H5 e5 => ?_)
    refine q_asg (ev_op ev_c (ev_op (ev_op (ev_var rfl) ev_c (rv_I ⟨by decide, by decide⟩)) ev_c (rv_I (by decide))) rv_I0) fun H6 e6 => ?_
    refine q_cut (M := fun σ H' => ∃ n : Nat, 1 ≤ n ∧ n ≤ 4000 ∧ Ex H6 H' ∧ σ = [some (.ref a), some (.str z), some (.int c), some (.int (n : Int)), none, none, none, none, none, none, none]) ?_ ?_
    · refine s_when (et_test (ev_op (ev_op (ev_op (ev_var rfl) ev_c (rv_I ⟨by decide, by decide⟩)) ev_c (rv_I (by decide))) ev_c (rv_eq rfl))) (fun hb H7 e7 => ?_) (fun hb H7 e7 => ?_)
      · refine s_asg (ev_op ev_c (ev_op (ev_op (ev_var rfl) ev_c (rv_I ⟨by decide, by decide⟩)) ev_c (rv_I (by decide))) rv_I0) fun H8 e8 => ?_
        refine ⟨(1 + c / 5 % 4000).toNat, by omega, by omega, e7.trans e8, ?_⟩
        rw [Int.toNat_of_nonneg (by omega)]
        rfl
      · refine ⟨(1 + c / 5 % 20).toNat, by omega, by omega, e7, ?_⟩
        rw [Int.toNat_of_nonneg (by omega)]
        rfl
    rintro σ H7 ⟨n, hn1, hn2, e7, rfl⟩
    have e07 := (((e03.trans e4).trans e5).trans e6).trans e7
    refine q_asgM (ea_cons (ev_var rfl) (ea_cons (ev_var rfl) ea_nil)) fun H8 x dx e8 nx ndx nxd => init_at nx ndx nxd hz1 hz2 ⟨by omega, by omega⟩ fun n' td H9 en hn1' hn2' ntd e9 hB => ⟨rfl, ?_⟩
    have enn : n' = n := by omega
    subst enn
    clear hn1' hn2' en
    refine q_asgM (ea_cons (ev_var rfl) (ea_cons (ev_op ev_c (ev_op (ev_var rfl) ev_c (rv_I (by decide))) rv_I0) ea_nil)) fun H10 x2 dx2 e10 nx2 ndx2 nxd2 => init_at nx2 ndx2 nxd2 hz1 hz2 ⟨by omega, by omega⟩ fun n2 td2 H11 en2 hm1 hm2 ntd2 e11 hB2 => ⟨rfl, ?_⟩
    obtain ⟨⟨dxx, pp, g1, g2⟩, g3⟩ := id (hB.ex (e10.trans e11))
    obtain ⟨⟨dx2x, pp2, k1, k2⟩, k3⟩ := id hB2
    have ntt : td2 ≠ td := (ne_of_none (e10 _ _ hB.dc) ntd2).symm
    refine q_asgL (el_lst ea_nil (by decide)) fun ph H12 nph e12 h12 => ?_
    have nph2 : pp2 ≠ ph := ne_of_none k2 nph
    have nphp : pp ≠ ph := ne_of_none g2 nph
    refine q_asg (ev_op (ev_op (ev_op (ev_lenS (ev_var rfl) (by omega)) (ev_var rfl) rv_I0) ev_c rv_I0) (ev_var rfl) (rv_I ⟨by omega, by omega⟩)) fun H13 e13 => ?_
    rw [cnt_int _ _ hz1]
    have e1113 := e12.trans e13
    refine q_when (b := false) (et_is (et_or (et_test (ev_op (ev_fld (ev_var rfl) (e1113 _ _ g1) T.cl_Blocks T.n_Blocks_length bf_length) (ev_lenS (ev_var rfl) (by omega)) (rv_ne rfl))) (fun hb => (et_test (ev_op (ev_fld (ev_var rfl) (e1113 _ _ g1) T.cl_Blocks T.n_Blocks_size bf_size) (ev_var rfl) (rv_ne rfl))))) (by rw [decide_eq_true rfl, decide_eq_true rfl]; rfl)) (fun hb => nomatch hb) (fun hb H14 e14 => ?_)
    have e1114 := e1113.trans e14
    have hB14 : Bk A.c_Blocks H14 x td z n' [] := ⟨⟨dxx, pp, e1114 _ _ g1, e1114 _ _ g2⟩, e1114 _ _ g3⟩
    refine q_when (b := false) (et_is (et_and (et_test (ev_op (ev_op (ev_op (ev_var rfl) ev_c (rv_I ⟨by decide, by decide⟩)) ev_c (rv_I (by decide))) ev_c (rv_eq rfl))) (fun hb => et_or (et_test (ev_op (ev_meth0 (ev_var rfl) (e1114 _ _ g1) (bf_no (by decide +kernel) (by decide +kernel) (by decide +kernel) (by decide +kernel)) (sv_many hB14)) (ev_var rfl) (rv_ne rfl)))
      (fun hb => et_test (ev_opLL (el_meth0 (ev_var rfl) (e1114 _ _ g1) (bf_no (by decide +kernel) (by decide +kernel) (by decide +kernel) (by decide +kernel)) (sl_asked hB14)) (el_lst ea_nil (by decide)) (fun _ _ H1 h1 h2 e1 => rv_neNil (st := []) (sq_of h1) (sq_of h2)))))) (by rw [decide_eq_true rfl]; simp)) (fun hb => nomatch hb) (fun hb H15 e15 => ?_)
    have e015 := (((((e07.trans e8).trans e9).trans e10).trans e11).trans e1114).trans e15
    refine q_asgL (el_lcR1 (fun _ => true) (fun i => V.int (cell ns (27 + i))) (ea_cons ev_c ea_nil) (by decide) (fun x => rfl) (fun i H1 e hi => et_yes) (fun i H1 e hi _ => (ev_call (ea_cons (ev_var rfl) (ea_cons (ev_op ev_c (ev_var rfl) rv_I0) ea_nil)) (sv_cell (27 + i) (by omega) (ex_l (e015.trans e) hS))))) fun pcs H16 npc e16 h16 => ?_
    have hcs : given (12 : Int).toNat (fun _ => true) (fun i => V.int (cell ns (27 + i))) = ((List.range 12).map fun i => cell ns (27 + i)).map V.int := by
      unfold given
      rw [List.filter_eq_self.mpr (fun _ _ => rfl), List.map_map]
      rfl
    rw [hcs] at h16
    clear hcs
    have hcs0 : ∀ v ∈ (List.range 12).map fun i => cell ns (27 + i), 0 ≤ v := fun v hv => by
      obtain ⟨i, _, rfl⟩ := List.mem_map.mp hv
      exact cell_ge _ _
    have hcsl : ((List.range 12).map fun i => cell ns (27 + i)).length ≤ 60 := by rw [List.length_map, List.length_range]; decide
    generalize ((List.range 12).map fun i => cell ns (27 + i)) = cs at h16 hcs0 hcsl
    have e1116 := (e1114.trans e15).trans e16
    have e1216 := ((e13.trans e14).trans e15).trans e16
    have npctd : td ≠ pcs := ne_of_none (e15 _ _ (e1114 _ _ g3)) npc
    have npcph : ph ≠ pcs := ne_of_none (e15 _ _ (e14 _ _ (e13 _ _ h12))) npc
    refine q_whenN (e_call (e_cons (ev_var rfl) fun Ha ea => e_cons (ev_var rfl) fun Hb eb => e_cons (ev_var rfl) fun Hc ec => e_consL (el_lst ea_nil (by decide)) fun pw Hd nw ed hw => e_cons (ev_var rfl) fun He ee => e_nil ?_))
    have e16c := (ea.trans eb).trans ec
    have e11c := e1116.trans e16c
    have e12c := e1216.trans e16c
    have nxtd : x ≠ td := ne_of (e11c _ _ g1) (e11c _ _ g3) (by intro z'; cases z')
    have nxph : x ≠ ph := ne_of (e11c _ _ g1) (e12c _ _ h12) (by intro z'; cases z')
    have npptd : pp ≠ td := ne_of (e11c _ _ g2) (e11c _ _ g3) (by intro z'; cases z')
    have nx2td : x2 ≠ td := ne_of (e11c _ _ k1) (e11c _ _ g3) (by intro z'; cases z')
    have nx2ph : x2 ≠ ph := ne_of (e11c _ _ k1) (e12c _ _ h12) (by intro z'; cases z')
    have np2td : pp2 ≠ td := ne_of (e11c _ _ k2) (e11c _ _ g3) (by intro z'; cases z')
    have nt2ph : td2 ≠ ph := ne_of (e11c _ _ k3) (e12c _ _ h12) (by intro z'; cases z')
    have hBF : Bk A.c_Blocks (less Hc td ph) x2 td2 z n2 [] := ⟨⟨dx2x, pp2, less_at (e11c _ _ k1) nx2td nx2ph, less_at (e11c _ _ k2) np2td nph2⟩, less_at (e11c _ _ k3) ntt nt2ph⟩
    have nwph : pw ≠ ph := (ne_of_none (e12c _ _ h12) nw).symm
    refine ⟨x, pcs, pw, ph, td, dxx, pp, z, n', cs, less Hc td ph, rfl, ((less_ex Hc td ph).trans ed).trans ee, less_a _ _ _, less_no nw, less_b _ _ _, nwph, less_at (e11c _ _ g1) nxtd nxph, less_at (e11c _ _ g2) npptd nphp, sq_of (less_at (e16c _ _ h16) npctd.symm npcph.symm),
      hcs0, hcsl, ee _ _ (ed _ _ (e11c _ _ g3)), ee _ _ hw, ee _ _ (ed _ _ (e12c _ _ h12)), hn1, hn2, hz1, hz2, fun H17 F' ks prs eFF eFH gtd gph hkl htd17 hph17 hpl hpr => ⟨true, rfl, iteF ?_⟩⟩
    have eF17 := eFF.trans eFH
    refine q_forLn (ev_var rfl) (sq_of hph17) (fun (i : Nat) (σ' : L2.St) (H' : Hp) => ∃ y9 : Option V, Ex H17 H' ∧
      σ' = [some (.ref a), some (.str z), some (.int c), some (.int (n' : Int)), some (.ref x), some (.ref x2), some (.ref ph), some (.int ((cnt z.length n' : Nat) : Int)), some (.ref pcs), y9, none]) ?_ ?_ ?_ ?_
    · intro H18 e18
      exact ⟨none, e18, rfl⟩
    · rintro i σ' H18 hi ⟨y9, e18, rfl⟩
      exact sq_of (e18 _ _ hph17)
    · rintro i pv' σ' H18 hi ⟨y9, e18, rfl⟩
      obtain ⟨pr, hpm, rfl⟩ : ∃ pr, pr ∈ prs ∧ pv' = V.ref pr := by
        have := List.mem_of_getElem? hi
        obtain ⟨pr, h1, h2⟩ := List.mem_map.mp this
        exact ⟨pr, h1, h2.symm⟩
      obtain ⟨fa, fb, l, j1, j2, j3⟩ := ((hpr pr hpm).ex eFH).ex e18
      refine s_when (b := false) (et_is (et_test (ev_op (ev_op (ev_var rfl) ev_c (rv_ixL (sq_of j1) (show atI [V.ref fa, V.ref fb] 0 = some (V.ref fa) from rfl))) (ev_op (ev_var rfl) ev_c (rv_ixL (sq_of j1) (show atI [V.ref fa, V.ref fb] 1 = some (V.ref fb) from rfl))) (rv_neI (sq_of j2) (sq_of j3)))) rfl) (fun hb => nomatch hb) (fun hb H19 e19 => ?_)
      exact ⟨_, e18.trans e19, rfl⟩
    · rintro σ' H18 ⟨y9, e18, rfl⟩
      have e1718 := eF17.trans e18
      have hBb : Bk A.c_Blocks H18 x td z n' ks := bk_of e1718 (less_at (e11c _ _ g1) nxtd nxph) (less_at (e11c _ _ g2) npptd nphp) (e18 _ _ htd17)
      have hBo : Bk A.c_Blocks H18 x2 td2 z n2 [] := hBF.ex e1718
      obtain ⟨⟨dxb, ppb, b1, b2⟩, b3⟩ := id hBb
      obtain ⟨⟨dxo, ppo, o1, o2⟩, o3⟩ := id hBo
      refine q_when (b := false) (et_is (et_or (et_test (ev_opLL (el_meth0 (ev_var rfl) o1 (bf_no (by decide +kernel) (by decide +kernel) (by decide +kernel) (by decide +kernel)) (sl_asked hBo)) (el_lst ea_nil (by decide)) (fun _ _ H1 h1 h2 e1 => rv_neNil (st := []) (sq_of h1) (sq_of h2))))
        (fun _ => et_or (et_not (et_B (ev_call (ea_cons (ev_meth0 (ev_var rfl) b1 (bf_no (by decide +kernel) (by decide +kernel) (by decide +kernel) (by decide +kernel)) (sv_many hBb)) ea_nil) (sv_whole (kd_int _))))) (fun _ => et_test (ev_op (ev_meth0 (ev_var rfl) b1 (bf_no (by decide +kernel) (by decide +kernel) (by decide +kernel) (by decide +kernel)) (sv_many hBb)) (ev_var rfl) (rv_ne rfl))))) (by rw [decide_eq_true rfl, decide_eq_true rfl]; rfl)) (fun hb => nomatch hb) (fun hb H19 e19 => ?_)
      have hBo19 := hBo.ex e19
      obtain ⟨⟨dxo9, ppo9, u1, u2⟩, u3⟩ := id hBo19
      refine s_retX (e_op ⟨⟨"", rfl⟩, ?_⟩)
      refine e_lcR1 (n := cnt z.length n2) (ea_cons (ev_meth0 (ev_var rfl) u1 (bf_no (by decide +kernel) (by decide +kernel) (by decide +kernel) (by decide +kernel)) (sv_many hBo19)) ea_nil) (Nat.le_trans (cnt_le _ _ hm1) (by omega)) (fun x => rfl) fun H20 Dl e20 hDl => ?_
      have hB20 := hBo19.ex e20
      have nDt : Dl ≠ td2 := (ne_of_none (hB20.dc) hDl).symm
      refine ⟨fun i H' => H' Dl = some (.lst (((List.range i).map (cutAt z n2)).map V.str)) ∧ ∃ ks', Bk A.c_Blocks H' x2 td2 z n2 ks' ∧ ks'.length ≤ i, ⟨upd_same, [], hB20.ex (Ex.new hDl), Nat.le_refl _⟩, ?_, ?_⟩
      · rintro i H21 hi ⟨hd21, ks', hB21, hkl'⟩
        obtain ⟨⟨dx21, pp21, w1, w2⟩, w3⟩ := id hB21
        have hcl2 := cnt_le z.length n2 hm1
        refine e_meth (ev_var rfl) w1 (bf_no (by decide +kernel) (by decide +kernel) (by decide +kernel) (by decide +kernel)) (ea_cons (ev_var rfl) ea_nil) fun H22 e22 => ⟨x2, td2, z, n2, ks', _, rfl, hB21.ex e22, hm1, hz1, hz2, by omega, kd_int _, fun j hj hjl H23 kp hB23 => ?_, fun hr0 => ?_⟩
        · have ejj : i = j := by
            have := V.int.inj hj
            omega
          subst ejj
          have hd23 := kept_but kp _ _ nDt (e22 _ _ hd21)
          refine ⟨_, hd23, ?_, ?_, addK ks' i, ?_, Nat.le_trans (addK_len _ _) (by omega)⟩
          · rw [List.length_map, List.length_map, List.length_range]
            exact sz_lt (by omega)
          · rw [upd_same, List.range_succ, List.map_append, List.map_append]
            rfl
          · refine hB23.near hd23 ?_
            rw [List.length_map, List.length_map, List.length_range]
            omega
        · exfalso
          have hr1 : (decide ((0 : Int) ≤ (i : Int)) && decide ((i : Int) ≤ ((cnt z.length n2 : Nat) : Int) - 1)) = false := hr0
          rw [decide_eq_true (by omega), decide_eq_true (by omega)] at hr1
          cases hr1
      · rintro H21 ⟨hd21, _⟩
        have hsum := sum_cuts z n2 (cnt z.length n2)
        have hel : (Str.ofString "").length = 0 := by decide +kernel
        refine ⟨"", Dl, (List.range (cnt z.length n2)).map (cutAt z n2), rfl, rfl, .inl (sq_of hd21), by rw [hel]; omega, ?_⟩
        rw [join_cuts z n2 hm1]
        refine ⟨_, rfl, rfl, ?_⟩
        rw [decide_eq_true rfl]
        exact q H21

end
theorem all_mk {l : PySem.W.OpenLaw} {w : World} {K : PySem.W.Frag} {h : Heap} {mg : Str → Option Value} {fa : Addr} {C_Blocks : Addr} {C_NoBlock : Addr} {C_NoSize : Addr} {C_KnotError : Addr} {f_is_whole : Addr} {od_is_whole an_is_whole : Option Addr} {sl_is_whole : Array (Option Value)} {oc_is_whole kV_is_whole dc_is_whole pm_is_whole cd_is_whole ct_is_whole : Value} {f_is_whole_from : Addr} {od_is_whole_from an_is_whole_from : Option Addr} {sl_is_whole_from : Array (Option Value)} {oc_is_whole_from kV_is_whole_from dc_is_whole_from pm_is_whole_from cd_is_whole_from ct_is_whole_from : Value} {f_Blocks___init__ : Addr} {od_Blocks___init__ an_Blocks___init__ : Option Addr} {sl_Blocks___init__ : Array (Option Value)} {oc_Blocks___init__ kV_Blocks___init__ dc_Blocks___init__ pm_Blocks___init__ cd_Blocks___init__ ct_Blocks___init__ : Value} {f_Blocks_many : Addr} {od_Blocks_many an_Blocks_many : Option Addr} {sl_Blocks_many : Array (Option Value)} {oc_Blocks_many kV_Blocks_many dc_Blocks_many pm_Blocks_many cd_Blocks_many ct_Blocks_many : Value} {f_Blocks_part : Addr} {od_Blocks_part an_Blocks_part : Option Addr} {sl_Blocks_part : Array (Option Value)} {oc_Blocks_part kV_Blocks_part dc_Blocks_part pm_Blocks_part cd_Blocks_part ct_Blocks_part : Value} {f_Blocks_asked : Addr} {od_Blocks_asked an_Blocks_asked : Option Addr} {sl_Blocks_asked : Array (Option Value)} {oc_Blocks_asked kV_Blocks_asked dc_Blocks_asked pm_Blocks_asked cd_Blocks_asked ct_Blocks_asked : Value} {f_law_cell_at : Addr} {od_law_cell_at an_law_cell_at : Option Addr} {sl_law_cell_at : Array (Option Value)} {oc_law_cell_at kV_law_cell_at dc_law_cell_at pm_law_cell_at cd_law_cell_at ct_law_cell_at : Value} {f_law_whole : Addr} {od_law_whole an_law_whole : Option Addr} {sl_law_whole : Array (Option Value)} {oc_law_whole kV_law_whole dc_law_whole pm_law_whole cd_law_whole ct_law_whole : Value} {f_law_parents : Addr} {od_law_parents an_law_parents : Option Addr} {sl_law_parents : Array (Option Value)} {oc_law_parents kV_law_parents dc_law_parents pm_law_parents cd_law_parents ct_law_parents : Value} {f_law_bits : Addr} {od_law_bits an_law_bits : Option Addr} {sl_law_bits : Array (Option Value)} {oc_law_bits kV_law_bits dc_law_bits pm_law_bits cd_law_bits ct_law_bits : Value} {f_law_no_size : Addr} {od_law_no_size an_law_no_size : Option Addr} {sl_law_no_size : Array (Option Value)} {oc_law_no_size kV_law_no_size dc_law_no_size pm_law_no_size cd_law_no_size ct_law_no_size : Value} {f_law_part : Addr} {od_law_part an_law_part : Option Addr} {sl_law_part : Array (Option Value)} {oc_law_part kV_law_part dc_law_part pm_law_part cd_law_part ct_law_part : Value} {f_law_number : Addr} {od_law_number an_law_number : Option Addr} {sl_law_number : Array (Option Value)} {oc_law_number kV_law_number dc_law_number pm_law_number cd_law_number ct_law_number : Value} {f_law_asked_well : Addr} {od_law_asked_well an_law_asked_well : Option Addr} {sl_law_asked_well : Array (Option Value)} {oc_law_asked_well kV_law_asked_well dc_law_asked_well pm_law_asked_well cd_law_asked_well ct_law_asked_well : Value} {f_law : Addr} {od_law an_law : Option Addr} {sl_law : Array (Option Value)} {oc_law kV_law dc_law pm_law cd_law ct_law : Value} {tk_MOST_SIZE : Tok}
    (X : K.In h) (G : h.Ns mainGlobals mg) (hfa : mg "law" = some (.ref fa))
    (a_is_whole : PySem.W.nsIn K mainGlobals "is_whole" = some (some (.ref f_is_whole)))
    (l_is_whole : K.lookup f_is_whole = some ⟨oc_is_whole, od_is_whole, .func (PySem.W.fnOf "is_whole" "is_whole" (defArgs s_is_whole) (defBody s_is_whole) (defScope s_is_whole) .none kV_is_whole dc_is_whole pm_is_whole an_is_whole cd_is_whole ct_is_whole), sl_is_whole⟩) (c_is_whole : PySem.W.codeIn K cd_is_whole "is_whole" = true) (k_is_whole : PySem.W.keepIn K (.ref f_is_whole) = true)
    (a_is_whole_from : PySem.W.nsIn K mainGlobals "is_whole_from" = some (some (.ref f_is_whole_from)))
    (l_is_whole_from : K.lookup f_is_whole_from = some ⟨oc_is_whole_from, od_is_whole_from, .func (PySem.W.fnOf "is_whole_from" "is_whole_from" (defArgs s_is_whole_from) (defBody s_is_whole_from) (defScope s_is_whole_from) .none kV_is_whole_from dc_is_whole_from pm_is_whole_from an_is_whole_from cd_is_whole_from ct_is_whole_from), sl_is_whole_from⟩) (c_is_whole_from : PySem.W.codeIn K cd_is_whole_from "is_whole_from" = true) (k_is_whole_from : PySem.W.keepIn K (.ref f_is_whole_from) = true)
    (a_Blocks___init__ : PySem.W.findIn K (.ref C_Blocks) "__init__" = some (some (.ref f_Blocks___init__))) (i_Blocks___init__ : PySem.W.isFn K (.ref f_Blocks___init__) = true)
    (l_Blocks___init__ : K.lookup f_Blocks___init__ = some ⟨oc_Blocks___init__, od_Blocks___init__, .func (PySem.W.fnOf "__init__" "Blocks.__init__" (defArgs s_Blocks___init__) (defBody s_Blocks___init__) (defScope s_Blocks___init__) .none kV_Blocks___init__ dc_Blocks___init__ pm_Blocks___init__ an_Blocks___init__ cd_Blocks___init__ ct_Blocks___init__), sl_Blocks___init__⟩) (c_Blocks___init__ : PySem.W.codeIn K cd_Blocks___init__ "Blocks.__init__" = true) (k_Blocks___init__ : PySem.W.keepIn K (.ref f_Blocks___init__) = true)
    (a_Blocks_many : PySem.W.findIn K (.ref C_Blocks) "many" = some (some (.ref f_Blocks_many))) (i_Blocks_many : PySem.W.isFn K (.ref f_Blocks_many) = true)
    (l_Blocks_many : K.lookup f_Blocks_many = some ⟨oc_Blocks_many, od_Blocks_many, .func (PySem.W.fnOf "many" "Blocks.many" (defArgs s_Blocks_many) (defBody s_Blocks_many) (defScope s_Blocks_many) .none kV_Blocks_many dc_Blocks_many pm_Blocks_many an_Blocks_many cd_Blocks_many ct_Blocks_many), sl_Blocks_many⟩) (c_Blocks_many : PySem.W.codeIn K cd_Blocks_many "Blocks.many" = true) (k_Blocks_many : PySem.W.keepIn K (.ref f_Blocks_many) = true)
    (a_Blocks_part : PySem.W.findIn K (.ref C_Blocks) "part" = some (some (.ref f_Blocks_part))) (i_Blocks_part : PySem.W.isFn K (.ref f_Blocks_part) = true)
    (l_Blocks_part : K.lookup f_Blocks_part = some ⟨oc_Blocks_part, od_Blocks_part, .func (PySem.W.fnOf "part" "Blocks.part" (defArgs s_Blocks_part) (defBody s_Blocks_part) (defScope s_Blocks_part) .none kV_Blocks_part dc_Blocks_part pm_Blocks_part an_Blocks_part cd_Blocks_part ct_Blocks_part), sl_Blocks_part⟩) (c_Blocks_part : PySem.W.codeIn K cd_Blocks_part "Blocks.part" = true) (k_Blocks_part : PySem.W.keepIn K (.ref f_Blocks_part) = true)
    (a_Blocks_asked : PySem.W.findIn K (.ref C_Blocks) "asked" = some (some (.ref f_Blocks_asked))) (i_Blocks_asked : PySem.W.isFn K (.ref f_Blocks_asked) = true)
    (l_Blocks_asked : K.lookup f_Blocks_asked = some ⟨oc_Blocks_asked, od_Blocks_asked, .func (PySem.W.fnOf "asked" "Blocks.asked" (defArgs s_Blocks_asked) (defBody s_Blocks_asked) (defScope s_Blocks_asked) .none kV_Blocks_asked dc_Blocks_asked pm_Blocks_asked an_Blocks_asked cd_Blocks_asked ct_Blocks_asked), sl_Blocks_asked⟩) (c_Blocks_asked : PySem.W.codeIn K cd_Blocks_asked "Blocks.asked" = true) (k_Blocks_asked : PySem.W.keepIn K (.ref f_Blocks_asked) = true)
    (a_law_cell_at : PySem.W.nsIn K mainGlobals "_law_cell_at" = some (some (.ref f_law_cell_at)))
    (l_law_cell_at : K.lookup f_law_cell_at = some ⟨oc_law_cell_at, od_law_cell_at, .func (PySem.W.fnOf "_law_cell_at" "_law_cell_at" (defArgs s_law_cell_at) (defBody s_law_cell_at) (defScope s_law_cell_at) .none kV_law_cell_at dc_law_cell_at pm_law_cell_at an_law_cell_at cd_law_cell_at ct_law_cell_at), sl_law_cell_at⟩) (c_law_cell_at : PySem.W.codeIn K cd_law_cell_at "_law_cell_at" = true) (k_law_cell_at : PySem.W.keepIn K (.ref f_law_cell_at) = true)
    (a_law_whole : PySem.W.nsIn K mainGlobals "_law_whole" = some (some (.ref f_law_whole)))
    (l_law_whole : K.lookup f_law_whole = some ⟨oc_law_whole, od_law_whole, .func (PySem.W.fnOf "_law_whole" "_law_whole" (defArgs s_law_whole) (defBody s_law_whole) (defScope s_law_whole) .none kV_law_whole dc_law_whole pm_law_whole an_law_whole cd_law_whole ct_law_whole), sl_law_whole⟩) (c_law_whole : PySem.W.codeIn K cd_law_whole "_law_whole" = true) (k_law_whole : PySem.W.keepIn K (.ref f_law_whole) = true)
    (a_law_parents : PySem.W.nsIn K mainGlobals "_law_parents" = some (some (.ref f_law_parents)))
    (l_law_parents : K.lookup f_law_parents = some ⟨oc_law_parents, od_law_parents, .func (PySem.W.fnOf "_law_parents" "_law_parents" (defArgs s_law_parents) (defBody s_law_parents) (defScope s_law_parents) .none kV_law_parents dc_law_parents pm_law_parents an_law_parents cd_law_parents ct_law_parents), sl_law_parents⟩) (c_law_parents : PySem.W.codeIn K cd_law_parents "_law_parents" = true) (k_law_parents : PySem.W.keepIn K (.ref f_law_parents) = true)
    (a_law_bits : PySem.W.nsIn K mainGlobals "_law_bits" = some (some (.ref f_law_bits)))
    (l_law_bits : K.lookup f_law_bits = some ⟨oc_law_bits, od_law_bits, .func (PySem.W.fnOf "_law_bits" "_law_bits" (defArgs s_law_bits) (defBody s_law_bits) (defScope s_law_bits) .none kV_law_bits dc_law_bits pm_law_bits an_law_bits cd_law_bits ct_law_bits), sl_law_bits⟩) (c_law_bits : PySem.W.codeIn K cd_law_bits "_law_bits" = true) (k_law_bits : PySem.W.keepIn K (.ref f_law_bits) = true)
    (a_law_no_size : PySem.W.nsIn K mainGlobals "_law_no_size" = some (some (.ref f_law_no_size)))
    (l_law_no_size : K.lookup f_law_no_size = some ⟨oc_law_no_size, od_law_no_size, .func (PySem.W.fnOf "_law_no_size" "_law_no_size" (defArgs s_law_no_size) (defBody s_law_no_size) (defScope s_law_no_size) .none kV_law_no_size dc_law_no_size pm_law_no_size an_law_no_size cd_law_no_size ct_law_no_size), sl_law_no_size⟩) (c_law_no_size : PySem.W.codeIn K cd_law_no_size "_law_no_size" = true) (k_law_no_size : PySem.W.keepIn K (.ref f_law_no_size) = true)
    (a_law_part : PySem.W.nsIn K mainGlobals "_law_part" = some (some (.ref f_law_part)))
    (l_law_part : K.lookup f_law_part = some ⟨oc_law_part, od_law_part, .func (PySem.W.fnOf "_law_part" "_law_part" (defArgs s_law_part) (defBody s_law_part) (defScope s_law_part) .none kV_law_part dc_law_part pm_law_part an_law_part cd_law_part ct_law_part), sl_law_part⟩) (c_law_part : PySem.W.codeIn K cd_law_part "_law_part" = true) (k_law_part : PySem.W.keepIn K (.ref f_law_part) = true)
    (a_law_number : PySem.W.nsIn K mainGlobals "_law_number" = some (some (.ref f_law_number)))
    (l_law_number : K.lookup f_law_number = some ⟨oc_law_number, od_law_number, .func (PySem.W.fnOf "_law_number" "_law_number" (defArgs s_law_number) (defBody s_law_number) (defScope s_law_number) .none kV_law_number dc_law_number pm_law_number an_law_number cd_law_number ct_law_number), sl_law_number⟩) (c_law_number : PySem.W.codeIn K cd_law_number "_law_number" = true) (k_law_number : PySem.W.keepIn K (.ref f_law_number) = true)
    (a_law_asked_well : PySem.W.nsIn K mainGlobals "_law_asked_well" = some (some (.ref f_law_asked_well)))
    (l_law_asked_well : K.lookup f_law_asked_well = some ⟨oc_law_asked_well, od_law_asked_well, .func (PySem.W.fnOf "_law_asked_well" "_law_asked_well" (defArgs s_law_asked_well) (defBody s_law_asked_well) (defScope s_law_asked_well) .none kV_law_asked_well dc_law_asked_well pm_law_asked_well an_law_asked_well cd_law_asked_well ct_law_asked_well), sl_law_asked_well⟩) (c_law_asked_well : PySem.W.codeIn K cd_law_asked_well "_law_asked_well" = true) (k_law_asked_well : PySem.W.keepIn K (.ref f_law_asked_well) = true)
    (a_law : PySem.W.nsIn K mainGlobals "law" = some (some (.ref f_law)))
    (l_law : K.lookup f_law = some ⟨oc_law, od_law, .func (PySem.W.fnOf "law" "law" (defArgs s_law) (defBody s_law) (defScope s_law) .none kV_law dc_law pm_law an_law cd_law ct_law), sl_law⟩) (c_law : PySem.W.codeIn K cd_law "law" = true) (k_law : PySem.W.keepIn K (.ref f_law) = true)
    (b_ValueError : PySem.W.nsIn K mainGlobals "ValueError" = some none)
    (b_bool : PySem.W.nsIn K mainGlobals "bool" = some none)
    (b_int : PySem.W.nsIn K mainGlobals "int" = some none)
    (b_isinstance : PySem.W.nsIn K mainGlobals "isinstance" = some none)
    (b_len : PySem.W.nsIn K mainGlobals "len" = some none)
    (b_list : PySem.W.nsIn K mainGlobals "list" = some none)
    (b_min : PySem.W.nsIn K mainGlobals "min" = some none)
    (b_range : PySem.W.nsIn K mainGlobals "range" = some none)
    (n_MOST_SIZE : PySem.W.nsIn K mainGlobals "MOST_SIZE" = some (some (.int 4000 tk_MOST_SIZE)))
    (ac_Blocks : PySem.W.nsIn K mainGlobals "Blocks" = some (some (.ref C_Blocks)))
    (pg_Blocks : PySem.W.plainGet K C_Blocks Str.empty = true)
    (hd_Blocks : PySem.W.hasDictIn K C_Blocks = true)
    (po_Blocks : PySem.W.plainOver K C_Blocks = true)
    (sa_Blocks : PySem.W.findIn K (.ref C_Blocks) "__setattr__" = some (some (.builtin "object.__setattr__")))
    (mk_Blocks : PySem.W.makesIn K C_Blocks = true)
    (ko_Blocks : PySem.W.keepIn K (.ref C_Blocks) = true)
    (na_Blocks_length : PySem.W.findIn K (.ref C_Blocks) "length" = some none)
    (na_Blocks_size : PySem.W.findIn K (.ref C_Blocks) "size" = some none)
    (na_Blocks__parts : PySem.W.findIn K (.ref C_Blocks) "_parts" = some none)
    (na_Blocks__told : PySem.W.findIn K (.ref C_Blocks) "_told" = some none)
    (ac_KnotError : PySem.W.nsIn K mainGlobals "KnotError" = some (some (.ref C_KnotError)))
    (xc_KnotError : PySem.W.excIn K C_KnotError [.type "ValueError", .type "Exception", .type "BaseException", .type "object"] "ValueError.__new__" = true)
    (kc_KnotError : PySem.W.keepIn K (.ref C_KnotError) = true) (ec_KnotError : PySem.W.subIn K (.ref C_KnotError) (.type "BaseException") = some true) (tc_KnotError : PySem.W.typeIn K (.ref C_KnotError) = some (.type "type"))
    (ac_NoSize : PySem.W.nsIn K mainGlobals "NoSize" = some (some (.ref C_NoSize)))
    (xc_NoSize : PySem.W.excIn K C_NoSize [.type "ValueError", .type "Exception", .type "BaseException", .type "object"] "ValueError.__new__" = true)
    (kc_NoSize : PySem.W.keepIn K (.ref C_NoSize) = true) (ec_NoSize : PySem.W.subIn K (.ref C_NoSize) (.type "BaseException") = some true) (tc_NoSize : PySem.W.typeIn K (.ref C_NoSize) = some (.type "type"))
    (ac_NoBlock : PySem.W.nsIn K mainGlobals "NoBlock" = some (some (.ref C_NoBlock)))
    (xc_NoBlock : PySem.W.excIn K C_NoBlock [.type "ValueError", .type "Exception", .type "BaseException", .type "object"] "ValueError.__new__" = true)
    (kc_NoBlock : PySem.W.keepIn K (.ref C_NoBlock) = true) (ec_NoBlock : PySem.W.subIn K (.ref C_NoBlock) (.type "BaseException") = some true) (tc_NoBlock : PySem.W.typeIn K (.ref C_NoBlock) = some (.type "type"))
    (xh_KnotError : PySem.W.hasDictIn K C_KnotError = true)
    (xu_NoSize_KnotError : PySem.W.subIn K (.ref C_NoSize) (.ref C_KnotError) = some true)
    (xh_NoSize : PySem.W.hasDictIn K C_NoSize = true)
    (xu_NoSize_NoSize : PySem.W.subIn K (.ref C_NoSize) (.ref C_NoSize) = some true)
    (xh_NoBlock : PySem.W.hasDictIn K C_NoBlock = true)
    (xu_NoSize_NoBlock : PySem.W.subIn K (.ref C_NoSize) (.ref C_NoBlock) = some false)
    (xu_NoBlock_NoBlock : PySem.W.subIn K (.ref C_NoBlock) (.ref C_NoBlock) = some true)
    (xu_NoSize_ValueError : PySem.W.subIn K (.ref C_NoSize) (.type "ValueError") = some true)
    (xe_hg : PySem.W.findIn K (.ref C_NoSize) "__getattribute__" = some (some (.builtin "BaseException.__getattribute__")))
    (xe_hk : PySem.W.findIn K (.ref C_NoSize) "__getattr__" = some none)
    (xe_ha : PySem.W.findIn K (.ref C_NoSize) "__class__" = some (some (.builtin "object.__class__")))
    (xe_hn : PySem.W.specialIn K (.builtin "object.__class__") "__get__" = some (some (.builtin "getset_descriptor.__get__")))
    (xe_ht : PySem.W.takesIn K (.builtin "object.__class__") = some true)
    (xe_hm : PySem.W.mroIn K C_NoSize (.type "object") = some true)
    : ∃ fd : FuncData, (∀ (s : Shared) (v : Value), BindsTo s fd ⟨[v], []⟩ [("_law_script", v)]) ∧ ∀ base : Heap, K.In base → base.Ns mainGlobals mg → FnOk l.prog w K mg base CX0 6 fa fd ["_law_script"] (spLaw K) := by
  have e := hfa.symm.trans (PySem.W.mg_of X G a_law)
  cases e
  have F_is_whole := fun_mk (st := s_is_whole) l_is_whole c_is_whole k_is_whole
  have bb_is_whole := F_is_whole.binds (ps := ["thing"]) fun _ _ _ _ _ _ us hl => match us, hl with | [_], _ => rfl
  have F_is_whole_from := fun_mk (st := s_is_whole_from) l_is_whole_from c_is_whole_from k_is_whole_from
  have bb_is_whole_from := F_is_whole_from.binds (ps := ["least", "most", "thing"]) fun _ _ _ _ _ _ us hl => match us, hl with | [_, _, _], _ => rfl
  have F_Blocks___init__ := fun_mk (st := s_Blocks___init__) l_Blocks___init__ c_Blocks___init__ k_Blocks___init__
  have bb_Blocks___init__ := F_Blocks___init__.binds (ps := ["self", "bits", "size"]) fun _ _ _ _ _ _ us hl => match us, hl with | [_, _, _], _ => rfl
  have F_Blocks_many := fun_mk (st := s_Blocks_many) l_Blocks_many c_Blocks_many k_Blocks_many
  have bb_Blocks_many := F_Blocks_many.binds (ps := ["self"]) fun _ _ _ _ _ _ us hl => match us, hl with | [_], _ => rfl
  have F_Blocks_part := fun_mk (st := s_Blocks_part) l_Blocks_part c_Blocks_part k_Blocks_part
  have bb_Blocks_part := F_Blocks_part.binds (ps := ["self", "number"]) fun _ _ _ _ _ _ us hl => match us, hl with | [_, _], _ => rfl
  have F_Blocks_asked := fun_mk (st := s_Blocks_asked) l_Blocks_asked c_Blocks_asked k_Blocks_asked
  have bb_Blocks_asked := F_Blocks_asked.binds (ps := ["self"]) fun _ _ _ _ _ _ us hl => match us, hl with | [_], _ => rfl
  have F_law_cell_at := fun_mk (st := s_law_cell_at) l_law_cell_at c_law_cell_at k_law_cell_at
  have bb_law_cell_at := F_law_cell_at.binds (ps := ["_law_script", "_law_k"]) fun _ _ _ _ _ _ us hl => match us, hl with | [_, _], _ => rfl
  have F_law_whole := fun_mk (st := s_law_whole) l_law_whole c_law_whole k_law_whole
  have bb_law_whole := F_law_whole.binds (ps := ["_law_found"]) fun _ _ _ _ _ _ us hl => match us, hl with | [_], _ => rfl
  have F_law_parents := fun_mk (st := s_law_parents) l_law_parents c_law_parents k_law_parents
  have bb_law_parents := F_law_parents.binds (ps := ["_law_script"]) fun _ _ _ _ _ _ us hl => match us, hl with | [_], _ => rfl
  have F_law_bits := fun_mk (st := s_law_bits) l_law_bits c_law_bits k_law_bits
  have bb_law_bits := F_law_bits.binds (ps := ["_law_parents_here"]) fun _ _ _ _ _ _ us hl => match us, hl with | [_], _ => rfl
  have F_law_no_size := fun_mk (st := s_law_no_size) l_law_no_size c_law_no_size k_law_no_size
  have bb_law_no_size := F_law_no_size.binds (ps := ["_law_bits_here", "_law_cell"]) fun _ _ _ _ _ _ us hl => match us, hl with | [_, _], _ => rfl
  have F_law_part := fun_mk (st := s_law_part) l_law_part c_law_part k_law_part
  have bb_law_part := F_law_part.binds (ps := ["_law_blocks", "_law_number_here"]) fun _ _ _ _ _ _ us hl => match us, hl with | [_, _], _ => rfl
  have F_law_number := fun_mk (st := s_law_number) l_law_number c_law_number k_law_number
  have bb_law_number := F_law_number.binds (ps := ["_law_cell", "_law_many"]) fun _ _ _ _ _ _ us hl => match us, hl with | [_, _], _ => rfl
  have F_law_asked_well := fun_mk (st := s_law_asked_well) l_law_asked_well c_law_asked_well k_law_asked_well
  have bb_law_asked_well := F_law_asked_well.binds (ps := ["_law_blocks", "_law_bits_here", "_law_cells", "_law_want", "_law_held"]) fun _ _ _ _ _ _ us hl => match us, hl with | [_, _, _, _, _], _ => rfl
  have F_law := fun_mk (st := s_law) l_law c_law k_law
  have bb_law := F_law.binds (ps := ["_law_script"]) fun _ _ _ _ _ _ us hl => match us, hl with | [_], _ => rfl
  let A : Adr := { f_is_whole := f_is_whole, d_is_whole := PySem.W.fnOf "is_whole" "is_whole" (defArgs s_is_whole) (defBody s_is_whole) (defScope s_is_whole) .none kV_is_whole dc_is_whole pm_is_whole an_is_whole cd_is_whole ct_is_whole, f_is_whole_from := f_is_whole_from, d_is_whole_from := PySem.W.fnOf "is_whole_from" "is_whole_from" (defArgs s_is_whole_from) (defBody s_is_whole_from) (defScope s_is_whole_from) .none kV_is_whole_from dc_is_whole_from pm_is_whole_from an_is_whole_from cd_is_whole_from ct_is_whole_from, f_Blocks___init__ := f_Blocks___init__, d_Blocks___init__ := PySem.W.fnOf "__init__" "Blocks.__init__" (defArgs s_Blocks___init__) (defBody s_Blocks___init__) (defScope s_Blocks___init__) .none kV_Blocks___init__ dc_Blocks___init__ pm_Blocks___init__ an_Blocks___init__ cd_Blocks___init__ ct_Blocks___init__, f_Blocks_many := f_Blocks_many, d_Blocks_many := PySem.W.fnOf "many" "Blocks.many" (defArgs s_Blocks_many) (defBody s_Blocks_many) (defScope s_Blocks_many) .none kV_Blocks_many dc_Blocks_many pm_Blocks_many an_Blocks_many cd_Blocks_many ct_Blocks_many, f_Blocks_part := f_Blocks_part, d_Blocks_part := PySem.W.fnOf "part" "Blocks.part" (defArgs s_Blocks_part) (defBody s_Blocks_part) (defScope s_Blocks_part) .none kV_Blocks_part dc_Blocks_part pm_Blocks_part an_Blocks_part cd_Blocks_part ct_Blocks_part, f_Blocks_asked := f_Blocks_asked, d_Blocks_asked := PySem.W.fnOf "asked" "Blocks.asked" (defArgs s_Blocks_asked) (defBody s_Blocks_asked) (defScope s_Blocks_asked) .none kV_Blocks_asked dc_Blocks_asked pm_Blocks_asked an_Blocks_asked cd_Blocks_asked ct_Blocks_asked, f_law_cell_at := f_law_cell_at, d_law_cell_at := PySem.W.fnOf "_law_cell_at" "_law_cell_at" (defArgs s_law_cell_at) (defBody s_law_cell_at) (defScope s_law_cell_at) .none kV_law_cell_at dc_law_cell_at pm_law_cell_at an_law_cell_at cd_law_cell_at ct_law_cell_at, f_law_whole := f_law_whole, d_law_whole := PySem.W.fnOf "_law_whole" "_law_whole" (defArgs s_law_whole) (defBody s_law_whole) (defScope s_law_whole) .none kV_law_whole dc_law_whole pm_law_whole an_law_whole cd_law_whole ct_law_whole, f_law_parents := f_law_parents, d_law_parents := PySem.W.fnOf "_law_parents" "_law_parents" (defArgs s_law_parents) (defBody s_law_parents) (defScope s_law_parents) .none kV_law_parents dc_law_parents pm_law_parents an_law_parents cd_law_parents ct_law_parents, f_law_bits := f_law_bits, d_law_bits := PySem.W.fnOf "_law_bits" "_law_bits" (defArgs s_law_bits) (defBody s_law_bits) (defScope s_law_bits) .none kV_law_bits dc_law_bits pm_law_bits an_law_bits cd_law_bits ct_law_bits, f_law_no_size := f_law_no_size, d_law_no_size := PySem.W.fnOf "_law_no_size" "_law_no_size" (defArgs s_law_no_size) (defBody s_law_no_size) (defScope s_law_no_size) .none kV_law_no_size dc_law_no_size pm_law_no_size an_law_no_size cd_law_no_size ct_law_no_size, f_law_part := f_law_part, d_law_part := PySem.W.fnOf "_law_part" "_law_part" (defArgs s_law_part) (defBody s_law_part) (defScope s_law_part) .none kV_law_part dc_law_part pm_law_part an_law_part cd_law_part ct_law_part, f_law_number := f_law_number, d_law_number := PySem.W.fnOf "_law_number" "_law_number" (defArgs s_law_number) (defBody s_law_number) (defScope s_law_number) .none kV_law_number dc_law_number pm_law_number an_law_number cd_law_number ct_law_number, f_law_asked_well := f_law_asked_well, d_law_asked_well := PySem.W.fnOf "_law_asked_well" "_law_asked_well" (defArgs s_law_asked_well) (defBody s_law_asked_well) (defScope s_law_asked_well) .none kV_law_asked_well dc_law_asked_well pm_law_asked_well an_law_asked_well cd_law_asked_well ct_law_asked_well, f_law := fa, d_law := PySem.W.fnOf "law" "law" (defArgs s_law) (defBody s_law) (defScope s_law) .none kV_law dc_law pm_law an_law cd_law ct_law, t_MOST_SIZE := tk_MOST_SIZE, c_KnotError := C_KnotError, c_NoSize := C_NoSize, c_NoBlock := C_NoBlock, c_Blocks := C_Blocks }
  have T : Txt K mg A := { F_is_whole := F_is_whole, s_is_whole := bb_is_whole, g_is_whole := PySem.W.mg_of X G a_is_whole, F_is_whole_from := F_is_whole_from, s_is_whole_from := bb_is_whole_from, g_is_whole_from := PySem.W.mg_of X G a_is_whole_from, F_Blocks___init__ := F_Blocks___init__, s_Blocks___init__ := bb_Blocks___init__, F_Blocks_many := F_Blocks_many, s_Blocks_many := bb_Blocks_many, m_Blocks_many := ⟨a_Blocks_many, i_Blocks_many, k_Blocks_many⟩, F_Blocks_part := F_Blocks_part, s_Blocks_part := bb_Blocks_part, m_Blocks_part := ⟨a_Blocks_part, i_Blocks_part, k_Blocks_part⟩, F_Blocks_asked := F_Blocks_asked, s_Blocks_asked := bb_Blocks_asked, m_Blocks_asked := ⟨a_Blocks_asked, i_Blocks_asked, k_Blocks_asked⟩, F_law_cell_at := F_law_cell_at, s_law_cell_at := bb_law_cell_at, g_law_cell_at := PySem.W.mg_of X G a_law_cell_at, F_law_whole := F_law_whole, s_law_whole := bb_law_whole, g_law_whole := PySem.W.mg_of X G a_law_whole, F_law_parents := F_law_parents, s_law_parents := bb_law_parents, g_law_parents := PySem.W.mg_of X G a_law_parents, F_law_bits := F_law_bits, s_law_bits := bb_law_bits, g_law_bits := PySem.W.mg_of X G a_law_bits, F_law_no_size := F_law_no_size, s_law_no_size := bb_law_no_size, g_law_no_size := PySem.W.mg_of X G a_law_no_size, F_law_part := F_law_part, s_law_part := bb_law_part, g_law_part := PySem.W.mg_of X G a_law_part, F_law_number := F_law_number, s_law_number := bb_law_number, g_law_number := PySem.W.mg_of X G a_law_number, F_law_asked_well := F_law_asked_well, s_law_asked_well := bb_law_asked_well, g_law_asked_well := PySem.W.mg_of X G a_law_asked_well, F_law := F_law, s_law := bb_law, g_law := PySem.W.mg_of X G a_law, b_ValueError := PySem.W.mg_none_of X G b_ValueError, b_bool := PySem.W.mg_none_of X G b_bool, b_int := PySem.W.mg_none_of X G b_int, b_isinstance := PySem.W.mg_none_of X G b_isinstance, b_len := PySem.W.mg_none_of X G b_len, b_list := PySem.W.mg_none_of X G b_list, b_min := PySem.W.mg_none_of X G b_min, b_range := PySem.W.mg_none_of X G b_range, c_MOST_SIZE := PySem.W.mg_of X G n_MOST_SIZE, g_Blocks := PySem.W.mg_of X G ac_Blocks, cl_Blocks := ⟨pg_Blocks, hd_Blocks, po_Blocks, sa_Blocks⟩, mk_Blocks := ⟨mk_Blocks, a_Blocks___init__, i_Blocks___init__, ko_Blocks⟩, n_Blocks_length := na_Blocks_length, n_Blocks_size := na_Blocks_size, n_Blocks__parts := na_Blocks__parts, n_Blocks__told := na_Blocks__told, g_KnotError := PySem.W.mg_of X G ac_KnotError, x_KnotError := xc_KnotError, k_KnotError := kc_KnotError, e_KnotError := ec_KnotError, t_KnotError := tc_KnotError, g_NoSize := PySem.W.mg_of X G ac_NoSize, x_NoSize := xc_NoSize, k_NoSize := kc_NoSize, e_NoSize := ec_NoSize, t_NoSize := tc_NoSize, g_NoBlock := PySem.W.mg_of X G ac_NoBlock, x_NoBlock := xc_NoBlock, k_NoBlock := kc_NoBlock, e_NoBlock := ec_NoBlock, t_NoBlock := tc_NoBlock, h_KnotError := xh_KnotError, u_NoSize_KnotError := xu_NoSize_KnotError, h_NoSize := xh_NoSize, u_NoSize_NoSize := xu_NoSize_NoSize, h_NoBlock := xh_NoBlock, u_NoSize_NoBlock := xu_NoSize_NoBlock, u_NoBlock_NoBlock := xu_NoBlock_NoBlock, u_NoSize_ValueError := xu_NoSize_ValueError, ec_NoSize := ⟨xe_hg, xe_hk, ec_NoSize, xh_NoSize, xe_ha, xe_hn, xe_ht, xe_hm⟩ }
  exact ⟨A.d_law, fun s v => .of_eq rfl, fun base _ _ => ok_law T⟩
end LW
open PySem PySem.W PyProof.Rows
set_option maxRecDepth 100000 in
set_option maxHeartbeats 0 in
theorem PySem.Challenge.cw_knotbits_k04_blocks_cut_holds : PySem.Challenge.rw_knotbits_k04_blocks_cut.Holds := by
  w_on; o_law; k_head; (case hw => w_witness2)
  k_fill
  refine L2.walk_of (l := PySem.Challenge.rw_knotbits_k04_blocks_cut) (n := 63) (k := 6) (x := "_law_script") (CX := fun _ => L2.CX0) (sp := fun w => KB.spLaw _) rfl (by decide) rfl ⟨rfl, by decide, by decide⟩ (fun w h Y => PySem.W.kIn_of Y) ?F (fun _ _ a ns hl _ hS => ⟨a, ns, rfl, hS, hl, fun _ => rfl⟩) (fun _ _ _ _ _ h => h)
  case F =>
    intro w mg fa h KX G hmg
    refine' LW.all_mk KX G hmg ?a_is_whole ?l_is_whole ?c_is_whole ?k_is_whole ?a_is_whole_from ?l_is_whole_from ?c_is_whole_from ?k_is_whole_from ?a_Blocks___init__ ?i_Blocks___init__ ?l_Blocks___init__ ?c_Blocks___init__ ?k_Blocks___init__ ?a_Blocks_many ?i_Blocks_many ?l_Blocks_many ?c_Blocks_many ?k_Blocks_many ?a_Blocks_part ?i_Blocks_part ?l_Blocks_part ?c_Blocks_part ?k_Blocks_part ?a_Blocks_asked ?i_Blocks_asked ?l_Blocks_asked ?c_Blocks_asked ?k_Blocks_asked ?a_law_cell_at ?l_law_cell_at ?c_law_cell_at ?k_law_cell_at ?a_law_whole ?l_law_whole ?c_law_whole ?k_law_whole ?a_law_parents ?l_law_parents ?c_law_parents ?k_law_parents ?a_law_bits ?l_law_bits ?c_law_bits ?k_law_bits ?a_law_no_size ?l_law_no_size ?c_law_no_size ?k_law_no_size ?a_law_part ?l_law_part ?c_law_part ?k_law_part ?a_law_number ?l_law_number ?c_law_number ?k_law_number ?a_law_asked_well ?l_law_asked_well ?c_law_asked_well ?k_law_asked_well ?a_law ?l_law ?c_law ?k_law ?b_ValueError ?b_bool ?b_int ?b_isinstance ?b_len ?b_list ?b_min ?b_range ?n_MOST_SIZE ?ac_Blocks ?pg_Blocks ?hd_Blocks ?po_Blocks ?sa_Blocks ?mk_Blocks ?ko_Blocks ?na_Blocks_length ?na_Blocks_size ?na_Blocks__parts ?na_Blocks__told ?ac_KnotError ?xc_KnotError ?kc_KnotError ?ec_KnotError ?tc_KnotError ?ac_NoSize ?xc_NoSize ?kc_NoSize ?ec_NoSize ?tc_NoSize ?ac_NoBlock ?xc_NoBlock ?kc_NoBlock ?ec_NoBlock ?tc_NoBlock ?xh_KnotError ?xu_NoSize_KnotError ?xh_NoSize ?xu_NoSize_NoSize ?xh_NoBlock ?xu_NoSize_NoBlock ?xu_NoBlock_NoBlock ?xu_NoSize_ValueError ?xe_hg ?xe_hk ?xe_ha ?xe_hn ?xe_ht ?xe_hm
    (case ac_Blocks => k_is)
    (case ac_KnotError => k_is)
    (case ac_NoSize => k_is)
    (case ac_NoBlock => k_is)
    (case a_is_whole => k_is)
    (case l_is_whole => k_is)
    (case c_is_whole => k_is)
    (case k_is_whole => k_is)
    (case a_is_whole_from => k_is)
    (case l_is_whole_from => k_is)
    (case c_is_whole_from => k_is)
    (case k_is_whole_from => k_is)
    (case a_Blocks___init__ => k_is)
    (case i_Blocks___init__ => k_is)
    (case l_Blocks___init__ => k_is)
    (case c_Blocks___init__ => k_is)
    (case k_Blocks___init__ => k_is)
    (case a_Blocks_many => k_is)
    (case i_Blocks_many => k_is)
    (case l_Blocks_many => k_is)
    (case c_Blocks_many => k_is)
    (case k_Blocks_many => k_is)
    (case a_Blocks_part => k_is)
    (case i_Blocks_part => k_is)
    (case l_Blocks_part => k_is)
    (case c_Blocks_part => k_is)
    (case k_Blocks_part => k_is)
    (case a_Blocks_asked => k_is)
    (case i_Blocks_asked => k_is)
    (case l_Blocks_asked => k_is)
    (case c_Blocks_asked => k_is)
    (case k_Blocks_asked => k_is)
    (case a_law_cell_at => k_is)
    (case l_law_cell_at => k_is)
    (case c_law_cell_at => k_is)
    (case k_law_cell_at => k_is)
    (case a_law_whole => k_is)
    (case l_law_whole => k_is)
    (case c_law_whole => k_is)
    (case k_law_whole => k_is)
    (case a_law_parents => k_is)
    (case l_law_parents => k_is)
    (case c_law_parents => k_is)
    (case k_law_parents => k_is)
    (case a_law_bits => k_is)
    (case l_law_bits => k_is)
    (case c_law_bits => k_is)
    (case k_law_bits => k_is)
    (case a_law_no_size => k_is)
    (case l_law_no_size => k_is)
    (case c_law_no_size => k_is)
    (case k_law_no_size => k_is)
    (case a_law_part => k_is)
    (case l_law_part => k_is)
    (case c_law_part => k_is)
    (case k_law_part => k_is)
    (case a_law_number => k_is)
    (case l_law_number => k_is)
    (case c_law_number => k_is)
    (case k_law_number => k_is)
    (case a_law_asked_well => k_is)
    (case l_law_asked_well => k_is)
    (case c_law_asked_well => k_is)
    (case k_law_asked_well => k_is)
    (case a_law => k_is)
    (case l_law => k_is)
    (case c_law => k_is)
    (case k_law => k_is)
    (case b_ValueError => k_is)
    (case b_bool => k_is)
    (case b_int => k_is)
    (case b_isinstance => k_is)
    (case b_len => k_is)
    (case b_list => k_is)
    (case b_min => k_is)
    (case b_range => k_is)
    (case n_MOST_SIZE => k_is)
    (case pg_Blocks => k_is)
    (case hd_Blocks => k_is)
    (case po_Blocks => k_is)
    (case sa_Blocks => k_is)
    (case mk_Blocks => k_is)
    (case ko_Blocks => k_is)
    (case na_Blocks_length => k_is)
    (case na_Blocks_size => k_is)
    (case na_Blocks__parts => k_is)
    (case na_Blocks__told => k_is)
    (case xc_KnotError => k_exc)
    (case kc_KnotError => k_is)
    (case ec_KnotError => k_is)
    (case tc_KnotError => k_is)
    (case xc_NoSize => k_exc)
    (case kc_NoSize => k_is)
    (case ec_NoSize => k_is)
    (case tc_NoSize => k_is)
    (case xc_NoBlock => k_exc)
    (case kc_NoBlock => k_is)
    (case ec_NoBlock => k_is)
    (case tc_NoBlock => k_is)
    (case xh_KnotError => k_is)
    (case xu_NoSize_KnotError => first | rfl | k_is)
    (case xh_NoSize => k_is)
    (case xu_NoSize_NoSize => first | rfl | k_is)
    (case xh_NoBlock => k_is)
    (case xu_NoSize_NoBlock => first | rfl | k_is)
    (case xu_NoBlock_NoBlock => first | rfl | k_is)
    (case xu_NoSize_ValueError => k_is)
    (case xe_hg => k_is)
    (case xe_hk => k_is)
    (case xe_ha => k_is)
    (case xe_hn => k_is)
    (case xe_ht => k_is)
    (case xe_hm => k_is)
