import PyProof.Rows.All
import Wide.All
import OpenK.AllK
import Wide.FinOn
import Open.SpecLaws
import KE.OsGo
import HandS.ForSpec
import HandS.Comp
import HandS.Iter
import HandS.Conv
import HandS.Walk
import HandS.TupAny
import HandS.Codes
import HandS.Small
import KE.GoesMore
import KE.KEqSeq
import PySem.Challenge.RW_tipboard_s01_answers
set_option Elab.async false
set_option linter.unusedVariables false
/-! Plain mathematics: the ways to sit, as lists of seats; the specification's sittings are these. -/
namespace Tb
/-- the seats of the ways in which so many more can sit on n seats, the used ones left out; the first ones first -/
def ways (n : Nat) : List Nat → Nat → List (List Nat)
  | _, 0 => [[]]
  | u, k + 1 => ((List.range n).filter fun (x : Nat) => !(u.contains x)).flatMap fun (x : Nat) => (ways n (u ++ [x]) k).map (List.cons x)
/-- weights times arms -/
def dot (arm : Nat → Int) : List Int → List Nat → Int
  | w :: ws, x :: xs => w * arm x + dot arm ws xs
  | _, _ => 0
theorem ways_len {n : Nat} : ∀ (k : Nat) (u : List Nat) (s : List Nat), s ∈ ways n u k → s.length = k
  | 0, u, s, h => by
    rw [ways, List.mem_singleton] at h
    rw [h]
    rfl
  | k + 1, u, s, h => by
    rw [ways, List.mem_flatMap] at h
    obtain ⟨x, _, h⟩ := h
    rw [List.mem_map] at h
    obtain ⟨t, ht, rfl⟩ := h
    rw [List.length_cons, ways_len k _ t ht]
theorem flatMap_if {α β : Type} (p : α → Bool) (f : α → List β) : ∀ (l : List α), l.flatMap (fun x => if p x = true then f x else []) = (l.filter p).flatMap f
  | [] => rfl
  | a :: l => by
    rw [List.flatMap_cons, flatMap_if p f l, List.filter_cons]
    cases p a
    · rfl
    · rfl
theorem sit_filter (b : Mu46.Board) : ∀ (cs : List Nat) (u : List Nat),
    (Mu46.sittings b cs).filter (fun s => s.all fun y => !(u.contains y.2)) = (ways (2 * b.seats) u cs.length).map (fun s => cs.zip s)
  | [], u => rfl
  | c :: cs, u => by
    rw [Mu46.sittings, List.filter_flatMap, List.length_cons, ways, List.map_flatMap, ← flatMap_if]
    show (List.range (2 * b.seats)).flatMap _ = (List.range (2 * b.seats)).flatMap _
    congr 1
    funext x
    rw [List.filter_map]
    cases h : u.contains x
    · rw [if_pos (by rfl)]
      have e := sit_filter b cs (u ++ [x])
      rw [List.filter_filter, List.map_map]
      show _ = List.map ((fun s => (c, x) :: cs.zip s)) _
      have e2 : (fun s => (c, x) :: cs.zip s) = (fun s => (c, x) :: s) ∘ (fun s : List Nat => cs.zip s) := rfl
      rw [e2, ← List.map_map, ← e]
      congr 2
      funext s
      show ((!(u.contains x) && s.all fun y => !(u.contains y.2)) && !(Mu46.taken s x)) = _
      rw [h]
      show ((s.all fun y => !(u.contains y.2)) && !(s.any fun y => y.2 == x)) = s.all fun y => !((u ++ [x]).contains y.2)
      induction s with
      | nil => rfl
      | cons y s ih =>
        rw [List.all_cons, List.any_cons, List.all_cons, ← ih, List.contains_append]
        cases u.contains y.2 <;> cases hy : (y.2 == x) <;> cases (s.all fun y => !(u.contains y.2)) <;> cases (s.any fun y => y.2 == x) <;> simp_all
    · rw [if_neg (by decide)]
      apply List.map_eq_nil_iff.mpr
      rw [List.filter_eq_nil_iff]
      intro s _ q
      have q' : (!(u.contains x) && s.all fun y => !(u.contains y.2)) = true := q
      rw [h] at q'
      cases q'
theorem sittings_ways (b : Mu46.Board) (cs : List Nat) : Mu46.sittings b cs = (ways (2 * b.seats) [] cs.length).map (fun s => cs.zip s) := by
  rw [← sit_filter b cs []]
  symm
  rw [List.filter_eq_self]
  intro s _
  rw [List.all_eq_true]
  intro y _
  rfl
theorem total_from : ∀ (l : List Int) (a : Int), l.foldl (fun (a b : Int) => a + b) a = a + Mu46.total l
  | [], a => by
    show a = a + 0
    omega
  | x :: l, a => by
    rw [Mu46.total, List.foldl_cons, List.foldl_cons, total_from l, total_from l]
    omega
theorem total_cons (x : Int) (l : List Int) : Mu46.total (x :: l) = x + Mu46.total l := by
  rw [Mu46.total, List.foldl_cons, total_from l]
  omega
def heavyI (b : Mu46.Board) (c : Nat) : Int := ((b.heavy.getD c 0 : Nat) : Int)
theorem tip_cons (b : Mu46.Board) (y : Nat × Nat) (s : Mu46.Sitting) : Mu46.tip b (y :: s) = heavyI b y.1 * Mu46.far b y.2 + Mu46.tip b s := by
  rw [Mu46.tip, List.map_cons, total_cons]
  rfl
theorem tip_zip (b : Mu46.Board) : ∀ (cs s : List Nat), Mu46.tip b (cs.zip s) = dot (Mu46.far b) (cs.map (heavyI b)) s
  | [], s => rfl
  | c :: cs, [] => rfl
  | c :: cs, x :: s => by
    rw [List.zip_cons_cons, tip_cons, tip_zip b cs s, List.map_cons]
    rfl
theorem seats_zip : ∀ (cs s : List Nat), s.length = cs.length → Mu46.seatsOf (cs.zip s) = s
  | [], [], _ => rfl
  | [], _ :: _, h => by cases h
  | c :: cs, [], h => by cases h
  | c :: cs, x :: s, h => by
    show x :: Mu46.seatsOf (cs.zip s) = x :: s
    rw [seats_zip cs s (Nat.succ.inj h)]
/-- the ways that balance, by the weights of the children -/
def levels (n : Nat) (arm : Nat → Int) (ws : List Int) : List (List Nat) := (ways n [] ws.length).filter fun s => dot arm ws s == 0
theorem level_levels (b : Mu46.Board) (cs : List Nat) : Mu46.level b cs = (levels (2 * b.seats) (Mu46.far b) (cs.map (heavyI b))).map (fun s => cs.zip s) := by
  rw [Mu46.level, sittings_ways, List.filter_map, levels, List.length_map]
  congr 2
  funext s
  show (Mu46.tip b (cs.zip s) == 0) = _
  rw [tip_zip]
/-! The program's own way: by levels, each with its tilt. -/
def grow (n : Nat) (arm : Nat → Int) (w : Int) (f : List (List Nat × Int)) : List (List Nat × Int) :=
  f.flatMap fun p => ((List.range n).filter fun x => !(p.1.contains x)).map fun x => (p.1 ++ [x], p.2 + w * arm x)
theorem grow_all (n : Nat) (arm : Nat → Int) : ∀ (ws : List Int) (f : List (List Nat × Int)),
    ws.foldl (fun f w => grow n arm w f) f = f.flatMap fun p => (ways n p.1 ws.length).map fun s => (p.1 ++ s, p.2 + dot arm ws s)
  | [], f => by
    show f = f.flatMap fun p => [(p.1 ++ [], p.2 + 0)]
    induction f with
    | nil => rfl
    | cons p f ih =>
      rw [List.flatMap_cons, ← ih, List.append_nil]
      simp
  | w :: ws, f => by
    rw [List.foldl_cons, grow_all n arm ws, grow, List.flatMap_assoc]
    congr 1
    funext p
    rw [List.flatMap_map, List.length_cons, ways, List.map_flatMap]
    congr 1
    funext x
    rw [List.map_map]
    congr 1
    funext s
    show ((p.1 ++ [x]) ++ s, p.2 + w * arm x + dot arm ws s) = (p.1 ++ x :: s, p.2 + (w * arm x + dot arm ws s))
    rw [List.append_assoc, Int.add_assoc]
    rfl
/-- all sittings with their tilts, as the program has them -/
def sat (n : Nat) (arm : Nat → Int) (ws : List Int) : List (List Nat × Int) := ws.foldl (fun f w => grow n arm w f) [([], 0)]
theorem sat_ways (n : Nat) (arm : Nat → Int) (ws : List Int) : sat n arm ws = (ways n [] ws.length).map fun s => (s, dot arm ws s) := by
  rw [sat, grow_all, List.flatMap_cons, List.flatMap_nil, List.append_nil]
  congr 1
  funext s
  show ([] ++ s, 0 + dot arm ws s) = _
  rw [List.nil_append, Int.zero_add]
theorem sat_levels (n : Nat) (arm : Nat → Int) (ws : List Int) : ((sat n arm ws).filter fun p => p.2 == 0).map Prod.fst = levels n arm ws := by
  rw [sat_ways, List.filter_map, List.map_map, levels]
  show List.map id _ = _
  rw [List.map_id]
  rfl
end Tb

set_option Elab.async false
set_option linter.unusedVariables false
/-! The best of a list: the least key, how many have it, the first that has it. -/
namespace Tb
/-- the least key of a list, from a first one on -/
def least {α : Type} (f : α → Nat) : Nat → List α → Nat
  | m, [] => m
  | m, a :: l => least f (if f a < m then f a else m) l
theorem least_le {α : Type} (f : α → Nat) : ∀ (l : List α) (m : Nat), least f m l ≤ m
  | [], m => Nat.le_refl _
  | a :: l, m => by
    rw [least]
    refine Nat.le_trans (least_le f l _) ?_
    split <;> omega
theorem least_all {α : Type} (f : α → Nat) : ∀ (l : List α) (m : Nat) (a : α), a ∈ l → least f m l ≤ f a
  | [], m, a, h => by cases h
  | x :: l, m, a, h => by
    rw [least]
    rcases List.mem_cons.mp h with rfl | h
    · refine Nat.le_trans (least_le f l _) ?_
      split <;> omega
    · exact least_all f l _ a h
/-- nearest's fold -/
def near {α : Type} (f : α → Nat) (m : Option (Nat × Nat × α)) (s : α) : Option (Nat × Nat × α) := match m with
  | none => some (f s, 1, s)
  | some y => if f s < y.1 then some (f s, 1, s) else if f s = y.1 then some (y.1, y.2.1 + 1, y.2.2) else some y
theorem near_fold {α : Type} (f : α → Nat) : ∀ (l : List α) (y : Nat × Nat × α), ∃ c t,
    l.foldl (near f) (some y) = some (least f y.1 l, c, t) ∧
    c = (if least f y.1 l = y.1 then y.2.1 else 0) + (l.filter fun s => f s == least f y.1 l).length ∧
    (if least f y.1 l = y.1 then t = y.2.2 else (l.filter fun s => f s == least f y.1 l).head? = some t)
  | [], y => ⟨y.2.1, y.2.2, rfl, by simp [least], by simp [least]⟩
  | s :: l, y => by
    rw [List.foldl_cons]
    show ∃ c t, l.foldl (near f) (if f s < y.1 then some (f s, 1, s) else if f s = y.1 then some (y.1, y.2.1 + 1, y.2.2) else some y) = _ ∧ _
    by_cases h1 : f s < y.1
    · rw [if_pos h1]
      obtain ⟨c, t, e, hc, ht⟩ := near_fold f l (f s, 1, s)
      have el : least f y.1 (s :: l) = least f (f s) l := by rw [least, if_pos h1]
      have lt := least_le f l (f s)
      refine ⟨c, t, by rw [e, el], ?_, ?_⟩
      · rw [el, if_neg (by omega), hc, List.filter_cons]
        dsimp only
        by_cases h2 : f s = least f (f s) l
        · rw [if_pos h2.symm, if_pos (by rw [← h2]; exact beq_self_eq_true _), List.length_cons]
          omega
        · rw [if_neg (fun q => h2 q.symm), if_neg (fun q => h2 (eq_of_beq q))]
      · rw [el, if_neg (by omega), List.filter_cons]
        dsimp only at ht
        by_cases h2 : f s = least f (f s) l
        · rw [if_pos h2.symm] at ht
          rw [if_pos (by rw [← h2]; exact beq_self_eq_true _), List.head?_cons, ht]
        · rw [if_neg (fun q => h2 q.symm)] at ht
          rw [if_neg (fun q => h2 (eq_of_beq q)), ht]
    · rw [if_neg h1]
      have el : least f y.1 (s :: l) = least f y.1 l := by rw [least, if_neg h1]
      have lt := least_le f l y.1
      by_cases h2 : f s = y.1
      · rw [if_pos h2]
        obtain ⟨c, t, e, hc, ht⟩ := near_fold f l (y.1, y.2.1 + 1, y.2.2)
        dsimp only at hc ht e
        refine ⟨c, t, by rw [e, el], ?_, ?_⟩
        · rw [el, hc, List.filter_cons]
          by_cases h3 : least f y.1 l = y.1
          · rw [if_pos h3, if_pos h3, if_pos (by rw [h3, h2]; exact beq_self_eq_true _), List.length_cons]
            omega
          · rw [if_neg h3, if_neg h3, if_neg (fun q => h3 (by rw [← eq_of_beq q, h2]))]
        · rw [el, List.filter_cons]
          by_cases h3 : least f y.1 l = y.1
          · rw [if_pos h3] at ht
            rw [if_pos h3, ht]
          · rw [if_neg h3] at ht
            rw [if_neg h3, if_neg (fun q => h3 (by rw [← eq_of_beq q, h2])), ht]
      · rw [if_neg h2]
        obtain ⟨c, t, e, hc, ht⟩ := near_fold f l y
        have h4 : ¬ (f s == least f y.1 l) = true := fun q => by
          have := eq_of_beq q
          omega
        refine ⟨c, t, by rw [e, el], ?_, ?_⟩
        · rw [el, hc, List.filter_cons, if_neg h4]
        · rw [el, List.filter_cons, if_neg h4]
          exact ht
theorem near_all {α : Type} (f : α → Nat) (a : α) (l : List α) : ∃ m t, (a :: l).foldl (near f) none = some (m, ((a :: l).filter fun s => f s == m).length, t) ∧
    ((a :: l).filter fun s => f s == m).head? = some t ∧ (∀ s, s ∈ a :: l → m ≤ f s) ∧ m = least f (f a) l := by
  obtain ⟨c, t, e, hc, ht⟩ := near_fold f l (f a, 1, a)
  dsimp only at e hc ht
  refine ⟨least f (f a) l, t, ?_, ?_, ?_, rfl⟩
  · rw [List.foldl_cons]
    show l.foldl (near f) (some (f a, 1, a)) = _
    rw [e, hc, List.filter_cons]
    by_cases h : least f (f a) l = f a
    · rw [if_pos h, if_pos (by rw [h]; exact beq_self_eq_true _), List.length_cons, Nat.add_comm]
    · rw [if_neg h, if_neg (fun q => h (eq_of_beq q).symm), Nat.zero_add]
  · rw [List.filter_cons]
    by_cases h : least f (f a) l = f a
    · rw [if_pos h] at ht
      rw [if_pos (by rw [h]; exact beq_self_eq_true _), ht]
      rfl
    · rw [if_neg h] at ht
      rw [if_neg (fun q => h (eq_of_beq q).symm), ht]
  · intro s hs
    rcases List.mem_cons.mp hs with rfl | hs
    · exact least_le f l _
    · exact least_all f l _ s hs
/-- change's fold: the first of the best -/
def best {α : Type} (f : α → Nat) (m : Option (Nat × α)) (s : α) : Option (Nat × α) := match m with
  | none => some (f s, s)
  | some y => if f s < y.1 then some (f s, s) else some y
theorem best_near {α : Type} (f : α → Nat) : ∀ (l : List α) (y : Nat × Nat × α), l.foldl (best f) (some (y.1, y.2.2)) = (l.foldl (near f) (some y)).map fun z => (z.1, z.2.2)
  | [], y => rfl
  | s :: l, y => by
    rw [List.foldl_cons, List.foldl_cons]
    show l.foldl (best f) (if f s < y.1 then some (f s, s) else some (y.1, y.2.2)) = Option.map _ (l.foldl (near f) (if f s < y.1 then some (f s, 1, s) else if f s = y.1 then some (y.1, y.2.1 + 1, y.2.2) else some y))
    by_cases h1 : f s < y.1
    · rw [if_pos h1, if_pos h1]
      exact best_near f l (f s, 1, s)
    · rw [if_neg h1, if_neg h1]
      by_cases h2 : f s = y.1
      · rw [if_pos h2]
        exact best_near f l (y.1, y.2.1 + 1, y.2.2)
      · rw [if_neg h2]
        exact best_near f l y
theorem best_all {α : Type} (f : α → Nat) (a : α) (l : List α) : ∃ m t, (a :: l).foldl (best f) none = some (m, t) ∧
    ((a :: l).filter fun s => f s == m).head? = some t ∧ (∀ s, s ∈ a :: l → m ≤ f s) ∧ m = least f (f a) l := by
  obtain ⟨m, t, e, h1, h2, h3⟩ := near_all f a l
  refine ⟨m, t, ?_, h1, h2, h3⟩
  rw [List.foldl_cons] at e ⊢
  show l.foldl (best f) (some (f a, a)) = _
  rw [best_near f l (f a, 1, a)]
  show Option.map _ (l.foldl (near f) (near f none a)) = _
  rw [e]
  rfl
end Tb

set_option Elab.async false
set_option linter.unusedVariables false
/-! Who sits where: by the child's place in a list (the program) and as pairs in the order of the children (the specification). -/
namespace Tb
def sitsFrom : Nat → List (Option Nat) → Mu46.Sitting
  | _, [] => []
  | i, none :: l => sitsFrom (i + 1) l
  | i, some x :: l => (i, x) :: sitsFrom (i + 1) l
theorem sits_ge : ∀ (p : List (Option Nat)) (i : Nat) (y : Nat × Nat), y ∈ sitsFrom i p → i ≤ y.1
  | [], i, y, h => by cases h
  | none :: p, i, y, h => Nat.le_trans (Nat.le_succ i) (sits_ge p (i + 1) y h)
  | some x :: p, i, y, h => by
    rcases List.mem_cons.mp h with rfl | h
    · exact Nat.le_refl _
    · exact Nat.le_trans (Nat.le_succ i) (sits_ge p (i + 1) y h)
theorem seat_low {p : List (Option Nat)} {i c : Nat} (h : c < i) : Mu46.seatOf (sitsFrom i p) c = none := by
  rw [Mu46.seatOf, List.find?_eq_none.mpr]
  · rfl
  · intro y hy q
    have := sits_ge p i y hy
    have := eq_of_beq q
    omega
theorem seat_at : ∀ (p : List (Option Nat)) (i c : Nat), Mu46.seatOf (sitsFrom i p) (i + c) = p.getD c none
  | [], i, c => by cases c <;> rfl
  | none :: p, i, 0 => seat_low (p := p) (i := i + 1) (Nat.lt_succ_self i)
  | none :: p, i, c + 1 => by
    show Mu46.seatOf (sitsFrom (i + 1) p) (i + (c + 1)) = p.getD c none
    rw [← seat_at p (i + 1) c]
    congr 1
    omega
  | some x :: p, i, 0 => by
    show Option.map _ (List.find? _ ((i, x) :: sitsFrom (i + 1) p)) = some x
    rw [List.find?_cons_of_pos (by exact beq_self_eq_true i)]
    rfl
  | some x :: p, i, c + 1 => by
    show Option.map _ (List.find? _ ((i, x) :: sitsFrom (i + 1) p)) = p.getD c none
    rw [List.find?_cons_of_neg (by intro q; have := eq_of_beq q; dsimp only at this; omega), ← seat_at p (i + 1) c, Mu46.seatOf]
    rw [show i + (c + 1) = i + 1 + c by omega]
theorem taken_at : ∀ (p : List (Option Nat)) (i x : Nat), Mu46.taken (sitsFrom i p) x = p.contains (some x)
  | [], i, x => rfl
  | none :: p, i, x => by
    show Mu46.taken (sitsFrom (i + 1) p) x = (p.elem (some x))
    exact taken_at p (i + 1) x
  | some y :: p, i, x => by
    rw [List.contains_cons, ← taken_at p (i + 1) x]
    show ((y == x) || Mu46.taken (sitsFrom (i + 1) p) x) = _
    congr 1
    show _ = ((x : Nat) == y)
    rw [Bool.eq_iff_iff, beq_iff_eq, beq_iff_eq]
    exact ⟨Eq.symm, Eq.symm⟩
theorem enter_low {c x i : Nat} {p : List (Option Nat)} (h : c < i) : Mu46.enter c x (sitsFrom i p) = (c, x) :: sitsFrom i p := by
  cases e : sitsFrom i p with
  | nil => rfl
  | cons y l =>
    have := sits_ge p i y (by rw [e]; exact List.mem_cons_self ..)
    rw [Mu46.enter, if_pos (by omega)]
theorem enter_at : ∀ (p : List (Option Nat)) (i c x : Nat), p[c]? = some none → Mu46.enter (i + c) x (sitsFrom i p) = sitsFrom i (p.set c (some x))
  | [], i, c, x, h => by cases h
  | none :: p, i, 0, x, _ => enter_low (p := p) (i := i + 1) (Nat.lt_succ_self i)
  | some y :: p, i, 0, x, h => by cases h
  | none :: p, i, c + 1, x, h => by
    show Mu46.enter (i + (c + 1)) x (sitsFrom (i + 1) p) = sitsFrom (i + 1) (p.set c (some x))
    rw [← enter_at p (i + 1) c x h]
    congr 1
    omega
  | some y :: p, i, c + 1, x, h => by
    show Mu46.enter (i + (c + 1)) x ((i, y) :: sitsFrom (i + 1) p) = (i, y) :: sitsFrom (i + 1) (p.set c (some x))
    rw [Mu46.enter, if_neg (by dsimp only; omega), ← enter_at p (i + 1) c x h]
    congr 2
    omega
theorem filter_low {c i : Nat} {p : List (Option Nat)} (h : c < i) : (sitsFrom i p).filter (fun y => y.1 != c) = sitsFrom i p := by
  rw [List.filter_eq_self]
  intro y hy
  have := sits_ge p i y hy
  rw [bne_iff_ne]
  omega
theorem leave_at : ∀ (p : List (Option Nat)) (i c : Nat), (sitsFrom i p).filter (fun y => y.1 != i + c) = sitsFrom i (p.set c none)
  | [], i, c => rfl
  | none :: p, i, 0 => filter_low (p := p) (i := i + 1) (Nat.lt_succ_self i)
  | none :: p, i, c + 1 => by
    show (sitsFrom (i + 1) p).filter (fun y => y.1 != i + (c + 1)) = sitsFrom (i + 1) (p.set c none)
    rw [← leave_at p (i + 1) c, show i + (c + 1) = i + 1 + c by omega]
  | some x :: p, i, 0 => by
    show ((i, x) :: sitsFrom (i + 1) p).filter (fun y => y.1 != i + 0) = sitsFrom (i + 1) p
    rw [List.filter_cons_of_neg (by rw [bne_iff_ne]; intro q; exact q rfl)]
    exact filter_low (Nat.lt_succ_self i)
  | some x :: p, i, c + 1 => by
    show ((i, x) :: sitsFrom (i + 1) p).filter (fun y => y.1 != i + (c + 1)) = (i, x) :: sitsFrom (i + 1) (p.set c none)
    rw [List.filter_cons_of_pos (by rw [bne_iff_ne]; dsimp only; omega), ← leave_at p (i + 1) c, show i + (c + 1) = i + 1 + c by omega]
/-- the tilt as the program adds it up: behind some children -/
def tiltStep (arm : Nat → Int) (t : Int) (y : Int × Option Nat) : Int := match y.2 with
  | none => t
  | some x => t + y.1 * arm x
theorem tip_from (b : Mu46.Board) : ∀ (p : List (Option Nat)) (ws : List Nat) (i : Nat) (t : Int), b.heavy.drop i = ws → p.length = ws.length →
    ((ws.map fun (w : Nat) => (w : Int)).zip p).foldl (tiltStep (Mu46.far b)) t = t + Mu46.tip b (sitsFrom i p)
  | [], ws, i, t, _, _ => by
    rw [List.zip_nil_right]
    show t = t + 0
    omega
  | q :: p, [], i, t, _, hl => by cases hl
  | q :: p, w :: ws, i, t, hw, hl => by
    have hd : b.heavy.drop (i + 1) = ws := by rw [← List.drop_drop, hw]; rfl
    have hg : b.heavy.getD i 0 = w := by
      have : (b.heavy.drop i)[0]? = some w := by rw [hw]; rfl
      rw [List.getElem?_drop] at this
      rw [List.getD_eq_getElem?_getD, show b.heavy[i]? = some w from this]
      rfl
    rw [List.map_cons, List.zip_cons_cons, List.foldl_cons, tip_from b p ws (i + 1) _ hd (Nat.succ.inj hl)]
    cases q with
    | none => rfl
    | some x =>
      show t + (w : Int) * Mu46.far b x + _ = t + Mu46.tip b ((i, x) :: sitsFrom (i + 1) p)
      rw [tip_cons, heavyI]
      dsimp only
      rw [hg]
      omega
theorem tip_sits (b : Mu46.Board) (p : List (Option Nat)) (h : p.length = b.heavy.length) :
    ((b.heavy.map fun (w : Nat) => (w : Int)).zip p).foldl (tiltStep (Mu46.far b)) 0 = Mu46.tip b (sitsFrom 0 p) := by
  rw [tip_from b p b.heavy 0 0 rfl h]
  omega
/-- those that sit -/
def sitters : Nat → List (Option Nat) → List Nat
  | _, [] => []
  | i, none :: l => sitters (i + 1) l
  | i, some _ :: l => i :: sitters (i + 1) l
def seatsIn : List (Option Nat) → List Nat
  | [] => []
  | none :: l => seatsIn l
  | some x :: l => x :: seatsIn l
theorem sits_fst : ∀ (p : List (Option Nat)) (i : Nat), (sitsFrom i p).map (fun y => y.1) = sitters i p
  | [], i => rfl
  | none :: p, i => sits_fst p (i + 1)
  | some x :: p, i => congrArg (List.cons i) (sits_fst p (i + 1))
theorem sits_snd : ∀ (p : List (Option Nat)) (i : Nat), (sitsFrom i p).map (fun y => y.2) = seatsIn p
  | [], i => rfl
  | none :: p, i => sits_snd p (i + 1)
  | some x :: p, i => congrArg (List.cons x) (sits_snd p (i + 1))
theorem sits_zip : ∀ (p : List (Option Nat)) (i : Nat), sitsFrom i p = (sitters i p).zip (seatsIn p)
  | [], i => rfl
  | none :: p, i => sits_zip p (i + 1)
  | some x :: p, i => congrArg (List.cons (i, x)) (sits_zip p (i + 1))
theorem seats_len : ∀ (p : List (Option Nat)) (i : Nat), (sitters i p).length = (seatsIn p).length
  | [], i => rfl
  | none :: p, i => seats_len p (i + 1)
  | some x :: p, i => congrArg Nat.succ (seats_len p (i + 1))
/-- others sit down on the seats of a sitting -/
def fill : List (Option Nat) → List Nat → List (Option Nat)
  | [], _ => []
  | none :: p, s => none :: fill p s
  | some _ :: p, x :: s => some x :: fill p s
  | some y :: p, [] => some y :: p
theorem fill_sits : ∀ (p : List (Option Nat)) (i : Nat) (s : List Nat), s.length = (seatsIn p).length → sitsFrom i (fill p s) = (sitters i p).zip s
  | [], i, s, _ => rfl
  | none :: p, i, s, h => fill_sits p (i + 1) s h
  | some y :: p, i, [], h => by cases h
  | some y :: p, i, x :: s, h => congrArg (List.cons (i, x)) (fill_sits p (i + 1) s (Nat.succ.inj h))
theorem fill_len : ∀ (p : List (Option Nat)) (s : List Nat), (fill p s).length = p.length
  | [], s => rfl
  | none :: p, s => congrArg Nat.succ (fill_len p s)
  | some y :: p, [] => rfl
  | some y :: p, x :: s => congrArg Nat.succ (fill_len p s)
/-- how many sit elsewhere -/
def moved (s t : List Nat) : Nat := ((s.zip t).filter fun y => y.1 != y.2).length
theorem moved_zip : ∀ (cs s t : List Nat), s.length = cs.length → t.length = cs.length → Mu46.changed (cs.zip s) (cs.zip t) = moved s t
  | [], s, t, h1, h2 => by
    cases s with
    | nil => rfl
    | cons _ _ => cases h1
  | c :: cs, [], t, h1, _ => by cases h1
  | c :: cs, x :: s, [], _, h2 => by cases h2
  | c :: cs, x :: s, y :: t, h1, h2 => by
    have ih := moved_zip cs s t (Nat.succ.inj h1) (Nat.succ.inj h2)
    rw [Mu46.changed, moved] at ih ⊢
    rw [List.zip_cons_cons, List.zip_cons_cons, List.zip_cons_cons, List.zip_cons_cons, List.filter_cons, List.filter_cons]
    dsimp only
    cases (x != y)
    · exact ih
    · exact congrArg Nat.succ ih
end Tb

set_option Elab.async false
set_option linter.unusedVariables false
/-! The calls as one list of numbers: what is asked lies in it call by call. -/
namespace Tb
/-- a call as it stands in the list -/
def flat : List (List Int) → List Int
  | [] => []
  | r :: rows => r ++ rows.flatMap fun x => (x.length : Int) :: x
theorem row_flat {r x s : List Int} (h : PyFlat.row r = some (x, s)) : r = (x.length : Int) :: x ++ s := by
  cases r with
  | nil => cases h
  | cons n r =>
    rw [PyFlat.row] at h
    split at h
    · rename_i c
      injection h with h
      injection h with h1 h2
      subst h1 h2
      rw [List.length_take, Nat.min_eq_left c.2, Int.toNat_of_nonneg c.1, List.cons_append, List.take_append_drop]
    · cases h
theorem rows_flat : ∀ (k : Nat) (r : List Int) (xs : List (List Int)) (t : List Int), PyFlat.rows k r = some (xs, t) → r = (xs.flatMap fun x => (x.length : Int) :: x) ++ t
  | 0, r, xs, t, h => by
    rw [PyFlat.rows] at h
    injection h with h
    injection h with h1 h2
    subst h1 h2
    rfl
  | k + 1, r, xs, t, h => by
    rw [PyFlat.rows] at h
    split at h
    · cases h
    · rename_i x s hx
      split at h
      · cases h
      · rename_i ys u hy
        injection h with h
        injection h with h1 h2
        subst h1 h2
        rw [row_flat hx, rows_flat k s ys u hy, List.flatMap_cons, List.append_assoc]
theorem call_flat {l : List Int} {c : List (List Int)} {t : List Int} (h : PyFlat.call PyMu46.shape l = some (c, t)) : l = flat c ++ t := by
  cases l with
  | nil => cases h
  | cons p r =>
    rw [PyFlat.call] at h
    split at h
    · cases h
    · rename_i n k hs
      split at h
      · cases h
      · split at h
        · cases h
        · rename_i xs u hx
          injection h with h
          injection h with h1 h2
          subst h1 h2
          have e := rows_flat k _ xs u hx
          show p :: r = (p :: r.take n ++ xs.flatMap _) ++ u
          rw [List.cons_append, List.cons_append, List.append_assoc, ← e, List.take_append_drop]
theorem calls_flat : ∀ (f : Nat) (l : List Int) (cs : List (List (List Int))), PyFlat.calls PyMu46.shape f l = some cs → l = cs.flatMap flat
  | f, [], cs, h => by
    have h' : some ([] : List (List (List Int))) = some cs := by
      cases f <;> exact h
    injection h' with h'
    subst h'
    rfl
  | 0, p :: r, cs, h => by cases h
  | f + 1, p :: r, cs, h => by
    rw [PyFlat.calls] at h
    split at h
    · cases h
    · rename_i c t hc
      split at h
      · cases h
      · rename_i ds hd
        injection h with h
        subst h
        rw [List.flatMap_cons, ← calls_flat f t ds hd]
        exact call_flat hc
theorem whole_same (c : List (List Int)) : PyMu46.whole c = c := by
  unfold PyMu46.whole
  split <;> rfl
theorem map_whole (l : List (List (List Int))) : l.map PyMu46.whole = l := by
  have e : PyMu46.whole = id := funext whole_same
  rw [e, List.map_id]
def cast (l : List Nat) : List Int := l.map fun (n : Nat) => (n : Int)
/-- a call that may be asked, in the list's numbers and in the specification's words -/
inductive Ask : List (List Int) → Mu46.Call → Prop
  | begin_ (k : Nat) (ws : List Nat) : k ≤ 9 → ws.length ≤ 8 → (∀ w ∈ ws, w ≤ 99) → Ask [[0, (k : Int)], cast ws] (.begin_ k ws)
  | sit (c x : Nat) : c ≤ 9 → x ≤ 20 → Ask [[1, (c : Int), (x : Int)]] (.sit c x)
  | up (c : Nat) : c ≤ 9 → Ask [[2, (c : Int)]] (.up c)
  | tip : Ask [[3]] .tip
  | level : Ask [[4]] .level
  | can (c x : Nat) : c ≤ 9 → x ≤ 20 → Ask [[5, (c : Int), (x : Int)]] (.can c x)
  | nearest : Ask [[6]] .nearest
  | change : Ask [[7]] .change
  | do_ : Ask [[8]] .do_
  | only (l : List Nat) : l.length ≤ 8 → (∀ c ∈ l, c ≤ 9) → Ask [[9], cast l] (.only l)
  | look : Ask [[10]] .look
theorem nats_cast (l : List Nat) : Mu46Neutral.nats (cast l) = l := by
  rw [Mu46Neutral.nats, cast, List.map_map]
  have e : (Int.toNat ∘ fun (n : Nat) => (n : Int)) = id := by
    funext n
    exact Int.toNat_natCast n
  rw [e, List.map_id]
theorem cast_nats {l : List Int} (h : ∀ z ∈ l, 0 ≤ z) : cast (Mu46Neutral.nats l) = l := by
  induction l with
  | nil => rfl
  | cons a l ih =>
    show ((a.toNat : Nat) : Int) :: cast (Mu46Neutral.nats l) = a :: l
    rw [ih (fun z hz => h z (List.mem_cons_of_mem _ hz)), Int.toNat_of_nonneg (h a (List.mem_cons_self ..))]
theorem Ask.callOf {c : List (List Int)} {x : Mu46.Call} (h : Ask c x) : Mu46Neutral.callOf c = some x := by
  cases h <;> first
    | rfl
    | (show some (Mu46.Call.begin_ _ (Mu46Neutral.nats (cast _))) = _; rw [nats_cast]; rfl)
    | (show some (Mu46.Call.only (Mu46Neutral.nats (cast _))) = _; rw [nats_cast])
theorem Ask.step {c : List (List Int)} {x : Mu46.Call} (h : Ask c x) (s : Mu46.Abs) : Mu46Neutral.step s c = Mu46.step s x := by
  rw [Mu46Neutral.step, h.callOf]
theorem within_nat {z lo hi : Int} (h : NeutralIO.within z lo hi = true) : lo ≤ z ∧ z ≤ hi := by
  rw [NeutralIO.within, Bool.and_eq_true, decide_eq_true_eq, decide_eq_true_eq] at h
  exact h
theorem ask_of {c : List (List Int)} (h : Mu46Neutral.asked1 c = true) : ∃ x, Ask c x := by
  unfold Mu46Neutral.asked1 at h
  split at h
  · rename_i k l
    rw [Bool.and_eq_true, Bool.and_eq_true, decide_eq_true_eq, List.all_eq_true] at h
    have h1 := within_nat h.1
    obtain ⟨n, rfl⟩ := Int.eq_ofNat_of_zero_le h1.1
    have e := cast_nats (l := l) fun z hz => (within_nat (h.2.2 z hz)).1
    refine ⟨.begin_ n (Mu46Neutral.nats l), ?_⟩
    have a := Ask.begin_ n (Mu46Neutral.nats l) (by omega) (by rw [Mu46Neutral.nats, List.length_map]; exact h.2.1) (by
      intro w hw
      rw [Mu46Neutral.nats, List.mem_map] at hw
      obtain ⟨z, hz, rfl⟩ := hw
      have := within_nat (h.2.2 z hz)
      omega)
    rw [e] at a
    exact a
  · rename_i c x
    rw [Bool.and_eq_true] at h
    have h1 := within_nat h.1
    have h2 := within_nat h.2
    obtain ⟨n, rfl⟩ := Int.eq_ofNat_of_zero_le h1.1
    obtain ⟨m, rfl⟩ := Int.eq_ofNat_of_zero_le h2.1
    exact ⟨_, .sit n m (by omega) (by omega)⟩
  · rename_i c
    have h1 := within_nat h
    obtain ⟨n, rfl⟩ := Int.eq_ofNat_of_zero_le h1.1
    exact ⟨_, .up n (by omega)⟩
  · exact ⟨_, .tip⟩
  · exact ⟨_, .level⟩
  · rename_i c x
    rw [Bool.and_eq_true] at h
    have h1 := within_nat h.1
    have h2 := within_nat h.2
    obtain ⟨n, rfl⟩ := Int.eq_ofNat_of_zero_le h1.1
    obtain ⟨m, rfl⟩ := Int.eq_ofNat_of_zero_le h2.1
    exact ⟨_, .can n m (by omega) (by omega)⟩
  · exact ⟨_, .nearest⟩
  · exact ⟨_, .change⟩
  · exact ⟨_, .do_⟩
  · rename_i l
    rw [Bool.and_eq_true, decide_eq_true_eq, List.all_eq_true] at h
    have e := cast_nats (l := l) fun z hz => (within_nat (h.2 z hz)).1
    refine ⟨.only (Mu46Neutral.nats l), ?_⟩
    have a := Ask.only (Mu46Neutral.nats l) (by rw [Mu46Neutral.nats, List.length_map]; exact h.1) (by
      intro w hw
      rw [Mu46Neutral.nats, List.mem_map] at hw
      obtain ⟨z, hz, rfl⟩ := hw
      have := within_nat (h.2 z hz)
      omega)
    rw [e] at a
    exact a
  · exact ⟨_, .look⟩
  · cases h
/-- calls and the specification's words for them -/
inductive Asks : List (List (List Int)) → List Mu46.Call → Prop
  | nil : Asks [] []
  | cons {c x cs xs} : Ask c x → Asks cs xs → Asks (c :: cs) (x :: xs)
theorem asks_of : ∀ (cs : List (List (List Int))), (∀ c ∈ cs, Mu46Neutral.asked1 c = true) → ∃ xs, Asks cs xs
  | [], _ => ⟨[], .nil⟩
  | c :: cs, h => by
    obtain ⟨x, hx⟩ := ask_of (h c (List.mem_cons_self ..))
    obtain ⟨xs, hs⟩ := asks_of cs fun d hd => h d (List.mem_cons_of_mem _ hd)
    exact ⟨x :: xs, .cons hx hs⟩
/-- what is played, in the specification's words -/
def play : Mu46.Abs → List Mu46.Call → List (List Int)
  | _, [] => []
  | s, x :: xs => (Mu46.step s x).2 :: play (Mu46.step s x).1 xs
theorem Asks.play {cs : List (List (List Int))} {xs : List Mu46.Call} (h : Asks cs xs) : ∀ (s : Mu46.Abs), PyFlat.played Mu46Neutral.step s cs = Tb.play s xs := by
  induction h with
  | nil => exact fun _ => rfl
  | cons a b ih =>
    intro s
    rw [PyFlat.played, Tb.play, a.step, ih]
/-- what the row asks, and what is due -/
theorem asked_in {l : List Int} (h : PyMu46.answers_asked l = true) : ∃ cs xs, Asks cs xs ∧ l = cs.flatMap flat ∧ cs.length ≤ 60 ∧ PyMu46.answers l = PyFlat.told (Tb.play none xs) ∧
    (PyMu46.answers l).length ≤ 10000000 := by
  rw [PyMu46.answers_asked] at h
  split at h
  · cases h
  · rename_i raw hr
    rw [Bool.and_eq_true, Bool.and_eq_true, Bool.and_eq_true, Bool.and_eq_true] at h
    obtain ⟨⟨⟨⟨_, h60⟩, _⟩, ha⟩, hs⟩ := h
    rw [map_whole, Mu46Neutral.asked, Bool.and_eq_true, Bool.and_eq_true, List.all_eq_true] at ha
    obtain ⟨xs, hx⟩ := asks_of raw ha.2.2
    refine ⟨raw, xs, hx, calls_flat _ _ _ hr, of_decide_eq_true h60, ?_, of_decide_eq_true hs⟩
    rw [PyMu46.answers, PyMu46.calls, hr]
    show PyFlat.told (PyFlat.played Mu46Neutral.step Mu46Neutral.start (raw.map PyMu46.whole)) = _
    rw [map_whole, hx.play]
    rfl
end Tb

set_option Elab.async false
set_option linter.unusedVariables false
/-! How many ways there are does not hang on the order of the weights; there is always a way to sit. -/
namespace Tb
/-- how many ways balance, with a tilt ahead -/
def cnt (n : Nat) (arm : Nat → Int) (u : List Nat) (t : Int) : List Int → Nat
  | [] => if t = 0 then 1 else 0
  | w :: ws => ((List.range n).map fun x => if u.contains x = true then 0 else cnt n arm (u ++ [x]) (t + w * arm x) ws).sum
theorem sum_flat {α β : Type} (f : α → List β) (p : β → Bool) : ∀ (l : List α), ((l.flatMap f).filter p).length = (l.map fun x => ((f x).filter p).length).sum
  | [] => rfl
  | a :: l => by
    rw [List.flatMap_cons, List.filter_append, List.length_append, sum_flat f p l, List.map_cons, List.sum_cons]
theorem sum_if {α : Type} (p : α → Bool) (f : α → Nat) : ∀ (l : List α), ((l.filter fun x => !(p x)).map f).sum = (l.map fun x => if p x = true then 0 else f x).sum
  | [] => rfl
  | a :: l => by
    rw [List.filter_cons, List.map_cons, List.sum_cons, ← sum_if p f l]
    cases h : p a
    · rw [if_pos (by rfl), if_neg (by decide), List.map_cons, List.sum_cons]
    · rw [if_neg (by decide), if_pos (by rfl), Nat.zero_add]
theorem cnt_ways (n : Nat) (arm : Nat → Int) : ∀ (ws : List Int) (u : List Nat) (t : Int), ((ways n u ws.length).filter fun s => t + dot arm ws s == 0).length = cnt n arm u t ws
  | [], u, t => by
    rw [List.length_nil, ways, List.filter_cons, cnt]
    show (if (t + 0 == 0) = true then [[]] else []).length = _
    rw [Int.add_zero]
    by_cases h : t = 0
    · rw [if_pos (by rw [h]; rfl), if_pos h]
      rfl
    · rw [if_neg (fun z => h (eq_of_beq z)), if_neg h]
      rfl
  | w :: ws, u, t => by
    rw [List.length_cons, ways, sum_flat, sum_if, cnt]
    congr 1
    apply List.map_congr_left
    intro x hx
    split
    · rfl
    · rw [List.filter_map, List.length_map, ← cnt_ways n arm ws]
      congr 1
      apply List.filter_congr
      intro s hs
      show (t + (w * arm x + dot arm ws s) == 0) = (t + w * arm x + dot arm ws s == 0)
      rw [Int.add_assoc]
theorem levels_cnt (n : Nat) (arm : Nat → Int) (ws : List Int) : (levels n arm ws).length = cnt n arm [] 0 ws := by
  rw [levels, ← cnt_ways]
  congr 1
  apply List.filter_congr
  intro s hs
  rw [Int.zero_add]
/-- the used seats count as a set -/
theorem cnt_set (n : Nat) (arm : Nat → Int) : ∀ (ws : List Int) (u v : List Nat) (t : Int), (∀ x, u.contains x = v.contains x) → cnt n arm u t ws = cnt n arm v t ws
  | [], u, v, t, h => rfl
  | w :: ws, u, v, t, h => by
    rw [cnt, cnt]
    congr 1
    apply List.map_congr_left
    intro x hx
    rw [h x]
    split
    · rfl
    · apply cnt_set n arm ws
      intro y
      rw [List.contains_append, List.contains_append, h y]
theorem sum_add {α : Type} (f g : α → Nat) : ∀ (l : List α), (l.map fun x => f x + g x).sum = (l.map f).sum + (l.map g).sum
  | [] => rfl
  | a :: l => by
    rw [List.map_cons, List.map_cons, List.map_cons, List.sum_cons, List.sum_cons, List.sum_cons, sum_add f g l]
    omega
theorem sum_zero {α : Type} : ∀ (l : List α), (l.map fun _ => 0).sum = 0
  | [] => rfl
  | a :: l => by
    rw [List.map_cons, List.sum_cons, sum_zero l]
theorem sum_comm {α β : Type} (g : α → β → Nat) (m : List β) : ∀ (l : List α), (l.map fun x => (m.map fun y => g x y).sum).sum = (m.map fun y => (l.map fun x => g x y).sum).sum
  | [] => (sum_zero m).symm
  | a :: l => by
    rw [List.map_cons, List.sum_cons, sum_comm g m l, ← sum_add]
    rfl
theorem cnt_two (n : Nat) (arm : Nat → Int) (w1 w2 : Int) (ws : List Int) (u : List Nat) (t : Int) : cnt n arm u t (w1 :: w2 :: ws) = ((List.range n).map fun x => ((List.range n).map fun y =>
    if (u.contains x || u.contains y || (y == x)) = true then 0 else cnt n arm (u ++ [x] ++ [y]) (t + w1 * arm x + w2 * arm y) ws).sum).sum := by
  rw [cnt]
  congr 1
  apply List.map_congr_left
  intro x hx
  by_cases hu : u.contains x = true
  · rw [if_pos hu]
    symm
    have e : (fun y => if (u.contains x || u.contains y || (y == x)) = true then 0 else cnt n arm (u ++ [x] ++ [y]) (t + w1 * arm x + w2 * arm y) ws) = fun _ => 0 := by
      funext y
      rw [hu]
      rfl
    rw [e, sum_zero]
  · rw [if_neg hu, cnt]
    congr 1
    apply List.map_congr_left
    intro y hy
    have hu' : u.contains x = false := by
      cases h : u.contains x
      · rfl
      · exact absurd h hu
    have e : (u ++ [x]).contains y = (u.contains x || u.contains y || (y == x)) := by
      rw [List.contains_append, hu', Bool.false_or]
      congr 1
      rw [List.contains_cons]
      show ((y == x) || false) = _
      rw [Bool.or_false]
    rw [e]
theorem cnt_swap (n : Nat) (arm : Nat → Int) (w1 w2 : Int) (ws : List Int) (u : List Nat) (t : Int) : cnt n arm u t (w1 :: w2 :: ws) = cnt n arm u t (w2 :: w1 :: ws) := by
  rw [cnt_two, sum_comm, cnt_two]
  congr 1
  apply List.map_congr_left
  intro y hy
  congr 1
  apply List.map_congr_left
  intro x hx
  have e1 : (u.contains x || u.contains y || (y == x)) = (u.contains y || u.contains x || (x == y)) := by
    rw [Bool.or_comm (u.contains x)]
    congr 1
    rw [Bool.eq_iff_iff, beq_iff_eq, beq_iff_eq]
    exact ⟨Eq.symm, Eq.symm⟩
  rw [e1]
  split
  · rfl
  · have e2 : t + w1 * arm x + w2 * arm y = t + w2 * arm y + w1 * arm x := by omega
    rw [e2]
    apply cnt_set
    intro z
    rw [List.contains_append, List.contains_append, List.contains_append, List.contains_append, Bool.or_assoc, Bool.or_assoc, Bool.or_comm ([x].contains z)]
theorem cnt_perm (n : Nat) (arm : Nat → Int) {ws vs : List Int} (h : ws.Perm vs) : ∀ (u : List Nat) (t : Int), cnt n arm u t ws = cnt n arm u t vs := by
  induction h with
  | nil => intro u t; rfl
  | cons w _ ih =>
    intro u t
    rw [cnt, cnt]
    congr 1
    apply List.map_congr_left
    intro x hx
    rw [ih]
  | swap w1 w2 ws =>
    intro u t
    exact cnt_swap n arm w2 w1 ws u t
  | trans _ _ ih1 ih2 =>
    intro u t
    rw [ih1, ih2]
theorem levels_perm (n : Nat) (arm : Nat → Int) {ws vs : List Int} (h : ws.Perm vs) : (levels n arm ws).length = (levels n arm vs).length := by
  rw [levels_cnt, levels_cnt, cnt_perm n arm h]
/-- a list without a double -/
theorem dups_le : ∀ (f : Nat) (l : List Nat), l.length ≤ f → l.eraseDups.length ≤ l.length
  | _, [], _ => Nat.le_refl _
  | 0, a :: l, h => by cases h
  | f + 1, a :: l, h => by
    rw [List.eraseDups_cons, List.length_cons, List.length_cons]
    have h1 := List.length_filter_le (fun b => !b == a) l
    have h2 := dups_le f (l.filter fun b => !b == a) (by rw [List.length_cons] at h; omega)
    omega
theorem dups_iff : ∀ (f : Nat) (l : List Nat), l.length ≤ f → (l.eraseDups.length = l.length ↔ l.Nodup)
  | _, [], _ => ⟨fun _ => List.nodup_nil, fun _ => rfl⟩
  | 0, a :: l, h => by cases h
  | f + 1, a :: l, h => by
    rw [List.eraseDups_cons, List.length_cons, List.length_cons, List.nodup_cons]
    rw [List.length_cons] at h
    have h1 := List.length_filter_le (fun b => !b == a) l
    have h2 := dups_le f (l.filter fun b => !b == a) (by omega)
    constructor
    · intro e
      have e1 : (l.filter fun b => !b == a).length = l.length := by omega
      have e2 : (l.filter fun b => !b == a) = l := List.filter_eq_self.mpr (List.length_filter_eq_length_iff.mp e1)
      refine ⟨fun m => ?_, ?_⟩
      · have := (List.length_filter_eq_length_iff.mp e1) a m
        simp at this
      · rw [e2] at e
        exact (dups_iff f l (by omega)).mp (by omega)
    · rintro ⟨m, nd⟩
      have e2 : (l.filter fun b => !b == a) = l := List.filter_eq_self.mpr fun b hb => by
        have : b ≠ a := fun e => m (by rw [← e]; exact hb)
        simp [this]
      rw [e2, (dups_iff f l (by omega)).mpr nd]
theorem dups {l : List Nat} : l.eraseDups.length = l.length ↔ l.Nodup := dups_iff l.length l (Nat.le_refl _)
theorem range_nodup (n : Nat) : (List.range n).Nodup := List.nodup_range
/-- those that are named, in the order of their numbers, and as they are named -/
theorem named_perm {n : Nat} {l : List Nat} (nd : l.Nodup) (h : ∀ c ∈ l, c < n) : ((List.range n).filter fun c => l.contains c).Perm l := by
  have nf : ((List.range n).filter fun c => l.contains c).Nodup := List.Pairwise.filter _ (range_nodup n)
  rw [List.perm_iff_count]
  intro a
  rw [nd.count, nf.count]
  congr 1
  rw [List.mem_filter, List.mem_range, List.contains_iff_mem]
  exact propext ⟨fun z => z.2, fun z => ⟨h a z, z⟩⟩
/-- so many seats: so many used -/
theorem low_len : ∀ (n : Nat) (u : List Nat), (∀ x, x < n → x ∈ u) → n ≤ u.length
  | 0, u, _ => Nat.zero_le _
  | n + 1, u, h => by
    have m := h n (Nat.lt_succ_self n)
    have ih := low_len n (u.erase n) fun x hx => (List.mem_erase_of_ne (by omega)).mpr (h x (by omega))
    rw [List.length_erase_of_mem m] at ih
    have : 0 < u.length := List.length_pos_of_mem m
    omega
theorem ways_ne (n : Nat) : ∀ (k : Nat) (u : List Nat), u.length + k ≤ n → ways n u k ≠ []
  | 0, u, _ => by
    rw [ways]
    exact List.cons_ne_nil _ _
  | k + 1, u, h => by
    rw [ways]
    intro e
    rw [List.flatMap_eq_nil_iff] at e
    have : n ≤ u.length := low_len n u fun x hx => by
      refine Classical.byContradiction fun nm => ?_
      have := e x (List.mem_filter.mpr ⟨List.mem_range.mpr hx, by rw [Bool.not_eq_true', Bool.eq_false_iff]; intro z; exact nm (List.contains_iff_mem.mp z)⟩)
      rw [List.map_eq_nil_iff] at this
      exact ways_ne n k (u ++ [x]) (by rw [List.length_append, List.length_singleton]; omega) this
    omega
/-- the seats of a way are seats of the board -/
theorem ways_low {n : Nat} : ∀ (k : Nat) (u : List Nat) (s : List Nat), s ∈ ways n u k → ∀ x ∈ s, x < n
  | 0, u, s, h, x, hx => by
    rw [ways, List.mem_singleton] at h
    rw [h] at hx
    cases hx
  | k + 1, u, s, h, x, hx => by
    rw [ways, List.mem_flatMap] at h
    obtain ⟨y, hy, h⟩ := h
    obtain ⟨t, ht, rfl⟩ := List.mem_map.mp h
    rcases List.mem_cons.mp hx with rfl | hx
    · exact List.mem_range.mp (List.mem_filter.mp hy).1
    · exact ways_low k _ t ht x hx
end Tb

set_option Elab.async false
set_option linter.unusedVariables false
/-! Plain mathematics of stage 2: those that sit, as far as a child; seats put one by one. -/
namespace Tb
theorem sitters_snoc : ∀ (p : List (Option Nat)) (i : Nat) (o : Option Nat), sitters i (p ++ [o]) = sitters i p ++ (if o.isSome = true then [i + p.length] else [])
  | [], i, none => rfl
  | [], i, some x => rfl
  | none :: p, i, o => by
    show sitters (i + 1) (p ++ [o]) = sitters (i + 1) p ++ _
    rw [sitters_snoc p (i + 1) o, List.length_cons, show i + 1 + p.length = i + (p.length + 1) by omega]
  | some x :: p, i, o => by
    show i :: sitters (i + 1) (p ++ [o]) = i :: sitters (i + 1) p ++ _
    rw [sitters_snoc p (i + 1) o, List.length_cons, show i + 1 + p.length = i + (p.length + 1) by omega]
    rfl
theorem seats_snoc : ∀ (p : List (Option Nat)) (o : Option Nat), seatsIn (p ++ [o]) = seatsIn p ++ o.toList
  | [], none => rfl
  | [], some x => rfl
  | none :: p, o => seats_snoc p o
  | some x :: p, o => congrArg (List.cons x) (seats_snoc p o)
theorem sitters_le : ∀ (p : List (Option Nat)) (i : Nat), (sitters i p).length ≤ p.length
  | [], i => Nat.le_refl _
  | none :: p, i => Nat.le_trans (sitters_le p (i + 1)) (Nat.le_succ _)
  | some x :: p, i => Nat.succ_le_succ (sitters_le p (i + 1))
theorem seats_le (p : List (Option Nat)) : (seatsIn p).length ≤ p.length := by
  rw [← seats_len p 0]
  exact sitters_le p 0
theorem sitters_mem : ∀ (p : List (Option Nat)) (i c : Nat), c ∈ sitters i p → i ≤ c ∧ ∃ x, p[c - i]? = some (some x)
  | [], i, c, h => by cases h
  | none :: p, i, c, h => by
    obtain ⟨h1, x, h2⟩ := sitters_mem p (i + 1) c h
    refine ⟨by omega, x, ?_⟩
    rw [show c - i = (c - (i + 1)) + 1 by omega]
    exact h2
  | some y :: p, i, c, h => by
    rcases List.mem_cons.mp h with rfl | h
    · exact ⟨Nat.le_refl _, y, by rw [Nat.sub_self]; rfl⟩
    · obtain ⟨h1, x, h2⟩ := sitters_mem p (i + 1) c h
      refine ⟨by omega, x, ?_⟩
      rw [show c - i = (c - (i + 1)) + 1 by omega]
      exact h2
/-- some sit elsewhere, one behind another -/
def putAll (p : List (Option Nat)) (l : List (Nat × Nat)) : List (Option Nat) := l.foldl (fun p y => p.set y.1 (some y.2)) p
theorem putAll_len : ∀ (l : List (Nat × Nat)) (p : List (Option Nat)), (putAll p l).length = p.length
  | [], p => rfl
  | y :: l, p => by
    show (putAll (p.set y.1 (some y.2)) l).length = _
    rw [putAll_len l, List.length_set]
theorem putAll_up (q : Option Nat) : ∀ (l : List (Nat × Nat)) (p : List (Option Nat)), putAll (q :: p) (l.map fun y => (y.1 + 1, y.2)) = q :: putAll p l
  | [], p => rfl
  | y :: l, p => by
    show putAll ((q :: p).set (y.1 + 1) (some y.2)) (l.map _) = q :: putAll (p.set y.1 (some y.2)) l
    rw [List.set_cons_succ, putAll_up q l]
theorem sitters_up : ∀ (p : List (Option Nat)) (i : Nat), sitters (i + 1) p = (sitters i p).map (· + 1)
  | [], i => rfl
  | none :: p, i => sitters_up p (i + 1)
  | some x :: p, i => congrArg (List.cons (i + 1)) (sitters_up p (i + 1))
theorem putAll_fill : ∀ (p : List (Option Nat)) (t : List Nat), putAll p ((sitters 0 p).zip t) = fill p t
  | [], t => rfl
  | none :: p, t => by
    show putAll (none :: p) ((sitters 1 p).zip t) = none :: fill p t
    rw [sitters_up p 0, List.zip_map_left, ← putAll_fill p t]
    exact putAll_up none _ p
  | some x :: p, [] => by
    rw [List.zip_nil_right]
    rfl
  | some x :: p, y :: t => by
    show putAll (some y :: p) ((sitters 1 p).zip t) = some y :: fill p t
    rw [sitters_up p 0, List.zip_map_left, ← putAll_fill p t]
    exact putAll_up (some y) _ p
/-- look's numbers, child by child -/
theorem look_snoc (cs : List Nat) (s : Nat → Nat) (c : Nat) : (cs ++ [c]).flatMap (fun c => [c, s c]) = cs.flatMap (fun c => [c, s c]) ++ [c, s c] := by
  rw [List.flatMap_append, List.flatMap_cons, List.flatMap_nil, List.append_nil]
theorem sits_pairs : ∀ (p : List (Option Nat)) (i : Nat) (f : Nat → Nat), (∀ c x, p[c]? = some (some x) → f (i + c) = x) → (sitsFrom i p).flatMap (fun x => [x.1, x.2]) = (sitters i p).flatMap (fun c => [c, f c])
  | [], i, f, _ => rfl
  | none :: p, i, f, h => sits_pairs p (i + 1) f fun c x e => by
    rw [show i + 1 + c = i + (c + 1) by omega]
    exact h (c + 1) x e
  | some y :: p, i, f, h => by
    have e := h 0 y rfl
    rw [Nat.add_zero] at e
    have ih := sits_pairs p (i + 1) f fun c x e => by
      rw [show i + 1 + c = i + (c + 1) by omega]
      exact h (c + 1) x e
    show [i, y] ++ (sitsFrom (i + 1) p).flatMap _ = [i, f i] ++ (sitters (i + 1) p).flatMap _
    rw [ih, e]
/-- how many sit elsewhere, as far as a place -/
theorem moved_le (s t : List Nat) : moved s t ≤ s.length := by
  rw [moved]
  refine Nat.le_trans (List.length_filter_le _ _) ?_
  rw [List.length_zip]
  exact Nat.min_le_left _ _
/-- the best so far is a way with its own number -/
theorem best_own {α : Type} (f : α → Nat) : ∀ (l : List α) (o : Option (Nat × α)), (∀ d t, o = some (d, t) → d = f t) → ∀ d t, l.foldl (best f) o = some (d, t) → d = f t
  | [], o, h => h
  | a :: l, o, h => best_own f l (best f o a) fun d t e => by
    cases o with
    | none =>
      have e' : some (f a, a) = some (d, t) := e
      cases e'
      rfl
    | some y =>
      have e' : (if f a < y.1 then some (f a, a) else some y) = some (d, t) := e
      split at e'
      · cases e'
        rfl
      · exact h d t e'
end Tb

set_option Elab.async false
set_option linter.unusedVariables false
set_option maxRecDepth 100000
set_option maxHeartbeats 2000000
namespace Tb
open PySem PySem.Spec PyProof.Rows L2
/-! ### the text by places -/
def top (i : Nat) : Stmt := PySem.Challenge.pw_tipboard_s01_answers.main.body.getD i (.Pass ⟨0, 0, 0, 0⟩)
/-! ### heaps -/
theorem if_true_of {c : Bool} {A B : Prop} (hc : c = true) (h : A) : if c = true then A else B := by
  rw [if_pos hc]
  exact h
theorem if_false_of {c : Bool} {A B : Prop} (hc : c = false) (h : B) : if c = true then A else B := by
  rw [hc, if_neg Bool.false_ne_true]
  exact h
theorem Same.new {H : Hp} {p : Addr} {o : HO} (h : H p = none) : Same H (upd H p o) := fun b u e => by
  rw [upd_ne (ne_of_none e h)]
  exact e
/-- a new list of whole numbers at p -/
def NewL (H H' : Hp) (p : Addr) (ns : List Int) : Prop := Same H H' ∧ H p = none ∧ H' p = some (.lst (ns.map V.int))
/-- the seats' arms -/
def armAt (k x : Nat) : Int := if x < k then (x : Int) - (k : Int) else (x : Int) - (k : Int) + 1
def arms (k : Nat) : List Int := (List.range (2 * k)).map (armAt k)
theorem far_arm (k : Nat) (ws : List Nat) : Mu46.far ⟨k, ws⟩ = armAt k := rfl
theorem arms_len (k : Nat) : (arms k).length = 2 * k := by rw [arms, List.length_map, List.length_range]
theorem arms_rg (k : Nat) : rgV (-(k : Int)) 0 ++ rgV 1 ((k : Int) + 1) = (arms k).map V.int := by
  have e1 : (0 - -(k : Int)).toNat = k := by omega
  have e2 : ((k : Int) + 1 - 1).toNat = k := by omega
  rw [rgV, rgV, e1, e2, arms, List.map_map, show 2 * k = k + k by omega, List.range_add, List.map_append, List.map_map]
  congr 1
  · apply List.map_congr_left
    intro x hx
    have := List.mem_range.mp hx
    show V.int _ = V.int (armAt k x)
    rw [armAt, if_pos this]
    congr 1
    omega
  · apply List.map_congr_left
    intro x hx
    show V.int _ = V.int (armAt k (k + x))
    rw [armAt, if_neg (by omega)]
    congr 1
    omega
end Tb

set_option Elab.async false
set_option linter.unusedVariables false
set_option maxRecDepth 100000
set_option maxHeartbeats 2000000
namespace Tb
open PySem PySem.Spec PyProof.Rows L2
/-! ### zip of a list and a tuple -/
def ItzM (K : PySem.W.Frag) (a b : Addr) : It where
  go := fun i H => ∃ (xs ys : List V) (x y : V), (SqL K H a xs ∧ SqT K H b ys) ∧ xs[i]? = some x ∧ ys[i]? = some y
  yld := fun i H v H' => ∃ T x y, v = .ref T ∧ H T = none ∧ H' = upd H T (.tup [x, y]) ∧ (∀ zs, SqL K H a zs → zs[i]? = some x) ∧ ∀ zs, SqT K H b zs → zs[i]? = some y
  stop := fun i H => ∃ xs ys : List V, (SqL K H a xs ∧ SqT K H b ys) ∧ i = min xs.length ys.length
theorem sepM {z TI TO i1 i2 a b : Addr} (D : ZipApart z TI TO i1 i2 a b) : ZipSep2 z TI TO i1 i2 [i1, a] [i2, b] where
  TIz := D.TIz
  TOz := D.TOz
  TITO := D.TITO
  TIi1 := D.TIi1
  mem1 := List.mem_cons_self ..
  zf1 := by simp [D.i1z.symm, D.l1z.symm]
  Tf1 := by simp [D.TOi1, D.l1TO.symm]
  TIi2 := D.TIi2
  mem2 := List.mem_cons_self ..
  zf2 := by simp [D.i2z.symm, D.l2z.symm]
  Tf2 := by simp [D.TOi2, D.l2TO.symm]
  sep1_2 := by simp [D.i12, D.l2i1.symm]
  sep2_1 := by simp [D.i12.symm, D.l1i2.symm]
/-- the five cells of such a zip, in the machine's heap -/
def ZipM (z TI TO i1 i2 a b : Addr) (i : Nat) (h : Heap) : Prop := IsZip h z TI TO .none ∧ IsTupOf2 h TI (.ref i1) (.ref i2) ∧ (∃ x y, IsTupOf2 h TO x y) ∧ h.IsListIter i1 a i ∧ h.IsTupleIter i2 b i
theorem five {c z TI TO i1 i2 : Addr} (h : c ∈ [z, TI, TO, i1, i2]) : c = z ∨ c = TI ∨ c = TO ∨ c = i1 ∨ c = i2 := by
  rcases List.mem_cons.mp h with h | h
  · exact .inl h
  rcases List.mem_cons.mp h with h | h
  · exact .inr (.inl h)
  rcases List.mem_cons.mp h with h | h
  · exact .inr (.inr (.inl h))
  rcases List.mem_cons.mp h with h | h
  · exact .inr (.inr (.inr (.inl h)))
  · exact .inr (.inr (.inr (.inr (List.mem_singleton.mp h))))
theorem ZipM.cell {z TI TO i1 i2 a b : Addr} {i : Nat} {h : Heap} (st : ZipM z TI TO i1 i2 a b i h) {c : Addr} (hc : c ∈ [z, TI, TO, i1, i2]) : ∃ o, h.get? c = some o ∧ ∀ v, o.data ≠ .cell v := by
  obtain ⟨hz, hTI, ⟨x, y, hTO⟩, ⟨o1, e1, _, d1⟩, ⟨o2, e2, _, d2⟩⟩ := st
  rcases five hc with rfl | rfl | rfl | rfl | rfl
  · exact ⟨_, hz, fun v => nofun⟩
  · exact ⟨_, hTI, fun v => nofun⟩
  · exact ⟨_, hTO, fun v => nofun⟩
  · exact ⟨_, e1, fun v k => (by rw [d1] at k; cases k)⟩
  · exact ⟨_, e2, fun v k => (by rw [d2] at k; cases k)⟩
theorem turn_zipM {P : Program} {w : World} {K : PySem.W.Frag} {elts : List Expr} {kk : Nat} {tpos : Pos} {a b z TI TO i1 i2 : Addr} (D : ZipApart z TI TO i1 i2 a b) :
    Turn P w K (.Tuple elts kk tpos) (ItzM K a b) [z, TI, TO, i1, i2] z (ZipM z TI TO i1 i2 a b) where
  mem := List.mem_cons_self ..
  obj := fun i h st c hc => st.cell hc
  keep := fun i h h' st k => by
    have m2 : TI ∈ [z, TI, TO, i1, i2] := by simp
    have m3 : TO ∈ [z, TI, TO, i1, i2] := by simp
    have m4 : i1 ∈ [z, TI, TO, i1, i2] := by simp
    have m5 : i2 ∈ [z, TI, TO, i1, i2] := by simp
    obtain ⟨hz, hTI, ⟨x, y, hTO⟩, t1, t2⟩ := st
    exact ⟨k z (List.mem_cons_self ..) _ hz, k TI m2 _ hTI, ⟨x, y, k TO m3 _ hTO⟩, t1.at (k i1 m4), t2.at (k i2 m5)⟩
  item := by
    intro X eP ew eK hc i pins s σ H E I hf st hg
    subst eP ew eK
    have low : ∀ c, c ∈ [z, TI, TO, i1, i2] → c < s.heap.objs.size := fun c hm => by
      obtain ⟨o, e, _⟩ := st.cell hm
      exact Heap.lt_size e
    obtain ⟨hz, hTI, ⟨x0, y0, hTO⟩, t1, t2⟩ := st
    obtain ⟨xs, ys, x, y, ⟨hqx, hqy⟩, hx, hy⟩ := hg
    obtain ⟨us, rv, p, _⟩ := I.list hqx
    obtain ⟨vs, rw', p', _⟩ := I.tuple hqy
    obtain ⟨u, hu, ru⟩ := rv.get hx
    obtain ⟨v, hv, rv'⟩ := rw'.get hy
    have hh := I.ok.hd hc
    have n1 : i < us.toArray.size := by rw [List.size_toArray]; exact (List.getElem?_eq_some_iff.mp hu).1
    have n2 : i < vs.toArray.size := by rw [List.size_toArray]; exact (List.getElem?_eq_some_iff.mp hv).1
    have zl := low z (List.mem_cons_self ..)
    refine wpAny_pyNext_zipD2_item (sepM D) (Draws.list (A := X.A.in1) hh i1 a D.l1i1 us.toArray) (Draws.tuple (A := X.A.in1) hh i2 b D.l2i2 vs.toArray) hz hTI hTO ⟨t1, p.isList⟩ ⟨t2, p'⟩ n1 n2 fun u' v' h' tk q1 q2 z' TO' s1 s2 hT hsz hk => ?_
    have eu : u' = u := by
      have q1' : us.toArray[i]? = some u' := q1
      rw [List.getElem?_toArray, hu] at q1'
      exact (Option.some.inj q1').symm
    have ev : v' = v := by
      have q2' : vs.toArray[i]? = some v' := q2
      rw [List.getElem?_toArray, hv] at q2'
      exact (Option.some.inj q2').symm
    subst eu ev
    refine ⟨_, rfl, wpAny_letOwnedTupleGo_zip (s := { s with heap := h', toks := tk }) z' fun h'' z'' sb => ?_⟩
    have T2 : IsTupOf2 h'' s.heap.objs.size u' v' := (sb.2 _ (Nat.ne_of_gt zl)).trans hT
    have ok : ObjOk X.prog X.w (upd H s.heap.objs.size (.tup [x, y])) h'' s.heap.objs.size (.tup [x, y]) := ⟨(by show 2 ≤ sizeLine; decide), [u', v'], .cons ru (.cons rv' .nil), ⟨_, T2, rfl, _, rfl⟩⟩
    have keep : ∀ c o, c ∉ [z, TI, TO, i1, i2] → s.heap.get? c = some o → h''.get? c = some o := fun c o nm e => by
      have d1 : c ≠ z := fun k => nm (by simp [k])
      have d2 : c ≠ TO := fun k => nm (by simp [k])
      have d3 : c ≠ i1 := fun k => nm (by simp [k])
      have d4 : c ≠ i2 := fun k => nm (by simp [k])
      exact (sb.2 c d1).trans (hk c o d1 d2 d3 d4 e)
    have J := I.turnedNew (t' := tk) keep hf (Nat.le_refl _) ok
    refine ⟨.ref s.heap.objs.size, _, J, rfl, ⟨_, x, y, rfl, I.hok.fresh (Nat.le_refl _), rfl, fun zs k => ?_, fun zs k => ?_⟩, ⟨z'', ?_, ⟨u', v', ?_⟩, ?_, ?_⟩, fun c hm => ?_⟩
    · rw [I.list_inj k hqx]
      exact hx
    · rw [I.tuple_inj k hqy]
      exact hy
    · exact (sb.2 _ D.TIz).trans (hk _ _ D.TIz D.TITO D.TIi1 D.TIi2 hTI)
    · exact (sb.2 _ D.TOz).trans TO'
    · exact s1.1.at fun o e => (sb.2 _ D.i1z).trans e
    · exact s2.1.at fun o e => (sb.2 _ D.i2z).trans e
    · rw [upd_ne (Nat.ne_of_lt (low c hm))]
      exact (hf c hm).1
  done := by
    intro X eP ew eK hc i pins s σ H E I hf st hg
    subst eP ew eK
    obtain ⟨hz, hTI, ⟨x0, y0, hTO⟩, t1, t2⟩ := st
    obtain ⟨xs, ys, ⟨hqx, hqy⟩, hend⟩ := hg
    obtain ⟨us, rv, p, _⟩ := I.list hqx
    obtain ⟨vs, rw', p', _⟩ := I.tuple hqy
    have hh := I.ok.hd hc
    have l1 : us.toArray.size = xs.length := by rw [List.size_toArray, rv.length]
    have l2 : vs.toArray.size = ys.length := by rw [List.size_toArray, rw'.length]
    refine wpAny_pyNext_zipD2_end (sepM D) (Draws.list (A := X.A.in1) hh i1 a D.l1i1 us.toArray) (Draws.tuple (A := X.A.in1) hh i2 b D.l2i2 vs.toArray) hz hTI hTO ⟨t1, p.isList⟩ ⟨t2, p'⟩ (by omega) (by omega) (by omega) fun h' tk hk => ⟨rfl, ?_⟩
    refine I.turnedL (t' := tk) (ch := [z, TI, TO, i1, i2]) (fun c o nm e => ?_) hf
    exact hk c o (fun k => nm (by simp [k])) (fun k => nm (by simp [k])) (fun k => nm (by simp [k])) (fun k => nm (by simp [k])) e
  self := fun A i s Q E st k => wpAny_pyIter_zip st.1 k
def iZipM (K : PySem.W.Frag) (ta : TA) : TI := fun σ H R => ta σ H fun vs H1 => ∃ (a b : Addr) (xs ys : List V), vs = [.ref a, .ref b] ∧ (SqL K H1 a xs ∧ SqT K H1 b ys) ∧ R (ItzM K a b) H1
theorem pi_zipM {X : Cx} {e e2 : Expr} {ta : TA} {p pos tpos : Pos} {elts : List Expr} {kk : Nat} (hg : Gl X "zip") (hm : X.mg "zip" = none) (ha : PA X [e, e2] ta) (hs : starEach [e, e2] X.env = (false, eval e X.env) :: starEach [e2] X.env := by rfl)
    (hpl : (backTo pos (starEach [e2] X.env)).any (·.1) = false := by rfl) : PI X (.Tuple elts kk tpos) (.Call (.Name "zip" p) [e, e2] [] pos) (iZipM X.K ta) := by
  refine ⟨fun pins s σ H R I h => Call_ (ld_blt I hg hm PyProof.Rows.boot_zip (PyProof.Rows.callWith_type1 (thn (ha.run pos pins s σ H _ I h) fun us s1 ⟨vs, H1, I1, r1, q1⟩ => ?_) hs hpl))⟩
  obtain ⟨a, b, xs, ys, rfl, ⟨hqx, hqy⟩, q⟩ := q1
  cases r1 with
  | cons r rr =>
  cases rr with
  | cons r' rr =>
  cases rr
  cases r
  cases r'
  obtain ⟨us, rv, p1, _⟩ := I1.list hqx
  obtain ⟨vs, rw', p2, _⟩ := I1.tuple hqy
  have p2' : s1.heap.IsTuple b vs.toArray := p2
  obtain ⟨o2, ho2, _⟩ := p2'
  refine zip_begins2 (begins_list a us.toArray) (begins_tuple b vs.toArray) p1.isList p2 fun h' hz hTI hTO g1 g2 hsz hk => wpAny_pyIter_zip hz ?_
  have J : Inv X pins σ H1 { s1 with heap := h' } := I1.kept (t' := s1.toks) hk
  have D := PySem.W.ktu_apart s1.heap.objs.size a b p1.lt (Heap.lt_size ho2)
  refine ⟨_, [s1.heap.objs.size + 4, s1.heap.objs.size + 2, s1.heap.objs.size + 3, s1.heap.objs.size, s1.heap.objs.size + 1], _, _, H1, rfl, J, turn_zipM D, ⟨hz, hTI, ⟨_, _, hTO⟩, ⟨_, g1, rfl, rfl⟩, ⟨_, g2, rfl, rfl⟩⟩, fun c hcm => ?_, q⟩
  have le : s1.heap.objs.size ≤ c := by
    rcases five hcm with k | k | k | k | k <;> (rw [k]; first | exact Nat.le_refl _ | exact Nat.le_add_right _ _)
  exact I1.fpOk le (I1.hok.fresh le)
theorem walk_zipM {K : PySem.W.Frag} {a b : Addr} {xs ys : List V} {n : Nat} (hn : n = min xs.length ys.length) : Walk (ItzM K a b) n (fun H => SqL K H a xs ∧ SqT K H b ys) (YPair (fun i => xs[i]?) (fun i => ys[i]?)) := by
  refine ⟨fun i _ hi q => ?_, fun _ q => ⟨xs, ys, q, hn⟩, fun i H v H' _ q y => ?_⟩
  · have h1 : i < xs.length := by omega
    have h2 : i < ys.length := by omega
    exact ⟨xs, ys, xs[i], ys[i], q, List.getElem?_eq_getElem h1, List.getElem?_eq_getElem h2⟩
  · obtain ⟨T, x, z, e1, e2, e3, f1, f2⟩ := y
    exact ⟨T, x, z, e1, e2, e3, f1 xs q.1, f2 ys q.2⟩
/-! ### len(set(xs)), doubles or none -/
def distinct (ns : List Int) : List Int := ns.foldl step_dedup []
theorem met_distinct (ns : List Int) : firstMet (fun i => ns.getD i 0) ns.length = distinct ns := by
  have e : (List.range ns.length).map (fun i => ns.getD i 0) = ns := by
    apply List.ext_getElem?
    intro i
    rw [List.getElem?_map]
    by_cases h : i < ns.length
    · rw [List.getElem?_range h, List.getElem?_eq_getElem h]
      show some (ns.getD i 0) = _
      rw [List.getD_eq_getElem?_getD, List.getElem?_eq_getElem h]
      rfl
    · rw [List.getElem?_eq_none (by rw [List.length_range]; omega), List.getElem?_eq_none (by omega)]
      rfl
  rw [firstMet, e, distinct]
theorem dedup_len : ∀ (ns acc : List Int), (ns.foldl step_dedup acc).length ≤ acc.length + ns.length ∧ ((ns.foldl step_dedup acc).length = acc.length + ns.length ↔ ns.Nodup ∧ ∀ x ∈ ns, x ∉ acc)
  | [], acc => ⟨Nat.le_refl _, fun _ => ⟨List.nodup_nil, fun x h => (by cases h)⟩, fun _ => rfl⟩
  | a :: ns, acc => by
    rw [List.foldl_cons, List.length_cons]
    have e : step_dedup acc a = if acc.any (· == a) then acc else acc ++ [a] := rfl
    have m : acc.any (· == a) = true ↔ a ∈ acc := by
      rw [List.any_eq_true]
      constructor
      · rintro ⟨x, hx, h⟩
        rw [← eq_of_beq h]
        exact hx
      · intro h
        exact ⟨a, h, beq_self_eq_true a⟩
    by_cases h : a ∈ acc
    · rw [e, if_pos (m.mpr h)]
      obtain ⟨i1, i2⟩ := dedup_len ns acc
      refine ⟨by omega, fun z => by omega, fun z => absurd h (z.2 a (List.mem_cons_self ..))⟩
    · rw [e, if_neg (fun z => h (m.mp z))]
      obtain ⟨i1, i2⟩ := dedup_len ns (acc ++ [a])
      rw [List.length_append, List.length_singleton] at i1 i2
      refine ⟨by omega, ?_⟩
      rw [show acc.length + (ns.length + 1) = acc.length + 1 + ns.length by omega, i2, List.nodup_cons]
      constructor
      · rintro ⟨z1, z2⟩
        refine ⟨⟨fun k => z2 a k (List.mem_append_right _ (List.mem_singleton.mpr rfl)), z1⟩, fun x hx => ?_⟩
        rcases List.mem_cons.mp hx with rfl | hx
        · exact h
        · exact fun k => z2 x hx (List.mem_append_left _ k)
      · rintro ⟨⟨z1, z2⟩, z3⟩
        refine ⟨z2, fun x hx k => ?_⟩
        rcases List.mem_append.mp k with k | k
        · exact z3 x (List.mem_cons_of_mem _ hx) k
        · rw [List.mem_singleton.mp k] at hx
          exact z1 hx
theorem distinct_le (ns : List Int) : (distinct ns).length ≤ ns.length := by
  have := (dedup_len ns []).1
  rw [List.length_nil] at this
  rw [distinct]
  omega
theorem distinct_all (ns : List Int) : (distinct ns).length = ns.length ↔ ns.Nodup := by
  have := (dedup_len ns []).2
  rw [List.length_nil, Nat.zero_add] at this
  rw [distinct, this]
  exact ⟨fun z => z.1, fun z => ⟨z, fun x _ k => (by cases k)⟩⟩
theorem ints_vals : ∀ {ns : List Int} {us : List Value}, Vals (ns.map V.int) us → PyProof.Rows.IntsAre us ns
  | [], _, .nil => .nil
  | n :: ns, _, .cons r t => by
    obtain ⟨k, rfl⟩ := r
    exact .cons n k (ints_vals t)
def tLenSetD (K : PySem.W.Frag) (ta : TE) : TE := fun σ H Q => ta σ H fun x H1 => ∃ (l : Addr) (ns : List Int), x = .ref l ∧ SqL K H1 l (ns.map V.int) ∧ ns.length ≤ 1000 ∧ Q (.int ((distinct ns).length : Nat)) H1
theorem pe_lenSetD {X : Cx} {a : Expr} {ta : TE} {p p2 q pos : Pos} (hg : Gl X "len") (hm : X.mg "len" = none) (hg2 : Gl X "set") (hm2 : X.mg "set" = none) (ha : PE X a ta) (hc : X.calm = true := by rfl) (na : starEach [a] X.env = (false, eval a X.env) :: starEach [] X.env := by rfl) :
    PE X (.Call (.Name "len" p) [.Call (.Name "set" p2) [a] [] q] [] pos) (tLenSetD X.K ta) := by
  refine ⟨fun pins s σ H Q I h => Call_ (ld_blt I hg hm PySem.boot_len (PyProof.Rows.callWith_builtin1 (PyProof.Rows.args_cons (Call_ (ld_blt I hg2 hm2 PyProof.Rows.boot_set ?_)) rfl) rfl rfl))⟩
  refine PyProof.Rows.callWith_type1 (PyProof.Rows.args_cons (thn (ha.run pins s σ H _ I h) fun v s1 ⟨x, H1, I1, r1, l, ns, ex, hq, hl, q1⟩ => PyProof.Rows.args_nil ?_) na) na rfl
  subst ex
  cases r1
  obtain ⟨us, r, pl, _⟩ := I1.list hq
  have ln : us.toArray.size = ns.length := by rw [List.size_toArray, ← r.length, List.length_map]
  refine call_set_list (I1.ok.hd hc) pl.isList (ns := ns) (by simpa using ints_vals r) (by rw [ln]; unfold scanBound; omega) fun h' tk hS hk => PyProof.Rows.args_nil ?_
  rw [ln, met_distinct] at hS
  obtain ⟨o, es, ep, t, ho, hex, hd, _, _, _, hf, hn⟩ := hS
  have J : Inv X pins σ H1 { s1 with heap := h', toks := tk } := I1.kept fun b o e => hk b o (Heap.lt_size e) e
  have le := distinct_le ns
  exact call_len_set ho hex hd hf (by rw [hn]; omega) ⟨.int ((distinct ns).length : Nat), H1, J.tok _, ⟨_, by rw [hn]⟩, q1⟩
end Tb

set_option Elab.async false
set_option linter.unusedVariables false
set_option maxRecDepth 100000
set_option maxHeartbeats 2000000
namespace Tb
open PySem PySem.Spec PyProof.Rows L2
abbrev sArms : Stmt := top 1
/-- the names of Python's own that the program calls are still these -/
structure Own (mg : Str → Option Value) : Prop where
  len : mg "len" = none
  list : mg "list" = none
  range : mg "range" = none
  enum : mg "enumerate" = none
  zip : mg "zip" = none
  min : mg "min" = none
  max : mg "max" = none
  abs : mg "abs" = none
  all : mg "all" = none
  set : mg "set" = none
section
variable {P : Program} {w : World} {K : PySem.W.Frag} {mg : Str → Option Value} {base : Heap}
def spArms : Sp := fun vs H Q _ => ∃ (k : Nat), vs = [.int k] ∧ k ≤ 4 ∧ ∀ H' p, NewL H H' p (arms k) → Q (.ref p) H'
theorem scArms : FnScope ["side"] ["side"] (defScope sArms) := ⟨rfl, rfl, rfl, by decide +kernel, rfl, by decide +kernel, by decide +kernel⟩
theorem ok_arms {f : Addr} {fd : FuncData} (F : Fun K "arms_of" "arms_of" sArms f fd) (O : Own mg) : FnOk P w K mg base CX0 1 f fd ["side"] spArms := by
  refine F.ok scArms (fun vs H Q E h => ?_) (fun cdv A outer s H vs Q E hr h => ?_)
  · obtain ⟨k, rfl, _⟩ := h
    rfl
  · obtain ⟨k, rfl, hk, q⟩ := h
    refine ⟨_, pss_one (ps_ret (pe_op op_cat
      (pe_listRg rfl rfl O.list (prg_2 rfl O.range (pe_un un_neg (pv 0)) pe_int))
      (pe_listRg rfl rfl O.list (prg_2 rfl O.range pe_int (pe_op op_add (pv 0) pe_int))))), ?_⟩
    refine ⟨_, rfl, _, rfl, _, _, rfl, rfl, ⟨by omega, by omega, by omega, by omega, by omega⟩, fun a ha => ?_⟩
    refine ⟨_, rfl, _, _, rfl, rfl, _, _, rfl, rfl, ⟨by omega, by omega, by omega, by omega, by omega⟩, fun b hb => ?_⟩
    have sa := Same.new (o := .lst (rgV (-(k : Int)) 0)) ha
    have sb := Same.new (o := .lst (rgV 1 ((k : Int) + 1))) hb
    have nab : a ≠ b := ne_of_none upd_same hb
    refine ⟨a, b, _, _, rfl, rfl, (upd_ne nab).trans upd_same, upd_same, ?_, fun p hp => ?_⟩
    · rw [rgV_length, rgV_length]
      have : sizeLine = 16777216 := by decide
      omega
    · refine q _ p ⟨(sa.trans sb).trans (Same.new hp), (sa.trans sb).free hp, ?_⟩
      rw [← arms_rg]
      exact upd_same
end
end Tb

set_option Elab.async false
set_option linter.unusedVariables false
set_option maxRecDepth 100000
set_option maxHeartbeats 2000000
namespace Tb
open PySem PySem.Spec PyProof.Rows L2
/-! ### lists side by side -/
inductive All2 {α β : Type} (R : α → β → Prop) : List α → List β → Prop
  | nil : All2 R [] []
  | cons {a b as bs} : R a b → All2 R as bs → All2 R (a :: as) (b :: bs)
theorem All2.mono {α β : Type} {R S : α → β → Prop} {as : List α} {bs : List β} (h : All2 R as bs) (f : ∀ a b, R a b → S a b) : All2 S as bs := by
  induction h with
  | nil => exact .nil
  | cons a _ ih => exact .cons (f _ _ a) ih
theorem All2.len {α β : Type} {R : α → β → Prop} {as : List α} {bs : List β} (h : All2 R as bs) : as.length = bs.length := by
  induction h with
  | nil => rfl
  | cons a _ ih => rw [List.length_cons, List.length_cons, ih]
theorem All2.at {α β : Type} {R : α → β → Prop} {as : List α} {bs : List β} (h : All2 R as bs) : ∀ {i : Nat} {a : α}, as[i]? = some a → ∃ b, bs[i]? = some b ∧ R a b := by
  induction h with
  | nil =>
    intro i a e
    cases e
  | cons r _ ih =>
    intro i a e
    cases i with
    | zero =>
      cases e
      exact ⟨_, rfl, r⟩
    | succ i => exact ih e
theorem All2.app {α β : Type} {R : α → β → Prop} {as cs : List α} {bs ds : List β} (h : All2 R as bs) (g : All2 R cs ds) : All2 R (as ++ cs) (bs ++ ds) := by
  induction h with
  | nil => exact g
  | cons a _ ih => exact .cons a ih
theorem map_get {α β : Type} {f : α → β} {l : List α} {i : Nat} {y : β} (h : (l.map f)[i]? = some y) : ∃ x, l[i]? = some x ∧ y = f x := by
  rw [List.getElem?_map] at h
  cases e : l[i]? with
  | none =>
    rw [e] at h
    cases h
  | some x =>
    rw [e] at h
    exact ⟨x, rfl, (Option.some.inj h).symm⟩
theorem take_more {α : Type} : ∀ {l : List α} {i : Nat} {x : α}, l[i]? = some x → l.take (i + 1) = l.take i ++ [x]
  | [], i, x, h => by simp at h
  | a :: l, 0, x, h => by
    have e : a = x := Option.some.inj h
    subst e
    rfl
  | a :: l, i + 1, x, h => by
    have ih := take_more (l := l) (i := i) (x := x) h
    show a :: l.take (i + 1) = a :: l.take i ++ [x]
    rw [ih]
    rfl
/-! ### sittings with their tilts, in the heap -/
def seatV (s : List Nat) : List V := s.map fun (x : Nat) => V.int (x : Int)
def PairAt (H : Hp) (q : Addr) (y : List Nat × Int) : Prop := ∃ u, H q = some (.tup [.ref u, .int y.2]) ∧ H u = some (.tup (seatV y.1))
/-- tuples stay -/
def KeepT (H H' : Hp) : Prop := ∀ b xs, H b = some (.tup xs) → H' b = some (.tup xs)
theorem KeepT.of {H H' : Hp} (h : Same H H') : KeepT H H' := fun b xs e => h b _ e
theorem KeepT.trans {H H1 H2 : Hp} (a : KeepT H H1) (b : KeepT H1 H2) : KeepT H H2 := fun c xs e => b c xs (a c xs e)
theorem KeepT.put {H : Hp} {l : Addr} {xs ys : List V} (h : H l = some (.lst xs)) : KeepT H (upd H l (.lst ys)) := fun b zs e => by
  rw [upd_ne (ne_of e h (by intro z; cases z))]
  exact e
theorem PairAt.keep {H H' : Hp} {q : Addr} {y : List Nat × Int} (p : PairAt H q y) (k : KeepT H H') : PairAt H' q y := by
  obtain ⟨u, h1, h2⟩ := p
  exact ⟨u, k _ _ h1, k _ _ h2⟩
/-- one row of the growth, as far as a seat -/
def rowTo (k : Nat) (w : Int) (y : List Nat × Int) (i : Nat) : List (List Nat × Int) := ((List.range i).filter fun x => !(y.1.contains x)).map fun x => (y.1 ++ [x], y.2 + w * armAt k x)
theorem rowTo_in {k : Nat} {w : Int} {y : List Nat × Int} {i : Nat} (h : y.1.contains i = true) : rowTo k w y (i + 1) = rowTo k w y i := by
  rw [rowTo, List.range_succ, List.filter_append, List.filter_cons, if_neg (by rw [h]; decide), List.filter_nil, List.append_nil]
  rfl
theorem rowTo_out {k : Nat} {w : Int} {y : List Nat × Int} {i : Nat} (h : y.1.contains i = false) : rowTo k w y (i + 1) = rowTo k w y i ++ [(y.1 ++ [i], y.2 + w * armAt k i)] := by
  rw [rowTo, List.range_succ, List.filter_append, List.filter_cons, if_pos (by rw [h]; rfl), List.filter_nil, List.map_append]
  rfl
theorem rowTo_len {k : Nat} {w : Int} {y : List Nat × Int} (i : Nat) : (rowTo k w y i).length ≤ i := by
  rw [rowTo, List.length_map]
  refine Nat.le_trans (List.length_filter_le _ _) ?_
  rw [List.length_range]
  exact Nat.le_refl _
theorem flat_len {α β : Type} {f : α → List β} {n : Nat} : ∀ (l : List α), (∀ a, (f a).length ≤ n) → (l.flatMap f).length ≤ n * l.length
  | [], _ => Nat.zero_le _
  | a :: l, h => by
    rw [List.flatMap_cons, List.length_append, List.length_cons, Nat.mul_succ]
    have := flat_len l h
    have := h a
    omega
theorem grow_row (k : Nat) (w : Int) (f : List (List Nat × Int)) : grow (2 * k) (armAt k) w f = f.flatMap fun y => rowTo k w y (2 * k) := rfl
theorem grow_len {k : Nat} (hk : k ≤ 4) (w : Int) (f : List (List Nat × Int)) : (grow (2 * k) (armAt k) w f).length ≤ 8 * f.length := by
  rw [grow_row]
  refine flat_len f fun y => Nat.le_trans (rowTo_len _) (by omega)
theorem sat_snoc (n : Nat) (arm : Nat → Int) (ws : List Int) (w : Int) : sat n arm (ws ++ [w]) = grow n arm w (sat n arm ws) := by
  rw [sat, List.foldl_append]
  rfl
theorem sat_len {k : Nat} (hk : k ≤ 4) : ∀ (i : Nat) (ws : List Int), ws.length = i → (sat (2 * k) (armAt k) ws).length ≤ 8 ^ i
  | 0, ws, h => by
    rw [List.length_eq_zero_iff.mp h]
    exact Nat.le_refl _
  | i + 1, ws, h => by
    have hne : ws ≠ [] := by
      intro e
      rw [e] at h
      cases h
    have e := List.dropLast_concat_getLast hne
    rw [← e, sat_snoc, Nat.pow_succ]
    refine Nat.le_trans (grow_len hk _ _) ?_
    have := sat_len hk i ws.dropLast (by rw [List.length_dropLast, h]; rfl)
    omega
/-- the sittings lie at p: a list of pairs -/
def FoundAt (H : Hp) (p : Addr) (f : List (List Nat × Int)) : Prop := ∃ qs : List Addr, H p = some (.lst (qs.map V.ref)) ∧ All2 (PairAt H) qs f
theorem FoundAt.same {H H' : Hp} {p : Addr} {f : List (List Nat × Int)} (h : FoundAt H p f) (s : Same H H') : FoundAt H' p f := by
  obtain ⟨qs, h1, h2⟩ := h
  exact ⟨qs, s _ _ h1, h2.mono fun q y r => r.keep (.of s)⟩
theorem FoundAt.push {H : Hp} {l t : Addr} {f : List (List Nat × Int)} {y : List Nat × Int} {xs : List V} (h : FoundAt H l f) (e : H l = some (.lst xs)) (r : PairAt H t y) : FoundAt (upd H l (.lst (xs ++ [.ref t]))) l (f ++ [y]) := by
  obtain ⟨qs, h1, h2⟩ := h
  have e2 : xs = qs.map V.ref := by
    rw [h1] at e
    cases e
    rfl
  subst e2
  have kt : KeepT H (upd H l (.lst (qs.map V.ref ++ [.ref t]))) := KeepT.put h1
  refine ⟨qs ++ [t], ?_, (h2.mono fun q y r => r.keep kt).app (.cons (r.keep kt) .nil)⟩
  rw [upd_same, List.map_append]
  rfl
theorem FoundAt.ln {H : Hp} {l : Addr} {f : List (List Nat × Int)} {xs : List V} (h : FoundAt H l f) (e : H l = some (.lst xs)) : xs.length = f.length := by
  obtain ⟨qs, h1, h2⟩ := h
  rw [h1] at e
  cases e
  rw [List.length_map, h2.len]
theorem Same.put {H0 H : Hp} {l : Addr} {o : HO} (s : Same H0 H) (n : H0 l = none) : Same H0 (upd H l o) := fun b u e => by
  rw [upd_ne (ne_of_none e n)]
  exact s _ _ e
theorem inV_seat (x : Nat) : ∀ (s : List Nat), inV (V.int (x : Int)) (seatV s) = s.contains x
  | [] => rfl
  | a :: s => by
    have ih := inV_seat x s
    show (eqV (V.int (a : Int)) (V.int (x : Int)) || inV (V.int (x : Int)) (seatV s)) = (x == a || s.contains x)
    rw [ih]
    congr 1
    show ((a : Int) == (x : Int)) = _
    rw [Bool.eq_iff_iff, beq_iff_eq, beq_iff_eq]
    omega
theorem flat_seat : ∀ (s : List Nat), (seatV s).all flatV = true
  | [] => rfl
  | a :: s => by
    show (true && (seatV s).all flatV) = true
    rw [flat_seat s]
    rfl
abbrev sAll : Stmt := top 2
section
variable {P : Program} {w : World} {K : PySem.W.Frag} {mg : Str → Option Value} {base : Heap}
/-- what both walks over the sittings are handed: the board's arms and weights -/
structure Laid (K : PySem.W.Frag) (H : Hp) (a b : Addr) (k : Nat) (ws : List Int) : Prop where
  la : SqL K H a ((arms k).map V.int)
  lw : SqL K H b (ws.map V.int)
  k4 : k ≤ 4
  l5 : ws.length ≤ 5
  w99 : ∀ x ∈ ws, 0 ≤ x ∧ x ≤ 99
def spAll (K : PySem.W.Frag) : Sp := fun vs H Q _ => ∃ (a b : Addr) (k : Nat) (ws : List Int), vs = [.ref a, .ref b] ∧ Laid K H a b k ws ∧
  ∀ H' p, Same H H' → H p = none → FoundAt H' p (sat (2 * k) (armAt k) ws) → Q (.ref p) H'
abbrev nAll : List Str := ["arms", "weights", "found", "weight", "longer", "seats", "tilt", "seat", "arm"]
theorem scAll : FnScope nAll ["arms", "weights"] (defScope sAll) := ⟨rfl, rfl, rfl, by decide +kernel, rfl, by decide +kernel, by decide +kernel⟩
theorem ok_all {f : Addr} {fd : FuncData} (F : Fun K "all_sittings" "all_sittings" sAll f fd) (O : Own mg) : FnOk P w K mg base CX0 1 f fd ["arms", "weights"] (spAll K) := by
  refine F.ok scAll (fun vs H Q E h => ?_) (fun cdv A outer s H vs Q E hr h => ?_)
  · obtain ⟨a, b, k, ws, rfl, _⟩ := h
    rfl
  · obtain ⟨a, b, k, ws, rfl, L, q⟩ := h
    refine ⟨_, pss_cons (ps_set (i := 2) scAll.nd rfl (Or.inl rfl) (pe_lst (pa_cons (pe_tup (pa_cons (pe_tup pa_nil) (pa_cons pe_int pa_nil))) pa_nil)))
      (pss_cons (ps_for PassesOwn.never rfl (pi_list (pv 1)) (pg_name (i := 3) scAll.nd rfl (Or.inl rfl))
        (pss_cons (ps_set (i := 4) scAll.nd rfl (Or.inl rfl) (pe_lst pa_nil))
        (pss_cons (ps_for PassesOwn.never rfl (pi_list (pv 2)) (pg_tup rfl (pgs_cons (pg_name (i := 5) scAll.nd rfl (Or.inl rfl)) (pgs_cons (pg_name (i := 6) scAll.nd rfl (Or.inl rfl)) pgs_nil)))
          (pss_one (ps_for PassesOwn.never rfl (pi_enum rfl O.enum (pa_cons (pv 0) pa_nil)) (pg_tup rfl (pgs_cons (pg_name (i := 7) scAll.nd rfl (Or.inl rfl)) (pgs_cons (pg_name (i := 8) scAll.nd rfl (Or.inl rfl)) pgs_nil)))
            (pss_one (ps_if (pt_cmpR op_notIn_seq (pv 7) (pv 5) rfl)
              (pss_one (ps_expr (pe_bm PySem.F.plainAttrs_list PySem.F.slot_list_append PySem.F.type_list_append mt_append (pv 4)
                (pa_cons (pe_tup (pa_cons (pe_op op_catA (pv 5) (pe_tup (pa_cons (pv 7) pa_nil))) (pa_cons (pe_op op_add (pv 6) (pe_op op_mul (pv 3) (pv 8))) pa_nil))) pa_nil))))
              pss_nil)))))
        (pss_one (ps_set (i := 2) scAll.nd rfl (Or.inl rfl) (pv 4))))))
      (pss_one (ps_ret (pv 2)))), ?_⟩
    -- found = [((), 0)]
    refine ⟨Nat.zero_le _, fun u0 hu0 => ⟨(by show 2 ≤ sizeLine; decide), fun t0 ht0 => ⟨(by show 1 ≤ sizeLine; decide), fun p0 hp0 => ?_⟩⟩⟩
    have su := Same.new (o := .tup []) hu0
    have st := Same.new (o := .tup [.ref u0, .int 0]) ht0
    have sp := Same.new (o := .lst [.ref t0]) hp0
    have s0 := (su.trans st).trans sp
    have F0 : FoundAt (upd (upd (upd H u0 (.tup [])) t0 (.tup [.ref u0, .int 0])) p0 (.lst [.ref t0])) p0 (sat (2 * k) (armAt k) (ws.take 0)) :=
      ⟨[t0], upd_same, .cons ⟨u0, sp _ _ upd_same, sp _ _ (st _ _ upd_same)⟩ .nil⟩
    -- for weight in weights
    refine ⟨_, rfl, b, rfl, ⟨_, s0.seq L.lw⟩, for_list (K := K) (a := b) (xs := ws.map V.int) (fun i σ H' => ∃ (p : Addr) (v3 v4 v5 v6 v7 v8 : Option V),
      σ = [some (.ref a), some (.ref b), some (.ref p), v3, v4, v5, v6, v7, v8] ∧ Same H H' ∧ H p = none ∧ FoundAt H' p (sat (2 * k) (armAt k) (ws.take i)))
      ⟨p0, none, none, none, none, none, none, rfl, s0, (su.trans st).free hp0, F0⟩ (fun i σ H' _ ⟨_, _, _, _, _, _, _, _, s5, _⟩ => s5.seq L.lw) ?_ ?_⟩
    · rintro i y σ H1 hi ⟨p, v3, v4, v5, v6, v7, v8, rfl, s1, np, qs, hp, hqs⟩
      obtain ⟨z, hz, rfl⟩ := map_get hi
      have zw := L.w99 z (List.mem_of_getElem? hz)
      have hi5 : i < ws.length := (List.getElem?_eq_some_iff.mp hz).1
      have hf := sat_len L.k4 i (ws.take i) (by rw [List.length_take]; omega)
      have h85 : 8 ^ i ≤ 4096 := Nat.le_trans (Nat.pow_le_pow_right (by decide) (show i ≤ 4 by have := L.l5; omega)) (by decide)
      have en := sat_snoc (2 * k) (armAt k) (ws.take i) z
      rw [← take_more hz] at en
      rw [en, grow_row]
      have hfl : ∀ y ∈ sat (2 * k) (armAt k) (ws.take i), y.1.length ≤ 5 := fun y hy => by
        rw [sat_ways] at hy
        obtain ⟨s, hs, rfl⟩ := List.mem_map.mp hy
        have := ways_len _ _ _ hs
        rw [List.length_take] at this
        have := L.l5
        dsimp only
        omega
      generalize sat (2 * k) (armAt k) (ws.take i) = f at hqs hf hfl
      -- longer = []
      refine ⟨Nat.zero_le _, fun l hl => ?_⟩
      have s2 := Same.new (o := .lst []) hl
      have F2 : FoundAt (upd H1 l (.lst [])) l ((f.take 0).flatMap fun y => rowTo k z y (2 * k)) := ⟨[], upd_same, .nil⟩
      -- for seats, tilt in found
      refine ⟨_, rfl, p, rfl, ⟨_, SqL.of (s2 _ _ hp)⟩, for_list (K := K) (a := p) (xs := qs.map V.ref) (fun j σ H' => ∃ (v5 v6 v7 v8 : Option V),
        σ = [some (.ref a), some (.ref b), some (.ref p), some (.int z), some (.ref l), v5, v6, v7, v8] ∧ Same H1 H' ∧ FoundAt H' l ((f.take j).flatMap fun y => rowTo k z y (2 * k)))
        ⟨v5, v6, v7, v8, rfl, s2, F2⟩ (fun j σ H' _ ⟨_, _, _, _, _, s5, _⟩ => SqL.of (s5 _ _ hp)) ?_ ?_⟩
      · rintro j y σ H3 hj ⟨v5, v6, v7, v8, rfl, s3, F3⟩
        obtain ⟨q1, hq1, rfl⟩ := map_get hj
        obtain ⟨y, hy, u, hq2, hu⟩ := hqs.at hq1
        have hjf : j < f.length := (List.getElem?_eq_some_iff.mp hy).1
        refine ⟨q1, _, rfl, SqT.of (s3 _ _ hq2), rfl, _, _, rfl, _, _, rfl, rfl, ?_⟩
        -- for seat, arm in enumerate(arms)
        refine ⟨_, rfl, a, _, rfl, (s1.trans s3).seq L.la, for_it (walk_enum (K := K) (a := a) (xs := (arms k).map V.int)) (fun m σ H' => ∃ (v7 v8 : Option V),
          σ = [some (.ref a), some (.ref b), some (.ref p), some (.int z), some (.ref l), some (.ref u), some (.int y.2), v7, v8] ∧ Same H1 H' ∧ FoundAt H' l (((f.take j).flatMap fun y => rowTo k z y (2 * k)) ++ rowTo k z y m))
          ⟨v7, v8, rfl, s3, by rw [show rowTo k z y 0 = [] from rfl, List.append_nil]; exact F3⟩ (fun m σ H' _ ⟨_, _, _, s5, _⟩ => (s1.trans s5).seq L.la) ?_ ?_⟩
        · rintro m x σ H4 H5 hm ⟨v7, v8, rfl, s4, F4⟩ ⟨T, x1, x2, rfl, nT, rfl, e1, e2⟩
          cases e1
          obtain ⟨r, hr2, rfl⟩ := map_get e2
          have hr3 : r = armAt k m := by
            obtain ⟨c, hc, rfl⟩ := map_get hr2
            have := List.getElem?_range (n := 2 * k) (i := m) (by rw [List.length_map, arms_len] at hm; exact hm)
            rw [this] at hc
            cases hc
            rfl
          subst hr3
          have sT := Same.new (o := .tup [.int (m : Nat), .int (armAt k m)]) nT
          have s45 := s4.trans sT
          refine ⟨T, _, rfl, SqT.of upd_same, rfl, _, _, rfl, _, _, rfl, rfl, ?_⟩
          refine ⟨_, rfl, _, rfl, u, _, rfl, .inr (SqT.of (s45 _ _ hu)), rfl, flat_seat _, _, rfl, ?_⟩
          cases c : y.1.contains m
          · refine if_true_of (by show (!inV _ _) = true; rw [inV_seat, c]; rfl) ?_
            have F5 := F4.same sT
            have F5' := F5
            obtain ⟨qs5, hl5, _⟩ := F5'
            have hlen := F5.ln hl5
            have hz5 : (qs5.map V.ref).length < sizeLine := by
              rw [hlen, List.length_append]
              have b1 := flat_len (f := fun y => rowTo k z y (2 * k)) (n := 8) (f.take j) fun a => Nat.le_trans (rowTo_len _) (by have := L.k4; omega)
              have b2 := rowTo_len (k := k) (w := z) (y := y) m
              have b3 : (f.take j).length ≤ j := by rw [List.length_take]; omega
              have b4 : m < 8 := by
                rw [List.length_map, arms_len] at hm
                have := L.k4
                omega
              have b5 : sizeLine = 16777216 := by decide
              omega
            refine ⟨_, rfl, .inl ⟨rfl, _, SqL.of hl5⟩, _, rfl, _, rfl, (by show 1 ≤ sizeLine; decide), fun t1 ht1 => ?_⟩
            have s1' := Same.new (o := .tup [.int ((m : Nat) : Int)]) ht1
            refine ⟨u, t1, _, _, rfl, rfl, SqT.of (s1' _ _ (s45 _ _ hu)), SqT.of upd_same, ?_, fun e => ?_, fun _ e => (by cases e), fun e1 e2 r hr => ?_⟩
            · have b1 := hfl y (List.mem_of_getElem? hy)
              have b2 : sizeLine = 16777216 := by decide
              show (seatV y.1).length + 1 ≤ sizeLine
              rw [seatV, List.length_map]
              omega
            · have e' : y.1 = [] := by
                cases h : y.1 with
                | nil => rfl
                | cons _ _ =>
                  rw [h] at e
                  cases e
              refine ⟨_, rfl, _, rfl, _, rfl, _, _, rfl, rfl, .inl ⟨by omega, by omega⟩, _, _, rfl, rfl, (by show 2 ≤ sizeLine; decide), fun t2 ht2 => ?_⟩
              have s2' := Same.new (o := .tup [.ref t1, .int (y.2 + z * armAt k m)]) ht2
              have sa := s1'.trans s2'
              refine ⟨l, _, _, rfl, rfl, sa _ _ hl5, hz5, ?_⟩
              refine ⟨_, _, rfl, Tb.Same.put (s45.trans sa) hl, ?_⟩
              rw [rowTo_out c, ← List.append_assoc]
              refine (F5.same sa).push (sa _ _ hl5) ⟨t1, upd_same, ?_⟩
              rw [e']
              exact s2' _ _ upd_same
            · have s3' := Same.new (o := .tup (seatV y.1 ++ [.int ((m : Nat) : Int)])) hr
              refine ⟨_, rfl, _, rfl, _, rfl, _, _, rfl, rfl, .inl ⟨by omega, by omega⟩, _, _, rfl, rfl, (by show 2 ≤ sizeLine; decide), fun t2 ht2 => ?_⟩
              have s2' := Same.new (o := .tup [.ref r, .int (y.2 + z * armAt k m)]) ht2
              have sa := (s1'.trans s3').trans s2'
              refine ⟨l, _, _, rfl, rfl, sa _ _ hl5, hz5, ?_⟩
              refine ⟨_, _, rfl, Tb.Same.put (s45.trans sa) hl, ?_⟩
              rw [rowTo_out c, ← List.append_assoc]
              refine (F5.same sa).push (sa _ _ hl5) ⟨r, upd_same, ?_⟩
              have e3 : seatV (y.1 ++ [m]) = seatV y.1 ++ [.int ((m : Nat) : Int)] := by
                rw [seatV, List.map_append]
                rfl
              show upd _ t2 _ r = some (.tup (seatV (y.1 ++ [m])))
              rw [e3]
              exact s2' _ _ upd_same
          · refine if_false_of (by show (!inV _ _) = false; rw [inV_seat, c]; rfl) ?_
            refine ⟨_, _, rfl, s45, ?_⟩
            rw [rowTo_in c]
            exact F4.same sT
        · rintro σ H4 ⟨v7, v8, rfl, s4, F4⟩
          refine ⟨_, _, _, _, rfl, s4, ?_⟩
          rw [take_more hy, List.flatMap_append, List.flatMap_cons, List.flatMap_nil, List.append_nil]
          rw [List.length_map, arms_len] at F4
          exact F4
      · rintro σ H3 ⟨v5, v6, v7, v8, rfl, s3, F3⟩
        refine ⟨_, rfl, l, _, _, _, _, _, _, rfl, s1.trans s3, s1.free hl, ?_⟩
        rw [List.length_map, hqs.len, List.take_length] at F3
        exact F3
    · rintro σ H1 ⟨p, v3, v4, v5, v6, v7, v8, rfl, s1, np, F1⟩
      refine ⟨_, rfl, ?_⟩
      rw [List.length_map, List.take_length] at F1
      exact q H1 p s1 np F1
end
end Tb

set_option Elab.async false
set_option linter.unusedVariables false
set_option maxRecDepth 100000
set_option maxHeartbeats 2000000
namespace Tb
open PySem PySem.Spec PyProof.Rows L2
open C8 (Cal Met Mak pe_c pe_mt pe_mt0 pe_mk)
/-- sittings alone, in the heap -/
def SeatsAt (H : Hp) (u : Addr) (s : List Nat) : Prop := H u = some (.tup (seatV s))
def WaysAt (H : Hp) (p : Addr) (f : List (List Nat)) : Prop := ∃ us : List Addr, H p = some (.lst (us.map V.ref)) ∧ All2 (SeatsAt H) us f
theorem WaysAt.same {H H' : Hp} {p : Addr} {f : List (List Nat)} (h : WaysAt H p f) (s : Same H H') : WaysAt H' p f := by
  obtain ⟨qs, h1, h2⟩ := h
  exact ⟨qs, s _ _ h1, h2.mono fun q y r => s _ _ r⟩
theorem WaysAt.push {H : Hp} {l t : Addr} {f : List (List Nat)} {y : List Nat} {xs : List V} (h : WaysAt H l f) (e : H l = some (.lst xs)) (r : SeatsAt H t y) : WaysAt (upd H l (.lst (xs ++ [.ref t]))) l (f ++ [y]) := by
  obtain ⟨qs, h1, h2⟩ := h
  have e2 : xs = qs.map V.ref := by
    rw [h1] at e
    cases e
    rfl
  subst e2
  have kt : KeepT H (upd H l (.lst (qs.map V.ref ++ [.ref t]))) := KeepT.put h1
  refine ⟨qs ++ [t], ?_, (h2.mono fun q y r => kt _ _ r).app (.cons (kt _ _ r) .nil)⟩
  rw [upd_same, List.map_append]
  rfl
theorem WaysAt.ln {H : Hp} {l : Addr} {f : List (List Nat)} {xs : List V} (h : WaysAt H l f) (e : H l = some (.lst xs)) : xs.length = f.length := by
  obtain ⟨qs, h1, h2⟩ := h
  rw [h1] at e
  cases e
  rw [List.length_map, h2.len]
abbrev sLev : Stmt := top 3
section
variable {P : Program} {w : World} {K : PySem.W.Frag} {mg : Str → Option Value} {base : Heap}
def spLev (K : PySem.W.Frag) : Sp := fun vs H Q _ => ∃ (a b : Addr) (k : Nat) (ws : List Int), vs = [.ref a, .ref b] ∧ Laid K H a b k ws ∧
  ∀ H' p, Same H H' → H p = none → WaysAt H' p (levels (2 * k) (armAt k) ws) → Q (.ref p) H'
abbrev nLev : List Str := ["arms", "weights", "seats", "tilt"]
theorem scLev : FnScope nLev ["arms", "weights"] (defScope sLev) := ⟨rfl, rfl, rfl, by decide +kernel, rfl, by decide +kernel, by decide +kernel⟩
theorem ok_lev {f : Addr} {fd : FuncData} (F : Fun K "level_sittings" "level_sittings" sLev f fd) (c : Cal P w K mg base 1 "all_sittings" (spAll K) []) : FnOk P w K mg base CX0 2 f fd ["arms", "weights"] (spLev K) := by
  refine F.ok scLev (fun vs H Q E h => ?_) (fun cdv A outer s H vs Q E hr h => ?_)
  · obtain ⟨a, b, k, ws, rfl, _⟩ := h
    rfl
  · obtain ⟨a, b, k, ws, rfl, L, q⟩ := h
    refine ⟨_, pss_one (ps_ret (pe_lc (own := [("seats", 2), ("tilt", 3)]) (g := gTup K 2 (gCons (gName 2) (gCons (gName 3) gNil))) rfl scLev.nd
      (pi_list (pe_c c hr (Nat.le_refl _) rfl (pa_cons (pv 0) (pa_cons (pv 1) pa_nil)))) (blkOk_by (N := nLev) (sc := defScope sLev) (by decide +kernel))
      (fun _ _ _ _ _ => pg_tup rfl (pgs_cons (pg_name (i := 2) scLev.nd rfl (Or.inl rfl)) (pgs_cons (pg_name (i := 3) scLev.nd rfl (Or.inl rfl)) pgs_nil)))
      (fun _ _ _ _ _ => pts_one (pt_cmpR op_eq (pv 3) pe_int (nomark _))) (fun _ _ _ _ _ => pv 2))), ?_⟩
    refine ⟨_, rfl, _, rfl, a, b, k, ws, rfl, L, fun H1 p s1 np ⟨qs, hp, hqs⟩ => ⟨p, rfl, ⟨_, SqL.of hp⟩, fun D hD => ?_⟩⟩
    have hfl := sat_len L.k4 ws.length ws rfl
    have h85 : 8 ^ ws.length ≤ 32768 := Nat.le_trans (Nat.pow_le_pow_right (by decide) L.l5) (by decide)
    rw [← sat_levels] at q
    generalize sat (2 * k) (armAt k) ws = f at hqs hfl q
    refine lc_list (K := K) (a := p) (xs := qs.map V.ref) (fun i H' => Same H1 H' ∧ WaysAt H' D (((f.take i).filter fun p => p.2 == 0).map Prod.fst)) ⟨Same.new hD, [], upd_same, .nil⟩
      (fun i H' _ ⟨s5, _⟩ => SqL.of (s5 _ _ hp)) ?_ ?_
    · rintro i x H2 hi ⟨s2, W2⟩
      obtain ⟨q1, hq1, rfl⟩ := map_get hi
      obtain ⟨y, hy, u, hq2, hu⟩ := hqs.at hq1
      refine ⟨q1, _, rfl, SqT.of (s2 _ _ hq2), rfl, _, _, rfl, _, _, rfl, rfl, rfl, _, rfl, rfl, _, rfl, ?_⟩
      rw [take_more hy, List.filter_append, List.filter_cons, List.filter_nil]
      by_cases c0 : y.2 = 0
      · refine if_true_of (by rw [c0]; rfl) ?_
        rw [if_pos (by rw [c0]; rfl), List.map_append]
        have W2' := W2
        obtain ⟨us, hD2, _⟩ := W2'
        refine ⟨_, rfl, _, hD2, ?_, Tb.Same.put s2 hD, W2.push hD2 (s2 _ _ hu)⟩
        rw [W2.ln hD2, List.length_map]
        have b1 := List.length_filter_le (fun (p : List Nat × Int) => p.2 == 0) (f.take i)
        rw [List.length_take] at b1
        have b2 : sizeLine = 16777216 := by decide
        omega
      · refine if_false_of (by show decide (V.int y.2 = V.int 0) = false; rw [decide_eq_false_iff_not]; intro z; injection z with z; exact c0 z) ?_
        rw [if_neg (fun z => c0 (eq_of_beq z)), List.append_nil]
        exact ⟨s2, W2⟩
    · rintro H2 ⟨s2, W2⟩
      rw [List.length_map, hqs.len, List.take_length] at W2
      exact q H2 D (s1.trans s2) (s1.free hD) W2
end
end Tb

set_option Elab.async false
set_option linter.unusedVariables false
set_option maxRecDepth 100000
set_option maxHeartbeats 2000000
namespace Tb
open PySem PySem.Spec PyProof.Rows L2
open C8 (Cal Met Mak pe_c pe_mt pe_mt0 pe_mk)
abbrev sChg : Stmt := top 4
abbrev sFew : Stmt := top 5
section
variable {P : Program} {w : World} {K : PySem.W.Frag} {mg : Str → Option Value} {base : Heap}
/-! ### how_many_change -/
def spChg (K : PySem.W.Frag) : Sp := fun vs H Q _ => ∃ (a u : Addr) (s t : List Nat), vs = [.ref a, .ref u] ∧ SqL K H a (seatV s) ∧ SeatsAt H u t ∧ s.length ≤ 5 ∧ ∀ H', Same H H' → Q (.int (moved s t : Int)) H'
abbrev nChg : List Str := ["now", "then", "seat", "other"]
theorem scChg : FnScope nChg ["now", "then"] (defScope sChg) := ⟨rfl, rfl, rfl, by decide +kernel, rfl, by decide +kernel, by decide +kernel⟩
theorem ok_chg {f : Addr} {fd : FuncData} (F : Fun K "how_many_change" "how_many_change" sChg f fd) (O : Own mg) : FnOk P w K mg base CX0 1 f fd ["now", "then"] (spChg K) := by
  refine F.ok scChg (fun vs H Q E h => ?_) (fun cdv A outer s H vs Q E hr h => ?_)
  · obtain ⟨_, _, _, _, rfl, _⟩ := h
    rfl
  · obtain ⟨a, u, s, t, rfl, ha, hu, h5, q⟩ := h
    refine ⟨_, pss_one (ps_ret (pe_callB call_len_seq (by rfl) O.len PySem.boot_len (pa_cons
      (pe_lc (own := [("seat", 2), ("other", 3)]) (g := gTup K 2 (gCons (gName 2) (gCons (gName 3) gNil))) rfl scChg.nd (pi_zipM rfl O.zip (pa_cons (pv 0) (pa_cons (pv 1) pa_nil))) (blkOk_by (N := nChg) (sc := defScope sChg) (by decide +kernel))
        (fun _ _ _ _ _ => pg_tup rfl (pgs_cons (pg_name (i := 2) scChg.nd rfl (Or.inl rfl)) (pgs_cons (pg_name (i := 3) scChg.nd rfl (Or.inl rfl)) pgs_nil)))
        (fun _ _ _ _ _ => pts_one (pt_cmpR op_ne (pv 2) (pv 3) (nomark _))) (fun _ _ _ _ _ => pv 2)) pa_nil))), ?_⟩
    refine ⟨_, rfl, _, rfl, a, u, _, _, rfl, ⟨ha, SqT.of hu⟩, fun D hD => ?_⟩
    refine lc_it (walk_zipM (K := K) (a := a) (b := u) (xs := seatV s) (ys := seatV t) (n := (s.zip t).length) (by rw [List.length_zip, seatV, seatV, List.length_map, List.length_map]))
      (fun i H' => Same H H' ∧ ∃ acc, H' D = some (.lst acc) ∧ acc.length = (((s.zip t).take i).filter fun y => y.1 != y.2).length) ⟨Same.new hD, [], upd_same, rfl⟩ (fun i H' _ ⟨s5, _⟩ => ⟨s5.seq ha, SqT.of (s5 _ _ hu)⟩) ?_ ?_
    · rintro i x H1 H2 hi ⟨s1, acc, hD1, hl⟩ ⟨T0, x1, x2, rfl, nT, rfl, e1, e2⟩
      obtain ⟨z1, hz1, rfl⟩ := map_get e1
      obtain ⟨z2, hz2, rfl⟩ := map_get e2
      have hz : (s.zip t)[i]? = some (z1, z2) := by
        rw [List.getElem?_zip_eq_some]
        exact ⟨hz1, hz2⟩
      have sT := Same.new (o := .tup [.int (z1 : Int), .int (z2 : Int)]) nT
      have s2 := s1.trans sT
      refine ⟨T0, _, rfl, SqT.of upd_same, rfl, _, _, rfl, _, _, rfl, rfl, rfl, _, rfl, _, rfl, rfl, _, rfl, ?_⟩
      rw [take_more hz, List.filter_append, List.filter_cons, List.filter_nil]
      by_cases c : z1 = z2
      · refine if_false_of (by rw [c]; show (!decide (V.int (z2 : Int) = V.int (z2 : Int))) = false; rw [decide_eq_true rfl]; rfl) ?_
        rw [if_neg (by rw [c]; simp), List.append_nil]
        exact ⟨s2, acc, sT _ _ hD1, hl⟩
      · refine if_true_of (by show (!decide (V.int (z1 : Int) = V.int (z2 : Int))) = true; rw [decide_eq_false (by intro z; injection z with z; omega)]; rfl) ?_
        rw [if_pos (by simpa using c)]
        refine ⟨_, rfl, acc, sT _ _ hD1, ?_, Tb.Same.put s2 hD, _, upd_same, ?_⟩
        · rw [hl]
          have b1 := List.length_filter_le (fun (y : Nat × Nat) => y.1 != y.2) ((s.zip t).take i)
          rw [List.length_take, List.length_zip] at b1
          have b2 : sizeLine = 16777216 := by decide
          omega
        · rw [List.length_append, List.length_append, hl]
          rfl
    · rintro H1 ⟨s1, acc, hD1, hl⟩
      refine ⟨D, _, rfl, .inl (SqL.of hD1), ?_⟩
      rw [List.take_length] at hl
      rw [hl]
      exact q H1 s1
/-! ### fewest_changes -/
/-- what is the best so far: nothing, or a way in the heap -/
def BestAt (H : Hp) (v : V) : Option (Nat × List Nat) → Prop
  | none => v = .non
  | some (_, t) => ∃ u, v = .ref u ∧ SeatsAt H u t
theorem BestAt.same {H H' : Hp} {v : V} {o : Option (Nat × List Nat)} (h : BestAt H v o) (s : Same H H') : BestAt H' v o := by
  cases o with
  | none => exact h
  | some y =>
    obtain ⟨u, h1, h2⟩ := h
    exact ⟨u, h1, s _ _ h2⟩
def bestOf (s : List Nat) (f : List (List Nat)) : Option (Nat × List Nat) := f.foldl (best (moved s)) none
def spFew (K : PySem.W.Frag) : Sp := fun vs H Q _ => ∃ (a l : Addr) (s : List Nat) (f : List (List Nat)), vs = [.ref a, .ref l] ∧ SqL K H a (seatV s) ∧ WaysAt H l f ∧ s.length ≤ 5 ∧ ∀ H' v, Same H H' → BestAt H' v (bestOf s f) → Q v H'
abbrev nFew : List Str := ["now", "ways", "best", "way"]
theorem scFew : FnScope nFew ["now", "ways"] (defScope sFew) := ⟨rfl, rfl, rfl, by decide +kernel, rfl, by decide +kernel, by decide +kernel⟩
theorem ok_few {f : Addr} {fd : FuncData} (F : Fun K "fewest_changes" "fewest_changes" sFew f fd) (c : Cal P w K mg base 1 "how_many_change" (spChg K) []) : FnOk P w K mg base CX0 2 f fd ["now", "ways"] (spFew K) := by
  refine F.ok scFew (fun vs H Q E h => ?_) (fun cdv A outer s H vs Q E hr h => ?_)
  · obtain ⟨_, _, _, _, rfl, _⟩ := h
    rfl
  · obtain ⟨a, l, s, f, rfl, ha, ⟨us, hl, hus⟩, h5, q⟩ := h
    refine ⟨_, pss_cons (ps_set (i := 2) scFew.nd rfl (Or.inl rfl) pe_non)
      (pss_cons (ps_for PassesOwn.never rfl (pi_list (pv 1)) (pg_name (i := 3) scFew.nd rfl (Or.inl rfl))
        (pss_one (ps_if (pw_or (pt_cmpR op_isN (pv 2) pe_non (nomark _)) (pw_or1 (pt_cmpR op_lt (pe_c c hr (Nat.le_refl _) (by rfl) (pa_cons (pv 0) (pa_cons (pv 3) pa_nil))) (pe_c c hr (Nat.le_refl _) (by rfl) (pa_cons (pv 0) (pa_cons (pv 2) pa_nil))) (nomark _)))).pt
          (pss_one (ps_set (i := 2) scFew.nd rfl (Or.inl rfl) (pv 3))) pss_nil)))
      (pss_one (ps_ret (pv 2)))), ?_⟩
    refine ⟨_, rfl, l, rfl, ⟨_, SqL.of hl⟩, for_list (K := K) (a := l) (xs := us.map V.ref) (fun i σ H' => ∃ (v : V) (v3 : Option V), σ = [some (.ref a), some (.ref l), some v, v3] ∧ Same H H' ∧ BestAt H' v (bestOf s (f.take i)))
      ⟨.non, none, rfl, Same.refl H, rfl⟩ (fun i σ H' _ ⟨_, _, _, s5, _⟩ => SqL.of (s5 _ _ hl)) ?_ ?_⟩
    · rintro i y σ H1 hi ⟨v, v3, rfl, s1, B⟩
      obtain ⟨u, hu, rfl⟩ := map_get hi
      obtain ⟨y, hy, hyu⟩ := hus.at hu
      have en : bestOf s (f.take (i + 1)) = best (moved s) (bestOf s (f.take i)) y := by
        rw [bestOf, take_more hy, List.foldl_append]
        rfl
      have own := best_own (moved s) (f.take i) none (fun d t e => by cases e)
      rw [en]
      refine ⟨_, rfl, rfl, _, rfl, ?_⟩
      cases eb : bestOf s (f.take i) with
      | none =>
        rw [eb] at B
        have B' : v = .non := B
        subst B'
        refine if_true_of rfl (if_true_of rfl ?_)
        exact ⟨_, rfl, .ref u, _, rfl, s1, u, rfl, s1 _ _ hyu⟩
      | some z =>
        obtain ⟨d, t⟩ := z
        rw [eb] at B
        obtain ⟨ub, rfl, hb⟩ := B
        have ed := own d t eb
        refine if_false_of rfl ?_
        refine ⟨_, rfl, _, rfl, a, u, s, y, rfl, s1.seq ha, s1 _ _ hyu, h5, fun H2 s2 => ?_⟩
        refine ⟨_, rfl, _, rfl, a, ub, s, t, rfl, (s1.trans s2).seq ha, s2 _ _ hb, h5, fun H3 s3 => ⟨_, _, rfl, rfl, _, rfl, ?_⟩⟩
        have s13 := (s1.trans s2).trans s3
        show if decide ((moved s y : Int) < (moved s t : Int)) = true then _ else _
        by_cases c0 : moved s y < moved s t
        · refine if_true_of (decide_eq_true (by omega)) ?_
          refine ⟨_, rfl, .ref u, _, rfl, s13, ?_⟩
          show BestAt H3 (.ref u) (if moved s y < d then some (moved s y, y) else some (d, t))
          rw [if_pos (by omega)]
          exact ⟨u, rfl, s13 _ _ hyu⟩
        · refine if_false_of (decide_eq_false (by omega)) ?_
          refine ⟨.ref ub, _, rfl, s13, ?_⟩
          show BestAt H3 (.ref ub) (if moved s y < d then some (moved s y, y) else some (d, t))
          rw [if_neg (by omega)]
          exact ⟨ub, rfl, s3 _ _ (s2 _ _ hb)⟩
    · rintro σ H1 ⟨v, v3, rfl, s1, B⟩
      rw [List.length_map, hus.len, List.take_length] at B
      exact ⟨_, rfl, q H1 v s1 B⟩
end
end Tb

set_option Elab.async false
set_option linter.unusedVariables false
set_option maxRecDepth 100000
set_option maxHeartbeats 2000000
namespace Tb
open PySem PySem.Spec PyProof.Rows L2
open C8 (Cal Met Mak pe_c pe_mt pe_mt0 pe_mk)
/-- the module's name x holds this number -/
def IntC (mg : Str → Option Value) (x : Str) (i : Int) : Prop := ∃ t, mg x = some (.int i t)
theorem pe_k {X : Cx} {x : Str} {i : Int} {pos : Pos} (h : IntC X.mg x i) (hg : Gl X x := by rfl) (hd : (x == ("__debug__" : Str)) = false := by decide) : PE X (.Name x pos) (tC (.int i)) := by
  obtain ⟨t, h⟩ := h
  exact pe_glob hg h ⟨t, rfl⟩ hd
structure Nums (mg : Str → Option Value) : Prop where
  mostSeats : IntC mg "MOST_SEATS_ON_A_SIDE" 4
  mostChildren : IntC mg "MOST_CHILDREN" 5
  mostWeight : IntC mg "MOST_WEIGHT" 60
  noSeat : IntC mg "NO_SUCH_SEAT" (-1)
  noChild : IntC mg "NO_SUCH_CHILD" (-2)
  sitsAlready : IntC mg "SITS_ALREADY" (-3)
  notSit : IntC mg "DOES_NOT_SIT" (-3)
  taken : IntC mg "SEAT_IS_TAKEN" (-4)
  cannot : IntC mg "CANNOT_BALANCE" (-6)
  noKids : IntC mg "NO_SUCH_CHILDREN" (-1)
  bal : IntC mg "BALANCES" 0
  left : IntC mg "TO_THE_LEFT" 1
  right : IntC mg "TO_THE_RIGHT" 2
  begin_ : IntC mg "BEGIN" 0
  sit : IntC mg "SIT" 1
  up : IntC mg "UP" 2
  tip : IntC mg "TIP" 3
  level : IntC mg "LEVEL" 4
  can : IntC mg "CAN" 5
  nearest : IntC mg "NEAREST" 6
  change : IntC mg "CHANGE" 7
  do_ : IntC mg "DO" 8
  only : IntC mg "ONLY" 9
  noBoard : IntC mg "NO_SUCH_BOARD" (-1)
  noSaw : IntC mg "NO_SEESAW" (-9)
/-- a board that may be built -/
def Good (k : Nat) (ws : List Nat) : Prop := (1 ≤ k ∧ k ≤ 4) ∧ (1 ≤ ws.length ∧ ws.length ≤ 5 ∧ ws.length ≤ 2 * k) ∧ ∀ w ∈ ws, 1 ≤ w ∧ w ≤ 60
instance (k : Nat) (ws : List Nat) : Decidable (Good k ws) := inferInstanceAs (Decidable (_ ∧ _))
def tips (t : Int) : List Int := [if t = 0 then 0 else if t < 0 then 1 else 2, (t.natAbs : Int)]
theorem told_tips (b : Mu46.Board) (s : Mu46.Sitting) : Mu46.nums (Mu46.told b s) = tips (Mu46.tip b s) := by
  rw [Mu46.told, tips, Mu46.nums, Mu46.off]
  show [((if Mu46.tip b s = 0 then 0 else if Mu46.tip b s < 0 then 1 else 2 : Nat) : Int), _] = _
  split
  · rfl
  · split <;> rfl
abbrev sBuilt : Stmt := top 20
abbrev sTips : Stmt := top 21
section
variable {P : Program} {w : World} {K : PySem.W.Frag} {mg : Str → Option Value} {base : Heap}
def spBuilt (K : PySem.W.Frag) : Sp := fun vs H Q _ => ∃ (b : Addr) (k : Nat) (ws : List Nat), vs = [.int k, .ref b] ∧ SqL K H b ((cast ws).map V.int) ∧ k ≤ 9 ∧ Q (.bl (decide (Good k ws))) H
theorem scBuilt : FnScope ["side", "weights"] ["side", "weights"] (defScope sBuilt) := ⟨rfl, rfl, rfl, by decide +kernel, rfl, by decide +kernel, by decide +kernel⟩
theorem ok_built {f : Addr} {fd : FuncData} (F : Fun K "can_be_built" "can_be_built" sBuilt f fd) (O : Own mg) (N : Nums mg) : FnOk P w K mg base CX0 1 f fd ["side", "weights"] (spBuilt K) := by
  refine F.ok scBuilt (fun vs H Q E h => ?_) (fun cdv A outer s H vs Q E hr h => ?_)
  · obtain ⟨b, k, ws, rfl, _⟩ := h
    rfl
  · obtain ⟨b, k, ws, rfl, hb, hk, q⟩ := h
    refine ⟨_, pss_cons (ps_if (pt_not (pt_chain op_le op_le pe_int (pv 0) (pe_k N.mostSeats))) (pss_one (ps_ret pe_bl)) pss_nil)
      (pss_cons (ps_if (pt_not (pt_chain op_le op_le pe_int (pe_callB call_len_seq (by rfl) O.len PySem.boot_len (pa_cons (pv 1) pa_nil))
        (pe_callB (call_min2 rfl) (by rfl) O.min PyProof.Rows.boot_min (pa_cons (pe_k N.mostChildren) (pa_cons (pe_op op_mul pe_int (pv 0)) pa_nil))))) (pss_one (ps_ret pe_bl)) pss_nil)
      (pss_one (ps_ret (pe_and (pe_cmpR op_ge (pe_callB (cr_min rfl) (by rfl) O.min PyProof.Rows.boot_min (pa_cons (pv 1) pa_nil)) pe_int (nomark _))
        (pe_one (pe_cmpR op_le (pe_callB (cr_max rfl) (by rfl) O.max PyProof.Rows.boot_max (pa_cons (pv 1) pa_nil)) (pe_k N.mostWeight) (nomark _))))))), ?_⟩
    have q0 : ¬ Good k ws → Q (.bl false) H := fun h => by
      rw [decide_eq_false h] at q
      exact q
    refine ⟨_, rfl, _, _, rfl, rfl, ?_⟩
    refine ⟨_, rfl, ?_⟩
    by_cases h1 : (1 : Int) ≤ (k : Int)
    · refine if_true_of (decide_eq_true h1) ⟨_, _, rfl, rfl, _, rfl, ?_⟩
      by_cases h2 : (k : Int) ≤ 4
      · refine if_false_of (by rw [decide_eq_true h2]; rfl) ?_
        refine ⟨_, rfl, b, _, rfl, .inl hb, _, _, rfl, rfl, _, rfl, ?_⟩
        rw [List.length_map, cast, List.length_map]
        by_cases h3 : (1 : Int) ≤ (ws.length : Int)
        · refine if_true_of (decide_eq_true h3) ?_
          refine ⟨_, rfl, _, _, rfl, rfl, .inl ⟨by decide, by decide⟩, _, _, rfl, _, _, rfl, rfl, _, rfl, ?_⟩
          by_cases h4 : (ws.length : Int) ≤ (if (2 : Int) * k < 5 then (2 : Int) * k else 5)
          · refine if_false_of (by rw [decide_eq_true h4]; rfl) ?_
            have hl : (0 : Nat) < (cast ws).length := by
              rw [cast, List.length_map]
              omega
            refine ⟨_, rfl, b, cast ws, rfl, hb, hl, fun m m1 m2 => ⟨_, _, rfl, rfl, _, rfl, ?_⟩⟩
            obtain ⟨m', hm', rfl⟩ := List.mem_map.mp m1
            by_cases h5 : (1 : Int) ≤ (m' : Int)
            · refine if_true_of (decide_eq_true h5) ?_
              refine ⟨_, rfl, b, cast ws, rfl, hb, hl, fun M M1 M2 => ⟨_, _, rfl, rfl, ?_⟩⟩
              obtain ⟨M', hM', rfl⟩ := List.mem_map.mp M1
              have e : decide ((M' : Int) ≤ 60) = decide (Good k ws) := by
                by_cases h6 : (M' : Int) ≤ 60
                · rw [decide_eq_true h6, decide_eq_true]
                  refine ⟨⟨by omega, by omega⟩, ⟨by omega, ?_, ?_⟩, fun w hw => ?_⟩
                  · split at h4 <;> omega
                  · split at h4 <;> omega
                  · have a1 := m2 (w : Int) (List.mem_map.mpr ⟨w, hw, rfl⟩)
                    have a2 := M2 (w : Int) (List.mem_map.mpr ⟨w, hw, rfl⟩)
                    omega
                · rw [decide_eq_false h6, decide_eq_false]
                  intro g
                  have := (g.2.2 M' hM').2
                  omega
              show Q (.bl (decide ((M' : Int) ≤ 60))) H
              rw [e]
              exact q
            · refine if_false_of (decide_eq_false h5) (q0 fun g => ?_)
              have := (g.2.2 m' hm').1
              omega
          · refine if_true_of (by rw [decide_eq_false h4]; rfl) (q0 fun g => h4 ?_)
            have g1 := g.2.1
            split <;> omega
        · refine if_false_of (decide_eq_false h3) ⟨_, rfl, if_true_of rfl (q0 fun g => ?_)⟩
          have := g.2.1
          omega
      · refine if_true_of (by rw [decide_eq_false h2]; rfl) (q0 fun g => ?_)
        have := g.1
        omega
    · refine if_false_of (decide_eq_false h1) ⟨_, rfl, if_true_of rfl (q0 fun g => ?_)⟩
      have := g.1
      omega
def spTips : Sp := fun vs H Q _ => ∃ (t : Int), vs = [.int t] ∧ ∀ H' p, NewL H H' p (tips t) → Q (.ref p) H'
theorem scTips : FnScope ["tilt"] ["tilt"] (defScope sTips) := ⟨rfl, rfl, rfl, by decide +kernel, rfl, by decide +kernel, by decide +kernel⟩
theorem ok_tips {f : Addr} {fd : FuncData} (F : Fun K "how_it_tips" "how_it_tips" sTips f fd) (N : Nums mg) : FnOk P w K mg base CX0 1 f fd ["tilt"] spTips := by
  refine F.ok scTips (fun vs H Q E h => ?_) (fun cdv A outer s H vs Q E hr h => ?_)
  · obtain ⟨t, rfl, _⟩ := h
    rfl
  · obtain ⟨t, rfl, q⟩ := h
    refine ⟨_, pss_cons (ps_if (pt_cmpR op_lt (pv 0) pe_int (nomark _)) (pss_one (ps_ret (pe_lst (pa_cons (pe_k N.left) (pa_cons (pe_un un_neg (pv 0)) pa_nil))))) pss_nil)
      (pss_cons (ps_if (pt_cmpR op_gt (pv 0) pe_int (nomark _)) (pss_one (ps_ret (pe_lst (pa_cons (pe_k N.right) (pa_cons (pv 0) pa_nil))))) pss_nil)
      (pss_one (ps_ret (pe_lst (pa_cons (pe_k N.bal) (pa_cons pe_int pa_nil)))))), ?_⟩
    refine ⟨_, rfl, _, _, rfl, rfl, _, rfl, ?_⟩
    by_cases h1 : t < 0
    · refine if_true_of (decide_eq_true h1) ?_
      refine ⟨_, rfl, _, rfl, (by show 2 ≤ sizeLine; decide), fun p hp => q _ p ⟨Same.new hp, hp, ?_⟩⟩
      rw [upd_same, tips, if_neg (by omega), if_pos h1, show (t.natAbs : Int) = -t by omega]
      rfl
    · refine if_false_of (decide_eq_false h1) ?_
      refine ⟨_, rfl, _, _, rfl, rfl, _, rfl, ?_⟩
      by_cases h2 : 0 < t
      · refine if_true_of (decide_eq_true h2) ?_
        refine ⟨_, rfl, (by show 2 ≤ sizeLine; decide), fun p hp => q _ p ⟨Same.new hp, hp, ?_⟩⟩
        rw [upd_same, tips, if_neg (by omega), if_neg h1, show (t.natAbs : Int) = t by omega]
        rfl
      · refine if_false_of (decide_eq_false h2) ?_
        refine ⟨(by show 2 ≤ sizeLine; decide), fun p hp => q _ p ⟨Same.new hp, hp, ?_⟩⟩
        have e : t = 0 := by omega
        rw [upd_same, e]
        rfl
end
end Tb

set_option Elab.async false
set_option linter.unusedVariables false
set_option maxRecDepth 100000
set_option maxHeartbeats 2000000
namespace Tb
open PySem PySem.Spec PyProof.Rows L2
open C8 (Cal Met Mak pe_c pe_mt pe_mt0 pe_mk)
/-! ### the seesaw: its board, who sits where -/
structure M where
  k : Nat
  ws : List Nat
  ps : List (Option Nat)
def optV : Option Nat → V
  | none => .non
  | some x => .int (x : Int)
def absM (m : M) : Mu46.State := ⟨⟨m.k, m.ws⟩, sitsFrom 0 m.ps⟩
structure Ok (m : M) : Prop where
  good : Good m.k m.ws
  len : m.ps.length = m.ws.length
  low : ∀ x, some x ∈ m.ps → x < 2 * m.k
def sawF (k : Nat) (a b p : Addr) : List (Str × V) := [("side", .int (k : Int)), ("arms", .ref a), ("weights", .ref b), ("places", .ref p)]
theorem lk_here {k : Str} {v : V} {r : List (Str × V)} : List.lookup k ((k, v) :: r) = some v := by
  have e : (k == k) = true := beq_self_eq_true k
  simp only [List.lookup, e]
theorem lk_past {k g : Str} {v : V} {r : List (Str × V)} (h : (k == g) = false) : List.lookup k ((g, v) :: r) = List.lookup k r := by
  simp only [List.lookup, h]
theorem put_here {f : Str} {v x : V} {r : List (Str × V)} : putF f v ((f, x) :: r) = (f, v) :: r := if_pos rfl
theorem put_past {f g : Str} {v x : V} {r : List (Str × V)} (h : ¬ g = f) : putF f v ((g, x) :: r) = (g, x) :: putF f v r := if_neg h
theorem sawF_side {k : Nat} (a b p : Addr) : (sawF k a b p).lookup ("side" : Str) = some (.int (k : Int)) := lk_here
theorem sawF_arms {k : Nat} (a b p : Addr) : (sawF k a b p).lookup ("arms" : Str) = some (.ref a) := (lk_past (by decide +kernel)).trans lk_here
theorem sawF_weights {k : Nat} (a b p : Addr) : (sawF k a b p).lookup ("weights" : Str) = some (.ref b) := (lk_past (by decide +kernel)).trans ((lk_past (by decide +kernel)).trans lk_here)
theorem sawF_places {k : Nat} (a b p : Addr) : (sawF k a b p).lookup ("places" : Str) = some (.ref p) := (lk_past (by decide +kernel)).trans ((lk_past (by decide +kernel)).trans ((lk_past (by decide +kernel)).trans lk_here))
theorem sawF_no {k : Nat} {a b p : Addr} {x : Str} (h1 : (x == ("arms" : Str)) = false) (h2 : (x == ("weights" : Str)) = false) (h3 : (x == ("places" : Str)) = false) (h0 : (x == ("side" : Str)) = false := by decide +kernel) : (sawF k a b p).lookup x = none :=
  (lk_past h0).trans ((lk_past h1).trans ((lk_past h2).trans ((lk_past h3).trans rfl)))
def sideF (k : Nat) : List (Str × V) := [(("side" : Str), V.int (k : Int))]
theorem sawF_new (k : Nat) (a b p : Addr) : putF "places" (.ref p) (putF "weights" (.ref b) (putF "arms" (.ref a) (sideF k))) = sawF k a b p := by
  have e1 : putF ("arms" : Str) (.ref a) (sideF k) = [(("side" : Str), V.int (k : Int)), (("arms" : Str), V.ref a)] := put_past (by decide +kernel)
  have e2 : putF ("weights" : Str) (.ref b) [(("side" : Str), V.int (k : Int)), (("arms" : Str), V.ref a)] = [(("side" : Str), V.int (k : Int)), (("arms" : Str), V.ref a), (("weights" : Str), V.ref b)] := (put_past (by decide +kernel)).trans (congrArg _ (put_past (by decide +kernel)))
  have e3 : putF ("places" : Str) (.ref p) [(("side" : Str), V.int (k : Int)), (("arms" : Str), V.ref a), (("weights" : Str), V.ref b)] = sawF k a b p := (put_past (by decide +kernel)).trans (congrArg _ ((put_past (by decide +kernel)).trans (congrArg _ (put_past (by decide +kernel)))))
  rw [e1, e2, e3]
/-- all but what is at s stands as it was -/
def But (s : Addr) (H H' : Hp) : Prop := ∀ b o, H b = some o → b ≠ s → H' b = some o
theorem But.of {s : Addr} {H H' : Hp} (h : Same H H') : But s H H' := fun b o e _ => h b o e
theorem But.trans {s : Addr} {H H1 H2 : Hp} (h : But s H H1) (g : But s H1 H2) : But s H H2 := fun b o e n => g b o (h b o e n) n
theorem But.put {s : Addr} {H : Hp} {o : HO} : But s H (upd H s o) := fun b u e n => by
  rw [upd_ne n]
  exact e
theorem But.seq {K : PySem.W.Frag} {s b C dx : Addr} {fs : List (Str × V)} {H H' : Hp} {xs : List V} (h : But s H H') (hs : H s = some (.ins C dx fs)) (q : SqL K H b xs) : SqL K H' b xs := by
  rcases q with (q | ⟨o, q⟩) | q
  · exact .inl (.inl (h _ _ q (ne_of q hs (by intro z; cases z))))
  · exact .inl (.inr ⟨o, h _ _ q (ne_of q hs (by intro z; cases z))⟩)
  · exact .inr q
structure SawAt' (C : Addr) (H : Hp) (s p a b dx : Addr) (m : M) : Prop where
  at_ : H s = some (.ins C dx (sawF m.k a b p))
  arms : H a = some (.lst ((arms m.k).map V.int))
  ws : H b = some (.lst ((cast m.ws).map V.int))
  ps : H p = some (.lst (m.ps.map optV))
  nap : a ≠ p
  nbp : b ≠ p
/-- where a seesaw's lists are -/
structure Ad where
  p : Addr
  a : Addr
  b : Addr
def SawAt (C : Addr) (H : Hp) (s : Addr) (d : Ad) (m : M) : Prop := ∃ dx, SawAt' C H s d.p d.a d.b dx m
/-- each list is what it was, or new -/
def Ad.Fr (H : Hp) (d d' : Ad) : Prop := (d'.p = d.p ∨ H d'.p = none) ∧ (d'.a = d.a ∨ H d'.a = none) ∧ (d'.b = d.b ∨ H d'.b = none)
theorem Ad.Fr.refl {H : Hp} {d : Ad} : Ad.Fr H d d := ⟨.inl rfl, .inl rfl, .inl rfl⟩
theorem SawAt.same {C : Addr} {H H' : Hp} {s : Addr} {p : Ad} {m : M} (h : SawAt C H s p m) (e : Same H H') : SawAt C H' s p m := by
  obtain ⟨dx, h⟩ := h
  exact ⟨dx, e _ _ h.at_, e _ _ h.arms, e _ _ h.ws, e _ _ h.ps, h.nap, h.nbp⟩
/-- behind a call all stands as it was but the seesaw and its places -/
def Moved (H H' : Hp) (s p : Addr) : Prop := ∀ b o, H b = some o → b ≠ p → b ≠ s → H' b = some o
theorem Moved.of {H H' : Hp} {s p : Addr} (h : Same H H') : Moved H H' s p := fun b o e _ _ => h b o e
/-- what follows a call: the seesaw and the answer are the specification's -/
def Did (C : Addr) (H : Hp) (s : Addr) (p : Ad) (m : M) (c : Mu46.Call) (Q : VK) : Prop := ∀ (H' : Hp) (r : Addr) (p' : Ad) (m' : M), Moved H H' s p.p → Ad.Fr H p p' → SawAt C H' s p' m' → Ok m' →
  some (absM m') = (Mu46.step (some (absM m)) c).1 → H r = none → H' r = some (.lst ((Mu46.step (some (absM m)) c).2.map V.int)) → Q (.ref r) H'
theorem Did.read {C : Addr} {H H' : Hp} {s r : Addr} {p : Ad} {m : M} {c : Mu46.Call} {Q : VK} {l : List Int} (d : Did C H s p m c Q) (h : SawAt C H s p m) (g : Ok m) (n : NewL H H' r l) (e : Mu46.step (some (absM m)) c = (some (absM m), l)) : Q (.ref r) H' :=
  d H' r p m (.of n.1) Ad.Fr.refl (h.same n.1) g (by rw [e]) n.2.1 (by rw [e]; exact n.2.2)
structure SawTxt (K : PySem.W.Frag) (C : Addr) : Prop where
  cl : Cls K C
  nSd : NoAttr K C "side"
  nA : NoAttr K C "arms"
  nW : NoAttr K C "weights"
  nP : NoAttr K C "places"
abbrev cSaw : Stmt := top 22
abbrev sInitS : Stmt := inClass cSaw 0
abbrev sHasC : Stmt := inClass cSaw 1
abbrev sHasS : Stmt := inClass cSaw 2
abbrev sSeated : Stmt := inClass cSaw 3
abbrev sNow : Stmt := inClass cSaw 4
abbrev sWays : Stmt := inClass cSaw 5
abbrev sSit : Stmt := inClass cSaw 6
abbrev sUp : Stmt := inClass cSaw 7
abbrev sTip : Stmt := inClass cSaw 8
abbrev sLevel : Stmt := inClass cSaw 9
abbrev sCan : Stmt := inClass cSaw 10
abbrev sNear : Stmt := inClass cSaw 11
abbrev sChange : Stmt := inClass cSaw 12
abbrev sDo : Stmt := inClass cSaw 13
abbrev sOnly : Stmt := inClass cSaw 14
abbrev sLook : Stmt := inClass cSaw 15
section
variable {P : Program} {w : World} {K : PySem.W.Frag} {mg : Str → Option Value} {base : Heap} {C : Addr}
/-! ### __init__ -/
def spInitS (K : PySem.W.Frag) (C : Addr) : Sp := fun vs H Q _ => ∃ (s dx b : Addr) (k : Nat) (ws : List Nat), vs = [.ref s, .int k, .ref b] ∧ H s = some (.ins C dx []) ∧ SqL K H b ((cast ws).map V.int) ∧ Good k ws ∧
  ∀ (H' : Hp) (p : Ad), (∀ b o, H b = some o → b ≠ s → H' b = some o) → (H p.p = none ∧ H p.a = none ∧ H p.b = none) → SawAt C H' s p ⟨k, ws, ws.map fun _ => none⟩ → Q .non H'
abbrev nInitS : List Str := ["self", "side", "weights", "weight"]
theorem scInitS : FnScope nInitS ["self", "side", "weights"] (defScope sInitS) := ⟨rfl, rfl, rfl, by decide +kernel, rfl, by decide +kernel, by decide +kernel⟩
theorem ok_initS {f : Addr} {fd : FuncData} (F : Fun K "__init__" "Seesaw.__init__" sInitS f fd) (T : SawTxt K C) (O : Own mg) (c : Cal P w K mg base 1 "arms_of" spArms []) : FnOk P w K mg base CX0 2 f fd ["self", "side", "weights"] (spInitS K C) := by
  refine F.ok scInitS (fun vs H Q E h => ?_) (fun cdv A outer s H vs Q E hr h => ?_)
  · obtain ⟨_, _, _, _, _, rfl, _⟩ := h
    rfl
  · obtain ⟨s, dx, b, k, ws, rfl, hs, hb, hg, q⟩ := h
    refine ⟨_, pss_cons (ps_fld (pv 0) (pv 1) rfl)
      (pss_cons (ps_fld (pv 0) (pe_c c hr (Nat.le_refl _) rfl (pa_cons (pv 1) pa_nil)) rfl)
      (pss_cons (ps_fld (pv 0) (pe_callTy call_list_of (by rfl) O.list PyProof.Rows.boot_list (pa_cons (pv 2) pa_nil)) rfl)
      (pss_one (ps_fld (pv 0) (pe_lc (own := [("weight", 3)]) (g := gName 3) (tt := tYes) rfl scInitS.nd (pi_list (pv 2)) (blkOk_by (N := nInitS) (sc := defScope sInitS) (by decide +kernel))
        (fun _ _ _ _ _ => pg_name (i := 3) scInitS.nd rfl (Or.inl rfl)) (fun _ _ _ _ _ => pts_nil) (fun _ _ _ _ _ => pe_non)) rfl)))), ?_⟩
    have hk := hg.1
    refine ⟨_, rfl, _, rfl, s, C, dx, _, rfl, hs, T.cl, T.nSd, (by show 0 < 1000; decide), ?_⟩
    have hs0 : upd H s (.ins C dx (putF "side" (.int (k : Int)) [])) s = some (.ins C dx (sideF k)) := upd_same
    have t0 := But.put (s := s) (H := H) (o := .ins C dx (putF "side" (.int (k : Int)) []))
    generalize upd H s (.ins C dx (putF "side" (.int (k : Int)) [])) = H0 at hs0 t0
    have back : ∀ {x : Addr}, H0 x = none → H x = none := fun {x} e => by
      cases e0 : H x with
      | none => rfl
      | some o =>
        by_cases c : x = s
        · rw [c, hs0] at e
          cases e
        · rw [t0 _ _ e0 c] at e
          cases e
    have hb0 := t0.seq hs hb
    refine ⟨_, rfl, k, rfl, hk.2, fun H1 a ⟨s1, na, ha⟩ => ?_⟩
    have hs1 := s1 _ _ hs0
    refine ⟨_, rfl, s, C, dx, _, rfl, hs1, T.cl, T.nA, (by show 1 < 1000; decide), ?_⟩
    have t2 := But.put (s := s) (H := H1) (o := .ins C dx (putF "arms" (.ref a) (sideF k)))
    have t12 := (But.of (s := s) s1).trans t2
    refine ⟨_, rfl, b, _, rfl, .inl (t12.seq hs0 hb0), fun l hl => ?_⟩
    have s3 := Same.new (o := .lst ((cast ws).map V.int)) hl
    have hs3 := s3 _ _ (upd_same (H := H1) (a := s) (o := .ins C dx (putF "arms" (.ref a) (sideF k))))
    refine ⟨_, rfl, s, C, dx, _, rfl, hs3, T.cl, T.nW, (by show 2 < 1000; decide), ?_⟩
    have nas : a ≠ s := fun e => by
      rw [e, hs0] at na
      cases na
    have nls : l ≠ s := fun e => by
      rw [e, upd_same] at hl
      cases hl
    have t13 := t12.trans ((But.of (s := s) s3).trans But.put (H2 := upd (upd (upd H1 s (.ins C dx (putF "arms" (.ref a) (sideF k)))) l (.lst ((cast ws).map V.int))) s (.ins C dx (putF "weights" (.ref l) (putF "arms" (.ref a) (sideF k))))))
    have ha3 : upd (upd (upd H1 s (.ins C dx (putF "arms" (.ref a) (sideF k)))) l (.lst ((cast ws).map V.int))) s (.ins C dx (putF "weights" (.ref l) (putF "arms" (.ref a) (sideF k)))) a = some (.lst ((arms k).map V.int)) := by
      rw [upd_ne nas]
      refine s3 _ _ ?_
      rw [upd_ne nas]
      exact ha
    have hl3 : upd (upd (upd H1 s (.ins C dx (putF "arms" (.ref a) (sideF k)))) l (.lst ((cast ws).map V.int))) s (.ins C dx (putF "weights" (.ref l) (putF "arms" (.ref a) (sideF k)))) l = some (.lst ((cast ws).map V.int)) := by
      rw [upd_ne nls]
      exact upd_same
    have hs4 : upd (upd (upd H1 s (.ins C dx (putF "arms" (.ref a) (sideF k)))) l (.lst ((cast ws).map V.int))) s (.ins C dx (putF "weights" (.ref l) (putF "arms" (.ref a) (sideF k)))) s = some (.ins C dx (putF "weights" (.ref l) (putF "arms" (.ref a) (sideF k)))) := upd_same
    generalize upd (upd (upd H1 s (.ins C dx (putF "arms" (.ref a) (sideF k)))) l (.lst ((cast ws).map V.int))) s (.ins C dx (putF "weights" (.ref l) (putF "arms" (.ref a) (sideF k)))) = H3 at t13 ha3 hl3 hs4
    have hb3 := t13.seq hs0 hb0
    refine ⟨_, rfl, b, rfl, ⟨_, hb3⟩, fun D hD => ?_⟩
    refine lc_list (K := K) (a := b) (xs := (cast ws).map V.int) (fun i H' => Same H3 H' ∧ H' D = some (.lst (((ws.take i).map fun _ => none).map optV))) ⟨Same.new hD, upd_same⟩
      (fun i H' _ ⟨s5, _⟩ => s5.seq hb3) ?_ ?_
    · rintro i x H4 hi ⟨s4, h4⟩
      obtain ⟨z, hz, rfl⟩ := map_get hi
      obtain ⟨z', hz', rfl⟩ := map_get hz
      refine ⟨rfl, _, h4, ?_, Tb.Same.put s4 hD, ?_⟩
      · rw [List.length_map, List.length_map, List.length_take]
        have b1 := hg.2.1
        have b2 : sizeLine = 16777216 := by decide
        omega
      · rw [upd_same, take_more hz', List.map_append, List.map_append]
        rfl
    · rintro H4 ⟨s4, h4⟩
      refine ⟨_, rfl, s, C, dx, _, rfl, s4 _ _ hs4, T.cl, T.nP, (by show 3 < 1000; decide), ?_⟩
      rw [List.length_map, cast, List.length_map, List.take_length] at h4
      have nDs : D ≠ s := fun e => by
        rw [e, hs4] at hD
        cases hD
      have back3 : ∀ {x : Addr}, H3 x = none → x ≠ s → H x = none := fun {x} e n => by
        cases e0 : H0 x with
        | none => exact back e0
        | some o =>
          rw [t13 _ _ e0 n] at e
          cases e
      have nl : H l = none := by
        cases e : H0 l with
        | none => exact back e
        | some o =>
          rw [t12 _ _ e nls] at hl
          cases hl
      refine q _ ⟨D, a, l⟩ (t0.trans (t13.trans ((But.of s4).trans But.put))) ⟨back3 hD nDs, back na, nl⟩ ⟨dx, ?_, ?_, ?_, ?_, ne_of_none ha3 hD, ne_of_none hl3 hD⟩
      · rw [← sawF_new]
        exact upd_same
      · rw [upd_ne nas]
        exact s4 _ _ ha3
      · rw [upd_ne nls]
        exact s4 _ _ hl3
      · rw [upd_ne nDs]
        exact h4
/-! ### has_child, has_seat -/
def spHasC (C : Addr) : Sp := fun vs H Q _ => ∃ (s : Addr) (p : Ad) (m : M) (c : Nat), vs = [.ref s, .int c] ∧ SawAt C H s p m ∧ Q (.bl (decide (c < m.ws.length))) H
theorem scHasC : FnScope ["self", "child"] ["self", "child"] (defScope sHasC) := ⟨rfl, rfl, rfl, by decide +kernel, rfl, by decide +kernel, by decide +kernel⟩
theorem ok_hasC {f : Addr} {fd : FuncData} (F : Fun K "has_child" "Seesaw.has_child" sHasC f fd) (T : SawTxt K C) (O : Own mg) : FnOk P w K mg base CX0 1 f fd ["self", "child"] (spHasC C) := by
  refine F.ok scHasC (fun vs H Q E h => ?_) (fun cdv A outer s H vs Q E hr h => ?_)
  · obtain ⟨_, _, _, _, rfl, _⟩ := h
    rfl
  · obtain ⟨s, ⟨p, a, b⟩, m, c, rfl, ⟨dx, S⟩, q⟩ := h
    refine ⟨_, pss_one (ps_ret (pe_chain op_le op_lt pe_int (pv 1) (pe_callB call_len_seq (by rfl) O.len PySem.boot_len (pa_cons (pe_fld (pv 0) rfl) pa_nil)))), ?_⟩
    refine ⟨_, rfl, _, _, rfl, rfl, _, rfl, ?_⟩
    refine if_true_of (decide_eq_true (by omega)) ?_
    refine ⟨_, rfl, s, C, dx, _, _, rfl, S.at_, T.cl, T.nW, sawF_weights a b p, b, _, rfl, .inl (SqL.of S.ws), _, _, rfl, rfl, ?_⟩
    rw [List.length_map, cast, List.length_map]
    have e : decide ((c : Int) < (m.ws.length : Int)) = decide (c < m.ws.length) := by
      rw [decide_eq_decide]
      omega
    show Q (.bl (decide ((c : Int) < (m.ws.length : Int)))) H
    rw [e]
    exact q
def spHasS (C : Addr) : Sp := fun vs H Q _ => ∃ (s : Addr) (p : Ad) (m : M) (x : Nat), vs = [.ref s, .int x] ∧ SawAt C H s p m ∧ Q (.bl (decide (x < 2 * m.k))) H
theorem scHasS : FnScope ["self", "seat"] ["self", "seat"] (defScope sHasS) := ⟨rfl, rfl, rfl, by decide +kernel, rfl, by decide +kernel, by decide +kernel⟩
theorem ok_hasS {f : Addr} {fd : FuncData} (F : Fun K "has_seat" "Seesaw.has_seat" sHasS f fd) (T : SawTxt K C) (O : Own mg) : FnOk P w K mg base CX0 1 f fd ["self", "seat"] (spHasS C) := by
  refine F.ok scHasS (fun vs H Q E h => ?_) (fun cdv A outer s H vs Q E hr h => ?_)
  · obtain ⟨_, _, _, _, rfl, _⟩ := h
    rfl
  · obtain ⟨s, ⟨p, a, b⟩, m, x, rfl, ⟨dx, S⟩, q⟩ := h
    refine ⟨_, pss_one (ps_ret (pe_chain op_le op_lt pe_int (pv 1) (pe_callB call_len_seq (by rfl) O.len PySem.boot_len (pa_cons (pe_fld (pv 0) rfl) pa_nil)))), ?_⟩
    refine ⟨_, rfl, _, _, rfl, rfl, _, rfl, ?_⟩
    refine if_true_of (decide_eq_true (by omega)) ?_
    refine ⟨_, rfl, s, C, dx, _, _, rfl, S.at_, T.cl, T.nA, sawF_arms a b p, a, _, rfl, .inl (SqL.of S.arms), _, _, rfl, rfl, ?_⟩
    rw [List.length_map, arms_len]
    have e : decide ((x : Int) < ((2 * m.k : Nat) : Int)) = decide (x < 2 * m.k) := by
      rw [decide_eq_decide]
      omega
    show Q (.bl (decide ((x : Int) < ((2 * m.k : Nat) : Int)))) H
    rw [e]
    exact q
end
end Tb

set_option Elab.async false
set_option linter.unusedVariables false
set_option maxRecDepth 100000
set_option maxHeartbeats 2000000
namespace Tb
open PySem PySem.Spec PyProof.Rows L2
open C8 (Cal Met Mak pe_c pe_mt pe_mt0 pe_mk)
theorem Ok.board {m : M} (g : Ok m) : m.k ≤ 4 ∧ m.ws.length ≤ 5 := ⟨g.good.1.2, g.good.2.1.2.1⟩
theorem cast_get {ws : List Nat} {i : Nat} {z : Int} (h : (cast ws)[i]? = some z) : ∃ n : Nat, ws[i]? = some n ∧ z = (n : Int) := map_get h
theorem Ok.w99 {m : M} (g : Ok m) : ∀ x ∈ cast m.ws, 0 ≤ x ∧ x ≤ 99 := fun x hx => by
  obtain ⟨n, hn, rfl⟩ := List.mem_map.mp hx
  have := g.good.2.2 n hn
  omega
theorem cast_len (ws : List Nat) : (cast ws).length = ws.length := List.length_map _
theorem arms_at {k x : Nat} (h : x < 2 * k) : (arms k)[x]? = some (armAt k x) := by
  rw [arms, List.getElem?_map, List.getElem?_range h]
  rfl
/-- the tilt behind the first children -/
def tiltTo (m : M) (i : Nat) : Int := (((cast m.ws).zip m.ps).take i).foldl (tiltStep (armAt m.k)) 0
theorem tilt_more {m : M} {i : Nat} {w : Nat} {o : Option Nat} (hw : m.ws[i]? = some w) (ho : m.ps[i]? = some o) : tiltTo m (i + 1) = tiltStep (armAt m.k) (tiltTo m i) ((w : Int), o) := by
  have e : ((cast m.ws).zip m.ps)[i]? = some ((w : Int), o) := by
    rw [List.getElem?_zip_eq_some]
    exact ⟨by rw [cast, List.getElem?_map, hw]; rfl, ho⟩
  rw [tiltTo, take_more e, List.foldl_append]
  rfl
theorem tilt_all {m : M} (g : Ok m) : tiltTo m m.ws.length = Mu46.tip ⟨m.k, m.ws⟩ (sitsFrom 0 m.ps) := by
  rw [tiltTo, List.take_of_length_le (by rw [List.length_zip, cast_len, g.len]; omega)]
  exact tip_sits ⟨m.k, m.ws⟩ m.ps g.len
section
variable {P : Program} {w : World} {K : PySem.W.Frag} {mg : Str → Option Value} {base : Heap} {C : Addr}
/-! ### tip -/
def tipOf (m : M) : List Int := tips (Mu46.tip ⟨m.k, m.ws⟩ (sitsFrom 0 m.ps))
def spTip (C : Addr) : Sp := fun vs H Q _ => ∃ (s : Addr) (p : Ad) (m : M), vs = [.ref s] ∧ SawAt C H s p m ∧ Ok m ∧ ∀ H' r, NewL H H' r (tipOf m) → Q (.ref r) H'
theorem scTip : FnScope ["self", "tilt", "weight", "seat"] ["self"] (defScope sTip) := ⟨rfl, rfl, rfl, by decide +kernel, rfl, by decide +kernel, by decide +kernel⟩
theorem ok_tip {f : Addr} {fd : FuncData} (F : Fun K "tip" "Seesaw.tip" sTip f fd) (T : SawTxt K C) (O : Own mg) (c : Cal P w K mg base 1 "how_it_tips" spTips []) : FnOk P w K mg base CX0 2 f fd ["self"] (spTip C) := by
  refine F.ok scTip (fun vs H Q E h => ?_) (fun cdv A outer s H vs Q E hr h => ?_)
  · obtain ⟨_, _, _, rfl, _⟩ := h
    rfl
  · obtain ⟨s, ⟨p, a, b⟩, m, rfl, ⟨dx, S⟩, g, q⟩ := h
    refine ⟨_, pss_cons (ps_set (i := 1) scTip.nd rfl (Or.inl rfl) pe_int)
      (pss_cons (ps_for PassesOwn.never rfl (pi_zip rfl O.zip (pa_cons (pe_fld (pv 0) rfl) (pa_cons (pe_fld (pv 0) rfl) pa_nil)))
        (pg_tup rfl (pgs_cons (pg_name (i := 2) scTip.nd rfl (Or.inl rfl)) (pgs_cons (pg_name (i := 3) scTip.nd rfl (Or.inl rfl)) pgs_nil)))
        (pss_one (ps_if (pt_cmpR op_notN (pv 3) pe_non (nomark _))
          (pss_one (ps_set (i := 1) scTip.nd rfl (Or.inl rfl) (pe_op op_add (pv 1) (pe_op op_mul (pv 2) (pe_ix ix_list (pe_fld (pv 0) rfl) (pv 3) (fun _ _ => rfl))))))
          pss_nil)))
      (pss_one (ps_ret (pe_c c hr (Nat.le_refl _) rfl (pa_cons (pv 1) pa_nil))))), ?_⟩
    refine ⟨_, rfl, s, C, dx, _, _, rfl, S.at_, T.cl, T.nW, sawF_weights a b p, _, rfl, s, C, dx, _, _, rfl, S.at_, T.cl, T.nP, sawF_places a b p, b, p, _, _, rfl, SqL.of S.ws, SqL.of S.ps,
      for_it (walk_zip (K := K) (a := b) (b := p) (xs := (cast m.ws).map V.int) (ys := m.ps.map optV) (n := m.ws.length) (by rw [List.length_map, List.length_map, cast_len, g.len]; omega))
        (fun i σ H' => ∃ v2 v3 : Option V, σ = [some (.ref s), some (.int (tiltTo m i)), v2, v3] ∧ Same H H') ⟨none, none, rfl, Same.refl H⟩
        (fun i σ H' _ ⟨_, _, _, s5⟩ => ⟨SqL.of (s5 _ _ S.ws), SqL.of (s5 _ _ S.ps)⟩) ?_ ?_⟩
    · rintro i x σ H1 H2 hi ⟨v2, v3, rfl, s1⟩ ⟨T0, x1, x2, rfl, nT, rfl, e1, e2⟩
      obtain ⟨z, hz, rfl⟩ := map_get e1
      obtain ⟨w0, hw, rfl⟩ := cast_get hz
      obtain ⟨o, ho, rfl⟩ := map_get e2
      have s2 := s1.trans (Same.new (o := .tup [.int (w0 : Int), optV o]) nT)
      rw [tilt_more hw ho]
      refine ⟨T0, _, rfl, SqT.of upd_same, rfl, _, _, rfl, _, _, rfl, rfl, ?_⟩
      refine ⟨_, rfl, rfl, _, rfl, ?_⟩
      cases o with
      | none => exact if_false_of rfl ⟨_, _, rfl, s2⟩
      | some x =>
        refine if_true_of rfl ?_
        have hx : x < 2 * m.k := g.low x (List.mem_of_getElem? ho)
        have hw9 := g.good.2.2 w0 (List.mem_of_getElem? hw)
        refine ⟨_, rfl, _, rfl, _, rfl, s, C, dx, _, _, rfl, s2 _ _ S.at_, T.cl, T.nA, sawF_arms a b p, _, rfl, a, _, _, _, rfl, rfl, SqL.of (s2 _ _ S.arms),
          atI_nat (by rw [List.getElem?_map, arms_at hx]; rfl), _, _, rfl, rfl, .inl ⟨by omega, by omega⟩, _, _, rfl, rfl, _, _, rfl, s2⟩
    · rintro σ H1 ⟨v2, v3, rfl, s1⟩
      refine ⟨_, rfl, _, rfl, fun H2 r n => q H2 r ⟨s1.trans n.1, s1.free n.2.1, ?_⟩⟩
      rw [tipOf, ← tilt_all g]
      exact n.2.2
/-! ### level -/
theorem getD_at {ws : List Nat} {i n : Nat} (h : ws[i]? = some n) : ws.getD i 0 = n := by
  rw [List.getD_eq_getElem?_getD, h]
  rfl
theorem heavy_all (k : Nat) (ws : List Nat) : (Mu46.children ⟨k, ws⟩).map (heavyI ⟨k, ws⟩) = cast ws := by
  apply List.ext_getElem?
  intro i
  rw [Mu46.children, List.getElem?_map]
  dsimp only
  by_cases h : i < ws.length
  · rw [List.getElem?_range h, cast, List.getElem?_map, List.getElem?_eq_getElem h]
    show some ((ws.getD i 0 : Nat) : Int) = _
    rw [getD_at (List.getElem?_eq_getElem h)]
    rfl
  · rw [List.getElem?_eq_none (by rw [List.length_range]; exact Nat.not_lt.mp h), List.getElem?_eq_none (by rw [cast_len]; omega)]
    rfl
def lv (m : M) : List (List Nat) := levels (2 * m.k) (armAt m.k) (cast m.ws)
theorem lv_len {m : M} {s : List Nat} (h : s ∈ lv m) : s.length = m.ws.length := by
  rw [lv, levels] at h
  rw [ways_len _ _ _ (List.mem_filter.mp h).1, cast_len]
theorem level_all (m : M) : Mu46.level ⟨m.k, m.ws⟩ (Mu46.children ⟨m.k, m.ws⟩) = (lv m).map fun s => (Mu46.children ⟨m.k, m.ws⟩).zip s := by
  rw [level_levels, heavy_all]
  rfl
theorem kids_len (m : M) : (Mu46.children ⟨m.k, m.ws⟩).length = m.ws.length := by
  rw [Mu46.children, List.length_range]
theorem step_level (m : M) : Mu46.step (some (absM m)) .level = (some (absM m), ((lv m).length : Int) :: cast ((lv m).headD [])) := by
  show (some (absM m), Mu46.nums ((Mu46.level ⟨m.k, m.ws⟩ (Mu46.children ⟨m.k, m.ws⟩)).length :: (match Mu46.level ⟨m.k, m.ws⟩ (Mu46.children ⟨m.k, m.ws⟩) with
    | [] => []
    | x :: _ => Mu46.seatsOf x))) = _
  rw [level_all, List.length_map]
  cases e : lv m with
  | nil => rfl
  | cons s l =>
    show (_, ((s :: l).length : Int) :: Mu46.nums (Mu46.seatsOf ((Mu46.children ⟨m.k, m.ws⟩).zip s))) = _
    rw [seats_zip _ _ (by rw [kids_len]; exact lv_len (by rw [e]; exact List.mem_cons_self ..))]
    rfl
theorem laid_of {C : Addr} {H : Hp} {s p a b dx : Addr} {m : M} (K : PySem.W.Frag) (S : SawAt' C H s p a b dx m) (g : Ok m) : Laid K H a b m.k (cast m.ws) :=
  ⟨SqL.of S.arms, SqL.of S.ws, g.board.1, by rw [cast_len]; exact g.board.2, g.w99⟩
def spRead (C : Addr) (c : Mu46.Call) : Sp := fun vs H Q _ => ∃ (s : Addr) (p : Ad) (m : M), vs = [.ref s] ∧ SawAt C H s p m ∧ Ok m ∧ Did C H s p m c Q
theorem scLevel : FnScope ["self", "ways"] ["self"] (defScope sLevel) := ⟨rfl, rfl, rfl, by decide +kernel, rfl, by decide +kernel, by decide +kernel⟩
theorem ways_lt (n : Nat) (arm : Nat → Int) (k : Nat) (hk : k ≤ 4) (ws : List Int) (h : ws.length ≤ 5) : (levels (2 * k) (armAt k) ws).length ≤ 32768 := by
  rw [← sat_levels, List.length_map]
  refine Nat.le_trans (List.length_filter_le _ _) (Nat.le_trans (sat_len hk ws.length ws rfl) ?_)
  exact Nat.le_trans (Nat.pow_le_pow_right (by decide) h) (by decide)
theorem ok_level {f : Addr} {fd : FuncData} (F : Fun K "level" "Seesaw.level" sLevel f fd) (T : SawTxt K C) (O : Own mg) (c : Cal P w K mg base 2 "level_sittings" (spLev K) []) : FnOk P w K mg base CX0 3 f fd ["self"] (spRead C .level) := by
  refine F.ok scLevel (fun vs H Q E h => ?_) (fun cdv A outer s H vs Q E hr h => ?_)
  · obtain ⟨_, _, _, rfl, _⟩ := h
    rfl
  · obtain ⟨s, ⟨p, a, b⟩, m, rfl, ⟨dx, S⟩, g, q⟩ := h
    refine ⟨_, pss_cons (ps_set (i := 1) scLevel.nd rfl (Or.inl rfl) (pe_c c hr (Nat.le_refl _) rfl (pa_cons (pe_fld (pv 0) rfl) (pa_cons (pe_fld (pv 0) rfl) pa_nil))))
      (pss_cons (ps_if (pt_cmpR op_eq (pe_callB call_len_seq (by rfl) O.len PySem.boot_len (pa_cons (pv 1) pa_nil)) pe_int (nomark _)) (pss_one (ps_ret (pe_lst (pa_cons pe_int pa_nil)))) pss_nil)
      (pss_one (ps_ret (pe_op op_cat (pe_lst (pa_cons (pe_callB call_len_seq (by rfl) O.len PySem.boot_len (pa_cons (pv 1) pa_nil)) pa_nil))
        (pe_callTy call_list_of (by rfl) O.list PyProof.Rows.boot_list (pa_cons (pe_ix ix_list (pv 1) pe_int (fun _ _ => rfl)) pa_nil)))))), ?_⟩
    refine ⟨_, rfl, s, C, dx, _, _, rfl, S.at_, T.cl, T.nA, sawF_arms a b p, _, rfl, s, C, dx, _, _, rfl, S.at_, T.cl, T.nW, sawF_weights a b p, a, b, m.k, cast m.ws, rfl, laid_of K S g, fun H1 l s1 nl ⟨us, hl, hus⟩ => ?_⟩
    have W := hus
    have hm : lv m = levels (2 * m.k) (armAt m.k) (cast m.ws) := rfl
    rw [← hm] at hus
    refine ⟨_, rfl, l, _, rfl, .inl (SqL.of hl), rfl, _, rfl, ?_⟩
    rw [List.length_map, hus.len]
    cases e : lv m with
    | nil =>
      refine if_true_of rfl ⟨(by show 1 ≤ sizeLine; decide), fun r hr => ?_⟩
      refine q.read (l := [0]) ⟨dx, S⟩ g ⟨s1.trans (Same.new hr), s1.free hr, upd_same⟩ ?_
      rw [step_level, e]
      rfl
    | cons y ys =>
      refine if_false_of (by show decide (V.int ((ys.length + 1 : Nat) : Int) = V.int 0) = false; rw [decide_eq_false_iff_not]; intro z; injection z with z; omega) ?_
      rw [e] at hus
      have hus' := hus
      cases hus' with
      | @cons u _ us' _ h1 h2 =>
      refine ⟨_, rfl, l, _, rfl, .inl (SqL.of hl), (by show 1 ≤ sizeLine; decide), fun r hr => ?_⟩
      have sr := Same.new (o := .lst [.int (((u :: us').map V.ref).length : Nat)]) hr
      refine ⟨_, rfl, l, _, _, _, rfl, rfl, SqL.of (sr _ _ hl), atI_nat (j := 0) rfl, u, _, rfl, .inr (SqT.of (sr _ _ h1)), fun t ht => ?_⟩
      have st := Same.new (o := .lst (seatV y)) ht
      refine ⟨r, t, _, _, rfl, rfl, st _ _ upd_same, upd_same, ?_, fun v hv => ?_⟩
      · have b1 := lv_len (m := m) (s := y) (by rw [e]; exact List.mem_cons_self ..)
        have b2 := g.board.2
        have b3 : sizeLine = 16777216 := by decide
        show 1 + (seatV y).length ≤ sizeLine
        rw [seatV, List.length_map]
        omega
      · refine q.read ⟨dx, S⟩ g ⟨((s1.trans sr).trans st).trans (Same.new hv), s1.free (sr.free (st.free hv)), ?_⟩ (step_level m)
        rw [upd_same, e, List.length_map, hus.len]
        show some (HO.lst (V.int _ :: seatV y)) = some (HO.lst (V.int _ :: (cast y).map V.int))
        rw [seatV, cast, List.map_map]
        rfl
end
end Tb

set_option Elab.async false
set_option linter.unusedVariables false
set_option maxRecDepth 100000
set_option maxHeartbeats 2000000
namespace Tb
open PySem PySem.Spec PyProof.Rows L2
open C8 (Cal Met Mak pe_c pe_mt pe_mt0 pe_mk)
theorem seat_zip : ∀ (s : List Nat) (n i c : Nat), s.length = n → Mu46.seatOf ((List.range' i n).zip s) (i + c) = s[c]?
  | [], n, i, c, h => by
    rw [List.zip_nil_right]
    rfl
  | x :: s, 0, i, c, h => by cases h
  | x :: s, n + 1, i, 0, h => by
    rw [List.range'_succ, List.zip_cons_cons, Mu46.seatOf, List.find?_cons_of_pos (by exact beq_self_eq_true i)]
    rfl
  | x :: s, n + 1, i, c + 1, h => by
    rw [List.range'_succ, List.zip_cons_cons, Mu46.seatOf, List.find?_cons_of_neg (by intro q; have := eq_of_beq q; dsimp only at this; omega)]
    have ih := seat_zip s n (i + 1) c (Nat.succ.inj h)
    rw [Mu46.seatOf, show i + 1 + c = i + (c + 1) by omega] at ih
    exact ih
theorem seat_kids {m : M} {s : List Nat} (h : s ∈ lv m) (c : Nat) : Mu46.seatOf ((Mu46.children ⟨m.k, m.ws⟩).zip s) c = s[c]? := by
  rw [Mu46.children, List.range_eq_range', ← seat_zip s m.ws.length 0 c (lv_len h), Nat.zero_add]
def canOf (m : M) (c x : Nat) : List (List Nat) := (lv m).filter fun s => s[c]? == some x
theorem can_all (m : M) (c x : Nat) : ((Mu46.level ⟨m.k, m.ws⟩ (Mu46.children ⟨m.k, m.ws⟩)).filter fun t => Mu46.seatOf t c == some x).length = (canOf m c x).length := by
  rw [level_all, List.filter_map, List.length_map, canOf]
  congr 1
  apply List.filter_congr
  intro s hs
  show (Mu46.seatOf ((Mu46.children ⟨m.k, m.ws⟩).zip s) c == some x) = _
  rw [seat_kids hs]
theorem step_can (m : M) (c x : Nat) : Mu46.step (some (absM m)) (.can c x) = (some (absM m), if m.ws.length ≤ c then [-2] else if 2 * m.k ≤ x then [-1] else [((canOf m c x).length : Int)]) := by
  show (some (absM m), if m.ws.length ≤ c then [-2] else if 2 * m.k ≤ x then [-1] else [(((Mu46.level ⟨m.k, m.ws⟩ (Mu46.children ⟨m.k, m.ws⟩)).filter fun t => Mu46.seatOf t c == some x).length : Int)]) = _
  rw [can_all]
theorem inV_opt (x : Nat) : ∀ (l : List (Option Nat)), inV (V.int (x : Int)) (l.map optV) = l.contains (some x)
  | [] => rfl
  | none :: l => by
    have ih := inV_opt x l
    show (eqV V.non (V.int (x : Int)) || inV (V.int (x : Int)) (l.map optV)) = _
    rw [ih, List.contains_cons]
    rfl
  | some a :: l => by
    have ih := inV_opt x l
    show (eqV (V.int (a : Int)) (V.int (x : Int)) || inV (V.int (x : Int)) (l.map optV)) = _
    rw [ih, List.contains_cons]
    congr 1
    show ((a : Int) == (x : Int)) = ((x : Nat) == a)
    rw [Bool.eq_iff_iff, beq_iff_eq, beq_iff_eq]
    omega
theorem flat_opt : ∀ (l : List (Option Nat)), (l.map optV).all flatV = true
  | [] => rfl
  | o :: l => by
    show (flatV (optV o) && (l.map optV).all flatV) = true
    rw [flat_opt l]
    cases o <;> rfl
theorem step_sit (m : M) (c x : Nat) : Mu46.step (some (absM m)) (.sit c x) = (if m.ws.length ≤ c then (some (absM m), [-2]) else if 2 * m.k ≤ x then (some (absM m), [-1]) else if (m.ps.getD c none).isSome = true then (some (absM m), [-3])
    else if m.ps.contains (some x) = true then (some (absM m), [-4]) else (some ⟨⟨m.k, m.ws⟩, Mu46.enter c x (sitsFrom 0 m.ps)⟩, tips (Mu46.tip ⟨m.k, m.ws⟩ (Mu46.enter c x (sitsFrom 0 m.ps))))) := by
  have e1 := seat_at m.ps 0 c
  rw [Nat.zero_add] at e1
  have e2 := taken_at m.ps 0 x
  rw [← e1, ← e2, ← told_tips]
  rfl
theorem step_up (m : M) (c : Nat) : Mu46.step (some (absM m)) (.up c) = (if m.ws.length ≤ c then (some (absM m), [-2]) else (match m.ps.getD c none with
    | none => (some (absM m), [-3])
    | some x => (some ⟨⟨m.k, m.ws⟩, sitsFrom 0 (m.ps.set c none)⟩, [(x : Int)]))) := by
  have e1 := seat_at m.ps 0 c
  have e2 := leave_at m.ps 0 c
  rw [Nat.zero_add] at e1 e2
  rw [← e1, ← e2]
  rfl
theorem opt_at {m : M} {c : Nat} (g : Ok m) (h : c < m.ws.length) : m.ps[c]? = some (m.ps.getD c none) := by
  rw [List.getD_eq_getElem?_getD, List.getElem?_eq_getElem (by rw [g.len]; exact h)]
  rfl
section
variable {P : Program} {w : World} {K : PySem.W.Frag} {mg : Str → Option Value} {base : Heap} {C : Addr}
/-! ### can -/
def spCan (C : Addr) : Sp := fun vs H Q _ => ∃ (s : Addr) (p : Ad) (m : M) (c x : Nat), vs = [.ref s, .int c, .int x] ∧ SawAt C H s p m ∧ Ok m ∧ Did C H s p m (.can c x) Q
abbrev nCan : List Str := ["self", "child", "seat", "ways", "way"]
theorem scCan : FnScope nCan ["self", "child", "seat"] (defScope sCan) := ⟨rfl, rfl, rfl, by decide +kernel, rfl, by decide +kernel, by decide +kernel⟩
theorem ok_can {f : Addr} {fd : FuncData} (F : Fun K "can" "Seesaw.can" sCan f fd) (T : SawTxt K C) (O : Own mg) (N : Nums mg) (c1 : Met P w K mg base 1 C "has_child" (spHasC C) []) (c2 : Met P w K mg base 1 C "has_seat" (spHasS C) [])
    (c3 : Cal P w K mg base 2 "level_sittings" (spLev K) []) : FnOk P w K mg base CX0 3 f fd ["self", "child", "seat"] (spCan C) := by
  refine F.ok scCan (fun vs H Q E h => ?_) (fun cdv A outer s H vs Q E hr h => ?_)
  · obtain ⟨_, _, _, _, _, rfl, _⟩ := h
    rfl
  · obtain ⟨s, ⟨p, a, b⟩, m, c, x, rfl, SA, g, q⟩ := h
    have SA' := SA
    obtain ⟨dx, S⟩ := SA
    refine ⟨_, pss_cons (ps_if (pt_not (pt_val (pe_mt c1 hr (by decide) (pv 0) (pa_cons (pv 1) pa_nil)))) (pss_one (ps_ret (pe_lst (pa_cons (pe_k N.noChild) pa_nil)))) pss_nil)
      (pss_cons (ps_if (pt_not (pt_val (pe_mt c2 hr (by decide) (pv 0) (pa_cons (pv 2) pa_nil)))) (pss_one (ps_ret (pe_lst (pa_cons (pe_k N.noSeat) pa_nil)))) pss_nil)
      (pss_cons (ps_set (i := 3) scCan.nd rfl (Or.inl rfl) (pe_c c3 hr (Nat.le_refl _) rfl (pa_cons (pe_fld (pv 0) rfl) (pa_cons (pe_fld (pv 0) rfl) pa_nil))))
      (pss_one (ps_ret (pe_lst (pa_cons (pe_callB call_len_seq (by rfl) O.len PySem.boot_len (pa_cons
        (pe_lc (own := [("way", 4)]) (g := gName 4) (tt := tTest (tOp rEq (tOp (rIxT K) (tVar 4) (tVar 1)) (tVar 2))) rfl scCan.nd (pi_list (pv 3)) (blkOk_by (N := nCan) (sc := defScope sCan) (by decide +kernel))
          (fun _ _ _ _ _ => pg_name (i := 4) scCan.nd rfl (Or.inl rfl)) (fun _ _ _ _ _ => pts_one (pt_cmpR op_eq (pe_ix ix_tup (pv 4) (pv 1) (fun _ _ => rfl)) (pv 2) (nomark _))) (fun _ _ _ _ _ => pv 4))
        pa_nil)) pa_nil)))))), ?_⟩
    have st := step_can m c x
    refine ⟨_, rfl, s, dx, _, rfl, S.at_, sawF_no (by decide +kernel) (by decide +kernel) (by decide +kernel), _, rfl, s, ⟨p, a, b⟩, m, c, rfl, SA', _, rfl, ?_⟩
    by_cases h1 : c < m.ws.length
    · refine if_false_of (by rw [decide_eq_true h1]; rfl) ?_
      rw [if_neg (by omega)] at st
      refine ⟨_, rfl, s, dx, _, rfl, S.at_, sawF_no (by decide +kernel) (by decide +kernel) (by decide +kernel), _, rfl, s, ⟨p, a, b⟩, m, x, rfl, SA', _, rfl, ?_⟩
      by_cases h2 : x < 2 * m.k
      · refine if_false_of (by rw [decide_eq_true h2]; rfl) ?_
        rw [if_neg (by omega)] at st
        refine ⟨_, rfl, s, C, dx, _, _, rfl, S.at_, T.cl, T.nA, sawF_arms a b p, _, rfl, s, C, dx, _, _, rfl, S.at_, T.cl, T.nW, sawF_weights a b p, a, b, m.k, cast m.ws, rfl, laid_of K S g, fun H1 l s1 nl ⟨us, hl, hus⟩ => ?_⟩
        have hm : lv m = levels (2 * m.k) (armAt m.k) (cast m.ws) := rfl
        have hlen := ways_lt 0 (armAt m.k) m.k g.board.1 (cast m.ws) (by rw [cast_len]; exact g.board.2)
        rw [← hm] at hus hlen
        have hln : ∀ y ∈ lv m, y.length = m.ws.length := fun y hy => lv_len hy
        rw [canOf] at st
        generalize lv m = f at hus hlen hln st
        refine ⟨_, rfl, l, rfl, ⟨_, SqL.of hl⟩, fun D hD => ?_⟩
        refine lc_list (K := K) (a := l) (xs := us.map V.ref) (fun i H' => Same H1 H' ∧ WaysAt H' D ((f.take i).filter fun s => s[c]? == some x)) ⟨Same.new hD, [], upd_same, .nil⟩
          (fun i H' _ ⟨s5, _⟩ => SqL.of (s5 _ _ hl)) ?_ ?_
        · rintro i y0 H2 hi ⟨s2, W2⟩
          obtain ⟨u, hu, rfl⟩ := map_get hi
          obtain ⟨y, hy, hyu⟩ := hus.at hu
          have hyl := hln y (List.mem_of_getElem? hy)
          have hc : c < y.length := by omega
          refine ⟨rfl, _, rfl, _, rfl, u, _, _, _, rfl, rfl, SqT.of (s2 _ _ hyu), atI_nat (j := c) (by rw [seatV, List.getElem?_map, List.getElem?_eq_getElem hc]; rfl), _, rfl, rfl, _, rfl, ?_⟩
          rw [take_more hy, List.filter_append, List.filter_cons, List.filter_nil, List.getElem?_eq_getElem hc]
          by_cases c0 : y[c] = x
          · refine if_true_of (by rw [c0]; exact decide_eq_true rfl) ?_
            rw [if_pos (by rw [c0]; exact beq_self_eq_true _)]
            have W2' := W2
            obtain ⟨us2, hD2, _⟩ := W2'
            refine ⟨_, rfl, _, hD2, ?_, Tb.Same.put s2 hD, W2.push hD2 (s2 _ _ hyu)⟩
            rw [W2.ln hD2]
            have b1 := List.length_filter_le (fun (s : List Nat) => s[c]? == some x) (f.take i)
            rw [List.length_take] at b1
            have b2 : sizeLine = 16777216 := by decide
            omega
          · refine if_false_of (by show decide (V.int (y[c] : Int) = V.int (x : Int)) = false; rw [decide_eq_false_iff_not]; intro z; injection z with z; omega) ?_
            rw [if_neg (fun z => c0 (Option.some.inj (eq_of_beq z))), List.append_nil]
            exact ⟨s2, W2⟩
        · rintro H2 ⟨s2, W2⟩
          rw [List.length_map, hus.len, List.take_length] at W2
          have W2' := W2
          obtain ⟨us2, hD2, _⟩ := W2'
          refine ⟨D, _, rfl, .inl (SqL.of hD2), (by show 1 ≤ sizeLine; decide), fun r hr => ?_⟩
          refine q.read SA' g ⟨(s1.trans s2).trans (Same.new hr), s1.free (s2.free hr), ?_⟩ st
          rw [upd_same, W2.ln hD2]
          rfl
      · refine if_true_of (by rw [decide_eq_false h2]; rfl) ⟨(by show 1 ≤ sizeLine; decide), fun r hr => ?_⟩
        rw [if_pos (by omega)] at st
        exact q.read SA' g ⟨Same.new hr, hr, upd_same⟩ st
    · refine if_true_of (by rw [decide_eq_false h1]; rfl) ⟨(by show 1 ≤ sizeLine; decide), fun r hr => ?_⟩
      rw [if_pos (by omega)] at st
      exact q.read SA' g ⟨Same.new hr, hr, upd_same⟩ st
end
end Tb

set_option Elab.async false
set_option linter.unusedVariables false
set_option maxRecDepth 100000
set_option maxHeartbeats 2000000
namespace Tb
open PySem PySem.Spec PyProof.Rows L2
open C8 (Cal Met Mak pe_c pe_mt pe_mt0 pe_mk)
theorem optV_non {o : Option Nat} : (optV o = V.non) ↔ o = none := by
  cases o with
  | none => exact ⟨fun _ => rfl, fun _ => rfl⟩
  | some x => exact ⟨fun h => (by cases h), fun h => (by cases h)⟩
theorem ix_at {n c : Nat} (h : c < n) : ixN n (c : Int) = some c := by
  rw [ixN, if_pos (by omega), if_pos (by omega), Int.toNat_natCast]
/-- other places -/
def M.put (m : M) (c : Nat) (o : Option Nat) : M := ⟨m.k, m.ws, m.ps.set c o⟩
theorem Ok.put {m : M} (g : Ok m) (c : Nat) (o : Option Nat) (h : ∀ x, o = some x → x < 2 * m.k) : Ok (m.put c o) := by
  refine ⟨g.good, ?_, fun x hx => ?_⟩
  · show (m.ps.set c o).length = _
    rw [List.length_set]
    exact g.len
  · rcases List.mem_or_eq_of_mem_set hx with hx | hx
    · exact g.low x hx
    · exact h x hx.symm
theorem SawAt'.put {C : Addr} {H : Hp} {s p a b dx : Addr} {m : M} (S : SawAt' C H s p a b dx m) (c : Nat) (o : Option Nat) : SawAt C (upd H p (.lst ((m.ps.map optV).set c (optV o)))) s ⟨p, a, b⟩ (m.put c o) := by
  refine ⟨dx, ?_, ?_, ?_, ?_, S.nap, S.nbp⟩
  · rw [upd_ne (ne_of S.at_ S.ps (by intro z; cases z))]
    exact S.at_
  · rw [upd_ne S.nap]
    exact S.arms
  · rw [upd_ne S.nbp]
    exact S.ws
  · rw [upd_same]
    show _ = some (HO.lst ((m.ps.set c o).map optV))
    rw [List.map_set]
theorem Moved.put {H : Hp} {s p : Addr} {o : HO} : Moved H (upd H p o) s p := fun b u e n _ => by
  rw [upd_ne n]
  exact e
theorem Moved.same {H H1 H2 : Hp} {s p : Addr} (h : Moved H H1 s p) (e : Same H1 H2) : Moved H H2 s p := fun b u q n1 n2 => e _ _ (h b u q n1 n2)
section
variable {P : Program} {w : World} {K : PySem.W.Frag} {mg : Str → Option Value} {base : Heap} {C : Addr}
/-! ### sit -/
def spSit (C : Addr) : Sp := fun vs H Q _ => ∃ (s : Addr) (p : Ad) (m : M) (c x : Nat), vs = [.ref s, .int c, .int x] ∧ SawAt C H s p m ∧ Ok m ∧ Did C H s p m (.sit c x) Q
theorem scSit : FnScope ["self", "child", "seat"] ["self", "child", "seat"] (defScope sSit) := ⟨rfl, rfl, rfl, by decide +kernel, rfl, by decide +kernel, by decide +kernel⟩
theorem ok_sit {f : Addr} {fd : FuncData} (F : Fun K "sit" "Seesaw.sit" sSit f fd) (T : SawTxt K C) (O : Own mg) (N : Nums mg) (c1 : Met P w K mg base 1 C "has_child" (spHasC C) []) (c2 : Met P w K mg base 1 C "has_seat" (spHasS C) [])
    (c3 : Met P w K mg base 2 C "tip" (spTip C) []) : FnOk P w K mg base CX0 3 f fd ["self", "child", "seat"] (spSit C) := by
  refine F.ok scSit (fun vs H Q E h => ?_) (fun cdv A outer s H vs Q E hr h => ?_)
  · obtain ⟨_, _, _, _, _, rfl, _⟩ := h
    rfl
  · obtain ⟨s, ⟨p, a, b⟩, m, c, x, rfl, SA, g, q⟩ := h
    have SA' := SA
    obtain ⟨dx, S⟩ := SA
    refine ⟨_, pss_cons (ps_if (pt_not (pt_val (pe_mt c1 hr (by decide) (pv 0) (pa_cons (pv 1) pa_nil)))) (pss_one (ps_ret (pe_lst (pa_cons (pe_k N.noChild) pa_nil)))) pss_nil)
      (pss_cons (ps_if (pt_not (pt_val (pe_mt c2 hr (by decide) (pv 0) (pa_cons (pv 2) pa_nil)))) (pss_one (ps_ret (pe_lst (pa_cons (pe_k N.noSeat) pa_nil)))) pss_nil)
      (pss_cons (ps_if (pt_cmpR op_notN (pe_ix ix_list (pe_fld (pv 0) rfl) (pv 1) (fun _ _ => rfl)) pe_non (nomark _)) (pss_one (ps_ret (pe_lst (pa_cons (pe_k N.sitsAlready) pa_nil)))) pss_nil)
      (pss_cons (ps_if (pt_cmpR op_in_seq (pv 2) (pe_fld (pv 0) rfl) rfl) (pss_one (ps_ret (pe_lst (pa_cons (pe_k N.taken) pa_nil)))) pss_nil)
      (pss_cons (ps_asg (pv 2) (pg_sub (pe_fld (pv 0) rfl) (pv 1) set_list))
      (pss_one (ps_ret (pe_mt0 c3 hr (Nat.le_refl _) (pv 0)))))))), ?_⟩
    have st := step_sit m c x
    refine ⟨_, rfl, s, dx, _, rfl, S.at_, sawF_no (by decide +kernel) (by decide +kernel) (by decide +kernel), _, rfl, s, ⟨p, a, b⟩, m, c, rfl, SA', _, rfl, ?_⟩
    by_cases h1 : c < m.ws.length
    · refine if_false_of (by rw [decide_eq_true h1]; rfl) ?_
      rw [if_neg (by omega)] at st
      refine ⟨_, rfl, s, dx, _, rfl, S.at_, sawF_no (by decide +kernel) (by decide +kernel) (by decide +kernel), _, rfl, s, ⟨p, a, b⟩, m, x, rfl, SA', _, rfl, ?_⟩
      by_cases h2 : x < 2 * m.k
      · refine if_false_of (by rw [decide_eq_true h2]; rfl) ?_
        rw [if_neg (by omega)] at st
        have ho := opt_at g h1
        refine ⟨_, rfl, s, C, dx, _, _, rfl, S.at_, T.cl, T.nP, sawF_places a b p, _, rfl, p, _, _, _, rfl, rfl, SqL.of S.ps, atI_nat (j := c) (by rw [List.getElem?_map, ho]; rfl), rfl, _, rfl, ?_⟩
        cases eo : m.ps.getD c none with
        | some y =>
          rw [eo, if_pos (by rfl)] at st
          refine if_true_of rfl ⟨(by show 1 ≤ sizeLine; decide), fun r hr => ?_⟩
          exact q.read SA' g ⟨Same.new hr, hr, upd_same⟩ st
        | none =>
          rw [eo, if_neg (by decide)] at st
          refine if_false_of rfl ?_
          refine ⟨_, rfl, _, rfl, s, C, dx, _, _, rfl, S.at_, T.cl, T.nP, sawF_places a b p, p, _, rfl, .inl (SqL.of S.ps), rfl, flat_opt _, _, rfl, ?_⟩
          cases ec : m.ps.contains (some x) with
          | true =>
            rw [if_pos ec] at st
            refine if_true_of (by show inV _ _ = true; rw [inV_opt, ec]) ⟨(by show 1 ≤ sizeLine; decide), fun r hr => ?_⟩
            exact q.read SA' g ⟨Same.new hr, hr, upd_same⟩ st
          | false =>
            rw [if_neg (by rw [ec]; decide)] at st
            refine if_false_of (by show inV _ _ = false; rw [inV_opt, ec]) ?_
            have SP := S.put c (some x)
            have gP := g.put c (some x) (fun y e => by cases e; exact h2)
            refine ⟨_, rfl, _, rfl, s, C, dx, _, _, rfl, S.at_, T.cl, T.nP, sawF_places a b p, _, rfl, p, _, _, c, rfl, rfl, S.ps, ix_at (by rw [List.length_map, g.len]; exact h1), ?_⟩
            have SP' := SP
            obtain ⟨dx', S'⟩ := SP'
            refine ⟨_, rfl, s, dx', _, rfl, S'.at_, sawF_no (by decide +kernel) (by decide +kernel) (by decide +kernel), s, ⟨p, a, b⟩, m.put c (some x), rfl, SP, gP, fun H' r n => ?_⟩
            have en := enter_at m.ps 0 c x (by rw [ho, eo])
            rw [Nat.zero_add] at en
            rw [en] at st
            have nrp : r ≠ p := fun e => by
              have e1 := n.2.1
              rw [e, upd_same] at e1
              cases e1
            have fr : H r = none := by
              have e1 := n.2.1
              rw [upd_ne nrp] at e1
              exact e1
            refine q H' r ⟨p, a, b⟩ (m.put c (some x)) (Moved.put.same n.1) Ad.Fr.refl (SP.same n.1) gP (by rw [st]; rfl) fr ?_
            rw [st]
            exact n.2.2
      · refine if_true_of (by rw [decide_eq_false h2]; rfl) ⟨(by show 1 ≤ sizeLine; decide), fun r hr => ?_⟩
        rw [if_pos (by omega)] at st
        exact q.read SA' g ⟨Same.new hr, hr, upd_same⟩ st
    · refine if_true_of (by rw [decide_eq_false h1]; rfl) ⟨(by show 1 ≤ sizeLine; decide), fun r hr => ?_⟩
      rw [if_pos (by omega)] at st
      exact q.read SA' g ⟨Same.new hr, hr, upd_same⟩ st
/-! ### up -/
def spUp (C : Addr) : Sp := fun vs H Q _ => ∃ (s : Addr) (p : Ad) (m : M) (c : Nat), vs = [.ref s, .int c] ∧ SawAt C H s p m ∧ Ok m ∧ Did C H s p m (.up c) Q
theorem scUp : FnScope ["self", "child", "seat"] ["self", "child"] (defScope sUp) := ⟨rfl, rfl, rfl, by decide +kernel, rfl, by decide +kernel, by decide +kernel⟩
theorem ok_up {f : Addr} {fd : FuncData} (F : Fun K "up" "Seesaw.up" sUp f fd) (T : SawTxt K C) (O : Own mg) (N : Nums mg) (c1 : Met P w K mg base 1 C "has_child" (spHasC C) []) : FnOk P w K mg base CX0 2 f fd ["self", "child"] (spUp C) := by
  refine F.ok scUp (fun vs H Q E h => ?_) (fun cdv A outer s H vs Q E hr h => ?_)
  · obtain ⟨_, _, _, _, rfl, _⟩ := h
    rfl
  · obtain ⟨s, ⟨p, a, b⟩, m, c, rfl, SA, g, q⟩ := h
    have SA' := SA
    obtain ⟨dx, S⟩ := SA
    refine ⟨_, pss_cons (ps_if (pt_not (pt_val (pe_mt c1 hr (Nat.le_refl _) (pv 0) (pa_cons (pv 1) pa_nil)))) (pss_one (ps_ret (pe_lst (pa_cons (pe_k N.noChild) pa_nil)))) pss_nil)
      (pss_cons (ps_set (i := 2) scUp.nd rfl (Or.inl rfl) (pe_ix ix_list (pe_fld (pv 0) rfl) (pv 1) (fun _ _ => rfl)))
      (pss_cons (ps_if (pt_cmpR op_isN (pv 2) pe_non (nomark _)) (pss_one (ps_ret (pe_lst (pa_cons (pe_k N.notSit) pa_nil)))) pss_nil)
      (pss_cons (ps_asg pe_non (pg_sub (pe_fld (pv 0) rfl) (pv 1) set_list))
      (pss_one (ps_ret (pe_lst (pa_cons (pv 2) pa_nil))))))), ?_⟩
    have st := step_up m c
    refine ⟨_, rfl, s, dx, _, rfl, S.at_, sawF_no (by decide +kernel) (by decide +kernel) (by decide +kernel), _, rfl, s, ⟨p, a, b⟩, m, c, rfl, SA', _, rfl, ?_⟩
    by_cases h1 : c < m.ws.length
    · refine if_false_of (by rw [decide_eq_true h1]; rfl) ?_
      rw [if_neg (by omega)] at st
      have ho := opt_at g h1
      refine ⟨_, rfl, s, C, dx, _, _, rfl, S.at_, T.cl, T.nP, sawF_places a b p, _, rfl, p, _, _, _, rfl, rfl, SqL.of S.ps, atI_nat (j := c) (by rw [List.getElem?_map, ho]; rfl), ?_⟩
      refine ⟨_, rfl, rfl, _, rfl, ?_⟩
      cases eo : m.ps.getD c none with
      | none =>
        rw [eo] at st
        refine if_true_of rfl ⟨(by show 1 ≤ sizeLine; decide), fun r hr => ?_⟩
        exact q.read SA' g ⟨Same.new hr, hr, upd_same⟩ st
      | some y =>
        rw [eo] at st
        refine if_false_of rfl ?_
        have SP := S.put c none
        have gP := g.put c none (fun y e => by cases e)
        refine ⟨_, rfl, s, C, dx, _, _, rfl, S.at_, T.cl, T.nP, sawF_places a b p, _, rfl, p, _, _, c, rfl, rfl, S.ps, ix_at (by rw [List.length_map, g.len]; exact h1), ?_⟩
        refine ⟨_, rfl, (by show 1 ≤ sizeLine; decide), fun r hr => ?_⟩
        have nrp : r ≠ p := fun e => by
          rw [e, upd_same] at hr
          cases hr
        have fr : H r = none := by
          rw [upd_ne nrp] at hr
          exact hr
        refine q _ r ⟨p, a, b⟩ (m.put c none) (Moved.put.same (Same.new hr)) Ad.Fr.refl (SP.same (Same.new hr)) gP (by rw [st]; rfl) fr ?_
        rw [st]
        exact upd_same
    · refine if_true_of (by rw [decide_eq_false h1]; rfl) ⟨(by show 1 ≤ sizeLine; decide), fun r hr => ?_⟩
      rw [if_pos (by omega)] at st
      exact q.read SA' g ⟨Same.new hr, hr, upd_same⟩ st
end
end Tb

set_option Elab.async false
set_option linter.unusedVariables false
/-! The specification's answers of nearest, change, do, only, look in plain lists. -/
namespace Tb
theorem near_map {α β : Type} (z : α → β) (f : β → Nat) : ∀ (l : List α) (acc : Option (Nat × Nat × α)), (l.map z).foldl (near f) (acc.map fun y => (y.1, y.2.1, z y.2.2)) = (l.foldl (near fun a => f (z a)) acc).map fun y => (y.1, y.2.1, z y.2.2)
  | [], acc => rfl
  | a :: l, acc => by
    rw [List.map_cons, List.foldl_cons, List.foldl_cons, ← near_map z f l]
    congr 1
    cases acc with
    | none => rfl
    | some y =>
      show (if f (z a) < y.1 then some (f (z a), 1, z a) else if f (z a) = y.1 then some (y.1, y.2.1 + 1, z y.2.2) else some (y.1, y.2.1, z y.2.2)) = Option.map _ (if f (z a) < y.1 then some (f (z a), 1, a) else if f (z a) = y.1 then some (y.1, y.2.1 + 1, y.2.2) else some y)
      split
      · rfl
      · split <;> rfl
theorem best_map {α β : Type} (z : α → β) (f : β → Nat) (g : α → Nat) : ∀ (l : List α) (acc : Option (Nat × α)), (∀ a ∈ l, f (z a) = g a) → (l.map z).foldl (best f) (acc.map fun y => (y.1, z y.2)) = (l.foldl (best g) acc).map fun y => (y.1, z y.2)
  | [], acc, _ => rfl
  | a :: l, acc, h => by
    rw [List.map_cons, List.foldl_cons, List.foldl_cons, ← best_map z f g l _ fun b hb => h b (List.mem_cons_of_mem _ hb)]
    congr 1
    have e := h a (List.mem_cons_self ..)
    cases acc with
    | none =>
      show some (f (z a), z a) = some (g a, z a)
      rw [e]
    | some y =>
      show (if f (z a) < y.1 then some (f (z a), z a) else some (y.1, z y.2)) = Option.map _ (if g a < y.1 then some (g a, a) else some y)
      rw [e]
      split <;> rfl
/-- all ways to sit, and how far each tips -/
def wAll (m : M) : List (List Nat) := ways (2 * m.k) [] m.ws.length
def offOf (m : M) (s : List Nat) : Nat := (dot (armAt m.k) (cast m.ws) s).natAbs
theorem wAll_ne {m : M} (g : Ok m) : wAll m ≠ [] := ways_ne _ _ _ (by
  have := g.good.2.1
  rw [List.length_nil]
  omega)
theorem step_nearest {m : M} (g : Ok m) : ∃ (d : Nat) (t : List Nat), Mu46.step (some (absM m)) .nearest = (some (absM m), (d : Int) :: (((wAll m).filter fun s => offOf m s == d).length : Int) :: cast t) ∧
    ((wAll m).filter fun s => offOf m s == d).head? = some t ∧ (∀ s, s ∈ wAll m → d ≤ offOf m s) := by
  have en : Mu46.nearest ⟨m.k, m.ws⟩ (Mu46.children ⟨m.k, m.ws⟩) = ((wAll m).foldl (near (offOf m)) none).map fun y => (y.1, y.2.1, (Mu46.children ⟨m.k, m.ws⟩).zip y.2.2) := by
    have e0 : Mu46.nearest ⟨m.k, m.ws⟩ (Mu46.children ⟨m.k, m.ws⟩) = (Mu46.sittings ⟨m.k, m.ws⟩ (Mu46.children ⟨m.k, m.ws⟩)).foldl (near (Mu46.off ⟨m.k, m.ws⟩)) none := by
      rw [Mu46.nearest]
      congr 1
      funext acc s
      cases acc <;> rfl
    have e1 : (fun s => Mu46.off ⟨m.k, m.ws⟩ ((Mu46.children ⟨m.k, m.ws⟩).zip s)) = offOf m := by
      funext s
      rw [Mu46.off, tip_zip, heavy_all]
      rfl
    have e2 := near_map (fun s => (Mu46.children ⟨m.k, m.ws⟩).zip s) (Mu46.off ⟨m.k, m.ws⟩) (wAll m) none
    rw [e0, sittings_ways, kids_len, ← e1]
    exact e2
  cases hw : wAll m with
  | nil => exact absurd hw (wAll_ne g)
  | cons a l =>
    obtain ⟨d, t, h1, h2, h3, _⟩ := near_all (offOf m) a l
    rw [hw, h1] at en
    refine ⟨d, t, ?_, h2, h3⟩
    show (some (absM m), match Mu46.nearest ⟨m.k, m.ws⟩ (Mu46.children ⟨m.k, m.ws⟩) with
      | none => [-6]
      | some x => Mu46.nums (x.1 :: x.2.1 :: Mu46.seatsOf x.2.2)) = _
    rw [en]
    show (some (absM m), (d : Int) :: _ :: Mu46.nums (Mu46.seatsOf ((Mu46.children ⟨m.k, m.ws⟩).zip t))) = _
    have ht : t ∈ wAll m := by
      rw [hw]
      exact (List.mem_filter.mp (List.mem_of_head? h2)).1
    rw [seats_zip _ _ (by rw [kids_len]; exact ways_len _ _ _ ht)]
    rfl
/-- those that sit now: their weights, the ways in which they balance -/
def wSit (m : M) : List Int := (sitters 0 m.ps).map (heavyI ⟨m.k, m.ws⟩)
def lSit (m : M) : List (List Nat) := levels (2 * m.k) (armAt m.k) (wSit m)
theorem lSit_len {m : M} {s : List Nat} (h : s ∈ lSit m) : s.length = (seatsIn m.ps).length := by
  rw [lSit, levels] at h
  rw [ways_len _ _ _ (List.mem_filter.mp h).1, wSit, List.length_map, seats_len]
theorem change_best (m : M) : Mu46.change ⟨m.k, m.ws⟩ (sitsFrom 0 m.ps) = ((lSit m).foldl (best (moved (seatsIn m.ps))) none).map fun y => (y.1, (sitters 0 m.ps).zip y.2) := by
  have e0 : Mu46.change ⟨m.k, m.ws⟩ (sitsFrom 0 m.ps) = (Mu46.level ⟨m.k, m.ws⟩ ((sitsFrom 0 m.ps).map fun x => x.1)).foldl (best (Mu46.changed (sitsFrom 0 m.ps))) none := by
    rw [Mu46.change]
    congr 1
    funext acc s
    cases acc <;> rfl
  rw [e0, sits_fst, level_levels]
  refine best_map (fun s => (sitters 0 m.ps).zip s) (Mu46.changed (sitsFrom 0 m.ps)) (moved (seatsIn m.ps)) (lSit m) none fun s hs => ?_
  rw [sits_zip, moved_zip _ _ _ (seats_len m.ps 0).symm (by rw [lSit_len hs, seats_len])]
theorem step_change_none {m : M} (h : lSit m = []) : Mu46.step (some (absM m)) .change = (some (absM m), [-6]) ∧ Mu46.step (some (absM m)) .do_ = (some (absM m), [-6]) := by
  have e := change_best m
  rw [h] at e
  constructor
  · show (some (absM m), match Mu46.change ⟨m.k, m.ws⟩ (sitsFrom 0 m.ps) with
      | none => [-6]
      | some x => Mu46.nums (x.1 :: Mu46.seatsOf x.2)) = _
    rw [e]
    rfl
  · show (match Mu46.change ⟨m.k, m.ws⟩ (sitsFrom 0 m.ps) with
      | none => (some (absM m), [-6])
      | some x => (some (⟨⟨m.k, m.ws⟩, x.2⟩ : Mu46.State), [(x.1 : Int)])) = _
    rw [e]
    rfl
/-- they sit as a sitting tells -/
def M.sitAs (m : M) (t : List Nat) : M := ⟨m.k, m.ws, fill m.ps t⟩
theorem step_change_some {m : M} (h : lSit m ≠ []) : ∃ (d : Nat) (t : List Nat), Mu46.step (some (absM m)) .change = (some (absM m), (d : Int) :: cast t) ∧ Mu46.step (some (absM m)) .do_ = (some (absM (m.sitAs t)), [(d : Int)]) ∧
    ((lSit m).filter fun s => moved (seatsIn m.ps) s == d).head? = some t ∧ (∀ s, s ∈ lSit m → d ≤ moved (seatsIn m.ps) s) := by
  have e := change_best m
  cases hw : lSit m with
  | nil => exact absurd hw h
  | cons a l =>
    obtain ⟨d, t, h1, h2, h3, _⟩ := best_all (moved (seatsIn m.ps)) a l
    rw [hw, h1] at e
    have ht : t ∈ lSit m := by
      rw [hw]
      exact (List.mem_filter.mp (List.mem_of_head? h2)).1
    have hl := lSit_len ht
    refine ⟨d, t, ?_, ?_, h2, h3⟩
    · show (some (absM m), match Mu46.change ⟨m.k, m.ws⟩ (sitsFrom 0 m.ps) with
        | none => [-6]
        | some x => Mu46.nums (x.1 :: Mu46.seatsOf x.2)) = _
      rw [e]
      show (some (absM m), (d : Int) :: Mu46.nums (Mu46.seatsOf ((sitters 0 m.ps).zip t))) = _
      rw [seats_zip _ _ (by rw [hl, seats_len])]
      rfl
    · show (match Mu46.change ⟨m.k, m.ws⟩ (sitsFrom 0 m.ps) with
        | none => (some (absM m), [-6])
        | some x => (some (⟨⟨m.k, m.ws⟩, x.2⟩ : Mu46.State), [(x.1 : Int)])) = _
      rw [e]
      show (some (⟨⟨m.k, m.ws⟩, (sitters 0 m.ps).zip t⟩ : Mu46.State), [(d : Int)]) = (some ⟨⟨m.k, m.ws⟩, sitsFrom 0 (fill m.ps t)⟩, [(d : Int)])
      rw [fill_sits _ _ _ hl]
theorem fill_mem : ∀ (p : List (Option Nat)) (s : List Nat) (x : Nat), s.length = (seatsIn p).length → some x ∈ fill p s → x ∈ s
  | [], s, x, _, h => by cases h
  | none :: p, s, x, hl, h => by
    rcases List.mem_cons.mp h with h | h
    · cases h
    · exact fill_mem p s x hl h
  | some y :: p, [], x, hl, h => by cases hl
  | some y :: p, z :: s, x, hl, h => by
    rcases List.mem_cons.mp h with h | h
    · cases h
      exact List.mem_cons_self ..
    · exact List.mem_cons_of_mem _ (fill_mem p s x (Nat.succ.inj hl) h)
theorem Ok.sitAs {m : M} (g : Ok m) {t : List Nat} (h : t ∈ lSit m) : Ok (m.sitAs t) := by
  refine ⟨g.good, (fill_len _ _).trans g.len, fun x hx => ?_⟩
  have h1 := fill_mem m.ps t x (lSit_len h) hx
  rw [lSit, levels] at h
  exact ways_low _ _ _ (List.mem_filter.mp h).1 x h1
theorem step_only (m : M) (l : List Nat) : Mu46.step (some (absM m)) (.only l) = (some (absM m), if l.Nodup ∧ ∀ c ∈ l, c < m.ws.length then [((levels (2 * m.k) (armAt m.k) (l.map (heavyI ⟨m.k, m.ws⟩))).length : Int)] else [-1]) := by
  show (some (absM m), if l.eraseDups.length ≠ l.length ∨ l.any (fun (c : Nat) => decide (m.ws.length ≤ c)) = true then [-1] else [((Mu46.level ⟨m.k, m.ws⟩ ((Mu46.children ⟨m.k, m.ws⟩).filter fun c => l.contains c)).length : Int)]) = _
  by_cases h : l.Nodup ∧ ∀ c ∈ l, c < m.ws.length
  · rw [if_pos h, if_neg]
    · rw [level_levels, List.length_map]
      have pm := (named_perm h.1 h.2).map (heavyI ⟨m.k, m.ws⟩)
      have el := levels_perm (2 * m.k) (armAt m.k) pm
      show (_, [(_ : Int)]) = _
      rw [← el]
      rfl
    · rintro (h1 | h1)
      · exact h1 (dups.mpr h.1)
      · rw [List.any_eq_true] at h1
        obtain ⟨c, hc, h1⟩ := h1
        have := h.2 c hc
        rw [decide_eq_true_eq] at h1
        omega
  · rw [if_neg h, if_pos]
    by_cases h1 : l.Nodup
    · right
      rw [List.any_eq_true]
      refine Classical.byContradiction fun h2 => h ⟨h1, fun c hc => Classical.byContradiction fun h3 => h2 ⟨c, hc, ?_⟩⟩
      rw [decide_eq_true_eq]
      omega
    · left
      exact fun e => h1 (dups.mp e)
theorem heavy_at {m : M} {c w : Nat} (h : m.ws[c]? = some w) : heavyI ⟨m.k, m.ws⟩ c = (w : Int) := by
  show ((m.ws.getD c 0 : Nat) : Int) = _
  rw [getD_at h]
theorem step_look (m : M) : Mu46.step (some (absM m)) .look = (some (absM m), (m.k : Int) :: cast m.ws ++ ((seatsIn m.ps).length : Int) :: cast ((sitsFrom 0 m.ps).flatMap fun x => [x.1, x.2])) := by
  show (some (absM m), Mu46.nums (m.k :: m.ws ++ (sitsFrom 0 m.ps).length :: (sitsFrom 0 m.ps).flatMap fun x => [x.1, x.2])) = _
  have e : (sitsFrom 0 m.ps).length = (seatsIn m.ps).length := by rw [← sits_snd m.ps 0, List.length_map]
  rw [e, Mu46.nums, List.map_append]
  rfl
end Tb

set_option Elab.async false
set_option linter.unusedVariables false
set_option maxRecDepth 100000
set_option maxHeartbeats 2000000
namespace Tb
open PySem PySem.Spec PyProof.Rows L2
open C8 (Cal Met Mak pe_c pe_mt pe_mt0 pe_mk)
section
variable {P : Program} {w : World} {K : PySem.W.Frag} {mg : Str → Option Value} {base : Heap} {C : Addr}
theorem cast_app (a b : List Nat) : cast (a ++ b) = cast a ++ cast b := List.map_append
theorem seatV_cast (s : List Nat) : seatV s = (cast s).map V.int := by
  rw [seatV, cast, List.map_map]
  rfl
/-! ### seated -/
def spSeated (C : Addr) : Sp := fun vs H Q _ => ∃ (s : Addr) (p : Ad) (m : M), vs = [.ref s] ∧ SawAt C H s p m ∧ Ok m ∧ ∀ H' r, NewL H H' r (cast (sitters 0 m.ps)) → Q (.ref r) H'
abbrev nSeated : List Str := ["self", "child", "seat"]
theorem scSeated : FnScope nSeated ["self"] (defScope sSeated) := ⟨rfl, rfl, rfl, by decide +kernel, rfl, by decide +kernel, by decide +kernel⟩
theorem ok_seated {f : Addr} {fd : FuncData} (F : Fun K "seated" "Seesaw.seated" sSeated f fd) (T : SawTxt K C) (O : Own mg) : FnOk P w K mg base CX0 1 f fd ["self"] (spSeated C) := by
  refine F.ok scSeated (fun vs H Q E h => ?_) (fun cdv A outer s H vs Q E hr h => ?_)
  · obtain ⟨_, _, _, rfl, _⟩ := h
    rfl
  · obtain ⟨s, ⟨p, a, b⟩, m, rfl, ⟨dx, S⟩, g, q⟩ := h
    refine ⟨_, pss_one (ps_ret (pe_lc (own := [("child", 1), ("seat", 2)]) (g := gTup K 2 (gCons (gName 1) (gCons (gName 2) gNil))) rfl scSeated.nd (pi_enum rfl O.enum (pa_cons (pe_fld (pv 0) rfl) pa_nil)) (blkOk_by (N := nSeated) (sc := defScope sSeated) (by decide +kernel))
        (fun _ _ _ _ _ => pg_tup rfl (pgs_cons (pg_name (i := 1) scSeated.nd rfl (Or.inl rfl)) (pgs_cons (pg_name (i := 2) scSeated.nd rfl (Or.inl rfl)) pgs_nil)))
        (fun _ _ _ _ _ => pts_one (pt_cmpR op_notN (pv 2) pe_non (nomark _))) (fun _ _ _ _ _ => pv 1))), ?_⟩
    refine ⟨_, rfl, s, C, dx, _, _, rfl, S.at_, T.cl, T.nP, sawF_places a b p, p, _, rfl, SqL.of S.ps, fun D hD => ?_⟩
    refine lc_it (walk_enum (K := K) (a := p) (xs := m.ps.map optV)) (fun i H' => Same H H' ∧ H' D = some (.lst ((cast (sitters 0 (m.ps.take i))).map V.int))) ⟨Same.new hD, upd_same⟩ (fun i H' _ ⟨s5, _⟩ => SqL.of (s5 _ _ S.ps)) ?_ ?_
    · rintro i x H1 H2 hi ⟨s1, hD1⟩ ⟨T0, x1, x2, rfl, nT, rfl, e1, e2⟩
      cases e1
      obtain ⟨o, ho, rfl⟩ := map_get e2
      have hil : i < m.ps.length := (List.getElem?_eq_some_iff.mp ho).1
      have sT := Same.new (o := .tup [.int ((i : Nat) : Int), optV o]) nT
      have s2 := s1.trans sT
      refine ⟨T0, _, rfl, SqT.of upd_same, rfl, _, _, rfl, _, _, rfl, rfl, rfl, _, rfl, rfl, _, rfl, ?_⟩
      rw [take_more ho, sitters_snoc, List.length_take, Nat.min_eq_left (by omega), Nat.zero_add]
      cases o with
      | none =>
        refine if_false_of rfl ⟨s2, ?_⟩
        rw [if_neg (by decide), List.append_nil]
        exact sT _ _ hD1
      | some y =>
        refine if_true_of rfl ⟨_, rfl, _, sT _ _ hD1, ?_, Tb.Same.put s2 hD, ?_⟩
        · rw [List.length_map, cast_len]
          have b1 := sitters_le (m.ps.take i) 0
          rw [List.length_take] at b1
          have b2 := g.board.2
          have b3 := g.len
          have b4 : sizeLine = 16777216 := by decide
          omega
        · rw [upd_same, if_pos (by rfl), cast_app, List.map_append]
          rfl
    · rintro H1 ⟨s1, hD1⟩
      rw [List.length_map, List.take_length] at hD1
      exact q H1 D ⟨s1, hD, hD1⟩
/-! ### seats_now -/
def spNow (C : Addr) : Sp := fun vs H Q _ => ∃ (s : Addr) (p : Ad) (m : M), vs = [.ref s] ∧ SawAt C H s p m ∧ Ok m ∧ ∀ H' r, NewL H H' r (cast (seatsIn m.ps)) → Q (.ref r) H'
abbrev nNow : List Str := ["self", "seat"]
theorem scNow : FnScope nNow ["self"] (defScope sNow) := ⟨rfl, rfl, rfl, by decide +kernel, rfl, by decide +kernel, by decide +kernel⟩
theorem ok_now {f : Addr} {fd : FuncData} (F : Fun K "seats_now" "Seesaw.seats_now" sNow f fd) (T : SawTxt K C) : FnOk P w K mg base CX0 1 f fd ["self"] (spNow C) := by
  refine F.ok scNow (fun vs H Q E h => ?_) (fun cdv A outer s H vs Q E hr h => ?_)
  · obtain ⟨_, _, _, rfl, _⟩ := h
    rfl
  · obtain ⟨s, ⟨p, a, b⟩, m, rfl, ⟨dx, S⟩, g, q⟩ := h
    refine ⟨_, pss_one (ps_ret (pe_lc (own := [("seat", 1)]) (g := gName 1) rfl scNow.nd (pi_list (pe_fld (pv 0) rfl)) (blkOk_by (N := nNow) (sc := defScope sNow) (by decide +kernel))
        (fun _ _ _ _ _ => pg_name (i := 1) scNow.nd rfl (Or.inl rfl)) (fun _ _ _ _ _ => pts_one (pt_cmpR op_notN (pv 1) pe_non (nomark _))) (fun _ _ _ _ _ => pv 1))), ?_⟩
    refine ⟨_, rfl, s, C, dx, _, _, rfl, S.at_, T.cl, T.nP, sawF_places a b p, p, rfl, ⟨_, SqL.of S.ps⟩, fun D hD => ?_⟩
    refine lc_list (K := K) (a := p) (xs := m.ps.map optV) (fun i H' => Same H H' ∧ H' D = some (.lst ((cast (seatsIn (m.ps.take i))).map V.int))) ⟨Same.new hD, upd_same⟩ (fun i H' _ ⟨s5, _⟩ => SqL.of (s5 _ _ S.ps)) ?_ ?_
    · rintro i x H1 hi ⟨s1, hD1⟩
      obtain ⟨o, ho, rfl⟩ := map_get hi
      refine ⟨rfl, _, rfl, rfl, _, rfl, ?_⟩
      rw [take_more ho, seats_snoc]
      cases o with
      | none =>
        refine if_false_of rfl ⟨s1, ?_⟩
        rw [show (none : Option Nat).toList = [] from rfl, List.append_nil]
        exact hD1
      | some y =>
        refine if_true_of rfl ⟨_, rfl, _, hD1, ?_, Tb.Same.put s1 hD, ?_⟩
        · rw [List.length_map, cast_len]
          have b1 := seats_le (m.ps.take i)
          rw [List.length_take] at b1
          have b2 := g.board.2
          have b3 := g.len
          have b4 : sizeLine = 16777216 := by decide
          omega
        · rw [upd_same, cast_app, List.map_append]
          rfl
    · rintro H1 ⟨s1, hD1⟩
      rw [List.length_map, List.take_length] at hD1
      exact q H1 D ⟨s1, hD, hD1⟩
/-! ### ways_to_balance -/
def weigh (m : M) (cs : List Nat) : List Int := cs.map (heavyI ⟨m.k, m.ws⟩)
theorem weigh_app (m : M) (a b : List Nat) : weigh m (a ++ b) = weigh m a ++ weigh m b := List.map_append
theorem weigh_len (m : M) (cs : List Nat) : (weigh m cs).length = cs.length := List.length_map _
theorem weigh_99 {m : M} (g : Ok m) {cs : List Nat} (h : ∀ c ∈ cs, c < m.ws.length) : ∀ x ∈ weigh m cs, 0 ≤ x ∧ x ≤ 99 := fun x hx => by
  obtain ⟨c, hc, rfl⟩ := List.mem_map.mp hx
  have e := List.getElem?_eq_getElem (h c hc)
  rw [heavy_at e]
  have := g.good.2.2 _ (List.mem_of_getElem? e)
  omega
def spWays (K : PySem.W.Frag) (C : Addr) : Sp := fun vs H Q _ => ∃ (s l : Addr) (p : Ad) (m : M) (cs : List Nat), vs = [.ref s, .ref l] ∧ SawAt C H s p m ∧ Ok m ∧ SqL K H l ((cast cs).map V.int) ∧ cs.length ≤ 5 ∧ (∀ c ∈ cs, c < m.ws.length) ∧
  ∀ H' r, Same H H' → H r = none → WaysAt H' r (levels (2 * m.k) (armAt m.k) (weigh m cs)) → Q (.ref r) H'
abbrev nWays : List Str := ["self", "children", "child"]
theorem scWays : FnScope nWays ["self", "children"] (defScope sWays) := ⟨rfl, rfl, rfl, by decide +kernel, rfl, by decide +kernel, by decide +kernel⟩
theorem ok_ways {f : Addr} {fd : FuncData} (F : Fun K "ways_to_balance" "Seesaw.ways_to_balance" sWays f fd) (T : SawTxt K C) (c : Cal P w K mg base 2 "level_sittings" (spLev K) []) : FnOk P w K mg base CX0 3 f fd ["self", "children"] (spWays K C) := by
  refine F.ok scWays (fun vs H Q E h => ?_) (fun cdv A outer s H vs Q E hr h => ?_)
  · obtain ⟨_, _, _, _, _, rfl, _⟩ := h
    rfl
  · obtain ⟨s, l, ⟨p, a, b⟩, m, cs, rfl, ⟨dx, S⟩, g, hl, h5, hlow, q⟩ := h
    refine ⟨_, pss_one (ps_ret (pe_c c hr (Nat.le_refl _) rfl (pa_cons (pe_fld (pv 0) rfl) (pa_cons
      (pe_lc (own := [("child", 2)]) (g := gName 2) (tt := tYes) (te := tOp (rIxL K) (tFld K (tVar 0) "weights") (tVar 2)) rfl scWays.nd (pi_list (pv 1)) (blkOk_by (N := nWays) (sc := defScope sWays) (by decide +kernel))
        (fun _ _ _ _ _ => pg_name (i := 2) scWays.nd rfl (Or.inl rfl)) (fun _ _ _ _ _ => pts_nil) (fun _ _ _ _ _ => pe_ix ix_list (pe_fld (pv 0) rfl) (pv 2) (fun _ _ => rfl))) pa_nil)))), ?_⟩
    refine ⟨_, rfl, s, C, dx, _, _, rfl, S.at_, T.cl, T.nA, sawF_arms a b p, _, rfl, l, rfl, ⟨_, hl⟩, fun D hD => ?_⟩
    refine lc_list (K := K) (a := l) (xs := (cast cs).map V.int) (fun i H' => Same H H' ∧ H' D = some (.lst ((weigh m (cs.take i)).map V.int))) ⟨Same.new hD, upd_same⟩ (fun i H' _ ⟨s5, _⟩ => s5.seq hl) ?_ ?_
    · rintro i x H1 hi ⟨s1, hD1⟩
      obtain ⟨z, hz, rfl⟩ := map_get hi
      obtain ⟨c, hc, rfl⟩ := cast_get hz
      have e := List.getElem?_eq_getElem (hlow c (List.mem_of_getElem? hc))
      refine ⟨rfl, _, rfl, s, C, dx, _, _, rfl, s1 _ _ S.at_, T.cl, T.nW, sawF_weights a b p, _, rfl, b, _, _, _, rfl, rfl, SqL.of (s1 _ _ S.ws), atI_nat (j := c) (by rw [List.getElem?_map, cast, List.getElem?_map, e]; rfl), _, hD1, ?_, Tb.Same.put s1 hD, ?_⟩
      · rw [List.length_map, weigh_len, List.length_take]
        have b4 : sizeLine = 16777216 := by decide
        omega
      · rw [upd_same, take_more hc, weigh_app, List.map_append]
        show _ = some (HO.lst (_ ++ [V.int (heavyI ⟨m.k, m.ws⟩ c)]))
        rw [heavy_at e]
    · rintro H1 ⟨s1, hD1⟩
      rw [List.length_map, cast_len, List.take_length] at hD1
      refine ⟨a, D, m.k, weigh m cs, rfl, ⟨SqL.of (s1 _ _ S.arms), SqL.of hD1, g.board.1, by rw [weigh_len]; exact h5, weigh_99 g hlow⟩, fun H2 r s2 nr W => ?_⟩
      exact q H2 r (s1.trans s2) (s1.free nr) W
end
end Tb

set_option Elab.async false
set_option linter.unusedVariables false
set_option maxRecDepth 100000
set_option maxHeartbeats 2000000
namespace Tb
open PySem PySem.Spec PyProof.Rows L2
open C8 (Cal Met Mak pe_c pe_mt pe_mt0 pe_mk)
section
variable {P : Program} {w : World} {K : PySem.W.Frag} {mg : Str → Option Value} {base : Heap} {C : Addr}
/-! ### nearest -/
def prOf (m : M) (s : List Nat) : List Nat × Int := (s, dot (armAt m.k) (cast m.ws) s)
theorem sat_all (m : M) : sat (2 * m.k) (armAt m.k) (cast m.ws) = (wAll m).map (prOf m) := by
  rw [sat_ways, cast_len]
  rfl
theorem wAll_len {m : M} (g : Ok m) : (wAll m).length ≤ 32768 := by
  have h := sat_len g.board.1 (cast m.ws).length (cast m.ws) rfl
  rw [sat_all, List.length_map, cast_len] at h
  exact Nat.le_trans h (Nat.le_trans (Nat.pow_le_pow_right (by decide) g.board.2) (by decide))
theorem abs_off (m : M) (s : List Nat) : (if (prOf m s).2 < 0 then -(prOf m s).2 else (prOf m s).2) = (offOf m s : Int) := by
  show (if dot (armAt m.k) (cast m.ws) s < 0 then -dot (armAt m.k) (cast m.ws) s else dot (armAt m.k) (cast m.ws) s) = ((dot (armAt m.k) (cast m.ws) s).natAbs : Int)
  split <;> omega
abbrev nNear : List Str := ["self", "found", "least", "ways", "seats", "tilt"]
theorem scNear : FnScope nNear ["self"] (defScope sNear) := ⟨rfl, rfl, rfl, by decide +kernel, rfl, by decide +kernel, by decide +kernel⟩
theorem ok_near {f : Addr} {fd : FuncData} (F : Fun K "nearest" "Seesaw.nearest" sNear f fd) (T : SawTxt K C) (O : Own mg) (c : Cal P w K mg base 1 "all_sittings" (spAll K) []) : FnOk P w K mg base CX0 2 f fd ["self"] (spRead C .nearest) := by
  refine F.ok scNear (fun vs H Q E h => ?_) (fun cdv A outer s H vs Q E hr h => ?_)
  · obtain ⟨_, _, _, rfl, _⟩ := h
    rfl
  · obtain ⟨s, ⟨p, a, b⟩, m, rfl, ⟨dx, S⟩, g, q⟩ := h
    refine ⟨_, pss_cons (ps_set (i := 1) scNear.nd rfl (Or.inl rfl) (pe_c c hr (Nat.le_refl _) rfl (pa_cons (pe_fld (pv 0) rfl) (pa_cons (pe_fld (pv 0) rfl) pa_nil))))
      (pss_cons (ps_set (i := 2) scNear.nd rfl (Or.inr rfl) (pe_callB (cr_min rfl) (by rfl) O.min PyProof.Rows.boot_min (pa_cons
        (pe_lc (own := [("seats", 4), ("tilt", 5)]) (g := gTup K 2 (gCons (gName 4) (gCons (gName 5) gNil))) (tt := tYes) rfl scNear.nd (pi_list (pv 1)) (blkOk_by (N := nNear) (sc := defScope sNear) (by decide +kernel))
          (fun _ _ _ _ _ => pg_tup rfl (pgs_cons (pg_name (i := 4) scNear.nd rfl (Or.inl rfl)) (pgs_cons (pg_name (i := 5) scNear.nd rfl (Or.inl rfl)) pgs_nil))) (fun _ _ _ _ _ => pts_nil)
          (fun _ _ _ _ _ => pe_callB call_abs (by rfl) O.abs PyProof.Rows.boot_abs (pa_cons (pv 5) pa_nil))) pa_nil)))
      (pss_cons (ps_setLc (i := 3) (own := [("seats", 4), ("tilt", 5)]) (g := gTup K 2 (gCons (gName 4) (gCons (gName 5) gNil))) rfl scNear.nd rfl rfl rfl (pi_list (pv 1)) (blkOk_by (N := nNear) (sc := defScope sNear) (by decide +kernel))
          (fun _ _ _ _ _ => pg_tup rfl (pgs_cons (pg_name (i := 4) scNear.nd rfl (Or.inl rfl)) (pgs_cons (pg_name (i := 5) scNear.nd rfl (Or.inl rfl)) pgs_nil)))
          (fun _ _ _ _ _ => pts_one (pt_cmpR op_eq (pe_callB call_abs (by rfl) O.abs PyProof.Rows.boot_abs (pa_cons (pv 5) pa_nil)) (pv 2) (nomark _))) (fun _ _ _ _ _ => pv 4))
      (pss_one (ps_ret (pe_op op_cat (pe_lst (pa_cons (pv 2) (pa_cons (pe_callB call_len_seq (by rfl) O.len PySem.boot_len (pa_cons (pv 3) pa_nil)) pa_nil)))
        (pe_callTy call_list_of (by rfl) O.list PyProof.Rows.boot_list (pa_cons (pe_ix ix_list (pv 3) pe_int (fun _ _ => rfl)) pa_nil))))))), ?_⟩
    refine ⟨_, rfl, s, C, dx, _, _, rfl, S.at_, T.cl, T.nA, sawF_arms a b p, _, rfl, s, C, dx, _, _, rfl, S.at_, T.cl, T.nW, sawF_weights a b p, a, b, m.k, cast m.ws, rfl, laid_of K S g, fun H1 l s1 nl ⟨qs, hl, hqs⟩ => ?_⟩
    rw [sat_all] at hqs
    have hlen := wAll_len g
    obtain ⟨d, t, est, ht, hmin⟩ := step_nearest g
    have htm : t ∈ wAll m ∧ offOf m t = d := by
      have := List.mem_filter.mp (List.mem_of_head? ht)
      exact ⟨this.1, eq_of_beq this.2⟩
    have htl : t.length = m.ws.length := ways_len _ _ _ htm.1
    generalize hw : wAll m = f at hqs hlen est ht hmin htm
    have hqs' : ∀ {i : Nat} {q1 : Addr}, qs[i]? = some q1 → ∃ y, f[i]? = some y ∧ PairAt H1 q1 (prOf m y) := fun {i q1} e => by
      obtain ⟨y, hy, r⟩ := hqs.at e
      obtain ⟨z, hz, rfl⟩ := map_get hy
      exact ⟨z, hz, r⟩
    have hql : qs.length = f.length := by rw [hqs.len, List.length_map]
    -- least
    refine ⟨_, rfl, l, rfl, ⟨_, SqL.of hl⟩, fun D hD => ?_⟩
    refine lc_list (K := K) (a := l) (xs := qs.map V.ref) (fun i H' => Same H1 H' ∧ H' D = some (.lst (((f.take i).map fun s => (offOf m s : Int)).map V.int))) ⟨Same.new hD, upd_same⟩ (fun i H' _ ⟨s5, _⟩ => SqL.of (s5 _ _ hl)) ?_ ?_
    · rintro i x H2 hi ⟨s2, h2⟩
      obtain ⟨q1, hq1, rfl⟩ := map_get hi
      obtain ⟨y, hy, u, hq2, hu⟩ := hqs' hq1
      refine ⟨q1, _, rfl, SqT.of (s2 _ _ hq2), rfl, _, _, rfl, _, _, rfl, rfl, rfl, _, rfl, _, rfl, _, h2, ?_, Tb.Same.put s2 hD, ?_⟩
      · rw [List.length_map, List.length_map, List.length_take]
        have b2 : sizeLine = 16777216 := by decide
        omega
      · rw [upd_same, take_more hy, List.map_append, List.map_append, abs_off]
        rfl
    rintro H2 ⟨s2, h2⟩
    rw [List.length_map, hql, List.take_length] at h2
    have s12 := s1.trans s2
    refine ⟨D, _, rfl, SqL.of h2, ?_, fun z z1 z2 => ?_⟩
    · rw [List.length_map]
      exact List.length_pos_of_mem htm.1
    have ez : z = (d : Int) := by
      obtain ⟨y, hy, rfl⟩ := List.mem_map.mp z1
      have h1 := hmin y hy
      have h3 := z2 (offOf m t : Int) (List.mem_map.mpr ⟨t, htm.1, rfl⟩)
      rw [htm.2] at h3
      omega
    subst ez
    -- ways
    refine ⟨_, rfl, l, rfl, ⟨_, SqL.of (s2 _ _ hl)⟩, fun D2 hD2 => ?_⟩
    refine lc_list (K := K) (a := l) (xs := qs.map V.ref) (fun i H' => Same H2 H' ∧ WaysAt H' D2 ((f.take i).filter fun s => offOf m s == d)) ⟨Same.new hD2, [], upd_same, .nil⟩ (fun i H' _ ⟨s5, _⟩ => SqL.of (s5 _ _ (s2 _ _ hl))) ?_ ?_
    · rintro i x H3 hi ⟨s3, W3⟩
      obtain ⟨q1, hq1, rfl⟩ := map_get hi
      obtain ⟨y, hy, u, hq2, hu⟩ := hqs' hq1
      have s23 := s2.trans s3
      refine ⟨q1, _, rfl, SqT.of (s23 _ _ hq2), rfl, _, _, rfl, _, _, rfl, rfl, rfl, _, rfl, _, rfl, _, rfl, rfl, _, rfl, ?_⟩
      rw [abs_off, take_more hy, List.filter_append, List.filter_cons, List.filter_nil]
      by_cases c0 : offOf m y = d
      · refine if_true_of (by rw [c0]; exact decide_eq_true rfl) ?_
        rw [if_pos (by rw [c0]; exact beq_self_eq_true _)]
        have W3' := W3
        obtain ⟨us, hD3, _⟩ := W3'
        refine ⟨_, rfl, _, hD3, ?_, Tb.Same.put s3 hD2, W3.push hD3 (s23 _ _ hu)⟩
        rw [W3.ln hD3]
        have b1 := List.length_filter_le (fun (s : List Nat) => offOf m s == d) (f.take i)
        rw [List.length_take] at b1
        have b2 : sizeLine = 16777216 := by decide
        omega
      · refine if_false_of (by show decide (V.int (offOf m y : Int) = V.int (d : Int)) = false; rw [decide_eq_false_iff_not]; intro z; injection z with z; omega) ?_
        rw [if_neg (fun z => c0 (eq_of_beq z)), List.append_nil]
        exact ⟨s3, W3⟩
    rintro H3 ⟨s3, W3⟩
    rw [List.length_map, hql, List.take_length] at W3
    have s13 := s12.trans s3
    obtain ⟨us, hD3, hus⟩ := W3
    have e0 := hus.len
    cases hf : f.filter fun s => offOf m s == d with
    | nil =>
      rw [hf] at ht
      cases ht
    | cons y ys =>
    rw [hf] at ht hus e0 est
    have ey : y = t := Option.some.inj ht
    subst ey
    cases hus with
    | @cons u _ us' _ h1 h2' =>
    refine ⟨_, rfl, _, rfl, D2, _, rfl, .inl (SqL.of hD3), (by show 2 ≤ sizeLine; decide), fun r hr => ?_⟩
    have sr := Same.new (o := .lst [.int (d : Int), .int (((u :: us').map V.ref).length : Nat)]) hr
    refine ⟨_, rfl, D2, _, _, _, rfl, rfl, SqL.of (sr _ _ hD3), atI_nat (j := 0) rfl, u, _, rfl, .inr (SqT.of (sr _ _ h1)), fun t' ht' => ?_⟩
    have st := Same.new (o := .lst (seatV y)) ht'
    refine ⟨r, t', _, _, rfl, rfl, st _ _ upd_same, upd_same, ?_, fun v hv => ?_⟩
    · have b2 := g.board.2
      have b3 : sizeLine = 16777216 := by decide
      show 2 + (seatV y).length ≤ sizeLine
      rw [seatV, List.length_map]
      omega
    · refine q.read ⟨dx, S⟩ g ⟨((s13.trans sr).trans st).trans (Same.new hv), s13.free (sr.free (st.free hv)), ?_⟩ est
      rw [upd_same, List.length_map, e0]
      show some (HO.lst (V.int _ :: V.int _ :: seatV y)) = some (HO.lst (V.int _ :: V.int _ :: (cast y).map V.int))
      rw [seatV_cast]
end
end Tb

set_option Elab.async false
set_option linter.unusedVariables false
set_option maxRecDepth 100000
set_option maxHeartbeats 2000000
namespace Tb
open PySem PySem.Spec PyProof.Rows L2
open C8 (Cal Met Mak pe_c pe_mt pe_mt0 pe_mk)
theorem best_mem {α : Type} (f : α → Nat) : ∀ (l : List α) (o : Option (Nat × α)) (d : Nat) (t : α), l.foldl (best f) o = some (d, t) → t ∈ l ∨ o = some (d, t)
  | [], o, d, t, h => .inr h
  | a :: l, o, d, t, h => by
    rcases best_mem f l (best f o a) d t h with h | h
    · exact .inl (List.mem_cons_of_mem _ h)
    · cases o with
      | none =>
        have e : some (f a, a) = some (d, t) := h
        cases e
        exact .inl (List.mem_cons_self ..)
      | some y =>
        have e : (if f a < y.1 then some (f a, a) else some y) = some (d, t) := h
        split at e
        · cases e
          exact .inl (List.mem_cons_self ..)
        · exact .inr e
theorem step_ch_none {m : M} (h : bestOf (seatsIn m.ps) (lSit m) = none) : Mu46.step (some (absM m)) .change = (some (absM m), [-6]) ∧ Mu46.step (some (absM m)) .do_ = (some (absM m), [-6]) := by
  have e := change_best m
  rw [show (lSit m).foldl (best (moved (seatsIn m.ps))) none = none from h] at e
  constructor
  · show (some (absM m), match Mu46.change ⟨m.k, m.ws⟩ (sitsFrom 0 m.ps) with
      | none => [-6]
      | some x => Mu46.nums (x.1 :: Mu46.seatsOf x.2)) = _
    rw [e]
    rfl
  · show (match Mu46.change ⟨m.k, m.ws⟩ (sitsFrom 0 m.ps) with
      | none => (some (absM m), [-6])
      | some x => (some (⟨⟨m.k, m.ws⟩, x.2⟩ : Mu46.State), [(x.1 : Int)])) = _
    rw [e]
    rfl
theorem step_ch_some {m : M} {d : Nat} {t : List Nat} (h : bestOf (seatsIn m.ps) (lSit m) = some (d, t)) : Mu46.step (some (absM m)) .change = (some (absM m), (d : Int) :: cast t) ∧ Mu46.step (some (absM m)) .do_ = (some (absM (m.sitAs t)), [(d : Int)]) ∧ t ∈ lSit m ∧ d = moved (seatsIn m.ps) t := by
  have e := change_best m
  rw [show (lSit m).foldl (best (moved (seatsIn m.ps))) none = some (d, t) from h] at e
  have ht : t ∈ lSit m := by
    rcases best_mem _ _ _ _ _ h with h | h
    · exact h
    · cases h
  have hl := lSit_len ht
  refine ⟨?_, ?_, ht, best_own _ _ none (fun d t e => by cases e) d t h⟩
  · show (some (absM m), match Mu46.change ⟨m.k, m.ws⟩ (sitsFrom 0 m.ps) with
      | none => [-6]
      | some x => Mu46.nums (x.1 :: Mu46.seatsOf x.2)) = _
    rw [e]
    show (some (absM m), (d : Int) :: Mu46.nums (Mu46.seatsOf ((sitters 0 m.ps).zip t))) = _
    rw [seats_zip _ _ (by rw [hl, seats_len])]
    rfl
  · show (match Mu46.change ⟨m.k, m.ws⟩ (sitsFrom 0 m.ps) with
      | none => (some (absM m), [-6])
      | some x => (some (⟨⟨m.k, m.ws⟩, x.2⟩ : Mu46.State), [(x.1 : Int)])) = _
    rw [e]
    show (some (⟨⟨m.k, m.ws⟩, (sitters 0 m.ps).zip t⟩ : Mu46.State), [(d : Int)]) = (some ⟨⟨m.k, m.ws⟩, sitsFrom 0 (fill m.ps t)⟩, [(d : Int)])
    rw [fill_sits _ _ _ hl]
theorem Ok.sit5 {m : M} (g : Ok m) : (sitters 0 m.ps).length ≤ 5 ∧ (seatsIn m.ps).length ≤ 5 := by
  have h1 := sitters_le m.ps 0
  have h2 := seats_le m.ps
  have h3 := g.board.2
  have h4 := g.len
  omega
theorem Ok.sitLow {m : M} (g : Ok m) : ∀ c ∈ sitters 0 m.ps, c < m.ws.length := fun c hc => by
  obtain ⟨_, x, e⟩ := sitters_mem m.ps 0 c hc
  rw [Nat.sub_zero] at e
  rw [← g.len]
  exact (List.getElem?_eq_some_iff.mp e).1
def chOf (m : M) : List Int := (Mu46.step (some (absM m)) .change).2
section
variable {P : Program} {w : World} {K : PySem.W.Frag} {mg : Str → Option Value} {base : Heap} {C : Addr}
/-! ### change -/
def spChange (C : Addr) : Sp := fun vs H Q _ => ∃ (s : Addr) (p : Ad) (m : M), vs = [.ref s] ∧ SawAt C H s p m ∧ Ok m ∧ ∀ H' r, NewL H H' r (chOf m) → Q (.ref r) H'
theorem scChange : FnScope ["self", "now", "way"] ["self"] (defScope sChange) := ⟨rfl, rfl, rfl, by decide +kernel, rfl, by decide +kernel, by decide +kernel⟩
theorem ok_change {f : Addr} {fd : FuncData} (F : Fun K "change" "Seesaw.change" sChange f fd) (T : SawTxt K C) (O : Own mg) (N : Nums mg) (c1 : Met P w K mg base 1 C "seats_now" (spNow C) []) (c2 : Cal P w K mg base 2 "fewest_changes" (spFew K) [])
    (c3 : Met P w K mg base 3 C "ways_to_balance" (spWays K C) []) (c4 : Met P w K mg base 1 C "seated" (spSeated C) []) (c5 : Cal P w K mg base 1 "how_many_change" (spChg K) []) : FnOk P w K mg base CX0 4 f fd ["self"] (spChange C) := by
  refine F.ok scChange (fun vs H Q E h => ?_) (fun cdv A outer s H vs Q E hr h => ?_)
  · obtain ⟨_, _, _, rfl, _⟩ := h
    rfl
  · obtain ⟨s, p, m, rfl, SA, g, q⟩ := h
    have SA' := SA
    obtain ⟨dx, S⟩ := SA
    refine ⟨_, pss_cons (ps_set (i := 1) scChange.nd rfl (Or.inl rfl) (pe_mt0 c1 hr (by decide) (pv 0)))
      (pss_cons (ps_set (i := 2) scChange.nd rfl (Or.inl rfl) (pe_c c2 hr (by decide) (by rfl) (pa_cons (pv 1) (pa_cons (pe_mt c3 hr (Nat.le_refl _) (pv 0) (pa_cons (pe_mt0 c4 hr (by decide) (pv 0)) pa_nil)) pa_nil))))
      (pss_cons (ps_if (pt_cmpR op_isN (pv 2) pe_non (nomark _)) (pss_one (ps_ret (pe_lst (pa_cons (pe_k N.cannot) pa_nil)))) pss_nil)
      (pss_one (ps_ret (pe_op op_cat (pe_lst (pa_cons (pe_c c5 hr (by decide) (by rfl) (pa_cons (pv 1) (pa_cons (pv 2) pa_nil))) pa_nil))
        (pe_callTy call_list_of (by rfl) O.list PyProof.Rows.boot_list (pa_cons (pv 2) pa_nil))))))), ?_⟩
    refine ⟨_, rfl, s, dx, _, rfl, S.at_, sawF_no (by decide +kernel) (by decide +kernel) (by decide +kernel), s, p, m, rfl, SA', g, fun H1 r1 n1 => ?_⟩
    have s1 := n1.1
    refine ⟨_, rfl, _, rfl, s, dx, _, rfl, s1 _ _ S.at_, sawF_no (by decide +kernel) (by decide +kernel) (by decide +kernel), _, rfl, s, dx, _, rfl, s1 _ _ S.at_, sawF_no (by decide +kernel) (by decide +kernel) (by decide +kernel), s, p, m, rfl, SA'.same s1, g, fun H2 r2 n2 => ?_⟩
    have s2 := s1.trans n2.1
    refine ⟨s, r2, p, m, sitters 0 m.ps, rfl, SA'.same s2, g, SqL.of n2.2.2, g.sit5.1, g.sitLow, fun H3 r3 s3 n3 W3 => ?_⟩
    have s13 := s2.trans s3
    have hn : ∀ {H' : Hp}, Same H1 H' → H' r1 = some (.lst (seatV (seatsIn m.ps))) := fun {H'} s' => by
      rw [seatV_cast]
      exact s' _ _ n1.2.2
    refine ⟨r1, r3, seatsIn m.ps, lSit m, rfl, SqL.of (hn (n2.1.trans s3)), W3, g.sit5.2, fun H4 v s4 B => ?_⟩
    have s14 := s13.trans s4
    refine ⟨_, rfl, rfl, _, rfl, ?_⟩
    cases eb : bestOf (seatsIn m.ps) (lSit m) with
    | none =>
      rw [eb] at B
      have B' : v = .non := B
      subst B'
      refine if_true_of rfl ⟨(by show 1 ≤ sizeLine; decide), fun r hr => q _ r ⟨s14.trans (Same.new hr), s14.free hr, ?_⟩⟩
      rw [upd_same, chOf, (step_ch_none eb).1]
      rfl
    | some z =>
      obtain ⟨d, t⟩ := z
      rw [eb] at B
      obtain ⟨u, rfl, hu⟩ := B
      obtain ⟨e1, _, e3, e4⟩ := step_ch_some eb
      refine if_false_of rfl ?_
      refine ⟨_, rfl, _, rfl, r1, u, seatsIn m.ps, t, rfl, SqL.of (hn ((n2.1.trans s3).trans s4)), hu, g.sit5.2, fun H5 s5 => ⟨(by show 1 ≤ sizeLine; decide), fun x hx => ?_⟩⟩
      have sx := Same.new (o := .lst [.int (moved (seatsIn m.ps) t : Int)]) hx
      refine ⟨_, rfl, u, _, rfl, .inr (SqT.of (sx _ _ (s5 _ _ hu))), fun y hy => ?_⟩
      have sy := Same.new (o := .lst (seatV t)) hy
      refine ⟨x, y, _, _, rfl, rfl, sy _ _ upd_same, upd_same, ?_, fun r hr => ?_⟩
      · have b1 := lSit_len e3
        have b2 := g.sit5.2
        have b3 : sizeLine = 16777216 := by decide
        show 1 + (seatV t).length ≤ sizeLine
        rw [seatV, List.length_map]
        omega
      · have s16 := ((s14.trans s5).trans sx).trans sy
        refine q _ r ⟨s16.trans (Same.new hr), s16.free hr, ?_⟩
        rw [upd_same, chOf, e1, e4, seatV_cast]
        rfl
end
end Tb

set_option Elab.async false
set_option linter.unusedVariables false
set_option maxRecDepth 100000
set_option maxHeartbeats 2000000
namespace Tb
open PySem PySem.Spec PyProof.Rows L2
open C8 (Cal Met Mak pe_c pe_mt pe_mt0 pe_mk)
theorem dp_ints {K : PySem.W.Frag} {H : Hp} : ∀ (ns : List Int), DpAll K H (ns.map V.int) (ns.map PyData.int)
  | [] => .nil
  | n :: ns => .cons (.int n) (dp_ints ns)
theorem eqv_ints : ∀ (ns ms : List Int), PyData.eqvAll (ns.map PyData.int) (ms.map PyData.int) = decide (ns = ms)
  | [], [] => rfl
  | [], m :: ms => rfl
  | n :: ns, [] => rfl
  | n :: ns, m :: ms => by
    show (PyData.eqv (.int n) (.int m) && PyData.eqvAll (ns.map PyData.int) (ms.map PyData.int)) = _
    rw [eqv_ints ns ms]
    show ((n == m) && decide (ns = ms)) = _
    rw [Bool.eq_iff_iff, Bool.and_eq_true, beq_iff_eq, decide_eq_true_eq, decide_eq_true_eq, List.cons.injEq]
theorem cut1 (d : Int) (t : List Nat) : cutV ((d :: cast t).map V.int) (some 1) none = (cast t).map V.int := by
  have e3 : HT.sIx ((d :: cast t).map V.int).length 0 (some 1) = 1 := by
    rw [show (1 : Int) = ((1 : Nat) : Int) from rfl, HT.sIx_nat, List.length_map, List.length_cons]
    omega
  rw [cutV, e3, HT.sIx_none, List.take_of_length_le (by rw [List.length_drop]; exact Nat.le_refl _), ← List.map_drop]
  rfl
theorem putAll_snoc (p : List (Option Nat)) (l : List (Nat × Nat)) (y : Nat × Nat) : putAll p (l ++ [y]) = (putAll p l).set y.1 (some y.2) := by
  rw [putAll, List.foldl_append]
  rfl
section
variable {P : Program} {w : World} {K : PySem.W.Frag} {mg : Str → Option Value} {base : Heap} {C : Addr}
/-! ### do -/
theorem scDo : FnScope ["self", "told", "child", "seat"] ["self"] (defScope sDo) := ⟨rfl, rfl, rfl, by decide +kernel, rfl, by decide +kernel, by decide +kernel⟩
theorem ok_do {f : Addr} {fd : FuncData} (F : Fun K "do" "Seesaw.do" sDo f fd) (T : SawTxt K C) (O : Own mg) (N : Nums mg) (c1 : Met P w K mg base 4 C "change" (spChange C) []) (c2 : Met P w K mg base 1 C "seated" (spSeated C) []) :
    FnOk P w K mg base CX0 5 f fd ["self"] (spRead C .do_) := by
  refine F.ok scDo (fun vs H Q E h => ?_) (fun cdv A outer s H vs Q E hr h => ?_)
  · obtain ⟨_, _, _, rfl, _⟩ := h
    rfl
  · obtain ⟨s, ⟨p, a, b⟩, m, rfl, SA, g, q⟩ := h
    have SA' := SA
    obtain ⟨dx, S⟩ := SA
    refine ⟨_, pss_cons (ps_set (i := 1) scDo.nd rfl (Or.inl rfl) (pe_mt0 c1 hr (Nat.le_refl _) (pv 0)))
      (pss_cons (ps_if (pt_cmpR (op_eqD hr.units) (pv 1) (pe_lst (pa_cons (pe_k N.cannot) pa_nil)) (nomark _)) (pss_one (ps_ret (pv 1))) pss_nil)
      (pss_cons (ps_for PassesOwn.never rfl (pi_zip (by rfl) O.zip (pa_cons (pe_mt0 c2 hr (by decide) (pv 0)) (pa_cons (pe_slice sl_list (pv 1) (po_some pe_int) po_none) pa_nil)))
        (pg_tup rfl (pgs_cons (pg_name (i := 2) scDo.nd rfl (Or.inl rfl)) (pgs_cons (pg_name (i := 3) scDo.nd rfl (Or.inl rfl)) pgs_nil)))
        (pss_one (ps_asg (pv 3) (pg_sub (pe_fld (pv 0) rfl) (pv 2) set_list))))
      (pss_one (ps_ret (pe_lst (pa_cons (pe_ix ix_list (pv 1) pe_int (fun _ _ => rfl)) pa_nil)))))), ?_⟩
    refine ⟨_, rfl, s, dx, _, rfl, S.at_, sawF_no (by decide +kernel) (by decide +kernel) (by decide +kernel), s, ⟨p, a, b⟩, m, rfl, SA', g, fun H1 r1 n1 => ?_⟩
    obtain ⟨s1, nr1, h1⟩ := n1
    refine ⟨_, rfl, (by show 1 ≤ sizeLine; decide), fun x hx => ?_⟩
    have sx := Same.new (o := .lst [.int (-6)]) hx
    have s12 := s1.trans sx
    refine ⟨_, _, .lst (SqL.of (sx _ _ h1)) (dp_ints _), .lst (SqL.of (xs := [-6].map V.int) upd_same) (dp_ints _), PySem.W.ke_shaped_ints _, PySem.W.ke_shaped_ints _, _, rfl, ?_⟩
    show if PyData.eqvAll _ _ = true then _ else _
    rw [eqv_ints]
    cases eb : bestOf (seatsIn m.ps) (lSit m) with
    | none =>
      obtain ⟨e1, e2⟩ := step_ch_none eb
      have ec : chOf m = [-6] := by rw [chOf, e1]
      rw [ec] at h1 ⊢
      refine if_true_of (decide_eq_true rfl) ?_
      exact ⟨_, rfl, q.read SA' g ⟨s12, nr1, sx _ _ h1⟩ e2⟩
    | some z =>
    obtain ⟨d, t⟩ := z
    obtain ⟨e1, e2, e3, e4⟩ := step_ch_some eb
    have ec : chOf m = (d : Int) :: cast t := by rw [chOf, e1]
    have tl := lSit_len e3
    rw [ec] at h1 ⊢
    refine if_false_of (decide_eq_false (by intro z; injection z with z _; omega)) ?_
    generalize upd H1 x (.lst [.int (-6)]) = H2 at s12 sx
    have h2 := sx _ _ h1
    refine ⟨_, rfl, s, dx, _, rfl, s12 _ _ S.at_, sawF_no (by decide +kernel) (by decide +kernel) (by decide +kernel), s, ⟨p, a, b⟩, m, rfl, SA'.same s12, g, fun H3 r2 n2 => ?_⟩
    obtain ⟨s3, nr2, h3⟩ := n2
    refine ⟨_, rfl, _, rfl, r1, _, rfl, SqL.of (s3 _ _ h2), fun r3 hr3 => ?_⟩
    have s4 := Same.new (o := .lst (cutV (((d : Int) :: cast t).map V.int) (some 1) none)) hr3
    have h4 : upd H3 r3 (.lst (cutV (((d : Int) :: cast t).map V.int) (some 1) none)) r3 = some (.lst ((cast t).map V.int)) := by
      rw [upd_same, cut1]
    generalize upd H3 r3 (.lst (cutV (((d : Int) :: cast t).map V.int) (some 1) none)) = H4 at s4 h4
    have hps : H p = some (.lst (m.ps.map optV)) := S.ps
    have n1p : r1 ≠ p := fun e => ne_of_none hps nr1 e.symm
    have n2p : r2 ≠ p := fun e => ne_of_none (s12 _ _ hps) nr2 e.symm
    have n3p : r3 ≠ p := fun e => ne_of_none (s3 _ _ (s12 _ _ hps)) hr3 e.symm
    have nsp : s ≠ p := ne_of S.at_ S.ps (by intro z; cases z)
    have s04 := (s12.trans s3).trans s4
    have h24 := s4 _ _ h3
    have h14 := s4 _ _ (s3 _ _ h2)
    have zl : ((sitters 0 m.ps).zip t).length = (sitters 0 m.ps).length := by
      rw [List.length_zip, tl, seats_len]
      omega
    refine ⟨r2, r3, _, _, rfl, SqL.of h24, SqL.of h4, for_it (walk_zip (K := K) (a := r2) (b := r3) (xs := (cast (sitters 0 m.ps)).map V.int) (ys := (cast t).map V.int) (n := ((sitters 0 m.ps).zip t).length) (by rw [List.length_map, List.length_map, cast_len, cast_len, List.length_zip]))
      (fun i σ H' => ∃ (v2 v3 : Option V), σ = [some (.ref s), some (.ref r1), v2, v3] ∧ (∀ b o, H4 b = some o → b ≠ p → H' b = some o) ∧ H' p = some (.lst ((putAll m.ps (((sitters 0 m.ps).zip t).take i)).map optV)))
      ⟨none, none, rfl, fun b o e _ => e, s04 _ _ hps⟩ (fun i σ H' _ ⟨_, _, _, f5, _⟩ => ⟨SqL.of (f5 _ _ h24 n2p), SqL.of (f5 _ _ h4 n3p)⟩) ?_ ?_⟩
    · rintro i y σ H5 H6 hi ⟨v2, v3, rfl, f5, hp5⟩ ⟨T0, x1, x2, rfl, nT, rfl, e1', e2'⟩
      obtain ⟨z1, hz1, rfl⟩ := map_get e1'
      obtain ⟨c, hc, rfl⟩ := cast_get hz1
      obtain ⟨z2, hz2, rfl⟩ := map_get e2'
      obtain ⟨y, hy, rfl⟩ := cast_get hz2
      have hz : ((sitters 0 m.ps).zip t)[i]? = some (c, y) := by
        rw [List.getElem?_zip_eq_some]
        exact ⟨hc, hy⟩
      have cl := g.sitLow c (List.mem_of_getElem? hc)
      have sT := Same.new (o := .tup [.int (c : Int), .int (y : Int)]) nT
      refine ⟨T0, _, rfl, SqT.of upd_same, rfl, _, _, rfl, _, _, rfl, rfl, ?_⟩
      refine ⟨_, rfl, _, rfl, s, C, dx, _, _, rfl, sT _ _ (f5 _ _ (s04 _ _ S.at_) nsp), T.cl, T.nP, sawF_places a b p, _, rfl, p, _, _, c, rfl, rfl, sT _ _ hp5, ix_at (by rw [List.length_map, putAll_len, g.len]; exact cl), ?_⟩
      refine ⟨_, _, rfl, fun b o e n => ?_, ?_⟩
      · rw [upd_ne n]
        exact sT _ _ (f5 _ _ e n)
      · rw [upd_same, take_more hz, putAll_snoc, List.map_set]
        rfl
    · rintro σ H5 ⟨v2, v3, rfl, f5, hp5⟩
      rw [List.take_length, putAll_fill] at hp5
      refine ⟨_, rfl, r1, _, _, _, rfl, rfl, SqL.of (f5 _ _ h14 n1p), atI_nat (j := 0) rfl, (by show 1 ≤ sizeLine; decide), fun r hr => ?_⟩
      have sr := Same.new (o := .lst [.int (d : Int)]) hr
      have nrp : r ≠ p := fun e => by
        rw [e, hp5] at hr
        cases hr
      have fr : H r = none := by
        cases e : H r with
        | none => rfl
        | some o =>
          rw [f5 _ _ (s04 _ _ e) nrp] at hr
          cases hr
      have SR : SawAt C H5 s ⟨p, a, b⟩ (m.sitAs t) := ⟨dx, f5 _ _ (s04 _ _ S.at_) nsp, f5 _ _ (s04 _ _ S.arms) S.nap, f5 _ _ (s04 _ _ S.ws) S.nbp, hp5, S.nap, S.nbp⟩
      refine q _ r ⟨p, a, b⟩ (m.sitAs t) (fun b o e n1 n2 => sr _ _ (f5 _ _ (s04 _ _ e) n1)) Ad.Fr.refl (SR.same sr) (g.sitAs e3) (by rw [e2]) fr ?_
      rw [e2]
      exact upd_same
end
end Tb

set_option Elab.async false
set_option linter.unusedVariables false
set_option maxRecDepth 100000
set_option maxHeartbeats 2000000
namespace Tb
open PySem PySem.Spec PyProof.Rows L2
open C8 (Cal Met Mak pe_c pe_mt pe_mt0 pe_mk)
theorem cast_nodup (l : List Nat) : (cast l).Nodup ↔ l.Nodup := by
  rw [List.Nodup, cast, List.pairwise_map]
  exact ⟨fun h => h.imp fun {a b} k e => k (by rw [e]), fun h => h.imp fun {a b} k e => k (by omega)⟩
theorem few_named {n : Nat} {l : List Nat} (nd : l.Nodup) (h : ∀ c ∈ l, c < n) : l.length ≤ n := by
  rw [← (named_perm nd h).length_eq]
  refine Nat.le_trans (List.length_filter_le _ _) ?_
  rw [List.length_range]
  exact Nat.le_refl _
section
variable {P : Program} {w : World} {K : PySem.W.Frag} {mg : Str → Option Value} {base : Heap} {C : Addr}
/-! ### only -/
def spOnly (K : PySem.W.Frag) (C : Addr) : Sp := fun vs H Q _ => ∃ (s l : Addr) (p : Ad) (m : M) (cs : List Nat), vs = [.ref s, .ref l] ∧ SawAt C H s p m ∧ Ok m ∧ SqL K H l ((cast cs).map V.int) ∧ cs.length ≤ 8 ∧ Did C H s p m (.only cs) Q
abbrev nOnly : List Str := ["self", "children", "child"]
theorem scOnly : FnScope nOnly ["self", "children"] (defScope sOnly) := ⟨rfl, rfl, rfl, by decide +kernel, rfl, by decide +kernel, by decide +kernel⟩
theorem ok_only {f : Addr} {fd : FuncData} (F : Fun K "only" "Seesaw.only" sOnly f fd) (T : SawTxt K C) (O : Own mg) (N : Nums mg) (c1 : Met P w K mg base 1 C "has_child" (spHasC C) []) (c2 : Met P w K mg base 3 C "ways_to_balance" (spWays K C) []) :
    FnOk P w K mg base CX0 4 f fd ["self", "children"] (spOnly K C) := by
  refine F.ok scOnly (fun vs H Q E h => ?_) (fun cdv A outer s H vs Q E hr h => ?_)
  · obtain ⟨_, _, _, _, _, rfl, _⟩ := h
    rfl
  · obtain ⟨s, l, p, m, cs, rfl, SA, g, hl, h8, q⟩ := h
    have SA' := SA
    obtain ⟨dx, S⟩ := SA
    refine ⟨_, pss_cons (ps_if (pt_not (pt_val (pe_callB (cr_all rfl) (by rfl) O.all PyProof.Rows.boot_all (pa_cons
        (pe_lc (own := [("child", 2)]) (g := gName 2) (tt := tYes) (te := tMeth C "has_child" (spHasC C) [] E0 (tVar 0) (tCons (tVar 2) tNil)) rfl scOnly.nd (pi_list (pv 1)) (blkOk_by (N := nOnly) (sc := defScope sOnly) (by decide +kernel))
          (fun _ _ _ _ _ => pg_name (i := 2) scOnly.nd rfl (Or.inl rfl)) (fun _ _ _ _ _ => pts_nil) (fun _ _ _ _ _ => pe_mt c1 hr (by decide) (pv 0) (pa_cons (pv 2) pa_nil))) pa_nil)))) (pss_one (ps_ret (pe_lst (pa_cons (pe_k N.noKids) pa_nil)))) pss_nil)
      (pss_cons (ps_if (pt_cmpR op_lt (pe_lenSetD (by rfl) O.len (by rfl) O.set (pv 1)) (pe_callB call_len_seq (by rfl) O.len PySem.boot_len (pa_cons (pv 1) pa_nil)) (nomark _)) (pss_one (ps_ret (pe_lst (pa_cons (pe_k N.noKids) pa_nil)))) pss_nil)
      (pss_one (ps_ret (pe_lst (pa_cons (pe_callB call_len_seq (by rfl) O.len PySem.boot_len (pa_cons (pe_mt c2 hr (Nat.le_refl _) (pv 0) (pa_cons (pv 1) pa_nil)) pa_nil)) pa_nil))))), ?_⟩
    have st := step_only m cs
    refine ⟨_, rfl, l, rfl, ⟨_, hl⟩, fun D hD => ?_⟩
    refine lc_list (K := K) (a := l) (xs := (cast cs).map V.int) (fun i H' => Same H H' ∧ H' D = some (.lst (((cs.take i).map fun c => decide (c < m.ws.length)).map V.bl))) ⟨Same.new hD, upd_same⟩ (fun i H' _ ⟨s5, _⟩ => s5.seq hl) ?_ ?_
    · rintro i x H1 hi ⟨s1, hD1⟩
      obtain ⟨z, hz, rfl⟩ := map_get hi
      obtain ⟨c, hc, rfl⟩ := cast_get hz
      refine ⟨rfl, _, rfl, s, dx, _, rfl, s1 _ _ S.at_, sawF_no (by decide +kernel) (by decide +kernel) (by decide +kernel), _, rfl, s, p, m, c, rfl, SA'.same s1, _, hD1, ?_, Tb.Same.put s1 hD, ?_⟩
      · rw [List.length_map, List.length_map, List.length_take]
        have b4 : sizeLine = 16777216 := by decide
        omega
      · rw [upd_same, take_more hc, List.map_append, List.map_append]
        rfl
    · rintro H1 ⟨s1, hD1⟩
      rw [List.length_map, cast_len, List.take_length] at hD1
      refine ⟨D, _, rfl, SqL.of hD1, _, rfl, ?_⟩
      by_cases hk : ∀ c ∈ cs, c < m.ws.length
      · have ea : (cs.map fun c => decide (c < m.ws.length)).all id = true := by
          rw [List.all_map, List.all_eq_true]
          exact fun c hc => decide_eq_true (hk c hc)
        refine if_false_of (by rw [ea]; rfl) ?_
        have hl1 := s1.seq hl
        refine ⟨_, rfl, l, cast cs, rfl, hl1, by rw [cast_len]; omega, _, rfl, l, _, rfl, .inl hl1, _, _, rfl, rfl, _, rfl, ?_⟩
        show if decide (((distinct (cast cs)).length : Int) < (((cast cs).map V.int).length : Int)) = true then _ else _
        have dl := distinct_le (cast cs)
        rw [List.length_map]
        by_cases hn : cs.Nodup
        · have de := (distinct_all (cast cs)).mpr ((cast_nodup cs).mpr hn)
          refine if_false_of (decide_eq_false (by omega)) ?_
          rw [if_pos ⟨hn, hk⟩] at st
          have h5 := Nat.le_trans (few_named hn hk) g.board.2
          refine ⟨_, rfl, s, dx, _, rfl, s1 _ _ S.at_, sawF_no (by decide +kernel) (by decide +kernel) (by decide +kernel), _, rfl, s, l, p, m, cs, rfl, SA'.same s1, g, hl1, h5, hk, fun H2 r2 s2 n2 W => ?_⟩
          have W' := W
          obtain ⟨us, h2, _⟩ := W'
          refine ⟨r2, _, rfl, .inl (SqL.of h2), (by show 1 ≤ sizeLine; decide), fun r hr => ?_⟩
          have s12 := s1.trans s2
          refine q.read SA' g ⟨s12.trans (Same.new hr), s12.free hr, ?_⟩ st
          rw [upd_same, W.ln h2]
          rfl
        · have de : (distinct (cast cs)).length ≠ (cast cs).length := fun e => hn ((cast_nodup cs).mp ((distinct_all (cast cs)).mp e))
          refine if_true_of (decide_eq_true (by omega)) ⟨(by show 1 ≤ sizeLine; decide), fun r hr => ?_⟩
          rw [if_neg (fun z => hn z.1)] at st
          exact q.read SA' g ⟨s1.trans (Same.new hr), s1.free hr, upd_same⟩ st
      · have ea : (cs.map fun c => decide (c < m.ws.length)).all id = false := by
          rw [List.all_map, Bool.eq_false_iff]
          intro z
          rw [List.all_eq_true] at z
          exact hk fun c hc => of_decide_eq_true (z c hc)
        refine if_true_of (by rw [ea]; rfl) ⟨(by show 1 ≤ sizeLine; decide), fun r hr => ?_⟩
        rw [if_neg (fun z => hk z.2)] at st
        exact q.read SA' g ⟨s1.trans (Same.new hr), s1.free hr, upd_same⟩ st
/-! ### look -/
def seatN (m : M) (c : Nat) : Nat := (m.ps.getD c none).getD 0
theorem seatN_at {m : M} {c x : Nat} (h : m.ps[c]? = some (some x)) : seatN m c = x := by
  rw [seatN, List.getD_eq_getElem?_getD, h]
  rfl
def preL (m : M) : List Int := (m.k : Int) :: cast m.ws ++ [((seatsIn m.ps).length : Int)]
def lookTo (m : M) (i : Nat) : List Int := preL m ++ cast (((sitters 0 m.ps).take i).flatMap fun c => [c, seatN m c])
theorem look_all (m : M) : Mu46.step (some (absM m)) .look = (some (absM m), lookTo m (sitters 0 m.ps).length) := by
  rw [step_look, lookTo, List.take_length, sits_pairs m.ps 0 (seatN m) (fun c x e => by rw [Nat.zero_add]; exact seatN_at e), preL, List.append_assoc]
  rfl
theorem flat2_len (f : Nat → Nat) : ∀ (l : List Nat), (l.flatMap fun c => [c, f c]).length = 2 * l.length
  | [] => rfl
  | a :: l => by
    rw [List.flatMap_cons, List.length_append, flat2_len f l]
    show 2 + 2 * l.length = 2 * (l.length + 1)
    omega
theorem scLook : FnScope ["self", "children", "told", "child"] ["self"] (defScope sLook) := ⟨rfl, rfl, rfl, by decide +kernel, rfl, by decide +kernel, by decide +kernel⟩
theorem ok_look {f : Addr} {fd : FuncData} (F : Fun K "look" "Seesaw.look" sLook f fd) (T : SawTxt K C) (O : Own mg) (c1 : Met P w K mg base 1 C "seated" (spSeated C) []) : FnOk P w K mg base CX0 2 f fd ["self"] (spRead C .look) := by
  refine F.ok scLook (fun vs H Q E h => ?_) (fun cdv A outer s H vs Q E hr h => ?_)
  · obtain ⟨_, _, _, rfl, _⟩ := h
    rfl
  · obtain ⟨s, ⟨p, a, b⟩, m, rfl, SA, g, q⟩ := h
    have SA' := SA
    obtain ⟨dx, S⟩ := SA
    refine ⟨_, pss_cons (ps_set (i := 1) scLook.nd rfl (Or.inl rfl) (pe_mt0 c1 hr (Nat.le_refl _) (pv 0)))
      (pss_cons (ps_set (i := 2) scLook.nd rfl (Or.inl rfl) (pe_op op_cat (pe_op op_cat (pe_lst (pa_cons (pe_fld (pv 0) rfl) pa_nil)) (pe_fld (pv 0) rfl)) (pe_lst (pa_cons (pe_callB call_len_seq (by rfl) O.len PySem.boot_len (pa_cons (pv 1) pa_nil)) pa_nil))))
      (pss_cons (ps_for PassesOwn.never rfl (pi_list (pv 1)) (pg_name (i := 3) scLook.nd rfl (Or.inl rfl))
        (pss_one (ps_expr (pe_bm PySem.F.plainAttrs_list PySem.F.slot_list_extend PySem.F.type_list_extend mt_extend (pv 2) (pa_cons (pe_lst (pa_cons (pv 3) (pa_cons (pe_ix ix_list (pe_fld (pv 0) rfl) (pv 3) (fun _ _ => rfl)) pa_nil))) pa_nil)))))
      (pss_one (ps_ret (pv 2))))), ?_⟩
    have b2 := g.board.2
    have b3 := g.sit5
    have b4 : sizeLine = 16777216 := by decide
    refine ⟨_, rfl, s, dx, _, rfl, S.at_, sawF_no (by decide +kernel) (by decide +kernel) (by decide +kernel), s, ⟨p, a, b⟩, m, rfl, SA', g, fun H1 r1 n1 => ?_⟩
    obtain ⟨s1, nr1, h1⟩ := n1
    refine ⟨_, rfl, s, C, dx, _, _, rfl, s1 _ _ S.at_, T.cl, T.nSd, sawF_side a b p, (by show 1 ≤ sizeLine; decide), fun x hx => ?_⟩
    have sx := Same.new (o := .lst [.int (m.k : Int)]) hx
    have s2 := s1.trans sx
    refine ⟨_, rfl, s, C, dx, _, _, rfl, s2 _ _ S.at_, T.cl, T.nW, sawF_weights a b p, x, b, _, _, rfl, rfl, upd_same, s2 _ _ S.ws, (by show 1 + _ ≤ _; rw [List.length_map, cast_len]; omega), fun y hy => ?_⟩
    have sy := Same.new (o := .lst ([.int (m.k : Int)] ++ (cast m.ws).map V.int)) hy
    have s3 := s2.trans sy
    have h13 := sy _ _ (sx _ _ h1)
    refine ⟨_, rfl, r1, _, rfl, .inl (SqL.of h13), (by show 1 ≤ sizeLine; decide), fun z hz => ?_⟩
    have sz := Same.new (o := .lst [.int (((cast (sitters 0 m.ps)).map V.int).length : Nat)]) hz
    refine ⟨y, z, _, _, rfl, rfl, sz _ _ upd_same, upd_same, (by show ([V.int (m.k : Int)] ++ (cast m.ws).map V.int).length + 1 ≤ _; rw [List.length_append, List.length_map, cast_len]; show 1 + _ + 1 ≤ _; omega), fun t ht => ?_⟩
    have st := Same.new (o := .lst (([.int (m.k : Int)] ++ (cast m.ws).map V.int) ++ [.int (((cast (sitters 0 m.ps)).map V.int).length : Nat)])) ht
    have s5 := (s3.trans sz).trans st
    have h15 := st _ _ (sz _ _ h13)
    have nt : H t = none := s3.free (sz.free ht)
    have n1t : r1 ≠ t := fun e => by
      rw [← e, sz _ _ h13] at ht
      cases ht
    have ht5 : upd (upd (upd (upd H1 x (.lst [.int (m.k : Int)])) y (.lst ([.int (m.k : Int)] ++ (cast m.ws).map V.int))) z (.lst [.int (((cast (sitters 0 m.ps)).map V.int).length : Nat)])) t (.lst (([.int (m.k : Int)] ++ (cast m.ws).map V.int) ++ [.int (((cast (sitters 0 m.ps)).map V.int).length : Nat)])) t = some (.lst ((lookTo m 0).map V.int)) := by
      rw [upd_same, List.length_map, cast_len, seats_len, lookTo, List.take_zero, List.flatMap_nil, preL]
      show _ = some (HO.lst (((((m.k : Int) :: cast m.ws) ++ [((seatsIn m.ps).length : Int)]) ++ []).map V.int))
      rw [List.append_nil, List.map_append]
      rfl
    refine ⟨_, rfl, r1, rfl, ⟨_, SqL.of h15⟩, for_list (K := K) (a := r1) (xs := (cast (sitters 0 m.ps)).map V.int) (fun i σ H' => ∃ v3 : Option V, σ = [some (.ref s), some (.ref r1), some (.ref t), v3] ∧ Same H H' ∧ H' r1 = some (.lst ((cast (sitters 0 m.ps)).map V.int)) ∧ H' t = some (.lst ((lookTo m i).map V.int)))
      ⟨none, rfl, s5, h15, ht5⟩ (fun i σ H' _ ⟨_, _, _, k, _⟩ => SqL.of k) ?_ ?_⟩
    · rintro i v σ H5 hi ⟨v3, rfl, f5, k5, t5⟩
      obtain ⟨w0, hw, rfl⟩ := map_get hi
      obtain ⟨c, hc, rfl⟩ := cast_get hw
      obtain ⟨_, o, ho⟩ := sitters_mem m.ps 0 c (List.mem_of_getElem? hc)
      rw [Nat.sub_zero] at ho
      have hil : i < (sitters 0 m.ps).length := (List.getElem?_eq_some_iff.mp hc).1
      have ll : (lookTo m i).length ≤ 20 := by
        rw [lookTo, List.length_append, cast_len, flat2_len, List.length_take, preL, List.length_append, List.length_cons, cast_len]
        show _ + 1 + 1 + _ ≤ _
        omega
      refine ⟨_, rfl, .inl ⟨rfl, _, SqL.of t5⟩, _, rfl, _, rfl, s, C, dx, _, _, rfl, f5 _ _ S.at_, T.cl, T.nP, sawF_places a b p, _, rfl, p, _, _, _, rfl, rfl, SqL.of (f5 _ _ S.ps), atI_nat (j := c) (by rw [List.getElem?_map, ho]; rfl), (by show 2 ≤ sizeLine; decide), fun u hu => ?_⟩
      have su := Same.new (o := .lst [.int (c : Int), optV (some o)]) hu
      refine ⟨t, u, _, _, rfl, rfl, su _ _ t5, upd_same, (by rw [List.length_map]; show _ + 2 ≤ _; omega), ?_⟩
      refine ⟨_, rfl, Tb.Same.put (f5.trans su) nt, ?_, ?_⟩
      · rw [upd_ne n1t]
        exact su _ _ k5
      · rw [upd_same, lookTo, lookTo, take_more hc, look_snoc, cast_app, ← List.append_assoc, List.map_append (l₁ := preL m ++ _), seatN_at ho]
        rfl
    · rintro σ H5 ⟨v3, rfl, f5, k5, t5⟩
      rw [List.length_map, cast_len] at t5
      exact ⟨_, rfl, q.read SA' g ⟨f5, nt, t5⟩ (look_all m)⟩
end
end Tb

set_option Elab.async false
set_option linter.unusedVariables false
set_option maxRecDepth 100000
set_option maxHeartbeats 2000000
namespace Tb
open PySem PySem.Spec PyProof.Rows L2
open C8 (Cal Met Mak pe_c pe_mt pe_mt0 pe_mk)
def nums11 : List Int := [1, 2, 1, 0, 0, 2, 0, 0, 0, 0, 0]
/-- where a call ends, by its own numbers -/
theorem Ask.ends {c : List (List Int)} {x : Mu46.Call} (h : Ask c x) : ∃ n v : Nat, (flat c)[0]? = some (n : Int) ∧ nums11[n]? = some (v : Int) ∧
    (((n = 0 ∨ n = 9) ∧ ∃ r : Nat, (flat c)[1 + v]? = some (r : Int) ∧ (flat c).length = 1 + v + 1 + r) ∨ (n ≠ 0 ∧ n ≠ 9 ∧ (flat c).length = 1 + v)) := by
  cases h with
  | begin_ k ws h1 h2 h3 =>
    refine ⟨0, 1, rfl, rfl, .inl ⟨.inl rfl, ws.length, ?_, ?_⟩⟩
    · show some ((cast ws).length : Int) = _
      rw [cast_len]
    · show ((cast ws ++ []).length + 1) + 1 + 1 = _
      rw [List.append_nil, cast_len]
      omega
  | sit c x h1 h2 => exact ⟨1, 2, rfl, rfl, .inr ⟨by decide, by decide, rfl⟩⟩
  | up c h1 => exact ⟨2, 1, rfl, rfl, .inr ⟨by decide, by decide, rfl⟩⟩
  | tip => exact ⟨3, 0, rfl, rfl, .inr ⟨by decide, by decide, rfl⟩⟩
  | level => exact ⟨4, 0, rfl, rfl, .inr ⟨by decide, by decide, rfl⟩⟩
  | can c x h1 h2 => exact ⟨5, 2, rfl, rfl, .inr ⟨by decide, by decide, rfl⟩⟩
  | nearest => exact ⟨6, 0, rfl, rfl, .inr ⟨by decide, by decide, rfl⟩⟩
  | change => exact ⟨7, 0, rfl, rfl, .inr ⟨by decide, by decide, rfl⟩⟩
  | do_ => exact ⟨8, 0, rfl, rfl, .inr ⟨by decide, by decide, rfl⟩⟩
  | only l h1 h2 =>
    refine ⟨9, 0, rfl, rfl, .inl ⟨.inr rfl, l.length, ?_, ?_⟩⟩
    · show some ((cast l).length : Int) = _
      rw [cast_len]
    · show ((cast l ++ []).length + 1) + 1 = _
      rw [List.append_nil, cast_len]
      omega
  | look => exact ⟨10, 0, rfl, rfl, .inr ⟨by decide, by decide, rfl⟩⟩
theorem Ask.pos {c : List (List Int)} {x : Mu46.Call} (h : Ask c x) : 0 < (flat c).length := by
  obtain ⟨n, v, h0, _⟩ := h.ends
  exact (List.getElem?_eq_some_iff.mp h0).1
theorem Asks.at {cs : List (List (List Int))} {xs : List Mu46.Call} (h : Asks cs xs) : ∀ {i : Nat} {c : List (List Int)}, cs[i]? = some c → ∃ x, xs[i]? = some x ∧ Ask c x := by
  induction h with
  | nil =>
    intro i c e
    cases e
  | cons a b ih =>
    intro i c e
    cases i with
    | zero =>
      cases e
      exact ⟨_, rfl, a⟩
    | succ i => exact ih e
theorem Asks.len {cs : List (List (List Int))} {xs : List Mu46.Call} (h : Asks cs xs) : cs.length = xs.length := by
  induction h with
  | nil => rfl
  | cons a b ih => rw [List.length_cons, List.length_cons, ih]
/-- the numbers ahead of a call, the call, the numbers behind it -/
theorem flat_split {cs : List (List (List Int))} {i : Nat} {c : List (List Int)} (h : cs[i]? = some c) : cs.flatMap flat = (cs.take i).flatMap flat ++ (flat c ++ (cs.drop (i + 1)).flatMap flat) := by
  obtain ⟨hi, e⟩ := List.getElem?_eq_some_iff.mp h
  have e2 := List.take_append_drop i cs
  rw [List.drop_eq_getElem_cons hi, e] at e2
  conv => lhs; rw [← e2]
  rw [List.flatMap_append, List.flatMap_cons]
theorem mid_get {α : Type} {pre c post : List α} {j : Nat} {z : α} (h : c[j]? = some z) : (pre ++ (c ++ post))[pre.length + j]? = some z := by
  rw [List.getElem?_append_right (by omega), show pre.length + j - pre.length = j by omega, List.getElem?_append_left (List.getElem?_eq_some_iff.mp h).1]
  exact h
theorem mid_cut (pre c post : List Int) : cutV ((pre ++ (c ++ post)).map V.int) (some (pre.length : Int)) (some ((pre.length + c.length : Nat) : Int)) = c.map V.int := by
  rw [cutV, HT.sIx_nat, HT.sIx_nat, List.length_map, List.length_append, List.length_append, Nat.min_eq_left (by omega), Nat.min_eq_left (by omega), ← List.map_drop, ← List.map_take, List.drop_left,
    show pre.length + c.length - pre.length = c.length by omega, List.take_left]
abbrev sEnd : Stmt := top 37
abbrev sSplit : Stmt := top 38
section
variable {P : Program} {w : World} {K : PySem.W.Frag} {mg : Str → Option Value} {base : Heap}
/-- the table of how many numbers a call has -/
def Tbl (K : PySem.W.Frag) (mg : Str → Option Value) : Prop := ∃ a, mg "NUMBERS" = some (.ref a) ∧ ∀ H, SqT K H a (nums11.map V.int)
def spEnd (K : PySem.W.Frag) : Sp := fun vs H Q _ => ∃ (a : Addr) (pre post : List Int) (c : List (List Int)) (x : Mu46.Call), vs = [.ref a, .int pre.length] ∧ SqL K H a ((pre ++ (flat c ++ post)).map V.int) ∧ Ask c x ∧
  Q (.int ((pre.length + (flat c).length : Nat) : Int)) H
abbrev nEnd : List Str := ["calls", "start", "number", "end"]
theorem scEnd : FnScope nEnd ["calls", "start"] (defScope sEnd) := ⟨rfl, rfl, rfl, by decide +kernel, rfl, by decide +kernel, by decide +kernel⟩
theorem ok_end {f : Addr} {fd : FuncData} (F : Fun K "end_of_call" "end_of_call" sEnd f fd) (N : Nums mg) (B : Tbl K mg) : FnOk P w K mg base CX0 1 f fd ["calls", "start"] (spEnd K) := by
  refine F.ok scEnd (fun vs H Q E h => ?_) (fun cdv A outer s H vs Q E hr h => ?_)
  · obtain ⟨_, _, _, _, _, rfl, _⟩ := h
    rfl
  · obtain ⟨a, pre, post, c, x, rfl, ha, hc, q⟩ := h
    obtain ⟨aN, gN, tN⟩ := B
    obtain ⟨n, v, h0, hv, hd⟩ := hc.ends
    refine ⟨_, pss_cons (ps_set (i := 2) scEnd.nd rfl (Or.inl rfl) (pe_ix ix_list (pv 0) (pv 1) (fun _ _ => rfl)))
      (pss_cons (ps_set (i := 3) scEnd.nd rfl (Or.inl rfl) (pe_op op_add (pe_op op_add (pv 1) pe_int) (pe_ix ix_tup (pe_glob (v := .ref aN) rfl gN rfl) (pv 2) (fun _ _ => rfl))))
      (pss_cons (ps_if (pw_or (pt_cmpR op_eq (pv 2) (pe_k N.begin_) (nomark _)) (pw_or1 (pt_cmpR op_eq (pv 2) (pe_k N.only) (nomark _)))).pt
        (pss_one (ps_set (i := 3) scEnd.nd rfl (Or.inl rfl) (pe_op op_add (pe_op op_add (pv 3) pe_int) (pe_ix ix_list (pv 0) (pv 3) (fun _ _ => rfl))))) pss_nil)
      (pss_one (ps_ret (pv 3))))), ?_⟩
    have g0 := mid_get (pre := pre) (post := post) h0
    rw [Nat.add_zero] at g0
    refine ⟨_, rfl, _, rfl, a, _, _, _, rfl, rfl, ha, atI_nat (by rw [List.getElem?_map, g0]; rfl), ?_⟩
    refine ⟨_, rfl, _, _, rfl, rfl, _, rfl, aN, _, _, _, rfl, rfl, tN _, atI_nat (by rw [List.getElem?_map, hv]; rfl), _, _, rfl, rfl, ?_⟩
    refine ⟨_, rfl, rfl, _, rfl, ?_⟩
    rcases hd with ⟨hn, r, hr1, hl⟩ | ⟨n0, n9, hl⟩
    · have g1 := mid_get (pre := pre) (post := post) hr1
      have fin : ∀ D : Ends, D.rt = Q → (tSeq (tAsg (tOp (rI0 fun i j => .int (i + j)) (tOp (rI0 fun i j => .int (i + j)) (tVar 3) (tC (.int 1))) (tOp (rIxL K) (tVar 0) (tVar 3))) (gName 3)) (tRet (tVar 3))) D
          [some (.ref a), some (.int (pre.length : Int)), some (.int (n : Int)), some (.int ((pre.length : Int) + 1 + (v : Int)))] H := fun D hD => by
        have e : (pre.length : Int) + 1 + (v : Int) = ((pre.length + (1 + v) : Nat) : Int) := by omega
        refine ⟨_, rfl, _, _, rfl, rfl, _, rfl, _, rfl, a, _, _, _, rfl, rfl, ha, (by rw [e]; exact atI_nat (by rw [List.getElem?_map, g1]; rfl)), _, _, rfl, rfl, ?_⟩
        refine ⟨_, rfl, ?_⟩
        rw [hD]
        have e2 : (pre.length : Int) + 1 + (v : Int) + 1 + (r : Int) = ((pre.length + (flat c).length : Nat) : Int) := by
          rw [hl]
          omega
        show Q (.int ((pre.length : Int) + 1 + (v : Int) + 1 + (r : Int))) H
        rw [e2]
        exact q
      rcases hn with rfl | rfl
      · exact if_true_of rfl (if_true_of rfl (fin _ rfl))
      · refine if_false_of rfl ⟨_, rfl, rfl, _, rfl, if_true_of rfl (fin _ rfl)⟩
    · have e0 : decide (V.int (n : Int) = V.int 0) = false := by
        rw [decide_eq_false_iff_not]
        intro z
        injection z with z
        omega
      have e9 : decide (V.int (n : Int) = V.int 9) = false := by
        rw [decide_eq_false_iff_not]
        intro z
        injection z with z
        omega
      refine if_false_of e0 ⟨_, rfl, rfl, _, rfl, if_false_of e9 ?_⟩
      refine ⟨_, rfl, ?_⟩
      have e2 : (pre.length : Int) + 1 + (v : Int) = ((pre.length + (flat c).length : Nat) : Int) := by
        rw [hl]
        omega
      show Q (.int ((pre.length : Int) + 1 + (v : Int))) H
      rw [e2]
      exact q
end
end Tb

set_option Elab.async false
set_option linter.unusedVariables false
set_option maxRecDepth 100000
set_option maxHeartbeats 2000000
namespace Tb
open PySem PySem.Spec PyProof.Rows L2
open C8 (Cal Met Mak pe_c pe_mt pe_mt0 pe_mk)
/-- lists of numbers, in the heap -/
def IntsAt (H : Hp) (u : Addr) (s : List Int) : Prop := H u = some (.lst (s.map V.int))
def PartsAt (H : Hp) (p : Addr) (f : List (List Int)) : Prop := ∃ us : List Addr, H p = some (.lst (us.map V.ref)) ∧ All2 (IntsAt H) us f ∧ ¬ p ∈ us
theorem PartsAt.same {H H' : Hp} {p : Addr} {f : List (List Int)} (h : PartsAt H p f) (s : Same H H') : PartsAt H' p f := by
  obtain ⟨qs, h1, h2, h3⟩ := h
  exact ⟨qs, s _ _ h1, h2.mono fun q y r => s _ _ r, h3⟩
theorem All2.monoM {α β : Type} {R S : α → β → Prop} {as : List α} {bs : List β} (h : All2 R as bs) (f : ∀ a b, a ∈ as → R a b → S a b) : All2 S as bs := by
  induction h with
  | nil => exact .nil
  | cons a _ ih => exact .cons (f _ _ (List.mem_cons_self ..) a) (ih fun a b m r => f a b (List.mem_cons_of_mem _ m) r)
theorem PartsAt.push {H : Hp} {l t : Addr} {f : List (List Int)} {y : List Int} {xs : List V} (h : PartsAt H l f) (e : H l = some (.lst xs)) (r : IntsAt H t y) (n : l ≠ t) : PartsAt (upd H l (.lst (xs ++ [.ref t]))) l (f ++ [y]) := by
  obtain ⟨qs, h1, h2, h3⟩ := h
  have e2 : xs = qs.map V.ref := by
    rw [h1] at e
    cases e
    rfl
  subst e2
  refine ⟨qs ++ [t], ?_, (h2.monoM fun q y m r => ?_).app (.cons ?_ .nil), ?_⟩
  · rw [upd_same, List.map_append]
    rfl
  · show upd H l _ q = _
    rw [upd_ne (fun z => h3 (by rw [← z]; exact m))]
    exact r
  · show upd H l _ t = _
    rw [upd_ne (fun z => n z.symm)]
    exact r
  · intro m
    rcases List.mem_append.mp m with m | m
    · exact h3 m
    · exact n (List.mem_singleton.mp m)
section
variable {P : Program} {w : World} {K : PySem.W.Frag} {mg : Str → Option Value} {base : Heap}
def spSplit (K : PySem.W.Frag) : Sp := fun vs H Q _ => ∃ (a : Addr) (cs : List (List (List Int))) (xs : List Mu46.Call), vs = [.ref a] ∧ SqL K H a ((cs.flatMap flat).map V.int) ∧ Asks cs xs ∧ cs.length ≤ 60 ∧
  ∀ H' p, Same H H' → H p = none → PartsAt H' p (cs.map flat) → Q (.ref p) H'
abbrev nSplit : List Str := ["calls", "parts", "start", "end"]
theorem scSplit : FnScope nSplit ["calls"] (defScope sSplit) := ⟨rfl, rfl, rfl, by decide +kernel, rfl, by decide +kernel, by decide +kernel⟩
def lenTo (cs : List (List (List Int))) (i : Nat) : Nat := ((cs.take i).flatMap flat).length
theorem lenTo_more {cs : List (List (List Int))} {i : Nat} {c : List (List Int)} (h : cs[i]? = some c) : lenTo cs (i + 1) = lenTo cs i + (flat c).length := by
  rw [lenTo, take_more h, List.flatMap_append, List.length_append, List.flatMap_cons, List.flatMap_nil, List.append_nil]
  rfl
theorem lenTo_lt {cs : List (List (List Int))} {xs : List Mu46.Call} (A : Asks cs xs) {i : Nat} (h : lenTo cs i < (cs.flatMap flat).length) : ∃ c, cs[i]? = some c := by
  cases e : cs[i]? with
  | some c => exact ⟨c, rfl⟩
  | none =>
    rw [List.getElem?_eq_none_iff] at e
    rw [lenTo, List.take_of_length_le e] at h
    omega
theorem lenTo_ge {cs : List (List (List Int))} {xs : List Mu46.Call} (A : Asks cs xs) {i : Nat} (h : ¬ lenTo cs i < (cs.flatMap flat).length) : cs.take i = cs := by
  cases e : cs[i]? with
  | some c =>
    obtain ⟨x, _, hc⟩ := A.at e
    have := hc.pos
    rw [flat_split e, List.length_append, List.length_append, lenTo] at h
    omega
  | none =>
    rw [List.getElem?_eq_none_iff] at e
    exact List.take_of_length_le e
def leftOf (n : Nat) : List (Option V) → Nat
  | _ :: _ :: some (V.int z) :: _ => n - z.toNat
  | _ => 0
theorem ok_split {f : Addr} {fd : FuncData} (F : Fun K "split_calls" "split_calls" sSplit f fd) (O : Own mg) (c1 : Cal P w K mg base 1 "end_of_call" (spEnd K) []) : FnOk P w K mg base CX0 2 f fd ["calls"] (spSplit K) := by
  refine F.ok scSplit (fun vs H Q E h => ?_) (fun cdv A outer s H vs Q E hr h => ?_)
  · obtain ⟨_, _, _, rfl, _⟩ := h
    rfl
  · obtain ⟨a, cs, xs, rfl, ha, hA, h60, q⟩ := h
    refine ⟨_, pss_cons (ps_set (i := 1) scSplit.nd rfl (Or.inl rfl) (pe_lst pa_nil))
      (pss_cons (ps_set (i := 2) scSplit.nd rfl (Or.inl rfl) pe_int)
      (pss_cons (ps_while PassesOwn.never (pt_cmpR op_lt (pv 2) (pe_callB call_len_seq (by rfl) O.len PySem.boot_len (pa_cons (pv 0) pa_nil)) (nomark _))
        (pss_cons (ps_set (i := 3) scSplit.nd rfl (Or.inl rfl) (pe_c c1 hr (Nat.le_refl _) rfl (pa_cons (pv 0) (pa_cons (pv 2) pa_nil))))
        (pss_cons (ps_expr (pe_bm PySem.F.plainAttrs_list PySem.F.slot_list_append PySem.F.type_list_append mt_append (pv 1) (pa_cons (pe_slice sl_list (pv 0) (po_some (pv 2)) (po_some (pv 3))) pa_nil)))
        (pss_one (ps_set (i := 2) scSplit.nd rfl (Or.inl rfl) (pv 3))))))
      (pss_one (ps_ret (pv 1))))), ?_⟩
    refine ⟨Nat.zero_le _, fun p hp => ?_⟩
    refine while_by (fun σ H' => ∃ (i : Nat) (v3 : Option V), σ = [some (.ref a), some (.ref p), some (.int (lenTo cs i : Int)), v3] ∧ Same H H' ∧ PartsAt H' p ((cs.take i).map flat)) (fun σ _ => leftOf (cs.flatMap flat).length σ)
      ⟨0, none, rfl, Same.new hp, [], upd_same, .nil, by simp⟩ ?_ ?_
    · rintro σ H1 ⟨i, v3, rfl, s1, P1⟩
      have ha1 := s1.seq ha
      refine ⟨_, rfl, _, rfl, a, _, rfl, .inl ha1, _, _, rfl, rfl, _, rfl, ?_⟩
      rw [List.length_map]
      by_cases h : lenTo cs i < (cs.flatMap flat).length
      · refine if_true_of (decide_eq_true (by omega)) ?_
        obtain ⟨c, hc⟩ := lenTo_lt hA h
        obtain ⟨x, hx, hask⟩ := hA.at hc
        have es := flat_split hc
        have ha1' := ha1
        rw [es] at ha1'
        refine ⟨_, rfl, _, rfl, a, _, _, c, x, rfl, ha1', hask, ?_⟩
        have P1' := P1
        obtain ⟨us, hp1, hus, _⟩ := P1'
        refine ⟨_, rfl, .inl ⟨rfl, _, SqL.of hp1⟩, _, rfl, _, rfl, _, rfl, _, rfl, _, rfl, a, _, rfl, ha1', fun t ht => ?_⟩
        have ec := mid_cut ((cs.take i).flatMap flat) (flat c) ((cs.drop (i + 1)).flatMap flat)
        have st := Same.new (o := .lst (cutV ((((cs.take i).flatMap flat) ++ (flat c ++ (cs.drop (i + 1)).flatMap flat)).map V.int) (some (((cs.take i).flatMap flat).length : Int)) (some ((((cs.take i).flatMap flat).length + (flat c).length : Nat) : Int)))) ht
        have hsz : (us.map V.ref).length < sizeLine := by
          rw [List.length_map, hus.len, List.length_map, List.length_take]
          have : sizeLine = 16777216 := by decide
          omega
        refine ⟨p, _, _, rfl, rfl, st _ _ hp1, hsz, _, rfl, ⟨i + 1, some (.int ((lenTo cs i + (flat c).length : Nat) : Int)), ?_, Tb.Same.put (s1.trans st) hp, ?_⟩, ?_⟩
        · rw [lenTo_more hc]
          rfl
        · have e3 : (cs.take (i + 1)).map flat = (cs.take i).map flat ++ [flat c] := by
            rw [take_more hc, List.map_append]
            rfl
          rw [e3]
          refine (P1.same st).push (st _ _ hp1) ?_ (ne_of_none hp1 ht)
          show upd H1 t _ t = _
          rw [upd_same, ec]
        · show (cs.flatMap flat).length - ((lenTo cs i + (flat c).length : Nat) : Int).toNat < (cs.flatMap flat).length - ((lenTo cs i : Nat) : Int).toNat
          have := hask.pos
          rw [Int.toNat_natCast, Int.toNat_natCast]
          omega
      · refine if_false_of (decide_eq_false (by omega)) ?_
        refine ⟨_, rfl, ?_⟩
        rw [lenTo_ge hA h] at P1
        exact q H1 p s1 hp P1
    · rintro σ H1 Q1 Q2 hq ⟨v, e1, v2, e2, p1, ys, e3, hs, i, j, e4, e5, k, e6, h⟩
      exact ⟨v, e1, v2, e2, p1, ys, e3, hs, i, j, e4, e5, k, e6, hq _ _ h⟩
end
end Tb

set_option Elab.async false
set_option linter.unusedVariables false
set_option maxRecDepth 100000
set_option maxHeartbeats 2000000
namespace Tb
open PySem PySem.Spec PyProof.Rows L2
open C8 (Cal Met Mak pe_c pe_mt pe_mt0 pe_mk)
/-! ### a line: no seesaw, or one -/
abbrev Ln := Option (Addr × Ad × M)
def Ad.all (d : Ad) : List Addr := [d.p, d.a, d.b]
def lineF (v : V) : List (Str × V) := [("seesaw", v)]
theorem lineF_get (v : V) : (lineF v).lookup ("seesaw" : Str) = some v := lk_here
theorem lineF_no {v : V} {x : Str} (h : (x == ("seesaw" : Str)) = false) : (lineF v).lookup x = none := (lk_past h).trans rfl
theorem lineF_put (u v : V) : putF "seesaw" v (lineF u) = lineF v := put_here
def sawV : Ln → V
  | none => .non
  | some (s, _, _) => .ref s
def absL : Ln → Mu46.Abs
  | none => none
  | some (_, _, m) => some (absM m)
def LineAt (CL C : Addr) (H : Hp) (l : Addr) (o : Ln) : Prop := (∃ dx, H l = some (.ins CL dx (lineF (sawV o)))) ∧ ∀ s p m, o = some (s, p, m) → SawAt C H s p m ∧ Ok m ∧ s ≠ l
/-- behind a call all stands as it was but the line, its seesaw and the places -/
def LMoved (H H' : Hp) (l : Addr) (o : Ln) : Prop := ∀ b ob, H b = some ob → b ≠ l → (∀ s p m, o = some (s, p, m) → b ≠ s ∧ b ≠ p.p) → H' b = some ob
/-- what a line has behind a call is what it had, or new -/
def Fresh (H : Hp) (o o' : Ln) : Prop := ∀ s' p' m', o' = some (s', p', m') → (H s' = none ∨ ∃ p m, o = some (s', p, m)) ∧ ∀ y, y ∈ p'.all → H y = none ∨ ∃ s p m, o = some (s, p, m) ∧ y ∈ p.all
def LDid (CL C : Addr) (H : Hp) (l : Addr) (o : Ln) (x : Mu46.Call) (Q : VK) : Prop := ∀ (H' : Hp) (r : Addr) (o' : Ln), LMoved H H' l o → Fresh H o o' → LineAt CL C H' l o' →
  absL o' = (Mu46.step (absL o) x).1 → H r = none → H' r = some (.lst ((Mu46.step (absL o) x).2.map V.int)) → Q (.ref r) H'
theorem LineAt.same {CL C : Addr} {H H' : Hp} {l : Addr} {o : Ln} (h : LineAt CL C H l o) (e : Same H H') : LineAt CL C H' l o := by
  obtain ⟨⟨dx, h1⟩, h2⟩ := h
  exact ⟨⟨dx, e _ _ h1⟩, fun s p m q => ⟨(h2 s p m q).1.same e, (h2 s p m q).2⟩⟩
theorem Fresh.refl {H : Hp} {o : Ln} : Fresh H o o := fun s p m e => ⟨.inr ⟨p, m, e⟩, fun y hy => .inr ⟨s, p, m, e, hy⟩⟩
theorem LDid.read {CL C : Addr} {H H' : Hp} {l r : Addr} {o : Ln} {x : Mu46.Call} {Q : VK} {a : List Int} (d : LDid CL C H l o x Q) (h : LineAt CL C H l o) (n : NewL H H' r a) (e : Mu46.step (absL o) x = (absL o, a)) : Q (.ref r) H' :=
  d H' r o (fun b ob q _ _ => n.1 _ _ q) Fresh.refl (h.same n.1) (by rw [e]) n.2.1 (by rw [e]; exact n.2.2)
structure LineTxt (K : PySem.W.Frag) (CL : Addr) : Prop where
  cl : Cls K CL
  nS : NoAttr K CL "seesaw"
abbrev cLine' : Stmt := top 40
abbrev sInitL : Stmt := inClass cLine' 0
abbrev sBegin : Stmt := inClass cLine' 1
abbrev sAnswer : Stmt := inClass cLine' 2
abbrev sAnswers : Stmt := top 41
theorem good_iff (k : Nat) (l : List Nat) : (k < 1 ∨ Mu46.SEATS < k ∨ l.isEmpty = true ∨ Mu46.CHILDREN < l.length ∨ 2 * k < l.length ∨ l.any (fun (w : Nat) => w == 0 || decide (Mu46.HEAVY < w)) = true) ↔ ¬ Good k l := by
  have e1 : Mu46.SEATS = 4 := rfl
  have e2 : Mu46.CHILDREN = 5 := rfl
  have e3 : Mu46.HEAVY = 60 := rfl
  rw [e1, e2, e3, List.isEmpty_iff, List.any_eq_true]
  constructor
  · rintro (h | h | h | h | h | ⟨w, hw, h⟩) ⟨⟨g1, g2⟩, ⟨g3, g4, g5⟩, g6⟩
    · omega
    · omega
    · rw [h] at g3
      exact absurd g3 (by decide)
    · omega
    · omega
    · have := g6 w hw
      rw [Bool.or_eq_true, beq_iff_eq, decide_eq_true_eq] at h
      omega
  · intro h
    by_cases g1 : k < 1
    · exact .inl g1
    by_cases g2 : 4 < k
    · exact .inr (.inl g2)
    by_cases g3 : l = []
    · exact .inr (.inr (.inl g3))
    by_cases g4 : 5 < l.length
    · exact .inr (.inr (.inr (.inl g4)))
    by_cases g5 : 2 * k < l.length
    · exact .inr (.inr (.inr (.inr (.inl g5))))
    refine .inr (.inr (.inr (.inr (.inr ?_))))
    refine Classical.byContradiction fun g6 => h ⟨⟨by omega, by omega⟩, ⟨?_, by omega, by omega⟩, fun w hw => ?_⟩
    · cases l with
      | nil => exact absurd rfl g3
      | cons a l =>
        rw [List.length_cons]
        omega
    · refine Classical.byContradiction fun g7 => g6 ⟨w, hw, ?_⟩
      rw [Bool.or_eq_true, beq_iff_eq, decide_eq_true_eq]
      omega
theorem step_begin (o : Mu46.Abs) (k : Nat) (l : List Nat) : Mu46.step o (.begin_ k l) = if Good k l then (some ⟨⟨k, l⟩, []⟩, [0]) else (o, [-1]) := by
  have e : Mu46.step o (.begin_ k l) = if k < 1 ∨ Mu46.SEATS < k ∨ l.isEmpty = true ∨ Mu46.CHILDREN < l.length ∨ 2 * k < l.length ∨ l.any (fun (w : Nat) => w == 0 || decide (Mu46.HEAVY < w)) = true then (o, [-1]) else (some ⟨⟨k, l⟩, []⟩, [0]) := by
    cases o <;> rfl
  rw [e]
  by_cases g : Good k l
  · rw [if_pos g, if_neg (fun h => (good_iff k l).mp h g)]
  · rw [if_neg g, if_pos ((good_iff k l).mpr g)]
theorem sits_none : ∀ (l : List Nat) (i : Nat), sitsFrom i (l.map fun _ => none) = []
  | [], i => rfl
  | a :: l, i => sits_none l (i + 1)
section
variable {P : Program} {w : World} {K : PySem.W.Frag} {mg : Str → Option Value} {base : Heap} {CL C : Addr}
/-! ### Line.__init__ -/
def spInitL (CL : Addr) : Sp := fun vs H Q _ => ∃ (l dx : Addr), vs = [.ref l] ∧ H l = some (.ins CL dx []) ∧ ∀ H' : Hp, H' l = some (.ins CL dx (lineF .non)) → But l H H' → Q .non H'
theorem scInitL : FnScope ["self"] ["self"] (defScope sInitL) := ⟨rfl, rfl, rfl, by decide +kernel, rfl, by decide +kernel, by decide +kernel⟩
theorem ok_initL {f : Addr} {fd : FuncData} (F : Fun K "__init__" "Line.__init__" sInitL f fd) (T : LineTxt K CL) : FnOk P w K mg base CX0 1 f fd ["self"] (spInitL CL) := by
  refine F.ok scInitL (fun vs H Q E h => ?_) (fun cdv A outer s H vs Q E hr h => ?_)
  · obtain ⟨_, _, rfl, _⟩ := h
    rfl
  · obtain ⟨l, dx, rfl, hl, q⟩ := h
    refine ⟨_, pss_one (ps_fld (pv 0) pe_non rfl), ?_⟩
    refine ⟨_, rfl, l, CL, dx, _, rfl, hl, T.cl, T.nS, (by show 0 < 1000; decide), ?_⟩
    exact q _ upd_same But.put
/-! ### Line.begin -/
def spBegin (K : PySem.W.Frag) (CL C : Addr) : Sp := fun vs H Q _ => ∃ (l b : Addr) (o : Ln) (k : Nat) (ws : List Nat), vs = [.ref l, .int k, .ref b] ∧ LineAt CL C H l o ∧ SqL K H b ((cast ws).map V.int) ∧ k ≤ 9 ∧ LDid CL C H l o (.begin_ k ws) Q
theorem scBegin : FnScope ["self", "side", "weights"] ["self", "side", "weights"] (defScope sBegin) := ⟨rfl, rfl, rfl, by decide +kernel, rfl, by decide +kernel, by decide +kernel⟩
theorem ok_begin {f : Addr} {fd : FuncData} (F : Fun K "begin" "Line.begin" sBegin f fd) (T : LineTxt K CL) (N : Nums mg) (c1 : Cal P w K mg base 1 "can_be_built" (spBuilt K) []) (c2 : Mak P w K mg base 2 "Seesaw" C (spInitS K C) []) :
    FnOk P w K mg base CX0 4 f fd ["self", "side", "weights"] (spBegin K CL C) := by
  refine F.ok scBegin (fun vs H Q E h => ?_) (fun cdv A outer s H vs Q E hr h => ?_)
  · obtain ⟨_, _, _, _, _, rfl, _⟩ := h
    rfl
  · obtain ⟨l, b, o, k, ws, rfl, L, hb, hk, q⟩ := h
    refine ⟨_, pss_cons (ps_if (pt_not (pt_val (pe_c c1 hr (by decide) rfl (pa_cons (pv 1) (pa_cons (pv 2) pa_nil))))) (pss_one (ps_ret (pe_lst (pa_cons (pe_k N.noBoard) pa_nil)))) pss_nil)
      (pss_cons (ps_fld (pv 0) (pe_mk c2 hr (Nat.le_refl _) rfl (pa_cons (pv 1) (pa_cons (pv 2) pa_nil))) rfl)
      (pss_one (ps_ret (pe_lst (pa_cons pe_int pa_nil))))), ?_⟩
    have st := step_begin (absL o) k ws
    refine ⟨_, rfl, _, rfl, b, k, ws, rfl, hb, hk, _, rfl, ?_⟩
    by_cases g : Good k ws
    · refine if_false_of (by rw [decide_eq_true g]; rfl) ?_
      rw [if_pos g] at st
      refine ⟨_, rfl, _, rfl, fun s dx ns nd ne => ?_⟩
      have s1 := Same.new (o := .own s) nd
      have ns' : upd H dx (.own s) s = none := by
        rw [upd_ne (fun e => ne e.symm)]
        exact ns
      have s2 := Same.new (o := .ins C dx []) ns'
      have s12 := s1.trans s2
      refine ⟨s, dx, b, k, ws, rfl, upd_same, s12.seq hb, g, fun H2 p f2 np S => ⟨rfl, ?_⟩⟩
      have s3 : Same H H2 := fun b' o' e => f2 _ _ (s12 _ _ e) (ne_of_none e ns)
      obtain ⟨⟨dl, hl⟩, L2⟩ := L
      have hl2 := s3 _ _ hl
      have np0 : H p.p = none ∧ H p.a = none ∧ H p.b = none := ⟨s12.free np.1, s12.free np.2.1, s12.free np.2.2⟩
      have nsl : s ≠ l := fun e => by
        rw [e, hl] at ns
        cases ns
      refine ⟨_, rfl, l, CL, dl, _, rfl, hl2, T.cl, T.nS, (by show 1 < 1000; decide), (by show 1 ≤ sizeLine; decide), fun r hr => ?_⟩
      rw [lineF_put] at hr ⊢
      have nrl : r ≠ l := fun e => by
        rw [e, upd_same] at hr
        cases hr
      have nr : H r = none := s3.free (by rw [upd_ne nrl] at hr; exact hr)
      have sr := Same.new (o := .lst [.int 0]) hr
      have SL : SawAt C (upd H2 l (.ins CL dl (lineF (.ref s)))) s p ⟨k, ws, ws.map fun _ => none⟩ := by
        obtain ⟨dx', S⟩ := S
        have nl : ∀ {x : Addr} {xs : List V}, H2 x = some (.lst xs) → x ≠ l := fun h => ne_of h hl2 (by intro z; cases z)
        refine ⟨dx', ?_, ?_, ?_, ?_, S.nap, S.nbp⟩
        · rw [upd_ne nsl]
          exact S.at_
        · rw [upd_ne (nl S.arms)]
          exact S.arms
        · rw [upd_ne (nl S.ws)]
          exact S.ws
        · rw [upd_ne (nl S.ps)]
          exact S.ps
      refine q _ r (some (s, p, ⟨k, ws, ws.map fun _ => none⟩)) ?_ ?_ ⟨⟨dl, sr _ _ upd_same⟩, ?_⟩ ?_ nr ?_
      · intro b' ob e n1 _
        refine sr _ _ ?_
        rw [upd_ne n1]
        exact s3 _ _ e
      · intro s' p' m' e
        cases e
        refine ⟨.inl ns, fun y hy => .inl ?_⟩
        rcases List.mem_cons.mp hy with rfl | hy
        · exact np0.1
        rcases List.mem_cons.mp hy with rfl | hy
        · exact np0.2.1
        rcases List.mem_cons.mp hy with rfl | hy
        · exact np0.2.2
        · cases hy
      · intro s' p' m' e
        cases e
        refine ⟨SL.same sr, ⟨g, List.length_map _, fun x hx => ?_⟩, nsl⟩
        obtain ⟨y, _, hy⟩ := List.mem_map.mp hx
        cases hy
      · rw [st]
        show some (absM _) = some _
        rw [absM, sits_none]
      · rw [st]
        exact upd_same
    · refine if_true_of (by rw [decide_eq_false g]; rfl) ⟨(by show 1 ≤ sizeLine; decide), fun r hr => ?_⟩
      rw [if_neg g] at st
      exact q.read L ⟨Same.new hr, hr, upd_same⟩ st
end
end Tb

set_option Elab.async false
set_option linter.unusedVariables false
set_option maxRecDepth 100000
set_option maxHeartbeats 2000000
namespace Tb
open PySem PySem.Spec PyProof.Rows L2
open C8 (Cal Met Mak pe_c pe_mt pe_mt0 pe_mk)
def NotBegin (x : Mu46.Call) : Prop := ∀ k l, x ≠ .begin_ k l
theorem step_none {x : Mu46.Call} (h : NotBegin x) : Mu46.step none x = (none, [-9]) := by
  cases x with
  | begin_ k l => exact absurd rfl (h k l)
  | _ => rfl
theorem Ask.kind {c : List (List Int)} {x : Mu46.Call} (h : Ask c x) : (∃ (k : Nat) (ws : List Nat), c = [[0, (k : Int)], cast ws] ∧ x = .begin_ k ws ∧ k ≤ 9) ∨ (NotBegin x ∧ ∃ n : Nat, n ≠ 0 ∧ (flat c)[0]? = some (n : Int)) := by
  cases h with
  | begin_ k ws h1 h2 h3 => exact .inl ⟨k, ws, rfl, rfl, h1⟩
  | sit c x h1 h2 => exact .inr ⟨fun _ _ => Mu46.Call.noConfusion, 1, by decide, rfl⟩
  | up c h1 => exact .inr ⟨fun _ _ => Mu46.Call.noConfusion, 2, by decide, rfl⟩
  | tip => exact .inr ⟨fun _ _ => Mu46.Call.noConfusion, 3, by decide, rfl⟩
  | level => exact .inr ⟨fun _ _ => Mu46.Call.noConfusion, 4, by decide, rfl⟩
  | can c x h1 h2 => exact .inr ⟨fun _ _ => Mu46.Call.noConfusion, 5, by decide, rfl⟩
  | nearest => exact .inr ⟨fun _ _ => Mu46.Call.noConfusion, 6, by decide, rfl⟩
  | change => exact .inr ⟨fun _ _ => Mu46.Call.noConfusion, 7, by decide, rfl⟩
  | do_ => exact .inr ⟨fun _ _ => Mu46.Call.noConfusion, 8, by decide, rfl⟩
  | only l h1 h2 => exact .inr ⟨fun _ _ => Mu46.Call.noConfusion, 9, by decide, rfl⟩
  | look => exact .inr ⟨fun _ _ => Mu46.Call.noConfusion, 10, by decide, rfl⟩
theorem cut3 (k : Int) (ws : List Nat) : cutV ((flat [[0, k], cast ws]).map V.int) (some 3) none = (cast ws).map V.int := by
  have e : flat [[0, k], cast ws] = [0, k, ((cast ws).length : Int)] ++ (cast ws ++ []) := rfl
  have e3 : HT.sIx ((flat [[0, k], cast ws]).map V.int).length 0 (some 3) = 3 := by
    rw [show (3 : Int) = ((3 : Nat) : Int) from rfl, HT.sIx_nat, List.length_map, e, List.length_append]
    show min 3 (3 + _) = 3
    omega
  rw [cutV, e3, HT.sIx_none, List.take_of_length_le (by rw [List.length_drop]; exact Nat.le_refl _), ← List.map_drop, e, List.append_nil]
  rfl
section
variable {P : Program} {w : World} {K : PySem.W.Frag} {mg : Str → Option Value} {base : Heap} {CL C : Addr}
def spAsk (K : PySem.W.Frag) (C : Addr) : Sp := fun vs H Q _ => ∃ (s b : Addr) (p : Ad) (m : M) (c : List (List Int)) (x : Mu46.Call), vs = [.ref s, .ref b] ∧ SawAt C H s p m ∧ Ok m ∧ SqL K H b ((flat c).map V.int) ∧ Ask c x ∧ NotBegin x ∧ Did C H s p m x Q
/-! ### Line.answer -/
def spAnswer (K : PySem.W.Frag) (CL C : Addr) : Sp := fun vs H Q _ => ∃ (l b : Addr) (o : Ln) (c : List (List Int)) (x : Mu46.Call), vs = [.ref l, .ref b] ∧ LineAt CL C H l o ∧ SqL K H b ((flat c).map V.int) ∧ Ask c x ∧ LDid CL C H l o x Q
theorem scAnswer : FnScope ["self", "call"] ["self", "call"] (defScope sAnswer) := ⟨rfl, rfl, rfl, by decide +kernel, rfl, by decide +kernel, by decide +kernel⟩
theorem ok_answer {f : Addr} {fd : FuncData} {j : Nat} (hj : j ≤ 6) (F : Fun K "answer" "Line.answer" sAnswer f fd) (T : LineTxt K CL) (N : Nums mg) (c1 : Met P w K mg base 4 CL "begin" (spBegin K CL C) []) (c2 : Cal P w K mg base j "ask" (spAsk K C) []) :
    FnOk P w K mg base CX0 7 f fd ["self", "call"] (spAnswer K CL C) := by
  refine F.ok scAnswer (fun vs H Q E h => ?_) (fun cdv A outer s H vs Q E hr h => ?_)
  · obtain ⟨_, _, _, _, _, rfl, _⟩ := h
    rfl
  · obtain ⟨l, b, o, c, x, rfl, L, hb, hc, q⟩ := h
    refine ⟨_, pss_cons (ps_if (pt_cmpR op_eq (pe_ix ix_list (pv 1) pe_int (fun _ _ => rfl)) (pe_k N.begin_) (nomark _))
        (pss_one (ps_ret (pe_mt c1 hr (by decide) (pv 0) (pa_cons (pe_ix ix_list (pv 1) pe_int (fun _ _ => rfl)) (pa_cons (pe_slice sl_list (pv 1) (po_some pe_int) po_none) pa_nil))))) pss_nil)
      (pss_cons (ps_if (pt_cmpR op_isN (pe_fld (pv 0) rfl) pe_non (nomark _)) (pss_one (ps_ret (pe_lst (pa_cons (pe_k N.noSaw) pa_nil)))) pss_nil)
      (pss_one (ps_ret (pe_c c2 hr hj rfl (pa_cons (pe_fld (pv 0) rfl) (pa_cons (pv 1) pa_nil)))))), ?_⟩
    have L' := L
    obtain ⟨⟨dl, hl⟩, hS⟩ := L'
    rcases hc.kind with ⟨k, ws, rfl, rfl, hk⟩ | ⟨nb, n, hn, h0⟩
    · refine ⟨_, rfl, b, _, _, _, rfl, rfl, hb, atI_nat (j := 0) rfl, rfl, _, rfl, ?_⟩
      refine if_true_of rfl ?_
      refine ⟨_, rfl, l, dl, _, rfl, hl, lineF_no (by decide +kernel), _, rfl, b, _, _, _, rfl, rfl, hb, atI_nat (j := 1) rfl, _, rfl, _, rfl, b, _, rfl, hb, fun t ht => ?_⟩
      have st := Same.new (o := .lst (cutV ((flat [[0, (k : Int)], cast ws]).map V.int) (some 3) none)) ht
      refine ⟨l, t, o, k, ws, rfl, L.same st, SqL.of (by rw [cut3]; exact upd_same), hk, fun H' r o' m1 f1 l1 e1 n1 h1 => ?_⟩
      refine q H' r o' (fun b' ob e a1 a2 => m1 _ _ (st _ _ e) a1 a2) (fun s' p' m' e => ?_) l1 e1 (st.free n1) h1
      obtain ⟨u1, u2⟩ := f1 s' p' m' e
      exact ⟨u1.imp st.free id, fun y hy => (u2 y hy).imp st.free id⟩
    · refine ⟨_, rfl, b, _, _, _, rfl, rfl, hb, atI_nat (j := 0) (by rw [List.getElem?_map, h0]; rfl), rfl, _, rfl, ?_⟩
      refine if_false_of (by show decide (V.int (n : Int) = V.int 0) = false; rw [decide_eq_false_iff_not]; intro z; injection z with z; omega) ?_
      refine ⟨_, rfl, l, CL, dl, _, _, rfl, hl, T.cl, T.nS, lineF_get _, rfl, _, rfl, ?_⟩
      cases o with
      | none =>
        refine if_true_of rfl ⟨(by show 1 ≤ sizeLine; decide), fun r hr => ?_⟩
        exact q.read L ⟨Same.new hr, hr, upd_same⟩ (step_none nb)
      | some y =>
        obtain ⟨s, p, m⟩ := y
        obtain ⟨S, g, nsl⟩ := hS s p m rfl
        refine if_false_of rfl ?_
        refine ⟨_, rfl, l, CL, dl, _, _, rfl, hl, T.cl, T.nS, lineF_get _, _, rfl, s, b, p, m, c, x, rfl, S, g, hb, hc, nb, fun H' r p' m' m1 f1 s1 g1 e1 n1 h1 => ?_⟩
        have nlp : l ≠ p.p := by
          obtain ⟨dx, S⟩ := S
          exact ne_of hl S.ps (by intro z; cases z)
        refine q H' r (some (s, p', m')) (fun b' ob e a1 a2 => m1 _ _ e (a2 s p m rfl).2 (a2 s p m rfl).1) (fun s2 p2 m2 e => ?_) ⟨⟨dl, m1 _ _ hl nlp (fun e => nsl e.symm)⟩, fun s2 p2 m2 e => ?_⟩ e1 n1 h1
        · cases e
          refine ⟨.inr ⟨p, m, rfl⟩, fun y hy => ?_⟩
          have u : ∀ {y' y : Addr}, (y' = y ∨ H y' = none) → y ∈ p.all → H y' = none ∨ ∃ s2 p2 m2, (some (s, p, m) : Ln) = some (s2, p2, m2) ∧ y' ∈ p2.all := fun h hy => by
            rcases h with rfl | h
            · exact .inr ⟨s, p, m, rfl, hy⟩
            · exact .inl h
          rcases List.mem_cons.mp hy with rfl | hy
          · exact u f1.1 (List.mem_cons_self ..)
          rcases List.mem_cons.mp hy with rfl | hy
          · exact u f1.2.1 (List.mem_cons_of_mem _ (List.mem_cons_self ..))
          rcases List.mem_cons.mp hy with rfl | hy
          · exact u f1.2.2 (List.mem_cons_of_mem _ (List.mem_cons_of_mem _ (List.mem_cons_self ..)))
          · cases hy
        · cases e
          exact ⟨s1, g1, nsl⟩
end
end Tb

set_option Elab.async false
set_option linter.unusedVariables false
set_option maxRecDepth 100000
set_option maxHeartbeats 2000000
namespace Tb
open PySem PySem.Spec PyProof.Rows L2
open C8 (Cal Met Mak pe_c pe_mt pe_mt0 pe_mk)
/-! ### the whole line -/
def stTo (s : Mu46.Abs) (xs : List Mu46.Call) : Mu46.Abs := xs.foldl (fun s x => (Mu46.step s x).1) s
theorem play_snoc : ∀ (xs : List Mu46.Call) (s : Mu46.Abs) (x : Mu46.Call), play s (xs ++ [x]) = play s xs ++ [(Mu46.step (stTo s xs) x).2]
  | [], s, x => rfl
  | y :: xs, s, x => by
    show (Mu46.step s y).2 :: play (Mu46.step s y).1 (xs ++ [x]) = (Mu46.step s y).2 :: play (Mu46.step s y).1 xs ++ [_]
    rw [play_snoc xs]
    rfl
theorem play_app : ∀ (xs ys : List Mu46.Call) (s : Mu46.Abs), ∃ r, play s (xs ++ ys) = play s xs ++ r
  | [], ys, s => ⟨play s ys, rfl⟩
  | y :: xs, ys, s => by
    obtain ⟨r, e⟩ := play_app xs ys (Mu46.step s y).1
    exact ⟨r, by show (Mu46.step s y).2 :: play (Mu46.step s y).1 (xs ++ ys) = _; rw [e]; rfl⟩
theorem told_app (a b : List (List Int)) : PyFlat.told (a ++ b) = PyFlat.told a ++ PyFlat.told b := by
  rw [PyFlat.told, List.flatMap_append]
  rfl
theorem told_one (a : List Int) : PyFlat.told [a] = (a.length : Int) :: a := by
  rw [PyFlat.told, List.flatMap_cons, List.flatMap_nil, List.append_nil]
def toldTo (xs : List Mu46.Call) (i : Nat) : List Int := PyFlat.told (play none (xs.take i))
def stAt (xs : List Mu46.Call) (i : Nat) : Mu46.Abs := stTo none (xs.take i)
theorem stAt_more {xs : List Mu46.Call} {i : Nat} {x : Mu46.Call} (h : xs[i]? = some x) : stAt xs (i + 1) = (Mu46.step (stAt xs i) x).1 := by
  rw [stAt, take_more h, stTo, List.foldl_append]
  rfl
theorem toldTo_more {xs : List Mu46.Call} {i : Nat} {x : Mu46.Call} (h : xs[i]? = some x) : toldTo xs (i + 1) = toldTo xs i ++ (((Mu46.step (stAt xs i) x).2.length : Int) :: (Mu46.step (stAt xs i) x).2) := by
  rw [toldTo, take_more h, play_snoc, told_app, told_one]
  rfl
theorem toldTo_le (xs : List Mu46.Call) (i : Nat) : (toldTo xs i).length ≤ (PyFlat.told (play none xs)).length := by
  obtain ⟨r, e⟩ := play_app (xs.take i) (xs.drop i) none
  rw [List.take_append_drop] at e
  rw [e, told_app, List.length_append, toldTo]
  omega
theorem flat_ne {c : List (List Int)} {x : Mu46.Call} (h : Ask c x) : (flat c).map V.int ≠ [] := fun e => by
  have := h.pos
  rw [List.map_eq_nil_iff] at e
  rw [e] at this
  exact absurd this (by decide)
section
variable {P : Program} {w : World} {K : PySem.W.Frag} {mg : Str → Option Value} {base : Heap} {CL C : Addr}
def spAns (K : PySem.W.Frag) : Sp := fun vs H Q _ => ∃ (a : Addr) (ns : List Int), vs = [.ref a] ∧ SqL K H a (ns.map V.int) ∧ PyMu46.answers_asked ns = true ∧
  ∀ (H' : Hp) (p : Addr), H' p = some (.lst ((PyMu46.answers ns).map V.int)) → Q (.ref p) H'
abbrev nAns : List Str := ["calls", "line", "told", "call", "numbers"]
theorem scAns : FnScope nAns ["calls"] (defScope sAnswers) := ⟨rfl, rfl, rfl, by decide +kernel, rfl, by decide +kernel, by decide +kernel⟩
theorem ok_ans {f : Addr} {fd : FuncData} (F : Fun K "answers" "answers" sAnswers f fd) (O : Own mg) (c1 : Mak P w K mg base 1 "Line" CL (spInitL CL) []) (c2 : Cal P w K mg base 2 "split_calls" (spSplit K) []) (c3 : Met P w K mg base 7 CL "answer" (spAnswer K CL C) []) :
    FnOk P w K mg base CX0 8 f fd ["calls"] (spAns K) := by
  refine F.ok scAns (fun vs H Q E h => ?_) (fun cdv A outer s H vs Q E hr h => ?_)
  · obtain ⟨_, _, rfl, _⟩ := h
    rfl
  · obtain ⟨a, ns, rfl, ha, hask, q⟩ := h
    obtain ⟨cs, xs, hA, rfl, h60, hans, hlen⟩ := asked_in hask
    obtain ⟨fL, fdL, psL, dsL, ML, FL, gL, bL, dL⟩ := c1.ex
    refine ⟨_, pss_cons (ps_set (i := 1) scAns.nd rfl (Or.inl rfl) (pe_make0 ML FL (hr.mono (by decide)) rfl gL bL dL pass0))
      (pss_cons (ps_set (i := 2) scAns.nd rfl (Or.inl rfl) (pe_lst pa_nil))
      (pss_cons (ps_for PassesOwn.never rfl (pi_list (pe_c c2 hr (by decide) rfl (pa_cons (pv 0) pa_nil))) (pg_name (i := 3) scAns.nd rfl (Or.inl rfl))
        (pss_cons (ps_set (i := 4) scAns.nd rfl (Or.inl rfl) (pe_mt c3 hr (Nat.le_refl _) (pv 1) (pa_cons (pv 3) pa_nil)))
        (pss_cons (ps_expr (pe_bm PySem.F.plainAttrs_list PySem.F.slot_list_append PySem.F.type_list_append mt_append (pv 2) (pa_cons (pe_callB call_len_seq (by rfl) O.len PySem.boot_len (pa_cons (pv 4) pa_nil)) pa_nil)))
        (pss_one (ps_expr (pe_bm PySem.F.plainAttrs_list PySem.F.slot_list_extend PySem.F.type_list_extend mt_extend (pv 2) (pa_cons (pv 4) pa_nil)))))))
      (pss_one (ps_ret (pv 2))))), ?_⟩
    -- line = Line()
    intro l dx nl nd ne
    refine ⟨l, dx, rfl, upd_same, fun H1 hl1 b1 => ⟨rfl, ?_⟩⟩
    have s1 : Same H H1 := Same.made nl nd b1
    -- told = []
    refine ⟨Nat.zero_le _, fun T hT => ?_⟩
    have s2 := Same.new (o := .lst []) hT
    have s12 := s1.trans s2
    -- for call in split_calls(calls)
    refine ⟨_, rfl, a, cs, xs, rfl, s12.seq ha, hA, h60, fun H0 p s3 np P0 => ⟨p, rfl, ?_⟩⟩
    obtain ⟨us, hp, hus, _⟩ := P0
    have hT0 := s3 _ _ (upd_same (H := H1) (a := T) (o := .lst []))
    have hl0 := s3 _ _ (s2 _ _ hl1)
    have npT : p ≠ T := fun e => by
      rw [e, upd_same] at np
      cases np
    have npl : p ≠ l := ne_of hp hl0 (by intro z; cases z)
    have nTl : T ≠ l := ne_of hT0 hl0 (by intro z; cases z)
    refine ⟨⟨_, SqL.of hp⟩, for_list (K := K) (a := p) (xs := us.map V.ref) (fun i σ H' => ∃ (o : Ln) (v3 v4 : Option V), σ = [some (.ref a), some (.ref l), some (.ref T), v3, v4] ∧
      (∀ b ob, H0 b = some ob → b ≠ T → b ≠ l → H' b = some ob) ∧ H' T = some (.lst ((toldTo xs i).map V.int)) ∧ LineAt CL C H' l o ∧ absL o = stAt xs i ∧ (∀ s' p' m', o = some (s', p', m') → H0 s' = none ∧ ∀ y, y ∈ p'.all → H0 y = none))
      ⟨none, none, none, rfl, fun b ob e _ _ => e, hT0, ⟨⟨dx, hl0⟩, fun _ _ _ e => (by cases e)⟩, rfl, fun _ _ _ e => (by cases e)⟩ (fun i σ H' _ ⟨_, _, _, _, f5, _⟩ => SqL.of (f5 _ _ hp npT npl)) ?_ ?_⟩
    · rintro i y σ H5 hi ⟨o, v3, v4, rfl, f5, hT5, L5, e5, fr5⟩
      obtain ⟨u, hu, rfl⟩ := map_get hi
      obtain ⟨fc, hfc, hu0⟩ := hus.at hu
      obtain ⟨c, hc, rfl⟩ := map_get hfc
      obtain ⟨x, hx, hcx⟩ := hA.at hc
      have nuT : u ≠ T := ne_of hu0 hT0 (by intro z; injection z with z; exact flat_ne hcx z)
      have nul : u ≠ l := ne_of hu0 hl0 (by intro z; cases z)
      have L5' := L5
      obtain ⟨⟨dl, hl5⟩, _⟩ := L5'
      have back : ∀ {b : Addr}, H5 b = none → H0 b = none := fun {b} e => by
        cases e0 : H0 b with
        | none => rfl
        | some ob =>
          by_cases c1 : b = T
          · rw [c1, hT5] at e
            cases e
          by_cases c2 : b = l
          · rw [c2, hl5] at e
            cases e
          rw [f5 _ _ e0 c1 c2] at e
          cases e
      refine ⟨_, rfl, l, dl, _, rfl, hl5, lineF_no (by decide +kernel), _, rfl, l, u, o, c, x, rfl, L5, SqL.of (f5 _ _ hu0 nuT nul), hcx, fun H6 r o' m6 f6 L6 e6 n6 h6 => ?_⟩
      rw [e5] at e6 h6
      have hnT : ∀ s p m, o = some (s, p, m) → T ≠ s ∧ T ≠ p.p := fun s p m e => ⟨ne_of_none hT0 (fr5 s p m e).1, ne_of_none hT0 ((fr5 s p m e).2 _ (List.mem_cons_self ..))⟩
      have hT6 := m6 _ _ hT5 nTl hnT
      have nrT : r ≠ T := fun e => by
        rw [e, hT5] at n6
        cases n6
      have fr6 : ∀ s' p' m', o' = some (s', p', m') → H0 s' = none ∧ ∀ y, y ∈ p'.all → H0 y = none := fun s' p' m' e => by
        obtain ⟨u1, u2⟩ := f6 s' p' m' e
        refine ⟨?_, ?_⟩
        · rcases u1 with u1 | ⟨p2, m2, u1⟩
          · exact back u1
          · exact (fr5 _ _ _ u1).1
        · intro y hy
          rcases u2 y hy with u2 | ⟨s2, p2, m2, u2, hy2⟩
          · exact back u2
          · exact (fr5 _ _ _ u2).2 y hy2
      have tm := toldTo_more hx
      have tl := toldTo_le xs (i + 1)
      rw [tm, List.length_append, List.length_cons, ← hans] at tl
      have hz : sizeLine = 16777216 := by decide
      refine ⟨_, rfl, .inl ⟨rfl, _, SqL.of hT6⟩, _, rfl, r, _, rfl, .inl (SqL.of h6), T, _, _, rfl, rfl, hT6, (by rw [List.length_map]; omega), ?_⟩
      refine ⟨_, rfl, .inl ⟨rfl, _, SqL.of upd_same⟩, _, rfl, T, r, _, _, rfl, rfl, upd_same, (by rw [upd_ne nrT]; exact h6), (by rw [List.length_append, List.length_map, List.length_map]; show _ + 1 + _ ≤ _; omega), ?_⟩
      refine ⟨o', _, _, rfl, fun b ob e c1 c2 => ?_, ?_, ?_, ?_, fr6⟩
      · rw [upd_ne c1, upd_ne c1]
        exact m6 _ _ (f5 _ _ e c1 c2) c2 fun s p m e' => ⟨ne_of_none e (fr5 s p m e').1, ne_of_none e ((fr5 s p m e').2 _ (List.mem_cons_self ..))⟩
      · rw [upd_same, tm, List.map_append, List.length_map, List.append_assoc]
        rfl
      · obtain ⟨⟨d6, hl6⟩, hS6⟩ := L6
        refine ⟨⟨d6, by rw [upd_ne (fun e => nTl e.symm), upd_ne (fun e => nTl e.symm)]; exact hl6⟩, fun s' p' m' e => ?_⟩
        obtain ⟨S6, g6, n6'⟩ := hS6 s' p' m' e
        refine ⟨?_, g6, n6'⟩
        obtain ⟨n1, n2⟩ := fr6 s' p' m' e
        have k1 : s' ≠ T := fun z => ne_of_none hT0 n1 z.symm
        have k2 : p'.p ≠ T := fun z => ne_of_none hT0 (n2 _ (List.mem_cons_self ..)) z.symm
        have k3 : p'.a ≠ T := fun z => ne_of_none hT0 (n2 _ (List.mem_cons_of_mem _ (List.mem_cons_self ..))) z.symm
        have k4 : p'.b ≠ T := fun z => ne_of_none hT0 (n2 _ (List.mem_cons_of_mem _ (List.mem_cons_of_mem _ (List.mem_cons_self ..)))) z.symm
        obtain ⟨dx6, S6⟩ := S6
        refine ⟨dx6, ?_, ?_, ?_, ?_, S6.nap, S6.nbp⟩
        · rw [upd_ne k1, upd_ne k1]
          exact S6.at_
        · rw [upd_ne k3, upd_ne k3]
          exact S6.arms
        · rw [upd_ne k4, upd_ne k4]
          exact S6.ws
        · rw [upd_ne k2, upd_ne k2]
          exact S6.ps
      · rw [e6, stAt_more hx]
    · rintro σ H5 ⟨o, v3, v4, rfl, f5, hT5, L5, e5, fr5⟩
      refine ⟨_, rfl, q H5 T ?_⟩
      rw [hT5, List.length_map, hus.len, List.length_map, hA.len, toldTo, List.take_length, hans]
end
end Tb

set_option Elab.async false
set_option linter.unusedVariables false
set_option maxRecDepth 100000
set_option maxHeartbeats 2000000
namespace Tb
open PySem PySem.Spec PyProof.Rows L2
open C8 (Cal Met Mak pe_c pe_mt pe_mt0 pe_mk)
abbrev sAsk : Stmt := top 39
theorem cut2 (l : List Nat) : cutV ((flat [[9], cast l]).map V.int) (some 2) none = (cast l).map V.int := by
  have e : flat [[9], cast l] = [9, ((cast l).length : Int)] ++ (cast l ++ []) := rfl
  have e3 : HT.sIx ((flat [[9], cast l]).map V.int).length 0 (some 2) = 2 := by
    rw [show (2 : Int) = ((2 : Nat) : Int) from rfl, HT.sIx_nat, List.length_map, e, List.length_append]
    show min 2 (2 + _) = 2
    omega
  rw [cutV, e3, HT.sIx_none, List.take_of_length_le (by rw [List.length_drop]; exact Nat.le_refl _), ← List.map_drop, e, List.append_nil]
  rfl
theorem Did.same {C : Addr} {H H2 : Hp} {s : Addr} {p : Ad} {m : M} {c : Mu46.Call} {Q : VK} (d : Did C H s p m c Q) (e : Same H H2) : Did C H2 s p m c Q := fun H' r p' m' mv fr S g a n h =>
  d H' r p' m' (fun b o k n1 n2 => mv b o (e _ _ k) n1 n2) ⟨fr.1.imp id e.free, fr.2.1.imp id e.free, fr.2.2.imp id e.free⟩ S g a (e.free n) h
theorem step_tip (m : M) : Mu46.step (some (absM m)) .tip = (some (absM m), tipOf m) := by
  show (some (absM m), Mu46.nums (Mu46.told ⟨m.k, m.ws⟩ (sitsFrom 0 m.ps))) = _
  rw [told_tips]
  rfl
theorem step_ch (m : M) : Mu46.step (some (absM m)) .change = (some (absM m), chOf m) := rfl
section
variable {P : Program} {w : World} {K : PySem.W.Frag} {mg : Str → Option Value} {base : Heap} {CL C : Addr}
theorem scAsk : FnScope ["seesaw", "call", "number"] ["seesaw", "call"] (defScope sAsk) := ⟨rfl, rfl, rfl, by decide +kernel, rfl, by decide +kernel, by decide +kernel⟩
theorem ok_ask {f : Addr} {fd : FuncData} (F : Fun K "ask" "ask" sAsk f fd) (T : SawTxt K C) (N : Nums mg) (c1 : Met P w K mg base 3 C "sit" (spSit C) []) (c2 : Met P w K mg base 2 C "up" (spUp C) []) (c3 : Met P w K mg base 2 C "tip" (spTip C) [])
    (c4 : Met P w K mg base 3 C "level" (spRead C .level) []) (c5 : Met P w K mg base 3 C "can" (spCan C) []) (c6 : Met P w K mg base 2 C "nearest" (spRead C .nearest) []) (c7 : Met P w K mg base 4 C "change" (spChange C) []) (c8 : Met P w K mg base 5 C "do" (spRead C .do_) [])
    (c9 : Met P w K mg base 4 C "only" (spOnly K C) []) (c10 : Met P w K mg base 2 C "look" (spRead C .look) []) : FnOk P w K mg base CX0 6 f fd ["seesaw", "call"] (spAsk K C) := by
  refine F.ok scAsk (fun vs H Q E h => ?_) (fun cdv A outer s H vs Q E hr h => ?_)
  · obtain ⟨_, _, _, _, _, _, rfl, _⟩ := h
    rfl
  · obtain ⟨s, b, p, m, c, x, rfl, SA, g, hb, hc, nb, q⟩ := h
    have SA' := SA
    obtain ⟨dx, S⟩ := SA
    refine ⟨_, pss_cons (ps_set (i := 2) scAsk.nd rfl (Or.inl rfl) (pe_ix ix_list (pv 1) pe_int (fun _ _ => rfl)))
      (pss_cons (ps_if (pt_cmpR op_eq (pv 2) (pe_k N.sit) (nomark _)) (pss_one (ps_ret (pe_mt c1 hr (by decide) (pv 0) (pa_cons (pe_ix ix_list (pv 1) pe_int (fun _ _ => rfl)) (pa_cons (pe_ix ix_list (pv 1) pe_int (fun _ _ => rfl)) pa_nil))))) pss_nil)
      (pss_cons (ps_if (pt_cmpR op_eq (pv 2) (pe_k N.up) (nomark _)) (pss_one (ps_ret (pe_mt c2 hr (by decide) (pv 0) (pa_cons (pe_ix ix_list (pv 1) pe_int (fun _ _ => rfl)) pa_nil)))) pss_nil)
      (pss_cons (ps_if (pt_cmpR op_eq (pv 2) (pe_k N.tip) (nomark _)) (pss_one (ps_ret (pe_mt0 c3 hr (by decide) (pv 0)))) pss_nil)
      (pss_cons (ps_if (pt_cmpR op_eq (pv 2) (pe_k N.level) (nomark _)) (pss_one (ps_ret (pe_mt0 c4 hr (by decide) (pv 0)))) pss_nil)
      (pss_cons (ps_if (pt_cmpR op_eq (pv 2) (pe_k N.can) (nomark _)) (pss_one (ps_ret (pe_mt c5 hr (by decide) (pv 0) (pa_cons (pe_ix ix_list (pv 1) pe_int (fun _ _ => rfl)) (pa_cons (pe_ix ix_list (pv 1) pe_int (fun _ _ => rfl)) pa_nil))))) pss_nil)
      (pss_cons (ps_if (pt_cmpR op_eq (pv 2) (pe_k N.nearest) (nomark _)) (pss_one (ps_ret (pe_mt0 c6 hr (by decide) (pv 0)))) pss_nil)
      (pss_cons (ps_if (pt_cmpR op_eq (pv 2) (pe_k N.change) (nomark _)) (pss_one (ps_ret (pe_mt0 c7 hr (by decide) (pv 0)))) pss_nil)
      (pss_cons (ps_if (pt_cmpR op_eq (pv 2) (pe_k N.do_) (nomark _)) (pss_one (ps_ret (pe_mt0 c8 hr (Nat.le_refl _) (pv 0)))) pss_nil)
      (pss_cons (ps_if (pt_cmpR op_eq (pv 2) (pe_k N.only) (nomark _)) (pss_one (ps_ret (pe_mt c9 hr (by decide) (pv 0) (pa_cons (pe_slice sl_list (pv 1) (po_some pe_int) po_none) pa_nil)))) pss_nil)
      (pss_one (ps_ret (pe_mt0 c10 hr (by decide) (pv 0))))))))))))), ?_⟩
    cases hc with
    | begin_ k ws h1 h2 h3 => exact absurd rfl (nb k ws)
    | sit c x h1 h2 =>
      refine ⟨_, rfl, b, _, _, _, rfl, rfl, hb, atI_nat (j := 0) rfl, ?_⟩
      refine ⟨_, rfl, rfl, _, rfl, if_true_of rfl ?_⟩
      exact ⟨_, rfl, s, dx, _, rfl, S.at_, sawF_no (by decide +kernel) (by decide +kernel) (by decide +kernel), _, rfl, b, _, _, _, rfl, rfl, hb, atI_nat (j := 1) rfl, _, rfl, b, _, _, _, rfl, rfl, hb, atI_nat (j := 2) rfl, s, p, m, c, x, rfl, SA', g, q⟩
    | up c h1 =>
      refine ⟨_, rfl, b, _, _, _, rfl, rfl, hb, atI_nat (j := 0) rfl, ?_⟩
      refine ⟨_, rfl, rfl, _, rfl, if_false_of rfl ⟨_, rfl, rfl, _, rfl, if_true_of rfl ?_⟩⟩
      exact ⟨_, rfl, s, dx, _, rfl, S.at_, sawF_no (by decide +kernel) (by decide +kernel) (by decide +kernel), _, rfl, b, _, _, _, rfl, rfl, hb, atI_nat (j := 1) rfl, s, p, m, c, rfl, SA', g, q⟩
    | tip =>
      refine ⟨_, rfl, b, _, _, _, rfl, rfl, hb, atI_nat (j := 0) rfl, ?_⟩
      refine ⟨_, rfl, rfl, _, rfl, if_false_of rfl ⟨_, rfl, rfl, _, rfl, if_false_of rfl ⟨_, rfl, rfl, _, rfl, if_true_of rfl ?_⟩⟩⟩
      exact ⟨_, rfl, s, dx, _, rfl, S.at_, sawF_no (by decide +kernel) (by decide +kernel) (by decide +kernel), s, p, m, rfl, SA', g, fun H' r n => q.read SA' g n (step_tip m)⟩
    | level =>
      refine ⟨_, rfl, b, _, _, _, rfl, rfl, hb, atI_nat (j := 0) rfl, ?_⟩
      refine ⟨_, rfl, rfl, _, rfl, if_false_of rfl ⟨_, rfl, rfl, _, rfl, if_false_of rfl ⟨_, rfl, rfl, _, rfl, if_false_of rfl ⟨_, rfl, rfl, _, rfl, if_true_of rfl ?_⟩⟩⟩⟩
      exact ⟨_, rfl, s, dx, _, rfl, S.at_, sawF_no (by decide +kernel) (by decide +kernel) (by decide +kernel), s, p, m, rfl, SA', g, q⟩
    | can c x h1 h2 =>
      refine ⟨_, rfl, b, _, _, _, rfl, rfl, hb, atI_nat (j := 0) rfl, ?_⟩
      refine ⟨_, rfl, rfl, _, rfl, if_false_of rfl ⟨_, rfl, rfl, _, rfl, if_false_of rfl ⟨_, rfl, rfl, _, rfl, if_false_of rfl ⟨_, rfl, rfl, _, rfl, if_false_of rfl ⟨_, rfl, rfl, _, rfl, if_true_of rfl ?_⟩⟩⟩⟩⟩
      exact ⟨_, rfl, s, dx, _, rfl, S.at_, sawF_no (by decide +kernel) (by decide +kernel) (by decide +kernel), _, rfl, b, _, _, _, rfl, rfl, hb, atI_nat (j := 1) rfl, _, rfl, b, _, _, _, rfl, rfl, hb, atI_nat (j := 2) rfl, s, p, m, c, x, rfl, SA', g, q⟩
    | nearest =>
      refine ⟨_, rfl, b, _, _, _, rfl, rfl, hb, atI_nat (j := 0) rfl, ?_⟩
      refine ⟨_, rfl, rfl, _, rfl, if_false_of rfl ⟨_, rfl, rfl, _, rfl, if_false_of rfl ⟨_, rfl, rfl, _, rfl, if_false_of rfl ⟨_, rfl, rfl, _, rfl, if_false_of rfl ⟨_, rfl, rfl, _, rfl, if_false_of rfl ⟨_, rfl, rfl, _, rfl, if_true_of rfl ?_⟩⟩⟩⟩⟩⟩
      exact ⟨_, rfl, s, dx, _, rfl, S.at_, sawF_no (by decide +kernel) (by decide +kernel) (by decide +kernel), s, p, m, rfl, SA', g, q⟩
    | change =>
      refine ⟨_, rfl, b, _, _, _, rfl, rfl, hb, atI_nat (j := 0) rfl, ?_⟩
      refine ⟨_, rfl, rfl, _, rfl, if_false_of rfl ⟨_, rfl, rfl, _, rfl, if_false_of rfl ⟨_, rfl, rfl, _, rfl, if_false_of rfl ⟨_, rfl, rfl, _, rfl, if_false_of rfl ⟨_, rfl, rfl, _, rfl, if_false_of rfl ⟨_, rfl, rfl, _, rfl, if_false_of rfl ⟨_, rfl, rfl, _, rfl, if_true_of rfl ?_⟩⟩⟩⟩⟩⟩⟩
      exact ⟨_, rfl, s, dx, _, rfl, S.at_, sawF_no (by decide +kernel) (by decide +kernel) (by decide +kernel), s, p, m, rfl, SA', g, fun H' r n => q.read SA' g n (step_ch m)⟩
    | do_ =>
      refine ⟨_, rfl, b, _, _, _, rfl, rfl, hb, atI_nat (j := 0) rfl, ?_⟩
      refine ⟨_, rfl, rfl, _, rfl, if_false_of rfl ⟨_, rfl, rfl, _, rfl, if_false_of rfl ⟨_, rfl, rfl, _, rfl, if_false_of rfl ⟨_, rfl, rfl, _, rfl, if_false_of rfl ⟨_, rfl, rfl, _, rfl, if_false_of rfl ⟨_, rfl, rfl, _, rfl, if_false_of rfl ⟨_, rfl, rfl, _, rfl, if_false_of rfl ⟨_, rfl, rfl, _, rfl, if_true_of rfl ?_⟩⟩⟩⟩⟩⟩⟩⟩
      exact ⟨_, rfl, s, dx, _, rfl, S.at_, sawF_no (by decide +kernel) (by decide +kernel) (by decide +kernel), s, p, m, rfl, SA', g, q⟩
    | only l h1 h2 =>
      refine ⟨_, rfl, b, _, _, _, rfl, rfl, hb, atI_nat (j := 0) rfl, ?_⟩
      refine ⟨_, rfl, rfl, _, rfl, if_false_of rfl ⟨_, rfl, rfl, _, rfl, if_false_of rfl ⟨_, rfl, rfl, _, rfl, if_false_of rfl ⟨_, rfl, rfl, _, rfl, if_false_of rfl ⟨_, rfl, rfl, _, rfl, if_false_of rfl ⟨_, rfl, rfl, _, rfl, if_false_of rfl ⟨_, rfl, rfl, _, rfl, if_false_of rfl ⟨_, rfl, rfl, _, rfl, if_false_of rfl ⟨_, rfl, rfl, _, rfl, if_true_of rfl ?_⟩⟩⟩⟩⟩⟩⟩⟩⟩
      refine ⟨_, rfl, s, dx, _, rfl, S.at_, sawF_no (by decide +kernel) (by decide +kernel) (by decide +kernel), _, rfl, _, rfl, b, _, rfl, hb, fun t ht => ?_⟩
      have st := Same.new (o := .lst (cutV ((flat [[9], cast l]).map V.int) (some 2) none)) ht
      exact ⟨s, t, p, m, l, rfl, SA'.same st, g, SqL.of (by rw [cut2]; exact upd_same), h1, q.same st⟩
    | look =>
      refine ⟨_, rfl, b, _, _, _, rfl, rfl, hb, atI_nat (j := 0) rfl, ?_⟩
      refine ⟨_, rfl, rfl, _, rfl, if_false_of rfl ⟨_, rfl, rfl, _, rfl, if_false_of rfl ⟨_, rfl, rfl, _, rfl, if_false_of rfl ⟨_, rfl, rfl, _, rfl, if_false_of rfl ⟨_, rfl, rfl, _, rfl, if_false_of rfl ⟨_, rfl, rfl, _, rfl, if_false_of rfl ⟨_, rfl, rfl, _, rfl, if_false_of rfl ⟨_, rfl, rfl, _, rfl, if_false_of rfl ⟨_, rfl, rfl, _, rfl, if_false_of rfl ?_⟩⟩⟩⟩⟩⟩⟩⟩⟩
      exact ⟨_, rfl, s, dx, _, rfl, S.at_, sawF_no (by decide +kernel) (by decide +kernel) (by decide +kernel), s, p, m, rfl, SA', g, q⟩
end
end Tb

set_option Elab.async false
set_option linter.unusedVariables false
set_option maxRecDepth 100000
set_option maxHeartbeats 2000000
namespace Tb
open PySem PySem.Spec PyProof.Rows L2
open C8 (Cal Met Mak pe_c pe_mt pe_mt0 pe_mk)
open PySem.W (Codec)
theorem all_mk {P : Program} {w : World} {K : PySem.W.Frag} {h : Heap} {mg : Str → Option Value} {fa : Addr} (X : K.In h) (G : h.Ns mainGlobals mg) (hfa : mg "answers" = some (.ref fa))
    {f1 f2 f3 f10 f11 f4 f5 f6 f7 f8 f9 fs1 fs2 fs3 fs9 fs10 fs11 fs4 fs5 fs6 fs7 fs8 fs12 fs13 fs14 fs15 fs16 fl1 fl2 fl3 CS CL aN : Addr} {dN : Option Addr} {slN : Array (Option Value)} {nN : Nat} {t0 t1 t2 t3 t4 t5 t6 t7 t8 t9 t10 t11 t12 t13 t14 t15 t16 t17 t18 t19 t20 t21 t22 t23 t24 u0 u1 u2 u3 u4 u5 u6 u7 u8 u9 u10 : Tok}
    {od1 an1 : Option Addr} {sl1 : Array (Option Value)} {oc1 kV1 dc1 pm1 cd1 ct1 : Value} {od2 an2 : Option Addr} {sl2 : Array (Option Value)} {oc2 kV2 dc2 pm2 cd2 ct2 : Value} {od3 an3 : Option Addr} {sl3 : Array (Option Value)} {oc3 kV3 dc3 pm3 cd3 ct3 : Value} {od10 an10 : Option Addr} {sl10 : Array (Option Value)} {oc10 kV10 dc10 pm10 cd10 ct10 : Value} {od11 an11 : Option Addr} {sl11 : Array (Option Value)} {oc11 kV11 dc11 pm11 cd11 ct11 : Value} {od4 an4 : Option Addr} {sl4 : Array (Option Value)} {oc4 kV4 dc4 pm4 cd4 ct4 : Value} {od5 an5 : Option Addr} {sl5 : Array (Option Value)} {oc5 kV5 dc5 pm5 cd5 ct5 : Value} {od6 an6 : Option Addr} {sl6 : Array (Option Value)} {oc6 kV6 dc6 pm6 cd6 ct6 : Value} {od7 an7 : Option Addr} {sl7 : Array (Option Value)} {oc7 kV7 dc7 pm7 cd7 ct7 : Value} {od8 an8 : Option Addr} {sl8 : Array (Option Value)} {oc8 kV8 dc8 pm8 cd8 ct8 : Value} {od9 an9 : Option Addr} {sl9 : Array (Option Value)} {oc9 kV9 dc9 pm9 cd9 ct9 : Value} {ods1 ans1 : Option Addr} {sls1 : Array (Option Value)} {ocs1 kVs1 dcs1 pms1 cds1 cts1 : Value} {ods2 ans2 : Option Addr} {sls2 : Array (Option Value)} {ocs2 kVs2 dcs2 pms2 cds2 cts2 : Value} {ods3 ans3 : Option Addr} {sls3 : Array (Option Value)} {ocs3 kVs3 dcs3 pms3 cds3 cts3 : Value} {ods9 ans9 : Option Addr} {sls9 : Array (Option Value)} {ocs9 kVs9 dcs9 pms9 cds9 cts9 : Value} {ods10 ans10 : Option Addr} {sls10 : Array (Option Value)} {ocs10 kVs10 dcs10 pms10 cds10 cts10 : Value} {ods11 ans11 : Option Addr} {sls11 : Array (Option Value)} {ocs11 kVs11 dcs11 pms11 cds11 cts11 : Value} {ods4 ans4 : Option Addr} {sls4 : Array (Option Value)} {ocs4 kVs4 dcs4 pms4 cds4 cts4 : Value} {ods5 ans5 : Option Addr} {sls5 : Array (Option Value)} {ocs5 kVs5 dcs5 pms5 cds5 cts5 : Value} {ods6 ans6 : Option Addr} {sls6 : Array (Option Value)} {ocs6 kVs6 dcs6 pms6 cds6 cts6 : Value} {ods7 ans7 : Option Addr} {sls7 : Array (Option Value)} {ocs7 kVs7 dcs7 pms7 cds7 cts7 : Value} {ods8 ans8 : Option Addr} {sls8 : Array (Option Value)} {ocs8 kVs8 dcs8 pms8 cds8 cts8 : Value} {ods12 ans12 : Option Addr} {sls12 : Array (Option Value)} {ocs12 kVs12 dcs12 pms12 cds12 cts12 : Value} {ods13 ans13 : Option Addr} {sls13 : Array (Option Value)} {ocs13 kVs13 dcs13 pms13 cds13 cts13 : Value} {ods14 ans14 : Option Addr} {sls14 : Array (Option Value)} {ocs14 kVs14 dcs14 pms14 cds14 cts14 : Value} {ods15 ans15 : Option Addr} {sls15 : Array (Option Value)} {ocs15 kVs15 dcs15 pms15 cds15 cts15 : Value} {ods16 ans16 : Option Addr} {sls16 : Array (Option Value)} {ocs16 kVs16 dcs16 pms16 cds16 cts16 : Value} {odl1 anl1 : Option Addr} {sll1 : Array (Option Value)} {ocl1 kVl1 dcl1 pml1 cdl1 ctl1 : Value} {odl2 anl2 : Option Addr} {sll2 : Array (Option Value)} {ocl2 kVl2 dcl2 pml2 cdl2 ctl2 : Value} {odl3 anl3 : Option Addr} {sll3 : Array (Option Value)} {ocl3 kVl3 dcl3 pml3 cdl3 ctl3 : Value}
    (aCS : PySem.W.nsIn K mainGlobals "Seesaw" = some (some (.ref CS)))
    (aCL : PySem.W.nsIn K mainGlobals "Line" = some (some (.ref CL)))
    (a1 : PySem.W.nsIn K mainGlobals "arms_of" = some (some (.ref f1)))
    (l1 : K.lookup f1 = some ⟨oc1, od1, .func (PySem.W.fnOf "arms_of" "arms_of" (defArgs sArms) (defBody sArms) (defScope sArms) .none kV1 dc1 pm1 an1 cd1 ct1), sl1⟩)
    (c1 : PySem.W.codeIn K cd1 "arms_of" = true)
    (k1 : PySem.W.keepIn K (.ref f1) = true)
    (a2 : PySem.W.nsIn K mainGlobals "all_sittings" = some (some (.ref f2)))
    (l2 : K.lookup f2 = some ⟨oc2, od2, .func (PySem.W.fnOf "all_sittings" "all_sittings" (defArgs sAll) (defBody sAll) (defScope sAll) .none kV2 dc2 pm2 an2 cd2 ct2), sl2⟩)
    (c2 : PySem.W.codeIn K cd2 "all_sittings" = true)
    (k2 : PySem.W.keepIn K (.ref f2) = true)
    (a3 : PySem.W.nsIn K mainGlobals "level_sittings" = some (some (.ref f3)))
    (l3 : K.lookup f3 = some ⟨oc3, od3, .func (PySem.W.fnOf "level_sittings" "level_sittings" (defArgs sLev) (defBody sLev) (defScope sLev) .none kV3 dc3 pm3 an3 cd3 ct3), sl3⟩)
    (c3 : PySem.W.codeIn K cd3 "level_sittings" = true)
    (k3 : PySem.W.keepIn K (.ref f3) = true)
    (a10 : PySem.W.nsIn K mainGlobals "how_many_change" = some (some (.ref f10)))
    (l10 : K.lookup f10 = some ⟨oc10, od10, .func (PySem.W.fnOf "how_many_change" "how_many_change" (defArgs sChg) (defBody sChg) (defScope sChg) .none kV10 dc10 pm10 an10 cd10 ct10), sl10⟩)
    (c10 : PySem.W.codeIn K cd10 "how_many_change" = true)
    (k10 : PySem.W.keepIn K (.ref f10) = true)
    (a11 : PySem.W.nsIn K mainGlobals "fewest_changes" = some (some (.ref f11)))
    (l11 : K.lookup f11 = some ⟨oc11, od11, .func (PySem.W.fnOf "fewest_changes" "fewest_changes" (defArgs sFew) (defBody sFew) (defScope sFew) .none kV11 dc11 pm11 an11 cd11 ct11), sl11⟩)
    (c11 : PySem.W.codeIn K cd11 "fewest_changes" = true)
    (k11 : PySem.W.keepIn K (.ref f11) = true)
    (a4 : PySem.W.nsIn K mainGlobals "can_be_built" = some (some (.ref f4)))
    (l4 : K.lookup f4 = some ⟨oc4, od4, .func (PySem.W.fnOf "can_be_built" "can_be_built" (defArgs sBuilt) (defBody sBuilt) (defScope sBuilt) .none kV4 dc4 pm4 an4 cd4 ct4), sl4⟩)
    (c4 : PySem.W.codeIn K cd4 "can_be_built" = true)
    (k4 : PySem.W.keepIn K (.ref f4) = true)
    (a5 : PySem.W.nsIn K mainGlobals "how_it_tips" = some (some (.ref f5)))
    (l5 : K.lookup f5 = some ⟨oc5, od5, .func (PySem.W.fnOf "how_it_tips" "how_it_tips" (defArgs sTips) (defBody sTips) (defScope sTips) .none kV5 dc5 pm5 an5 cd5 ct5), sl5⟩)
    (c5 : PySem.W.codeIn K cd5 "how_it_tips" = true)
    (k5 : PySem.W.keepIn K (.ref f5) = true)
    (a6 : PySem.W.nsIn K mainGlobals "end_of_call" = some (some (.ref f6)))
    (l6 : K.lookup f6 = some ⟨oc6, od6, .func (PySem.W.fnOf "end_of_call" "end_of_call" (defArgs sEnd) (defBody sEnd) (defScope sEnd) .none kV6 dc6 pm6 an6 cd6 ct6), sl6⟩)
    (c6 : PySem.W.codeIn K cd6 "end_of_call" = true)
    (k6 : PySem.W.keepIn K (.ref f6) = true)
    (a7 : PySem.W.nsIn K mainGlobals "split_calls" = some (some (.ref f7)))
    (l7 : K.lookup f7 = some ⟨oc7, od7, .func (PySem.W.fnOf "split_calls" "split_calls" (defArgs sSplit) (defBody sSplit) (defScope sSplit) .none kV7 dc7 pm7 an7 cd7 ct7), sl7⟩)
    (c7 : PySem.W.codeIn K cd7 "split_calls" = true)
    (k7 : PySem.W.keepIn K (.ref f7) = true)
    (a8 : PySem.W.nsIn K mainGlobals "ask" = some (some (.ref f8)))
    (l8 : K.lookup f8 = some ⟨oc8, od8, .func (PySem.W.fnOf "ask" "ask" (defArgs sAsk) (defBody sAsk) (defScope sAsk) .none kV8 dc8 pm8 an8 cd8 ct8), sl8⟩)
    (c8 : PySem.W.codeIn K cd8 "ask" = true)
    (k8 : PySem.W.keepIn K (.ref f8) = true)
    (a9 : PySem.W.nsIn K mainGlobals "answers" = some (some (.ref f9)))
    (l9 : K.lookup f9 = some ⟨oc9, od9, .func (PySem.W.fnOf "answers" "answers" (defArgs sAnswers) (defBody sAnswers) (defScope sAnswers) .none kV9 dc9 pm9 an9 cd9 ct9), sl9⟩)
    (c9 : PySem.W.codeIn K cd9 "answers" = true)
    (k9 : PySem.W.keepIn K (.ref f9) = true)
    (as1 : PySem.W.findIn K (.ref CS) "__init__" = some (some (.ref fs1)))
    (is1 : PySem.W.isFn K (.ref fs1) = true)
    (ls1 : K.lookup fs1 = some ⟨ocs1, ods1, .func (PySem.W.fnOf "__init__" "Seesaw.__init__" (defArgs sInitS) (defBody sInitS) (defScope sInitS) .none kVs1 dcs1 pms1 ans1 cds1 cts1), sls1⟩)
    (cs1 : PySem.W.codeIn K cds1 "Seesaw.__init__" = true)
    (ks1 : PySem.W.keepIn K (.ref fs1) = true)
    (as2 : PySem.W.findIn K (.ref CS) "has_child" = some (some (.ref fs2)))
    (is2 : PySem.W.isFn K (.ref fs2) = true)
    (ls2 : K.lookup fs2 = some ⟨ocs2, ods2, .func (PySem.W.fnOf "has_child" "Seesaw.has_child" (defArgs sHasC) (defBody sHasC) (defScope sHasC) .none kVs2 dcs2 pms2 ans2 cds2 cts2), sls2⟩)
    (cs2 : PySem.W.codeIn K cds2 "Seesaw.has_child" = true)
    (ks2 : PySem.W.keepIn K (.ref fs2) = true)
    (as3 : PySem.W.findIn K (.ref CS) "has_seat" = some (some (.ref fs3)))
    (is3 : PySem.W.isFn K (.ref fs3) = true)
    (ls3 : K.lookup fs3 = some ⟨ocs3, ods3, .func (PySem.W.fnOf "has_seat" "Seesaw.has_seat" (defArgs sHasS) (defBody sHasS) (defScope sHasS) .none kVs3 dcs3 pms3 ans3 cds3 cts3), sls3⟩)
    (cs3 : PySem.W.codeIn K cds3 "Seesaw.has_seat" = true)
    (ks3 : PySem.W.keepIn K (.ref fs3) = true)
    (as9 : PySem.W.findIn K (.ref CS) "seated" = some (some (.ref fs9)))
    (is9 : PySem.W.isFn K (.ref fs9) = true)
    (ls9 : K.lookup fs9 = some ⟨ocs9, ods9, .func (PySem.W.fnOf "seated" "Seesaw.seated" (defArgs sSeated) (defBody sSeated) (defScope sSeated) .none kVs9 dcs9 pms9 ans9 cds9 cts9), sls9⟩)
    (cs9 : PySem.W.codeIn K cds9 "Seesaw.seated" = true)
    (ks9 : PySem.W.keepIn K (.ref fs9) = true)
    (as10 : PySem.W.findIn K (.ref CS) "seats_now" = some (some (.ref fs10)))
    (is10 : PySem.W.isFn K (.ref fs10) = true)
    (ls10 : K.lookup fs10 = some ⟨ocs10, ods10, .func (PySem.W.fnOf "seats_now" "Seesaw.seats_now" (defArgs sNow) (defBody sNow) (defScope sNow) .none kVs10 dcs10 pms10 ans10 cds10 cts10), sls10⟩)
    (cs10 : PySem.W.codeIn K cds10 "Seesaw.seats_now" = true)
    (ks10 : PySem.W.keepIn K (.ref fs10) = true)
    (as11 : PySem.W.findIn K (.ref CS) "ways_to_balance" = some (some (.ref fs11)))
    (is11 : PySem.W.isFn K (.ref fs11) = true)
    (ls11 : K.lookup fs11 = some ⟨ocs11, ods11, .func (PySem.W.fnOf "ways_to_balance" "Seesaw.ways_to_balance" (defArgs sWays) (defBody sWays) (defScope sWays) .none kVs11 dcs11 pms11 ans11 cds11 cts11), sls11⟩)
    (cs11 : PySem.W.codeIn K cds11 "Seesaw.ways_to_balance" = true)
    (ks11 : PySem.W.keepIn K (.ref fs11) = true)
    (as4 : PySem.W.findIn K (.ref CS) "sit" = some (some (.ref fs4)))
    (is4 : PySem.W.isFn K (.ref fs4) = true)
    (ls4 : K.lookup fs4 = some ⟨ocs4, ods4, .func (PySem.W.fnOf "sit" "Seesaw.sit" (defArgs sSit) (defBody sSit) (defScope sSit) .none kVs4 dcs4 pms4 ans4 cds4 cts4), sls4⟩)
    (cs4 : PySem.W.codeIn K cds4 "Seesaw.sit" = true)
    (ks4 : PySem.W.keepIn K (.ref fs4) = true)
    (as5 : PySem.W.findIn K (.ref CS) "up" = some (some (.ref fs5)))
    (is5 : PySem.W.isFn K (.ref fs5) = true)
    (ls5 : K.lookup fs5 = some ⟨ocs5, ods5, .func (PySem.W.fnOf "up" "Seesaw.up" (defArgs sUp) (defBody sUp) (defScope sUp) .none kVs5 dcs5 pms5 ans5 cds5 cts5), sls5⟩)
    (cs5 : PySem.W.codeIn K cds5 "Seesaw.up" = true)
    (ks5 : PySem.W.keepIn K (.ref fs5) = true)
    (as6 : PySem.W.findIn K (.ref CS) "tip" = some (some (.ref fs6)))
    (is6 : PySem.W.isFn K (.ref fs6) = true)
    (ls6 : K.lookup fs6 = some ⟨ocs6, ods6, .func (PySem.W.fnOf "tip" "Seesaw.tip" (defArgs sTip) (defBody sTip) (defScope sTip) .none kVs6 dcs6 pms6 ans6 cds6 cts6), sls6⟩)
    (cs6 : PySem.W.codeIn K cds6 "Seesaw.tip" = true)
    (ks6 : PySem.W.keepIn K (.ref fs6) = true)
    (as7 : PySem.W.findIn K (.ref CS) "level" = some (some (.ref fs7)))
    (is7 : PySem.W.isFn K (.ref fs7) = true)
    (ls7 : K.lookup fs7 = some ⟨ocs7, ods7, .func (PySem.W.fnOf "level" "Seesaw.level" (defArgs sLevel) (defBody sLevel) (defScope sLevel) .none kVs7 dcs7 pms7 ans7 cds7 cts7), sls7⟩)
    (cs7 : PySem.W.codeIn K cds7 "Seesaw.level" = true)
    (ks7 : PySem.W.keepIn K (.ref fs7) = true)
    (as8 : PySem.W.findIn K (.ref CS) "can" = some (some (.ref fs8)))
    (is8 : PySem.W.isFn K (.ref fs8) = true)
    (ls8 : K.lookup fs8 = some ⟨ocs8, ods8, .func (PySem.W.fnOf "can" "Seesaw.can" (defArgs sCan) (defBody sCan) (defScope sCan) .none kVs8 dcs8 pms8 ans8 cds8 cts8), sls8⟩)
    (cs8 : PySem.W.codeIn K cds8 "Seesaw.can" = true)
    (ks8 : PySem.W.keepIn K (.ref fs8) = true)
    (as12 : PySem.W.findIn K (.ref CS) "nearest" = some (some (.ref fs12)))
    (is12 : PySem.W.isFn K (.ref fs12) = true)
    (ls12 : K.lookup fs12 = some ⟨ocs12, ods12, .func (PySem.W.fnOf "nearest" "Seesaw.nearest" (defArgs sNear) (defBody sNear) (defScope sNear) .none kVs12 dcs12 pms12 ans12 cds12 cts12), sls12⟩)
    (cs12 : PySem.W.codeIn K cds12 "Seesaw.nearest" = true)
    (ks12 : PySem.W.keepIn K (.ref fs12) = true)
    (as13 : PySem.W.findIn K (.ref CS) "change" = some (some (.ref fs13)))
    (is13 : PySem.W.isFn K (.ref fs13) = true)
    (ls13 : K.lookup fs13 = some ⟨ocs13, ods13, .func (PySem.W.fnOf "change" "Seesaw.change" (defArgs sChange) (defBody sChange) (defScope sChange) .none kVs13 dcs13 pms13 ans13 cds13 cts13), sls13⟩)
    (cs13 : PySem.W.codeIn K cds13 "Seesaw.change" = true)
    (ks13 : PySem.W.keepIn K (.ref fs13) = true)
    (as14 : PySem.W.findIn K (.ref CS) "do" = some (some (.ref fs14)))
    (is14 : PySem.W.isFn K (.ref fs14) = true)
    (ls14 : K.lookup fs14 = some ⟨ocs14, ods14, .func (PySem.W.fnOf "do" "Seesaw.do" (defArgs sDo) (defBody sDo) (defScope sDo) .none kVs14 dcs14 pms14 ans14 cds14 cts14), sls14⟩)
    (cs14 : PySem.W.codeIn K cds14 "Seesaw.do" = true)
    (ks14 : PySem.W.keepIn K (.ref fs14) = true)
    (as15 : PySem.W.findIn K (.ref CS) "only" = some (some (.ref fs15)))
    (is15 : PySem.W.isFn K (.ref fs15) = true)
    (ls15 : K.lookup fs15 = some ⟨ocs15, ods15, .func (PySem.W.fnOf "only" "Seesaw.only" (defArgs sOnly) (defBody sOnly) (defScope sOnly) .none kVs15 dcs15 pms15 ans15 cds15 cts15), sls15⟩)
    (cs15 : PySem.W.codeIn K cds15 "Seesaw.only" = true)
    (ks15 : PySem.W.keepIn K (.ref fs15) = true)
    (as16 : PySem.W.findIn K (.ref CS) "look" = some (some (.ref fs16)))
    (is16 : PySem.W.isFn K (.ref fs16) = true)
    (ls16 : K.lookup fs16 = some ⟨ocs16, ods16, .func (PySem.W.fnOf "look" "Seesaw.look" (defArgs sLook) (defBody sLook) (defScope sLook) .none kVs16 dcs16 pms16 ans16 cds16 cts16), sls16⟩)
    (cs16 : PySem.W.codeIn K cds16 "Seesaw.look" = true)
    (ks16 : PySem.W.keepIn K (.ref fs16) = true)
    (al1 : PySem.W.findIn K (.ref CL) "__init__" = some (some (.ref fl1)))
    (il1 : PySem.W.isFn K (.ref fl1) = true)
    (ll1 : K.lookup fl1 = some ⟨ocl1, odl1, .func (PySem.W.fnOf "__init__" "Line.__init__" (defArgs sInitL) (defBody sInitL) (defScope sInitL) .none kVl1 dcl1 pml1 anl1 cdl1 ctl1), sll1⟩)
    (cl1 : PySem.W.codeIn K cdl1 "Line.__init__" = true)
    (kl1 : PySem.W.keepIn K (.ref fl1) = true)
    (al2 : PySem.W.findIn K (.ref CL) "begin" = some (some (.ref fl2)))
    (il2 : PySem.W.isFn K (.ref fl2) = true)
    (ll2 : K.lookup fl2 = some ⟨ocl2, odl2, .func (PySem.W.fnOf "begin" "Line.begin" (defArgs sBegin) (defBody sBegin) (defScope sBegin) .none kVl2 dcl2 pml2 anl2 cdl2 ctl2), sll2⟩)
    (cl2 : PySem.W.codeIn K cdl2 "Line.begin" = true)
    (kl2 : PySem.W.keepIn K (.ref fl2) = true)
    (al3 : PySem.W.findIn K (.ref CL) "answer" = some (some (.ref fl3)))
    (il3 : PySem.W.isFn K (.ref fl3) = true)
    (ll3 : K.lookup fl3 = some ⟨ocl3, odl3, .func (PySem.W.fnOf "answer" "Line.answer" (defArgs sAnswer) (defBody sAnswer) (defScope sAnswer) .none kVl3 dcl3 pml3 anl3 cdl3 ctl3), sll3⟩)
    (cl3 : PySem.W.codeIn K cdl3 "Line.answer" = true)
    (kl3 : PySem.W.keepIn K (.ref fl3) = true)
    (pgS : PySem.W.plainGet K CS Str.empty = true)
    (hdS : PySem.W.hasDictIn K CS = true)
    (poS : PySem.W.plainOver K CS = true)
    (saS : PySem.W.findIn K (.ref CS) "__setattr__" = some (some (.builtin "object.__setattr__")))
    (mkS : PySem.W.makesIn K CS = true)
    (kcS : PySem.W.keepIn K (.ref CS) = true)
    (nS_side : PySem.W.findIn K (.ref CS) "side" = some none)
    (nS_arms : PySem.W.findIn K (.ref CS) "arms" = some none)
    (nS_weights : PySem.W.findIn K (.ref CS) "weights" = some none)
    (nS_places : PySem.W.findIn K (.ref CS) "places" = some none)
    (pgL : PySem.W.plainGet K CL Str.empty = true)
    (hdL : PySem.W.hasDictIn K CL = true)
    (poL : PySem.W.plainOver K CL = true)
    (saL : PySem.W.findIn K (.ref CL) "__setattr__" = some (some (.builtin "object.__setattr__")))
    (mkL : PySem.W.makesIn K CL = true)
    (kcL : PySem.W.keepIn K (.ref CL) = true)
    (nL_seesaw : PySem.W.findIn K (.ref CL) "seesaw" = some none)
    (v0 : PySem.W.nsIn K mainGlobals "MOST_SEATS_ON_A_SIDE" = some (some (.int (4) t0)))
    (v1 : PySem.W.nsIn K mainGlobals "MOST_CHILDREN" = some (some (.int (5) t1)))
    (v2 : PySem.W.nsIn K mainGlobals "MOST_WEIGHT" = some (some (.int (60) t2)))
    (v3 : PySem.W.nsIn K mainGlobals "NO_SUCH_SEAT" = some (some (.int (-1) t3)))
    (v4 : PySem.W.nsIn K mainGlobals "NO_SUCH_CHILD" = some (some (.int (-2) t4)))
    (v5 : PySem.W.nsIn K mainGlobals "SITS_ALREADY" = some (some (.int (-3) t5)))
    (v6 : PySem.W.nsIn K mainGlobals "DOES_NOT_SIT" = some (some (.int (-3) t6)))
    (v7 : PySem.W.nsIn K mainGlobals "SEAT_IS_TAKEN" = some (some (.int (-4) t7)))
    (v8 : PySem.W.nsIn K mainGlobals "CANNOT_BALANCE" = some (some (.int (-6) t8)))
    (v9 : PySem.W.nsIn K mainGlobals "NO_SUCH_CHILDREN" = some (some (.int (-1) t9)))
    (v10 : PySem.W.nsIn K mainGlobals "BALANCES" = some (some (.int (0) t10)))
    (v11 : PySem.W.nsIn K mainGlobals "TO_THE_LEFT" = some (some (.int (1) t11)))
    (v12 : PySem.W.nsIn K mainGlobals "TO_THE_RIGHT" = some (some (.int (2) t12)))
    (v13 : PySem.W.nsIn K mainGlobals "BEGIN" = some (some (.int (0) t13)))
    (v14 : PySem.W.nsIn K mainGlobals "SIT" = some (some (.int (1) t14)))
    (v15 : PySem.W.nsIn K mainGlobals "UP" = some (some (.int (2) t15)))
    (v16 : PySem.W.nsIn K mainGlobals "TIP" = some (some (.int (3) t16)))
    (v17 : PySem.W.nsIn K mainGlobals "LEVEL" = some (some (.int (4) t17)))
    (v18 : PySem.W.nsIn K mainGlobals "CAN" = some (some (.int (5) t18)))
    (v19 : PySem.W.nsIn K mainGlobals "NEAREST" = some (some (.int (6) t19)))
    (v20 : PySem.W.nsIn K mainGlobals "CHANGE" = some (some (.int (7) t20)))
    (v21 : PySem.W.nsIn K mainGlobals "DO" = some (some (.int (8) t21)))
    (v22 : PySem.W.nsIn K mainGlobals "ONLY" = some (some (.int (9) t22)))
    (v23 : PySem.W.nsIn K mainGlobals "NO_SUCH_BOARD" = some (some (.int (-1) t23)))
    (v24 : PySem.W.nsIn K mainGlobals "NO_SEESAW" = some (some (.int (-9) t24)))
    (o_len : PySem.W.nsIn K mainGlobals "len" = some none)
    (o_list : PySem.W.nsIn K mainGlobals "list" = some none)
    (o_range : PySem.W.nsIn K mainGlobals "range" = some none)
    (o_enumerate : PySem.W.nsIn K mainGlobals "enumerate" = some none)
    (o_zip : PySem.W.nsIn K mainGlobals "zip" = some none)
    (o_min : PySem.W.nsIn K mainGlobals "min" = some none)
    (o_max : PySem.W.nsIn K mainGlobals "max" = some none)
    (o_abs : PySem.W.nsIn K mainGlobals "abs" = some none)
    (o_all : PySem.W.nsIn K mainGlobals "all" = some none)
    (o_set : PySem.W.nsIn K mainGlobals "set" = some none)
    (aT : PySem.W.nsIn K mainGlobals "NUMBERS" = some (some (.ref aN)))
    (lT : K.lookup aN = some ⟨.type "tuple", dN, .seq #[.int 1 u0, .int 2 u1, .int 1 u2, .int 0 u3, .int 0 u4, .int 2 u5, .int 0 u6, .int 0 u7, .int 0 u8, .int 0 u9, .int 0 u10] nN, slN⟩) :
    ∃ fd : FuncData, (∀ (s : Shared) (us : List Value), us.length = (["calls"] : List Str).length → BindsTo s fd ⟨us, []⟩ ((["calls"] : List Str).zip us)) ∧ ∀ base : Heap, K.In base → base.Ns mainGlobals mg → FnOk P w K mg base CX0 8 fa fd ["calls"] (spAns K) := by
  have e := hfa.symm.trans (PySem.W.mg_of X G a9)
  cases e
  have F1 := fun_mk (st := sArms) l1 c1 k1
  have b1 := F1.binds (ps := ["side"]) fun _ _ _ _ _ _ us hl => match us, hl with | [_], _ => rfl
  have F2 := fun_mk (st := sAll) l2 c2 k2
  have b2 := F2.binds (ps := ["arms", "weights"]) fun _ _ _ _ _ _ us hl => match us, hl with | [_, _], _ => rfl
  have F3 := fun_mk (st := sLev) l3 c3 k3
  have b3 := F3.binds (ps := ["arms", "weights"]) fun _ _ _ _ _ _ us hl => match us, hl with | [_, _], _ => rfl
  have F10 := fun_mk (st := sChg) l10 c10 k10
  have b10 := F10.binds (ps := ["now", "then"]) fun _ _ _ _ _ _ us hl => match us, hl with | [_, _], _ => rfl
  have F11 := fun_mk (st := sFew) l11 c11 k11
  have b11 := F11.binds (ps := ["now", "ways"]) fun _ _ _ _ _ _ us hl => match us, hl with | [_, _], _ => rfl
  have F4 := fun_mk (st := sBuilt) l4 c4 k4
  have b4 := F4.binds (ps := ["side", "weights"]) fun _ _ _ _ _ _ us hl => match us, hl with | [_, _], _ => rfl
  have F5 := fun_mk (st := sTips) l5 c5 k5
  have b5 := F5.binds (ps := ["tilt"]) fun _ _ _ _ _ _ us hl => match us, hl with | [_], _ => rfl
  have F6 := fun_mk (st := sEnd) l6 c6 k6
  have b6 := F6.binds (ps := ["calls", "start"]) fun _ _ _ _ _ _ us hl => match us, hl with | [_, _], _ => rfl
  have F7 := fun_mk (st := sSplit) l7 c7 k7
  have b7 := F7.binds (ps := ["calls"]) fun _ _ _ _ _ _ us hl => match us, hl with | [_], _ => rfl
  have F8 := fun_mk (st := sAsk) l8 c8 k8
  have b8 := F8.binds (ps := ["seesaw", "call"]) fun _ _ _ _ _ _ us hl => match us, hl with | [_, _], _ => rfl
  have F9 := fun_mk (st := sAnswers) l9 c9 k9
  have b9 := F9.binds (ps := ["calls"]) fun _ _ _ _ _ _ us hl => match us, hl with | [_], _ => rfl
  have Fs1 := fun_mk (st := sInitS) ls1 cs1 ks1
  have bs1 := Fs1.binds (ps := ["self", "side", "weights"]) fun _ _ _ _ _ _ us hl => match us, hl with | [_, _, _], _ => rfl
  have Fs2 := fun_mk (st := sHasC) ls2 cs2 ks2
  have bs2 := Fs2.binds (ps := ["self", "child"]) fun _ _ _ _ _ _ us hl => match us, hl with | [_, _], _ => rfl
  have Fs3 := fun_mk (st := sHasS) ls3 cs3 ks3
  have bs3 := Fs3.binds (ps := ["self", "seat"]) fun _ _ _ _ _ _ us hl => match us, hl with | [_, _], _ => rfl
  have Fs9 := fun_mk (st := sSeated) ls9 cs9 ks9
  have bs9 := Fs9.binds (ps := ["self"]) fun _ _ _ _ _ _ us hl => match us, hl with | [_], _ => rfl
  have Fs10 := fun_mk (st := sNow) ls10 cs10 ks10
  have bs10 := Fs10.binds (ps := ["self"]) fun _ _ _ _ _ _ us hl => match us, hl with | [_], _ => rfl
  have Fs11 := fun_mk (st := sWays) ls11 cs11 ks11
  have bs11 := Fs11.binds (ps := ["self", "children"]) fun _ _ _ _ _ _ us hl => match us, hl with | [_, _], _ => rfl
  have Fs4 := fun_mk (st := sSit) ls4 cs4 ks4
  have bs4 := Fs4.binds (ps := ["self", "child", "seat"]) fun _ _ _ _ _ _ us hl => match us, hl with | [_, _, _], _ => rfl
  have Fs5 := fun_mk (st := sUp) ls5 cs5 ks5
  have bs5 := Fs5.binds (ps := ["self", "child"]) fun _ _ _ _ _ _ us hl => match us, hl with | [_, _], _ => rfl
  have Fs6 := fun_mk (st := sTip) ls6 cs6 ks6
  have bs6 := Fs6.binds (ps := ["self"]) fun _ _ _ _ _ _ us hl => match us, hl with | [_], _ => rfl
  have Fs7 := fun_mk (st := sLevel) ls7 cs7 ks7
  have bs7 := Fs7.binds (ps := ["self"]) fun _ _ _ _ _ _ us hl => match us, hl with | [_], _ => rfl
  have Fs8 := fun_mk (st := sCan) ls8 cs8 ks8
  have bs8 := Fs8.binds (ps := ["self", "child", "seat"]) fun _ _ _ _ _ _ us hl => match us, hl with | [_, _, _], _ => rfl
  have Fs12 := fun_mk (st := sNear) ls12 cs12 ks12
  have bs12 := Fs12.binds (ps := ["self"]) fun _ _ _ _ _ _ us hl => match us, hl with | [_], _ => rfl
  have Fs13 := fun_mk (st := sChange) ls13 cs13 ks13
  have bs13 := Fs13.binds (ps := ["self"]) fun _ _ _ _ _ _ us hl => match us, hl with | [_], _ => rfl
  have Fs14 := fun_mk (st := sDo) ls14 cs14 ks14
  have bs14 := Fs14.binds (ps := ["self"]) fun _ _ _ _ _ _ us hl => match us, hl with | [_], _ => rfl
  have Fs15 := fun_mk (st := sOnly) ls15 cs15 ks15
  have bs15 := Fs15.binds (ps := ["self", "children"]) fun _ _ _ _ _ _ us hl => match us, hl with | [_, _], _ => rfl
  have Fs16 := fun_mk (st := sLook) ls16 cs16 ks16
  have bs16 := Fs16.binds (ps := ["self"]) fun _ _ _ _ _ _ us hl => match us, hl with | [_], _ => rfl
  have Fl1 := fun_mk (st := sInitL) ll1 cl1 kl1
  have bl1 := Fl1.binds (ps := ["self"]) fun _ _ _ _ _ _ us hl => match us, hl with | [_], _ => rfl
  have Fl2 := fun_mk (st := sBegin) ll2 cl2 kl2
  have bl2 := Fl2.binds (ps := ["self", "side", "weights"]) fun _ _ _ _ _ _ us hl => match us, hl with | [_, _, _], _ => rfl
  have Fl3 := fun_mk (st := sAnswer) ll3 cl3 kl3
  have bl3 := Fl3.binds (ps := ["self", "call"]) fun _ _ _ _ _ _ us hl => match us, hl with | [_, _], _ => rfl
  have O : Own mg := ⟨PySem.W.mg_none_of X G o_len, PySem.W.mg_none_of X G o_list, PySem.W.mg_none_of X G o_range, PySem.W.mg_none_of X G o_enumerate, PySem.W.mg_none_of X G o_zip, PySem.W.mg_none_of X G o_min, PySem.W.mg_none_of X G o_max, PySem.W.mg_none_of X G o_abs, PySem.W.mg_none_of X G o_all, PySem.W.mg_none_of X G o_set⟩
  have N : Nums mg := ⟨⟨_, PySem.W.mg_of X G v0⟩, ⟨_, PySem.W.mg_of X G v1⟩, ⟨_, PySem.W.mg_of X G v2⟩, ⟨_, PySem.W.mg_of X G v3⟩, ⟨_, PySem.W.mg_of X G v4⟩, ⟨_, PySem.W.mg_of X G v5⟩, ⟨_, PySem.W.mg_of X G v6⟩, ⟨_, PySem.W.mg_of X G v7⟩, ⟨_, PySem.W.mg_of X G v8⟩, ⟨_, PySem.W.mg_of X G v9⟩, ⟨_, PySem.W.mg_of X G v10⟩, ⟨_, PySem.W.mg_of X G v11⟩, ⟨_, PySem.W.mg_of X G v12⟩, ⟨_, PySem.W.mg_of X G v13⟩, ⟨_, PySem.W.mg_of X G v14⟩, ⟨_, PySem.W.mg_of X G v15⟩, ⟨_, PySem.W.mg_of X G v16⟩, ⟨_, PySem.W.mg_of X G v17⟩, ⟨_, PySem.W.mg_of X G v18⟩, ⟨_, PySem.W.mg_of X G v19⟩, ⟨_, PySem.W.mg_of X G v20⟩, ⟨_, PySem.W.mg_of X G v21⟩, ⟨_, PySem.W.mg_of X G v22⟩, ⟨_, PySem.W.mg_of X G v23⟩, ⟨_, PySem.W.mg_of X G v24⟩⟩
  have B : Tbl K mg := ⟨aN, PySem.W.mg_of X G aT, fun H => .inr ⟨_, _, _, lT, rfl, rfl, by show 11 ≤ sizeLine; decide, .cons ⟨_, rfl⟩ (.cons ⟨_, rfl⟩ (.cons ⟨_, rfl⟩ (.cons ⟨_, rfl⟩ (.cons ⟨_, rfl⟩ (.cons ⟨_, rfl⟩ (.cons ⟨_, rfl⟩ (.cons ⟨_, rfl⟩ (.cons ⟨_, rfl⟩ (.cons ⟨_, rfl⟩ (.cons ⟨_, rfl⟩ (.nil)))))))))))⟩⟩
  have TS : SawTxt K CS := ⟨⟨pgS, hdS, poS, saS⟩, nS_side, nS_arms, nS_weights, nS_places⟩
  have TL : LineTxt K CL := ⟨⟨pgL, hdL, poL, saL⟩, nL_seesaw⟩
  refine ⟨PySem.W.fnOf "answers" "answers" (defArgs sAnswers) (defBody sAnswers) (defScope sAnswers) .none kV9 dc9 pm9 an9 cd9 ct9, fun s us hu => match us, hu with | [_], _ => .of_eq rfl, fun base _ _ => ?_⟩
  have cal : ∀ {x : Str} {f : Addr} {fd : FuncData} {ps : List Str} {k : Nat} {sp : Sp}, FnOk P w K mg base CX0 k f fd ps sp → mg x = some (.ref f) → PySem.W.keepIn K (.ref f) = true → Binds K fd ps [] → Cal P w K mg base k x sp [] :=
    fun F m k b => ⟨_, _, _, _, F, m, k, b, .nil⟩
  have met : ∀ {C : Addr} {x : Str} {f : Addr} {fd : FuncData} {ps : List Str} {k : Nat} {sp : Sp}, FnOk P w K mg base CX0 k f fd ps sp → Cls K C → Meth K C x f → Binds K fd ps [] → Met P w K mg base k C x sp [] :=
    fun F c m b => ⟨_, _, _, _, c, m, F, b, .nil⟩
  have q1 := cal (ok_arms F1 O) (PySem.W.mg_of X G a1) k1 b1
  have q2 := cal (ok_all F2 O) (PySem.W.mg_of X G a2) k2 b2
  have q3 := cal (ok_lev F3 q2) (PySem.W.mg_of X G a3) k3 b3
  have q10 := cal (ok_chg F10 O) (PySem.W.mg_of X G a10) k10 b10
  have q11 := cal (ok_few F11 q10) (PySem.W.mg_of X G a11) k11 b11
  have q4 := cal (ok_built F4 O N) (PySem.W.mg_of X G a4) k4 b4
  have q5 := cal (ok_tips F5 N) (PySem.W.mg_of X G a5) k5 b5
  have q6 := cal (ok_end F6 N B) (PySem.W.mg_of X G a6) k6 b6
  have q7 := cal (ok_split F7 O q6) (PySem.W.mg_of X G a7) k7 b7
  have r1 : Mak P w K mg base 2 "Seesaw" CS (spInitS K CS) [] := ⟨_, _, _, _, ⟨mkS, as1, is1, kcS⟩, ok_initS Fs1 TS O q1, PySem.W.mg_of X G aCS, bs1, .nil⟩
  have r2 := met (ok_hasC Fs2 TS O) TS.cl ⟨as2, is2, ks2⟩ bs2
  have r3 := met (ok_hasS Fs3 TS O) TS.cl ⟨as3, is3, ks3⟩ bs3
  have r6 := met (ok_tip Fs6 TS O q5) TS.cl ⟨as6, is6, ks6⟩ bs6
  have r4 := met (ok_sit Fs4 TS O N r2 r3 r6) TS.cl ⟨as4, is4, ks4⟩ bs4
  have r5 := met (ok_up Fs5 TS O N r2) TS.cl ⟨as5, is5, ks5⟩ bs5
  have r7 := met (ok_level Fs7 TS O q3) TS.cl ⟨as7, is7, ks7⟩ bs7
  have r8 := met (ok_can Fs8 TS O N r2 r3 q3) TS.cl ⟨as8, is8, ks8⟩ bs8
  have r9 := met (ok_seated Fs9 TS O) TS.cl ⟨as9, is9, ks9⟩ bs9
  have r10 := met (ok_now Fs10 TS) TS.cl ⟨as10, is10, ks10⟩ bs10
  have r11 := met (ok_ways Fs11 TS q3) TS.cl ⟨as11, is11, ks11⟩ bs11
  have r12 := met (ok_near Fs12 TS O q2) TS.cl ⟨as12, is12, ks12⟩ bs12
  have r13 := met (ok_change Fs13 TS O N r10 q11 r11 r9 q10) TS.cl ⟨as13, is13, ks13⟩ bs13
  have r14 := met (ok_do Fs14 TS O N r13 r9) TS.cl ⟨as14, is14, ks14⟩ bs14
  have r15 := met (ok_only Fs15 TS O N r2 r11) TS.cl ⟨as15, is15, ks15⟩ bs15
  have r16 := met (ok_look Fs16 TS O r9) TS.cl ⟨as16, is16, ks16⟩ bs16
  have q8 := cal (ok_ask F8 TS N r4 r5 r6 r7 r8 r12 r13 r14 r15 r16) (PySem.W.mg_of X G a8) k8 b8
  have m1 : Mak P w K mg base 1 "Line" CL (spInitL CL) [] := ⟨_, _, _, _, ⟨mkL, al1, il1, kcL⟩, ok_initL Fl1 TL, PySem.W.mg_of X G aCL, bl1, .nil⟩
  have m2 := met (ok_begin Fl2 TL N q4 r1) TL.cl ⟨al2, il2, kl2⟩ bl2
  have m3 := met (ok_answer (Nat.le_refl _) Fl3 TL N m2 q8) TL.cl ⟨al3, il3, kl3⟩ bl3
  exact ok_ans F9 O m1 q7 m3

end Tb
open PySem PySem.W PyProof.Rows
set_option maxRecDepth 100000 in
set_option maxHeartbeats 0 in
theorem PySem.Challenge.cw_tipboard_s01_answers_holds : PySem.Challenge.rw_tipboard_s01_answers.Holds := by
  w_on; k_headS; (case hw => exact ⟨[.list [.int 3]], by decide +kernel, by decide +kernel⟩)
  k_fillS
  refine L2.walk_specK (r := PySem.Challenge.rw_tipboard_s01_answers) (k := 8) (CX := L2.CX0) (ps := ["calls"]) (sp := Tb.spAns) (by decide +kernel) rfl rfl ⟨rfl, by decide, by decide⟩ (fun w h Y => PySem.W.kIn_of Y) ?F ?S (fun _ _ _ _ z => z)
  case F =>
    intro w mg fa h Y KX G hmg
    refine' Tb.all_mk KX G hmg ?aCS ?aCL ?a1 ?l1 ?c1 ?k1 ?a2 ?l2 ?c2 ?k2 ?a3 ?l3 ?c3 ?k3 ?a10 ?l10 ?c10 ?k10 ?a11 ?l11 ?c11 ?k11 ?a4 ?l4 ?c4 ?k4 ?a5 ?l5 ?c5 ?k5 ?a6 ?l6 ?c6 ?k6 ?a7 ?l7 ?c7 ?k7 ?a8 ?l8 ?c8 ?k8 ?a9 ?l9 ?c9 ?k9 ?as1 ?is1 ?ls1 ?cs1 ?ks1 ?as2 ?is2 ?ls2 ?cs2 ?ks2 ?as3 ?is3 ?ls3 ?cs3 ?ks3 ?as9 ?is9 ?ls9 ?cs9 ?ks9 ?as10 ?is10 ?ls10 ?cs10 ?ks10 ?as11 ?is11 ?ls11 ?cs11 ?ks11 ?as4 ?is4 ?ls4 ?cs4 ?ks4 ?as5 ?is5 ?ls5 ?cs5 ?ks5 ?as6 ?is6 ?ls6 ?cs6 ?ks6 ?as7 ?is7 ?ls7 ?cs7 ?ks7 ?as8 ?is8 ?ls8 ?cs8 ?ks8 ?as12 ?is12 ?ls12 ?cs12 ?ks12 ?as13 ?is13 ?ls13 ?cs13 ?ks13 ?as14 ?is14 ?ls14 ?cs14 ?ks14 ?as15 ?is15 ?ls15 ?cs15 ?ks15 ?as16 ?is16 ?ls16 ?cs16 ?ks16 ?al1 ?il1 ?ll1 ?cl1 ?kl1 ?al2 ?il2 ?ll2 ?cl2 ?kl2 ?al3 ?il3 ?ll3 ?cl3 ?kl3 ?pgS ?hdS ?poS ?saS ?mkS ?kcS ?nS_side ?nS_arms ?nS_weights ?nS_places ?pgL ?hdL ?poL ?saL ?mkL ?kcL ?nL_seesaw ?v0 ?v1 ?v2 ?v3 ?v4 ?v5 ?v6 ?v7 ?v8 ?v9 ?v10 ?v11 ?v12 ?v13 ?v14 ?v15 ?v16 ?v17 ?v18 ?v19 ?v20 ?v21 ?v22 ?v23 ?v24 ?o_len ?o_list ?o_range ?o_enumerate ?o_zip ?o_min ?o_max ?o_abs ?o_all ?o_set ?aT ?lT
    (case aCS => k_is)
    (case aCL => k_is)
    (case a1 => k_is)
    (case l1 => k_is)
    (case c1 => k_is)
    (case k1 => k_is)
    (case a2 => k_is)
    (case l2 => k_is)
    (case c2 => k_is)
    (case k2 => k_is)
    (case a3 => k_is)
    (case l3 => k_is)
    (case c3 => k_is)
    (case k3 => k_is)
    (case a10 => k_is)
    (case l10 => k_is)
    (case c10 => k_is)
    (case k10 => k_is)
    (case a11 => k_is)
    (case l11 => k_is)
    (case c11 => k_is)
    (case k11 => k_is)
    (case a4 => k_is)
    (case l4 => k_is)
    (case c4 => k_is)
    (case k4 => k_is)
    (case a5 => k_is)
    (case l5 => k_is)
    (case c5 => k_is)
    (case k5 => k_is)
    (case a6 => k_is)
    (case l6 => k_is)
    (case c6 => k_is)
    (case k6 => k_is)
    (case a7 => k_is)
    (case l7 => k_is)
    (case c7 => k_is)
    (case k7 => k_is)
    (case a8 => k_is)
    (case l8 => k_is)
    (case c8 => k_is)
    (case k8 => k_is)
    (case a9 => k_is)
    (case l9 => k_is)
    (case c9 => k_is)
    (case k9 => k_is)
    (case as1 => k_is)
    (case is1 => k_is)
    (case ls1 => k_is)
    (case cs1 => k_is)
    (case ks1 => k_is)
    (case as2 => k_is)
    (case is2 => k_is)
    (case ls2 => k_is)
    (case cs2 => k_is)
    (case ks2 => k_is)
    (case as3 => k_is)
    (case is3 => k_is)
    (case ls3 => k_is)
    (case cs3 => k_is)
    (case ks3 => k_is)
    (case as9 => k_is)
    (case is9 => k_is)
    (case ls9 => k_is)
    (case cs9 => k_is)
    (case ks9 => k_is)
    (case as10 => k_is)
    (case is10 => k_is)
    (case ls10 => k_is)
    (case cs10 => k_is)
    (case ks10 => k_is)
    (case as11 => k_is)
    (case is11 => k_is)
    (case ls11 => k_is)
    (case cs11 => k_is)
    (case ks11 => k_is)
    (case as4 => k_is)
    (case is4 => k_is)
    (case ls4 => k_is)
    (case cs4 => k_is)
    (case ks4 => k_is)
    (case as5 => k_is)
    (case is5 => k_is)
    (case ls5 => k_is)
    (case cs5 => k_is)
    (case ks5 => k_is)
    (case as6 => k_is)
    (case is6 => k_is)
    (case ls6 => k_is)
    (case cs6 => k_is)
    (case ks6 => k_is)
    (case as7 => k_is)
    (case is7 => k_is)
    (case ls7 => k_is)
    (case cs7 => k_is)
    (case ks7 => k_is)
    (case as8 => k_is)
    (case is8 => k_is)
    (case ls8 => k_is)
    (case cs8 => k_is)
    (case ks8 => k_is)
    (case as12 => k_is)
    (case is12 => k_is)
    (case ls12 => k_is)
    (case cs12 => k_is)
    (case ks12 => k_is)
    (case as13 => k_is)
    (case is13 => k_is)
    (case ls13 => k_is)
    (case cs13 => k_is)
    (case ks13 => k_is)
    (case as14 => k_is)
    (case is14 => k_is)
    (case ls14 => k_is)
    (case cs14 => k_is)
    (case ks14 => k_is)
    (case as15 => k_is)
    (case is15 => k_is)
    (case ls15 => k_is)
    (case cs15 => k_is)
    (case ks15 => k_is)
    (case as16 => k_is)
    (case is16 => k_is)
    (case ls16 => k_is)
    (case cs16 => k_is)
    (case ks16 => k_is)
    (case al1 => k_is)
    (case il1 => k_is)
    (case ll1 => k_is)
    (case cl1 => k_is)
    (case kl1 => k_is)
    (case al2 => k_is)
    (case il2 => k_is)
    (case ll2 => k_is)
    (case cl2 => k_is)
    (case kl2 => k_is)
    (case al3 => k_is)
    (case il3 => k_is)
    (case ll3 => k_is)
    (case cl3 => k_is)
    (case kl3 => k_is)
    (case pgS => k_is)
    (case hdS => k_is)
    (case poS => k_is)
    (case saS => k_is)
    (case mkS => k_is)
    (case kcS => k_is)
    (case nS_side => k_is)
    (case nS_arms => k_is)
    (case nS_weights => k_is)
    (case nS_places => k_is)
    (case pgL => k_is)
    (case hdL => k_is)
    (case poL => k_is)
    (case saL => k_is)
    (case mkL => k_is)
    (case kcL => k_is)
    (case nL_seesaw => k_is)
    (case v0 => k_is)
    (case v1 => k_is)
    (case v2 => k_is)
    (case v3 => k_is)
    (case v4 => k_is)
    (case v5 => k_is)
    (case v6 => k_is)
    (case v7 => k_is)
    (case v8 => k_is)
    (case v9 => k_is)
    (case v10 => k_is)
    (case v11 => k_is)
    (case v12 => k_is)
    (case v13 => k_is)
    (case v14 => k_is)
    (case v15 => k_is)
    (case v16 => k_is)
    (case v17 => k_is)
    (case v18 => k_is)
    (case v19 => k_is)
    (case v20 => k_is)
    (case v21 => k_is)
    (case v22 => k_is)
    (case v23 => k_is)
    (case v24 => k_is)
    (case o_len => k_is)
    (case o_list => k_is)
    (case o_range => k_is)
    (case o_enumerate => k_is)
    (case o_zip => k_is)
    (case o_min => k_is)
    (case o_max => k_is)
    (case o_abs => k_is)
    (case o_all => k_is)
    (case o_set => k_is)
    (case aT => k_is)
    (case lT => k_is)
  case S =>
    intro K H xs a hO hwi hask hx
    cases hx with
    | cons h1 h2 =>
      cases h2
      cases h1 with
      | lst hs ha =>
        have e := L2.ints_dw a.1 _ ha
        subst e
        exact ⟨_, a.1, rfl, hs, hask, fun H' p hp => .lst (L2.SqL.of hp) (L2.dw_ints _)⟩

